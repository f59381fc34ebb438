import PyProof.Rows.All
import OpenK.KWalk
import Wide.All
import OpenK.AllK
import Wide.FinOn
import PyProof.EqAt
import PyProof.EqKinds
import PyProof.TupleCall
import KE.BitLaws
import Open.SpecLaws
import KE.OsHead
import KE.OsGo
import KE.SpHead
import KE.OsShapes
import PyWrxthh
import PySem.Str
import OpenK.KMake
import OpenK.KCls
import PyProof.ExcBaseAll.Exception
import PyProof.RulesAs
import PyProof.ExcArgsOwn
import PyProof.InstStoreFacts
import KE.KTryMore
import KE.RegKTryMore
import KE.RegKIsAll
import PySem.Challenge.RW_twigtext_s08_same
set_option Elab.async false
set_option linter.all false
set_option maxRecDepth 100000
set_option maxHeartbeats 0
set_option compiler.extract_closed false
set_option bootstrap.genMatcherCode false
set_option genSizeOf false
noncomputable section
open PySem.W (Frag)
theorem ln0{C:List PySem.Value->Prop}(h:C []):∀us:List PySem.Value,us.length=0->C us
 |[],_=>h
theorem lnS{n:Nat}{C:List PySem.Value->Prop}(h:∀a,∀us:List PySem.Value,us.length=n->C (a::us)):∀us:List PySem.Value,us.length=n+1->C us
 |a::l,e=>h a l (Nat.succ.inj e)
local macro_rules
 |`(↑0)=>`(by decide)
 |`(↑1)=>`(by decide +kernel)
 |`(↑2)=>`(by omega)
 |`(↑3)=>`(⟨rfl,rfl,rfl,↑1,rfl,↑1,↑1⟩)
 |`(↑4)=>`(fun _ _ _ _ _ _=>lnS fun _=>ln0 rfl)
 |`(↑5)=>`(fun _ _ _ _ _ _=>lnS fun _=>lnS fun _=>ln0 rfl)
 |`(↑6)=>`(fun _ _ _ _ _ _=>lnS fun _=>lnS fun _=>lnS fun _=>ln0 rfl)
 |`(↑7)=>`(fun _ _ _ _ _ _=>lnS fun _=>lnS fun _=>lnS fun _=>lnS fun _=>lnS fun _=>ln0 rfl)
namespace HK
open PySem PySem.W
def lv:Option Obj->Option Obj
 |some ⟨_,_,.freed,_⟩=>none
 |o=>o
def pk:List Obj->Nat->List Nat->List (Option Obj)
 |[],_,as=>as.map λ_=>none
 |o::l,i,as=>match as with
  |[]=>[]
  |a::as'=>bif Nat.beq a i then lv (some o)::pk l (Nat.succ i) as' else pk l (Nat.succ i) as
def up:Nat->List Nat->Bool
 |_,[]=>true
 |i,a::as=>Nat.ble i a&&up (Nat.succ a) as
theorem up_le:∀{i j:Nat}{as:List Nat},up i as=true->j<=i->up j as=true
 |_,_,[],_,_=>rfl
 |i,j,a::as,h,hj=>by
  have h:(Nat.ble i a&&up (Nat.succ a) as)=true:=h;rw[Bool.and_eq_true] at h;show(Nat.ble j a&&up (Nat.succ a) as)=true;rw[h.2,Bool.and_true];exact Nat.ble_eq_true_of_le (Nat.le_trans hj (Nat.le_of_ble_eq_true h.1))
theorem pk_eq:∀(l:List Obj)(i:Nat)(as:List Nat),up i as=true->pk l i as=as.map λa=>lv l[a - i]?
 |[],i,as,_=>by
  show(as.map λ_=>none)=_;refine List.map_congr_left λa _=>?_;rw[List.getElem?_nil];rfl
 |o::l,i,[],_=>rfl
 |o::l,i,a::as,h=>by
  have h:(Nat.ble i a&&up (Nat.succ a) as)=true:=h;rw[Bool.and_eq_true] at h;have hi:=Nat.le_of_ble_eq_true h.1;have tl:∀as':List Nat,up (Nat.succ i) as'=true->(as'.map λa=>lv l[a - Nat.succ i]?)=as'.map λa=>lv (o::l)[a - i]?:=λas' hu=>by
   refine List.map_congr_left λb hb=>?_;have hb':Nat.succ i<=b:=by
    clear h;induction as' with
    |nil=>cases hb
    |cons c r ih=>
     have hu:(Nat.ble (Nat.succ i) c&&up (Nat.succ c) r)=true:=hu;rw[Bool.and_eq_true] at hu;have hc:=Nat.le_of_ble_eq_true hu.1;rcases List.mem_cons.mp hb with rfl|hb
     ·exact hc
     ·exact ih (up_le hu.2 ↑2) hb
   rw[show b - i=(b - Nat.succ i)+1 by omega];rfl
  show(bif Nat.beq a i then lv (some o)::pk l (Nat.succ i) as else pk l (Nat.succ i) (a::as))=_;cases e:Nat.beq a i with
  |true=>
   have e:=Nat.eq_of_beq_eq_true e;subst e;rw[cond_true,pk_eq l _ as h.2,tl as h.2,List.map_cons,Nat.sub_self];rfl
  |false=>
   have e:=Nat.ne_of_beq_eq_false e;have hu:up (Nat.succ i) (a::as)=true:=by
    show(Nat.ble (Nat.succ i) a&&up (Nat.succ a) as)=true;rw[h.2,Bool.and_true];exact Nat.ble_eq_true_of_le ↑2
   rw[cond_false,pk_eq l _ (a::as) hu,tl (a::as) hu]
theorem pk_get(h:Heap)(as:List Nat)(hu:up 0 as=true):pk h.objs.toList 0 as=as.map h.get?:=by rw[pk_eq _ _ _ hu];refine List.map_congr_left λa _=>?_;rw[Nat.sub_zero];rw[Array.getElem?_toList];rfl
structure Ats(K:Params->Frag) where
 as:List Addr
 e:∀P,as=(K P).map (·.1)
 u:up 0 as=true
def hk(K:Params->Frag)(A:Ats K):Hook:=
 ⟨List (Option Obj),λs=>pk s.heap.objs.toList 0 A.as,λw=>(K w.params).map λp=>some p.2,InK K,λw s h=>InK.of A.e w s ((pk_get s.heap A.as A.u).symm.trans h),InK.keeps⟩
theorem hk_in{K:Params->Frag}{A:Ats K}{w:World}{h:Heap}(Y:(hk K A).says w h):(K w.params).In h:=Y
end HK
namespace L2
open PySem PySem.Spec PyProof.Rows
variable{us:List Value}{x:Str}{u:Value}{H:Hp}{a:Addr}{b:Addr}{P:Program}{w:World}{A:Around}{E:Value->Shared->Prop}{Q:Value->Shared->Prop}{s:Shared}{UI:List (Addr×Obj)}{σ:St}{K:Frag}
abbrev Key:=Sum Int Str
def vp:Key->Value->Bool
 | .inl k,v=>Value.isInt k v
 | .inr x,v=>Value.isStrOf x v
def Sq(w:World):Key->Int
 | .inl k=>hashInt k
 | .inr x=>hashStr w x
theorem bQ:∀{k:Key}{v:Value},vp k v=true->(∃i t,k=Sum.inl i/\v=Value.int i t)\/(∃x t,k=Sum.inr x/\v=Value.str x t)
 | .inl i,v,h=>by
  obtain⟨t,e⟩:=Value.isInt_shape (k:=i) (v:=v) h;exact .inl ⟨i,t,rfl,e⟩
 | .inr x,v,h=>by
  obtain⟨t,e⟩:=Value.isStrOf_shape (x:=x) (v:=v) h;exact .inr ⟨x,t,rfl,e⟩
theorem Fo(i:Int)(t:Tok):vp (.inl i) (.int i t)=true:=by simp[vp,Value.isInt]
theorem Eo(x:Str)(t:Tok):vp (.inr x) (.str x t)=true:=by simp[vp,Value.isStrOf]
theorem N2(a b:Int):decide ((Sum.inl a:Key)=Sum.inl b)=(a==b):=by
 by_cases e:a=b
 ·subst e;simp
 ·have h:¬(Sum.inl a:Key)=Sum.inl b:=λq=>e (Sum.inl.inj q);rw[decide_eq_false h];exact(beq_eq_false_iff_ne.mpr e).symm
theorem NW(a b:Str):decide ((Sum.inr a:Key)=Sum.inr b)=decide (a=b):=by
 by_cases e:a=b
 ·subst e;simp
 ·have h:¬(Sum.inr a:Key)=Sum.inr b:=λq=>e (Sum.inr.inj q);rw[decide_eq_false h,decide_eq_false e]
theorem NX(a:Int)(b:Str):decide ((Sum.inl a:Key)=Sum.inr b)=false:=decide_eq_false (λq=>nomatch q)
theorem OE(a:Str)(b:Int):decide ((Sum.inr a:Key)=Sum.inl b)=false:=decide_eq_false (λq=>nomatch q)
def cX(prog:Program)(w:World):PySem.KeyKind prog w Key where
 is:=vp
 hash:=Sq w
 inj:=λv a b ha hb=>by
  rcases bQ ha with⟨i,t,rfl,rfl⟩|⟨x,t,rfl,rfl⟩
  ·rcases bQ hb with⟨j,u,rfl,e⟩|⟨y,u,rfl,e⟩
   ·injection e with e1 _;rw[e1]
   ·exact nomatch e
  ·rcases bQ hb with⟨j,u,rfl,e⟩|⟨y,u,rfl,e⟩
   ·exact nomatch e
   ·injection e with e1 _;rw[e1]
 byValue:=λk v h=>by
  rcases bQ h with⟨i,t,rfl,rfl⟩|⟨x,t,rfl,rfl⟩ <;> rfl
 pyHash:=λhv h=>by
  rcases bQ hv with⟨i,t,rfl,rfl⟩|⟨x,t,rfl,rfl⟩
  ·exact wpAny_pyHash_int h
  ·exact wpAny_pyHash_str h
 eqBool:=λhu hv h=>by
  rcases bQ hu with⟨i,t,rfl,rfl⟩|⟨x,t,rfl,rfl⟩
  ·rcases bQ hv with⟨j,u,rfl,rfl⟩|⟨y,u,rfl,rfl⟩
   ·rw[N2] at h;exact wpAny_eqBool_int h
   ·rw[NX] at h;exact SeqAt.EqAt.int_str i t y u _ _ _ _ h
  ·rcases bQ hv with⟨j,u,rfl,rfl⟩|⟨y,u,rfl,rfl⟩
   ·rw[OE] at h;exact SeqAt.EqAt.str_int x t j u _ _ _ _ h
   ·rw[NW] at h;exact wpAny_eqBool_str h
 «strs»:=λk x t v h=>by
  rcases bQ h with⟨i,u,rfl,e⟩|⟨y,u,rfl,e⟩
  ·exact nomatch e
  ·injection e with e1 _;subst e1;cases v <;> rfl
theorem yT(prog:Program)(w:World)(i:Int)(t:Tok):(cX prog w).is (.inl i) (.int i t)=true:=Fo i t
theorem zP(prog:Program)(w:World)(x:Str)(t:Tok):(cX prog w).is (.inr x) (.str x t)=true:=Eo x t
inductive V where
 |bF|bl (b:Bool)|int (i:Int)|str (x:Str)|bW (b:Array UInt8)|Ju (b:UInt64)|ref (a:Addr)|ty (n:String)
 deriving DecidableEq
def RelV:V->Value->Prop
 | .bF,u=>u=Value.none
 | .bl b,u=>u=Value.bool b
 | .int i,u=>∃t,u=Value.int i t
 | .str x,u=>∃t,u=Value.str x t
 | .bW b,u=>∃t,u=Value.bytes b t
 | .Ju b,u=>∃t,u=Value.float b t
 | .ref a,u=>u=Value.ref a
 | .ty n,u=>u=Value.type n
abbrev Vals:List V->List Value->Prop:=Paired RelV
theorem Vals.length{xs:List V}(r:Vals xs us):xs.length=us.length:=Paired.length r
theorem Vals.get:∀{xs:List V}{us:List Value}{i:Nat}{x:V},Vals xs us->xs[i]?=some x->∃u,us[i]?=some u/\RelV x u
 |_,_,_,_,.nil,e=>by simp at e
 |_,_,0,_,.cons r _,e=>by simp at e;subst e;exact⟨_,rfl,r⟩
 |_,_,i+1,x,.cons _ t,e=>by
  obtain⟨u,h1,h2⟩:=Vals.get (i:=i) (x:=x) t (by simpa using e);exact⟨u,by simpa using h1,h2⟩
theorem Vals.set{x:V}(r:RelV x u):∀{xs:List V}{us:List Value}(i:Nat),Vals xs us->Vals (xs.set i x) (us.set i u)
 |_,_,_,.nil=>.nil
 |_,_,0,.cons _ t=>.cons r t
 |_,_,i+1,.cons q t=>.cons q (Vals.set r i t)
theorem Vals.append:∀{xs ys:List V}{us ws:List Value},Vals xs us->Vals ys ws->Vals (xs++ys) (us++ws)
 |_,_,_,_,.nil,s=>s
 |_,_,_,_,.cons r t,s=>.cons r (Vals.append t s)
theorem Vals.take:∀{xs:List V}{us:List Value}(n:Nat),Vals xs us->Vals (xs.take n) (us.take n)
 |_,_,0,_=>.nil
 |_,_,_+1,.nil=>.nil
 |_,_,n+1,.cons r t=>.cons r (Vals.take n t)
theorem Vals.drop:∀{xs:List V}{us:List Value}(n:Nat),Vals xs us->Vals (xs.drop n) (us.drop n)
 |_,_,0,r=>r
 |_,_,_+1,.nil=>.nil
 |_,_,n+1,.cons _ t=>Vals.drop n t
def d6:Option V->Option Value->Prop
 |some v,some u=>RelV v u
 |none,none=>True
 |_,_=>False
def KV{κ:Type}:List (κ×V)->List (κ×Value)->Prop:=Paired λ(p:κ×V)(q:κ×Value)=>p.1=q.1/\RelV p.2 q.2
def kV:Key->V
 | .inl i=>.int i
 | .inr x=>.str x
inductive HO where
 |lst(xs:List V)
 |tup(xs:List V)
 |dK(kvs:List (Key×V))|dT (kvs:List (List Key×V))
 |set(S:Int->Bool) (n:Nat)
 |ins(C dx:Addr) (fs:List (Str×V))
 |own(x:Addr)
 |xd(fs:List (Str×V))
 |met(f x:Addr)
 |SJ(lo hi:Int)
 |rE(o:Obj) (u:HO)
 |NY(ps:Array Value)
 |ext(φ:Heap->Prop)
abbrev Hp:=Addr->Option HO
def upd(H:Hp)(a:Addr)(o:HO):Hp:=λb=>if b=a then some o else H b
theorem ag{o:HO}:upd H a o a=some o:=by unfold upd;rw[if_pos rfl]
theorem ah{o:HO}(h:b≠a):upd H a o b=H b:=by unfold upd;rw[if_neg h]
theorem dv{o u:HO}(h:H a=some o)(h':H b=some u)(d:o≠u):a≠b:=by intro e;subst e;rw[h] at h';exact d (Option.some.inj h')
theorem au{o:HO}(h:H a=some o)(h':H b=none):a≠b:=by intro e;subst e;rw[h] at h';cases h'
section
variable(P:Program)(w:World)
def bK(H:Hp)(h:Heap)(a:Addr):HO->Prop
 | .lst xs=>xs.length<=sizeLine/\∃(its:List Value)(n:Nat),Vals xs its/\h.get? a=some {cls:=.type "list",data:=.seq its.toArray n}
 | .tup xs=>xs.length<=sizeLine/\∃its:List Value,Vals xs its/\IsTup h a its.toArray
 | .dK kvs=>kvs.length<=sizeLine/\(a==sysModules)=false/\∃vs,KV kvs vs/\h.DictOf (cX P w) a vs
 | .dT kvs=>kvs.length<=sizeLine/\(a==sysModules)=false/\∃xs:List (List Key×Addr×Value),
   Paired (λ(p:List Key×V)(q:List Key×Addr×Value)=>p.1=q.1/\H q.2.1=some (.tup (p.1.map kV))/\RelV p.2 q.2.2) kvs xs/\
   ∃o es ep,h.get? a=some o/\o.ExactDict/\o.data= .dict es ep/\es.toList=xs.map (entryOfKey (tupleKind (cX P w)))/\(xs.map (·.1)).Nodup
 | .set S n=>h.SetOf (intKind P w) a S n
 | .ins C dx fs=>H dx=some (.own a)/\fs.length<=1000/\dx≠a/\h.get? a=some (PySem.W.instObj C dx)/\
   ∃mA,h.Ns1 dx mA/\(∀f,d6 (fs.lookup f) (mA f))/\PySem.Within mA (fs.map (·.1))
 | .own _=>∃o,h.get? a=some o
 | .xd fs=>∃mA,h.Ns1 a mA/\∀f,d6 (fs.lookup f) (mA f)
 | .SJ lo hi=>∃t u v,h.get? a=some {cls:=.type "range",data:=.fields #[.int lo t,.int hi u,.int 1 v]}
 | .rE o u=>h.get? a=some o/\bK H h a u
 | .NY ps=>h.get? a=some {cls:=.none,data:=.fields ps}
 | .met f x=>h.get? a=some (PySem.W.methodObj (.ref f) (.ref x))
 | .ext φ=>φ h/\(∃o,h.get? a=some o)/\∀h1 h2:Heap,φ h1->(∀o,h1.get? a=some o->h2.get? a=some o)->φ h2
def gy(H:Hp)(h:Heap):Prop:=∀a o,H a=some o->bK P w H h a o
end
section
variable{P:Program}{w:World}{H H':Hp}{h h':Heap}{a:Addr}{o:HO}
theorem bK.lt(x:bK P w H h a o):a<h.objs.size:=by
 cases o with
 |lst xs=>obtain⟨_,_,_,_,e⟩:=x;exact Heap.lt_size e
 |tup xs=>obtain⟨_,_,_,p⟩:=x;exact p.lt
 |dK kvs=>obtain⟨_,_,_,_,o,_,_,e,_⟩:=x;exact Heap.lt_size e
 |dT kvs=>obtain⟨_,_,_,_,o,_,_,e,_⟩:=x;exact Heap.lt_size e
 |set S n=>obtain⟨o,_,_,_,e,_⟩:=x;exact Heap.lt_size e
 |ins C dx fs=>obtain⟨_,_,_,e,_⟩:=x;exact Heap.lt_size e
 |own y=>obtain⟨_,e⟩:=x;exact Heap.lt_size e
 |xd fs=>obtain⟨_,⟨_,_,_,e,_⟩,_⟩:=x;exact Heap.lt_size e
 |SJ lo hi=>obtain⟨_,_,_,e⟩:=x;exact Heap.lt_size e
 |rE ob u=>obtain⟨e,_⟩:=x;exact Heap.lt_size e
 |NY ps=>exact Heap.lt_size (show h.get? a=some _ from x)
 |met f y=>exact Heap.lt_size (show h.get? a=some _ from x)
 |ext φ=>obtain⟨_,⟨_,e⟩,_⟩:=x;exact Heap.lt_size e
theorem Paired.K2{α β:Type}{F G:α->β->Prop}:∀{l₁:List α}{l₂:List β},Paired F l₁ l₂->(∀a b,F a b->G a b)->Paired G l₁ l₂
 |_,_,.nil,_=>.nil
 |_,_,.cons r t,f=>.cons (f _ _ r) (Paired.K2 t f)
theorem Paired.imp'{α β:Type}{F G:α->β->Prop}(f:∀a b,F a b->G a b){l₁:List α}{l₂:List β}(r:Paired F l₁ l₂):Paired G l₁ l₂:=Paired.K2 r f
theorem bK.zj(x:bK P w H h a o)(k:∀b u,(b=a\/H b=some (.own a))->h.get? b=some u->h'.get? b=some u)(ho:∀b,H b=some (.own a)->H' b=some (.own a))(ht:∀b xs,H b=some (.tup xs)->H' b=some (.tup xs)):bK P w H' h' a o:=by
 induction o with
 |lst xs=>obtain⟨z,its,n,r,e⟩:=x;exact⟨z,its,n,r,k _ _ (.inl rfl) e⟩
 |tup xs=>obtain⟨z,its,r,ob,e,c⟩:=x;exact⟨z,its,r,ob,k _ _ (.inl rfl) e,c⟩
 |dK kvs=>obtain⟨z,y,vs,r,ob,es,ep,e,c⟩:=x;exact⟨z,y,vs,r,ob,es,ep,k _ _ (.inl rfl) e,c⟩
 |dT kvs=>
  obtain⟨z,y,xs,r,ob,es,ep,e,c⟩:=x;exact⟨z,y,xs,Paired.K2 r λp q z=>⟨z.1,ht _ _ z.2.1,z.2.2⟩,ob,es,ep,k _ _ (.inl rfl) e,c⟩
 |set S n=>obtain⟨ob,es,ep,t,e,c⟩:=x;exact⟨ob,es,ep,t,k _ _ (.inl rfl) e,c⟩
 |ins C dx fs=>
  obtain⟨d,z,ne,e,mA,⟨od,es,ep,e2,c⟩,r⟩:=x;exact⟨ho _ d,z,ne,k _ _ (.inl rfl) e,mA,⟨od,es,ep,k _ _ (.inr d) e2,c⟩,r⟩
 |own y=>obtain⟨ob,e⟩:=x;exact⟨ob,k _ _ (.inl rfl) e⟩
 |xd fs=>obtain⟨mA,⟨od,es,ep,e,c⟩,r⟩:=x;exact⟨mA,⟨od,es,ep,k _ _ (.inl rfl) e,c⟩,r⟩
 |SJ lo hi=>obtain⟨t,u,v,e⟩:=x;exact⟨t,u,v,k _ _ (.inl rfl) e⟩
 |rE ob u ih=>obtain⟨e,q⟩:=x;exact⟨k _ _ (.inl rfl) e,ih q⟩
 |NY ps=>
  have e:h.get? a=some {cls:=.none,data:=.fields ps}:=x;show h'.get? a=some {cls:=.none,data:=.fields ps};exact k a _ (.inl rfl) e
 |met f y=>
  have e:h.get? a=some (PySem.W.methodObj (.ref f) (.ref y)):=x;show h'.get? a=some (PySem.W.methodObj (.ref f) (.ref y));exact k a _ (.inl rfl) e
 |ext φ=>obtain⟨p,⟨o,e⟩,st⟩:=x;exact⟨st _ _ p λo q=>k _ _ (.inl rfl) q,⟨o,k _ _ (.inl rfl) e⟩,st⟩
theorem gy.lt(x:gy P w H h)(e:H a=some o):a<h.objs.size:=(x a o e).lt
theorem gy.fresh(x:gy P w H h)(e:h.objs.size<=a):H a=none:=by
 cases q:H a with
 |none=>rfl
 |some u=>exact absurd (Nat.lt_of_lt_of_le (x.lt q) e) (Nat.lt_irrefl _)
theorem gy.kept(x:gy P w H h)(k:∀b u,h.get? b=some u->h'.get? b=some u):gy P w H h':=λa o e=>
 (x a o e).zj (λb u _ q=>k b u q) (λ_ q=>q) λ_ _ q=>q
theorem gy.laid(x:gy P w H h)(k:∀b u,h.get? b=some u->h'.get? b=some u)(hp:h.objs.size<=a)(new:bK P w (upd H a o) h' a o):gy P w (upd H a o) h':=λb u e=>by
 have hn:=x.fresh hp;by_cases hb:b=a
 ·subst hb;rw[ag] at e;cases e;exact new
 ·rw[ah hb] at e;exact(x b u e).zj (λc v _ q=>k c v q) (λc q=>by rw[ah (au q hn)];exact q) λc xs q=>by rw[ah (au q hn)];exact q
end
def Rd(H:Hp)(a:Addr)(u:HO):Prop:=H a=some u\/∃o,H a=some (.rE o u)
theorem Rd.ok{h:Heap}{u:HO}(r:Rd H a u)(x:gy P w H h):bK P w H h a u:=by
 rcases r with r|⟨o,r⟩
 ·exact x a u r
 ·obtain⟨_,q⟩:=x a _ r;exact q
def Pf:Option HO->Prop
 |some (.lst _)=>True
 |some (.dK _)=>True
 |some (.dT _)=>True
 |some (.set _ _)=>True
 |some (.ins _ _ _)=>True
 |some (.ext _)=>True
 |_=>False
section
variable{P:Program}{w:World}{H:Hp}{h h':Heap}{x e:Addr}{o':HO}
theorem gy.write(ok:gy P w H h)(mu:Pf (H x))(he:e=x\/H e=some (.own x))(k:∀b u,b≠e->h.get? b=some u->h'.get? b=some u)(heo:∃u,h'.get? e=some u)(new:bK P w (upd H x o') h' x o'):gy P w (upd H x o') h':=λb u q=>by
 have nown:∀c y,H c=some (.own y)->c≠x:=λc y r z=>by subst z;rw[r] at mu;exact mu
 have ntup:∀c xs,H c=some (.tup xs)->c≠x:=λc xs r z=>by subst z;rw[r] at mu;exact mu
 by_cases hb:b=x
 ·subst hb;rw[ag] at q;cases q;exact new
 ·rw[ah hb] at q;by_cases hbe:b=e
  ·have q':H b=some (.own x):=by
    rcases he with z|z
    ·exact absurd (hbe.trans z) hb
    ·rw[hbe];exact z
   rw[q] at q';cases q';obtain⟨v,hv⟩:=heo;exact⟨v,by rw[hbe];exact hv⟩
  ·refine(ok b u q).zj (λc v hc r=>k c v ?_ r) (λc r=>by rw[ah (nown c b r)];exact r) λc xs r=>by rw[ah (ntup c xs r)];exact r
   rcases hc with rfl|hc
   ·exact hbe
   ·rintro rfl;rcases he with z|z
    ·exact nown c b hc z
    ·rw[hc] at z;cases z;exact hb rfl
end
structure Un(fs ex:List Addr)(H H':Hp)(h h':Heap):Prop where
 keep:∀b o,h.get? b=some o->H b=none->b∉fs->b∉ex->h'.get? b=some o
 slot:∀b o,h.get? b=some o->H b=none->b∈fs->b∉ex->∃sl,h'.get? b=some {o with slots:=sl}
 free:∀b o,h.get? b=some o->H b=none->b∉ex->H' b=none
 there:∀b o,h.get? b=some o->b∉ex->∃o',h'.get? b=some o'
 pz:∀b xs,H b=some (.tup xs)->H' b=some (.tup xs)
 nY:∀b o u,H b=some (.rE o u)->H' b=some (.rE o u)
 pE:∀b ps,H b=some (.NY ps)->∃more,H' b=some (.NY (ps++more))
section
variable{fs fs' ex ex':List Addr}{H H1 H2:Hp}{h h1 h2 h':Heap}{a x e:Addr}{o:HO}
theorem Un.any(u:Un fs ex H H1 h h1){ob:Obj}(q:h.get? b=some ob)(n:H b=none)(hx:b∉ex):∃sl,h1.get? b=some {ob with slots:=sl}:=by
 by_cases hb:b∈fs
 ·exact u.slot b ob q n hb hx
 ·exact⟨ob.slots,u.keep b ob q n hb hx⟩
theorem Un.trans(a:Un fs ex H H1 h h1)(b:Un fs ex H1 H2 h1 h2):Un fs ex H H2 h h2 where
 keep:=λc ob q n hc hx=>b.keep c ob (a.keep c ob q n hc hx) (a.free c ob q n hx) hc hx
 slot:=λc ob q n hc hx=>by
  obtain⟨sl,e1⟩:=a.slot c ob q n hc hx;obtain⟨sl',e2⟩:=b.slot c _ e1 (a.free c ob q n hx) hc hx;exact⟨sl',e2⟩
 free:=λc ob q n hx=>by
  obtain⟨o',e1⟩:=a.there c ob q hx;exact b.free c o' e1 (a.free c ob q n hx) hx
 there:=λc ob q hx=>by
  obtain⟨o',e1⟩:=a.there c ob q hx;exact b.there c o' e1 hx
 pz:=λc xs q=>b.pz c xs (a.pz c xs q)
 nY:=λc ob xs q=>b.nY c ob xs (a.nY c ob xs q)
 pE:=λc ps q=>by
  obtain⟨m1,e1⟩:=a.pE c ps q;obtain⟨m2,e2⟩:=b.pE c _ e1;exact⟨m1++m2,by rw[e2,Array.append_assoc]⟩
theorem Un.kept(k:∀b u,h.get? b=some u->h'.get? b=some u):Un fs ex H H h h':=
 ⟨λb ob q _ _ _=>k b ob q,λb ob q _ _ _=>⟨ob.slots,k b ob q⟩,λ_ _ _ n _=>n,λb ob q _=>⟨ob,k b ob q⟩,λ_ _ q=>q,λ_ _ _ q=>q,λ_ ps q=>⟨#[],by rw[q];simp⟩⟩
theorem Un.refl:Un fs ex H H h h:=Un.kept λ_ _ q=>q
theorem Un.laid(k:∀b u,h.get? b=some u->h'.get? b=some u)(hp:h.objs.size<=a)(hn:H a=none):Un fs ex H (upd H a o) h h' where
 keep:=λb u q _ _ _=>k b u q
 slot:=λb u q _ _ _=>⟨u.slots,k b u q⟩
 free:=λb u q n _=>by rw[ah (Nat.ne_of_lt (Nat.lt_of_lt_of_le (Heap.lt_size q) hp))];exact n
 there:=λb u q _=>⟨u,k b u q⟩
 pz:=λb xs q=>by rw[ah (au q hn)];exact q
 nY:=λb u xs q=>by rw[ah (au q hn)];exact q
 pE:=λb ps q=>⟨#[],by rw[ah (au q hn),q];simp⟩
theorem Un.write(mu:Pf (H x))(he:e=x\/H e=some (.own x))(k:∀b u,b≠e->h.get? b=some u->h'.get? b=some u)(heo:∃u,h'.get? e=some u):Un fs ex H (upd H x o) h h':=by
 have hx:∀b,H b=none->b≠x:=λb n z=>by subst z;rw[n] at mu;exact mu
 have hb:∀b,H b=none->b≠e:=λb n z=>by
  subst z;rcases he with r|r
  ·exact hx b n r
  ·rw[n] at r;cases r
 have hm:∀b u,H b=some u->¬Pf (some u)->b≠x:=λb u q nm z=>by subst z;rw[q] at mu;exact nm mu
 refine⟨λb u q n _ _=>k b u (hb b n) q,λb u q n _ _=>⟨u.slots,k b u (hb b n) q⟩,λb u q n _=>by rw[ah (hx b n)];exact n,λb u q _=>?_,
  λb xs q=>by rw[ah (hm b _ q λz=>z)];exact q,λb u xs q=>by rw[ah (hm b _ q λz=>z)];exact q,λb ps q=>⟨#[],by rw[ah (hm b _ q λz=>z),q];simp⟩⟩
 by_cases hbe:b=e
 ·subst hbe;exact heo
 ·exact⟨u,k b u hbe q⟩
end
def Sf(h:Heap)(H:Hp):List Addr:=(List.range h.objs.size).filter λa=>(H a).isSome
def vG(h:Heap)(H:Hp):Heap:=PySem.W.hideAll h (Sf h H)
theorem Ec(h:Heap)(H:Hp):(vG h H).objs.size=h.objs.size:=PySem.W.hideAll_size _ _
theorem IG{h:Heap}{o:Obj}(e:h.get? b=some o)(n:H b=none):(vG h H).get? b=some o:=
 PySem.W.hideAll_get _ e λhm=>by
  have q:(H b).isSome=true:=(List.mem_filter.mp hm).2;rw[n] at q;simp at q
theorem JF{h:Heap}{o:Obj}(e:(vG h H).get? b=some o):h.get? b=some o/\H b=none:=by
 have e':h.get? b=some o:=PySem.W.of_hideAll (Sf h H) e;refine⟨e',?_⟩;cases q:H b with
 |none=>rfl
 |some x=>
  have hm:b∈Sf h H:=List.mem_filter.mpr ⟨List.mem_range.mpr (Heap.lt_size e'),by simp[q]⟩;have z:(vG h H).get? b=none:=PySem.W.hideAll_none (Sf h H) hm;rw[z] at e;cases e
structure Mod(K:Frag)(mg:Str->Option Value)(base:Heap):Prop where
 EJ:K.In base
 glob:base.Ns mainGlobals mg
 blt:∃mb,base.Ns builtinsNs mb/\∀x:Str,x≠"__name__"->mb x=bootBuiltins x
 nolimit:base.NoLimit
structure Cx where
 prog:Program
 w:World
 K:Frag
 mg:Str->Option Value
 base:Heap
 A:Around
 N:List Str
 oq:Shared
 R4:Hp
 env:Env
 outer:List Env
 stack:List Env
 ex:List Addr
 fn:Str->Bool
 calm:Bool
 pn:List (Addr×Obj)
 xe:Value->Shared->Prop
def k7(l:List Env):List Addr:=l.filterMap (·.frame)
abbrev Cx.fs(X:Cx):List Addr:=k7 X.outer
def NC(sc:Scope)(x:Str):Prop:=sc.names.lookup x=some .local\/sc.names.lookup x=some .cell\/sc.names.lookup x=some .free
def Loc(sc:Scope)(x:Str):Prop:=sc.names.lookup x=some .local\/sc.names.lookup x=some .cell
def Look(env:Env)(h:Heap)(m:Str->Option Value)(x:Str)(u:Value):Prop:=
 (env.kindOf x=some .local/\m x=some u)\/((env.kindOf x=some .cell\/env.kindOf x=some .free)/\∃c,env.cells.lookup x=some c/\h.IsCell c (some u))
structure Cx.Ok(X:Cx):Prop where
 mod:Mod X.K X.mg X.base
 kind:X.env.scope.kind= .function
 glob:X.env.globals=mainGlobals
 blt:X.env.builtins=builtinsNs
 above:X.oq.heap.objs.size<=X.env.locals
 inj:∀x y c,X.env.cells.lookup x=some c->X.env.cells.lookup y=some c->x=y
 has:∀x,(X.env.kindOf x=some .cell\/X.env.kindOf x=some .free)->∃c,X.env.cells.lookup x=some c
 MG:∀x c,X.fn x=true->X.env.cells.lookup x=some c->X.oq.heap.objs.size<=c
 hd:X.calm=true->X.A.handled=none
 frames:X.A.frames=some X.stack
 N4:X.stack=X.outer\/(X.stack=X.env::X.outer/\X.env.frame=some X.env.locals)
 Pj:∀b∈X.ex,b≠X.env.locals/\∀x c,X.env.cells.lookup x=some c->c≠b
 bs:∀b o,X.base.get? b=some o->X.oq.heap.get? b=some o/\X.R4 b=none
 FC:X.base.objs.size<=X.oq.heap.objs.size
 Cb:∀b o,X.base.get? b=some o->b∉X.ex
 Bl:∀b∈X.ex,b∉X.fs
 jq:X.oq.heap.FunFrames X.base X.outer
 Jz:∀b∈X.fs,X.R4 b=none
structure Inv(X:Cx)(UI:List (Addr×Obj))(σ:List (Option V))(H:Hp)(s:Shared):Prop where
 ok:X.Ok
 os:s.os=X.oq.os
 bare:AllBare s.gens
 base:Un X.fs X.ex X.R4 H X.oq.heap s.heap
 loc:∃m,s.heap.Ns X.env.locals m/\∀(i:Nat)(x:Str)(v:V),X.N[i]?=some x->σ[i]?=some (some v)->NC X.env.scope x->∃u,RelV v u/\Look X.env s.heap m x u
 cell:∀x c,X.env.cells.lookup x=some c->∃v,s.heap.IsCell c v
 free:H X.env.locals=none
 fz:∀x c,X.env.cells.lookup x=some c->H c=none
 pin:∀p∈X.pn++UI,s.heap.get? p.1=some p.2/\H p.1=none/\p.1≠X.env.locals/\p.1∉X.fs/\∀v,p.2.data≠.cell v
 aZ:gy X.prog X.w H s.heap
 len:σ.length=X.N.length
section
variable{X:Cx}{UI:List (Addr×Obj)}{σ:List (Option V)}{H H':Hp}{s:Shared}{h':Heap}
theorem Cx.Ok.Sw(ok:X.Ok){o:Obj}(e:X.base.get? b=some o):b∉X.fs:=λhb=>by
 have:=(ok.jq.mem hb).1;rw[e] at this;cases this
theorem Inv.bs(I:Inv X UI σ H s):∀b o,X.base.get? b=some o->s.heap.get? b=some o/\H b=none:=λb o e=>
 ⟨I.base.keep b o (I.ok.bs b o e).1 (I.ok.bs b o e).2 (I.ok.Sw e) (I.ok.Cb b o e),I.base.free b o (I.ok.bs b o e).1 (I.ok.bs b o e).2 (I.ok.Cb b o e)⟩
theorem Inv.bk(I:Inv X UI σ H s):∀b o,X.base.get? b=some o->s.heap.get? b=some o:=λb o e=>(I.bs b o e).1
theorem Inv.mod(I:Inv X UI σ H s):Mod X.K X.mg X.base:=I.ok.mod
theorem Inv.dZ(I:Inv X UI σ H s):X.K.In s.heap:=I.ok.mod.EJ.keeps I.bk
theorem Inv.lt(I:Inv X UI σ H s):X.env.locals<s.heap.objs.size:=let⟨_,hn,_⟩:=I.loc;hn.lt
theorem Inv.sz(I:Inv X UI σ H s):X.oq.heap.objs.size<=s.heap.objs.size:=Nat.le_trans I.ok.above (Nat.le_of_lt I.lt)
theorem Inv.Tt(I:Inv X UI σ H s)(h:s.heap.objs.size<=a):a∉X.fs:=λhb=>by
 obtain⟨_,o,ho,_⟩:=I.ok.jq.mem hb;exact absurd (Nat.lt_of_lt_of_le (Heap.lt_size ho) (Nat.le_trans I.sz h)) (Nat.lt_irrefl _)
theorem Inv.LG(I:Inv X UI σ H s):∀x c,X.env.cells.lookup x=some c->c≠X.env.locals:=λx c e z=>by
 obtain⟨v,o,ho,hd⟩:=I.cell x c e;obtain⟨m,⟨o',es,ep,ho',hd',_⟩,_⟩:=I.loc;rw[z,ho'] at ho;cases ho;rw[hd'] at hd;cases hd
theorem Inv.jq(I:Inv X UI σ H s):s.heap.FunFrames X.base X.outer:=by
 have all:∀(l:List Env),(∀b∈k7 l,b∈X.fs)->X.oq.heap.FunFrames X.base l->s.heap.FunFrames X.base l:=by
  intro l;induction l with
  |nil=>intro _ _;trivial
  |cons env r ih=>
   intro hs hl;obtain⟨hk,⟨L,o,hf,hn,ho,hd⟩,hr⟩:=hl;have hL:L∈X.fs:=hs L (by unfold k7;rw[List.filterMap_cons,hf];exact List.mem_cons_self);obtain⟨sl,e⟩:=I.base.slot L o ho (I.ok.Jz L hL) hL λz=>I.ok.Bl L z hL;exact⟨hk,⟨L,_,hf,hn,e,hd⟩,ih (λb hb=>hs b (by unfold k7;rw[List.filterMap_cons,hf];exact List.mem_cons_of_mem _ hb)) hr⟩
 exact all X.outer (λ_ hb=>hb) I.ok.jq
theorem Inv.stack(I:Inv X UI σ H s):s.heap.FunFrames X.base X.stack:=by
 rcases I.ok.N4 with e|⟨e,hf⟩
 ·rw[e];exact I.jq
 ·rw[e];obtain⟨m,hn,_⟩:=I.loc;refine .cons (by rw[I.ok.kind];decide) hf hn ?_ I.jq;exact Heap.get?_none_of_le (Nat.le_trans I.ok.FC I.ok.above)
theorem Inv.yu(I:Inv X UI σ H s):∀b∈k7 X.stack,b∈X.env.locals::X.fs:=λb hb=>by
 rcases I.ok.N4 with e|⟨e,hf⟩
 ·rw[e] at hb;exact List.mem_cons_of_mem _ hb
 ·rw[e] at hb;unfold k7 at hb;rw[List.filterMap_cons,hf] at hb;exact hb
theorem Inv.wa(I:Inv X UI σ H s):∀b∈k7 X.stack,H b=none:=λb hb=>by
 rcases List.mem_cons.mp (I.yu b hb) with e|hb
 ·rw[e];exact I.free
 ·obtain⟨_,o,ho,_⟩:=I.ok.jq.mem hb;exact I.base.free b o ho (I.ok.Jz b hb) λz=>I.ok.Bl b z hb
theorem Inv.step{g':Array GenState}{t':Nat}{d':Drawn}{ch:List Addr}(I:Inv X UI σ H s)(hch:∀b∈ch,(b∈X.ex\/X.oq.heap.objs.size<=b)/\b≠X.env.locals/\(∀x c,X.env.cells.lookup x=some c->c≠b)/\∀p∈X.pn++UI,p.1≠b)(keep:∀b o,b≠X.env.locals->b∉X.fs->b∉ch->s.heap.get? b=some o->H b=none->h'.get? b=some o)(slot:∀b o,b≠X.env.locals->b∈X.fs->b∉ch->s.heap.get? b=some o->H b=none->∃sl,h'.get? b=some {o with slots:=sl})(free:∀b o,b∉ch->s.heap.get? b=some o->H b=none->H' b=none)(there:∀b o,b∉ch->s.heap.get? b=some o->∃o',h'.get? b=some o')(pz:∀b xs,H b=some (.tup xs)->H' b=some (.tup xs))(nY:∀b o u,H b=some (.rE o u)->H' b=some (.rE o u))(pE:∀b ps,H b=some (.NY ps)->∃more,H' b=some (.NY (ps++more)))(ns:∀m,s.heap.Ns X.env.locals m->h'.Ns X.env.locals m)(aZ:gy X.prog X.w H' h')(hg:AllBare g'):
  Inv X UI σ H' {s with heap:=h',gens:=g',drawn:=d',toks:=t'}:=by
 have neL:∀b o,X.oq.heap.get? b=some o->b≠X.env.locals:=λb o e=>Nat.ne_of_lt (Nat.lt_of_lt_of_le (Heap.lt_size e) I.ok.above);have neC:∀b o,X.oq.heap.get? b=some o->b∉X.ex->b∉ch:=λb o e hx hb=>by
  rcases(hch b hb).1 with z|z
  ·exact hx z
  ·exact absurd (Nat.lt_of_lt_of_le (Heap.lt_size e) z) (Nat.lt_irrefl _)
 have cellK:∀x c,X.env.cells.lookup x=some c->∀v,s.heap.IsCell c v->h'.IsCell c v:=λx c e v ⟨o,ho,hd⟩=>by
  have nch:c∉ch:=λz=>(hch c z).2.2.1 x c e rfl;by_cases hc:c∈X.fs
  ·obtain⟨sl,q⟩:=slot c o (I.LG x c e) hc nch ho (I.fz x c e);exact⟨_,q,hd⟩
  ·exact⟨o,keep c o (I.LG x c e) hc nch ho (I.fz x c e),hd⟩
 refine⟨I.ok,I.os,hg,⟨λb o e n hb hx=>?_,λb o e n hb hx=>?_,λb o e n hx=>?_,λb o e hx=>?_,λb xs e=>pz b xs (I.base.pz b xs e),λb o xs e=>nY b o xs (I.base.nY b o xs e),λb ps e=>?_⟩,?_,λx c e=>?_,?_,λx c e=>?_,λp hp=>?_,aZ,I.len⟩
 ·exact keep b o (neL b o e) hb (neC b o e hx) (I.base.keep b o e n hb hx) (I.base.free b o e n hx)
 ·obtain⟨sl,e1⟩:=I.base.slot b o e n hb hx;obtain⟨sl',e2⟩:=slot b _ (neL b o e) hb (neC b o e hx) e1 (I.base.free b o e n hx);exact⟨sl',e2⟩
 ·obtain⟨o',e1⟩:=I.base.there b o e hx;exact free b o' (neC b o e hx) e1 (I.base.free b o e n hx)
 ·obtain⟨o',e1⟩:=I.base.there b o e hx;exact there b o' (neC b o e hx) e1
 ·obtain⟨m1,e1⟩:=I.base.pE b ps e;obtain⟨m2,e2⟩:=pE b _ e1;exact⟨m1++m2,by rw[e2,Array.append_assoc]⟩
 ·obtain⟨m,hn,hl⟩:=I.loc;refine⟨m,ns m hn,λi x v e1 e2 e3=>?_⟩;obtain⟨u,r,l⟩:=hl i x v e1 e2 e3;refine⟨u,r,?_⟩;rcases l with l|⟨k,c,e,z⟩
  ·exact .inl l
  ·exact .inr ⟨k,c,e,cellK x c e _ z⟩
 ·obtain⟨v,z⟩:=I.cell x c e;exact⟨v,cellK x c e v z⟩
 ·obtain⟨m,⟨o,_,_,ho,_⟩,_⟩:=I.loc;exact free _ o (λz=>(hch _ z).2.1 rfl) ho I.free
 ·obtain⟨v,o,ho,hd⟩:=I.cell x c e;exact free c o (λz=>(hch c z).2.2.1 x c e rfl) ho (I.fz x c e)
 ·obtain⟨e,n,ne,nf,d⟩:=I.pin p hp;have nch:p.1∉ch:=λz=>(hch p.1 z).2.2.2 p hp rfl;exact⟨keep p.1 p.2 ne nf nch e n,free p.1 p.2 nch e n,ne,nf,d⟩
theorem Inv.un{t':Nat}(I:Inv X UI σ H s)(u:Un X.fs [] H H' s.heap h')(aZ:gy X.prog X.w H' h'):Inv X UI σ H' {s with heap:=h',toks:=t'}:=by
 obtain⟨m,⟨o,es,ep,ho,r⟩,_⟩:=id I.loc;obtain⟨sl,hL⟩:=u.any ho I.free (by simp);exact I.step (g':=s.gens) (d':=s.drawn) (ch:=[]) (λ_ z=>nomatch z) (λb o _ hb _ e n=>u.keep b o e n hb (by simp)) (λb o _ hb _ e n=>u.slot b o e n hb (by simp)) (λb o _ e n=>u.free b o e n (by simp)) (λb o _ e=>u.there b o e (by simp)) u.pz u.nY u.pE (λm' hm=>by
  obtain⟨o',es',ep',ho',r'⟩:=hm;rw[ho] at ho';cases ho';exact⟨_,es',ep',hL,r'⟩) aZ I.bare
theorem Inv.call{g':Array GenState}{t':Nat}{d':Drawn}{ch:List Addr}(I:Inv X UI σ H s)(u:Un (k7 X.stack) ch H H' s.heap h')(aZ:gy X.prog X.w H' h')(hg:AllBare g')(hch:∀b∈ch,(b∈X.ex\/X.oq.heap.objs.size<=b)/\b≠X.env.locals/\(∀x c,X.env.cells.lookup x=some c->c≠b)/\∀p∈X.pn++UI,p.1≠b):
  Inv X UI σ H' {s with heap:=h',gens:=g',drawn:=d',toks:=t'}:=by
 obtain⟨m,⟨o,es,ep,ho,r⟩,_⟩:=id I.loc;obtain⟨sl,hL⟩:=u.any ho I.free λz=>(hch _ z).2.1 rfl;exact I.step (ch:=ch) hch (λb o hL hb hc e n=>u.keep b o e n (λz=>(List.mem_cons.mp (I.yu b z)).elim hL hb) hc) (λb o _ _ hc e n=>u.any e n hc) (λb o hc e n=>u.free b o e n hc) (λb o hc e=>u.there b o e hc) u.pz u.nY u.pE (λm' hm=>by
  obtain⟨o',es',ep',ho',r'⟩:=hm;rw[ho] at ho';cases ho';exact⟨_,es',ep',hL,r'⟩) aZ hg
theorem Inv.turned{t':Nat}{it:Addr}(I:Inv X UI σ H s)(k:∀b o,b≠it->s.heap.get? b=some o->h'.get? b=some o)(hn:H it=none)(hL:it≠X.env.locals)(h1:it∈X.ex\/X.oq.heap.objs.size<=it)(h2:∀x c,X.env.cells.lookup x=some c->c≠it)(h3:∀p∈X.pn++UI,p.1≠it):Inv X UI σ H {s with heap:=h',toks:=t'}:=by
 have nit:∀b u,H b=some u->b≠it:=λb u e z=>by rw[z,hn] at e;cases e
 refine I.step (g':=s.gens) (d':=s.drawn) (ch:=[it]) (λb hb=>?_) (λb o _ _ hc e _=>k b o (λz=>hc (by simp[z])) e) (λb o _ _ hc e _=>⟨o.slots,k b o (λz=>hc (by simp[z])) e⟩) (λ_ _ _ _ n=>n)
  (λb o hc e=>⟨o,k b o (λz=>hc (by simp[z])) e⟩) (λ_ _ e=>e) (λ_ _ _ e=>e) (λb ps e=>⟨#[],by rw[e];simp⟩) (λm hm=>?_) (λb u e=>?_) I.bare
 ·have e:b=it:=by simpa using hb
  subst e;exact⟨h1,hL,h2,h3⟩
 ·obtain⟨o,es,ep,ho,r⟩:=hm;exact⟨o,es,ep,k _ o (Ne.symm hL) ho,r⟩
 ·refine(I.aZ b u e).zj (λc v hc q=>k c v ?_ q) (λ_ q=>q) λ_ _ q=>q;rcases hc with z|z
  ·rw[z];exact nit b u e
  ·exact nit c _ z
theorem Inv.tok(I:Inv X UI σ H s)(t:Nat):Inv X UI σ H {s with toks:=t}:=I.un (h':=s.heap) (t':=t) Un.refl I.aZ
theorem Inv.kept{t':Nat}(I:Inv X UI σ H s)(k:∀b u,s.heap.get? b=some u->h'.get? b=some u):Inv X UI σ H {s with heap:=h',toks:=t'}:=I.un (Un.kept k) (I.aZ.kept k)
theorem Inv.laid{o:HO}{t':Nat}(I:Inv X UI σ H s)(k:∀b u,s.heap.get? b=some u->h'.get? b=some u)(hp:s.heap.objs.size<=a)(new:bK X.prog X.w (upd H a o) h' a o):
  Inv X UI σ (upd H a o) {s with heap:=h',toks:=t'}:=I.un (Un.laid k hp (I.aZ.fresh hp)) (I.aZ.laid k hp new)
theorem Inv.write{x e:Addr}{o:HO}{t':Nat}(I:Inv X UI σ H s)(mu:Pf (H x))(he:e=x\/H e=some (.own x))(k:∀b u,b≠e->s.heap.get? b=some u->h'.get? b=some u)(heo:∃u,h'.get? e=some u)(new:bK X.prog X.w (upd H x o) h' x o):Inv X UI σ (upd H x o) {s with heap:=h',toks:=t'}:=I.un (Un.write mu he k heo) (I.aZ.write mu he k heo new)
theorem Inv.weak{σ':List (Option V)}(I:Inv X UI σ H s)(hl:σ'.length=σ.length)(w:∀(i:Nat) v,σ'[i]?=some (some v)->σ[i]?=some (some v)):Inv X UI σ' H s:=
 ⟨I.ok,I.os,I.bare,I.base,let⟨m,hn,hl'⟩:=I.loc;⟨m,hn,λi x v e1 e2 e3=>hl' i x v e1 (w i v e2) e3⟩,I.cell,I.free,I.fz,I.pin,I.aZ,hl.trans I.len⟩
theorem Inv.ql{pins':List (Addr×Obj)}(I:Inv X UI σ H s)(h:∀p∈pins',s.heap.get? p.1=some p.2/\H p.1=none/\p.1≠X.env.locals/\p.1∉X.fs/\∀v,p.2.data≠.cell v):Inv X pins' σ H s:=
 ⟨I.ok,I.os,I.bare,I.base,I.loc,I.cell,I.free,I.fz,λp hp=>(List.mem_append.mp hp).elim (λz=>I.pin p (List.mem_append_left _ z)) (h p),I.aZ,I.len⟩
theorem qO{N:List Str}(hN:N.Nodup){i j:Nat}(a:N[i]?=some x)(b:N[j]?=some x):i=j:=by obtain⟨h1,e1⟩:=List.getElem?_eq_some_iff.mp a;obtain⟨h2,e2⟩:=List.getElem?_eq_some_iff.mp b;exact(List.getElem_inj hN).mp (e1.trans e2.symm)
theorem Ez{M:Model}{i:Nat}{v:V}{Q:Unit->Shared->Prop}(I:Inv X UI σ H s)(hN:X.N.Nodup)(hi:X.N[i]?=some x)(hx:Loc X.env.scope x)(r:RelV v u)(h:∀s',Inv X UI (σ.set i (some v)) H s'->(∃a,Heap.SameBut a s.heap s'.heap/\(a=X.env.locals\/X.env.cells.lookup x=some a))->Q () s')(hf:X.fn x=true\/X.env.scope.names.lookup x=some .local:=by first|exact .inl rfl|exact .inr rfl|assumption):wpAny M A (storeName X.env x u) Q E s:=by
 obtain⟨m,hn,hl⟩:=id I.loc;have hcls:(X.env.scope.kind==.class||(X.env.scope.kind==.module&&X.env.locals != X.env.globals))=false:=by rw[I.ok.kind];rfl
 have hiσ:i<σ.length:=by rw[I.len];exact(List.getElem?_eq_some_iff.mp hi).1
 have LG:=I.LG;have tracked:∀{a:Addr}{h':Heap},(∃o,s.heap.get? a=some o/\H a=none)->Heap.SameBut a s.heap h'->gy X.prog X.w H h':=λ{a h'} ha hs b ob e=>by
  obtain⟨_,_,hfree⟩:=ha;refine(I.aZ b ob e).zj (λc w' hc q=>(hs.2 c ?_).trans q) (λ_ q=>q) λ_ _ q=>q;rintro rfl;rcases hc with rfl|hc
  ·rw[hfree] at e;cases e
  ·rw[hfree] at hc;cases hc
 rcases hx with hk|hk
 ·refine wpAny_storeName_local hk hn (λh' hn' hs=>?_) hcls;obtain⟨oL,_,_,hoL,_⟩:=id hn;refine h _ ⟨I.ok,I.os,I.bare,⟨λb o e n hb hx=>?_,λb o e n hb hx=>?_,I.base.free,λb o e hx=>?_,I.base.pz,I.base.nY,I.base.pE⟩,⟨_,hn',λj y v' e1 e2 e3=>?_⟩,λy c e=>?_,I.free,I.fz,λp hp=>?_,tracked ⟨oL,hoL,I.free⟩ hs,by simpa using I.len⟩ ⟨_,hs,.inl rfl⟩
  ·exact(hs.2 b (Nat.ne_of_lt (Nat.lt_of_lt_of_le (Heap.lt_size e) I.ok.above))).trans (I.base.keep b o e n hb hx)
  ·obtain⟨sl,e1⟩:=I.base.slot b o e n hb hx;exact⟨sl,(hs.2 b (Nat.ne_of_lt (Nat.lt_of_lt_of_le (Heap.lt_size e) I.ok.above))).trans e1⟩
  ·obtain⟨o',e1⟩:=I.base.there b o e hx;exact⟨o',(hs.2 b (Nat.ne_of_lt (Nat.lt_of_lt_of_le (Heap.lt_size e) I.ok.above))).trans e1⟩
  ·by_cases hj:j=i
   ·subst hj;rw[hi] at e1;cases e1;rw[List.getElem?_set_self hiσ] at e2;cases e2;exact⟨u,r,.inl ⟨hk,by simp⟩⟩
   ·rw[List.getElem?_set_ne (Ne.symm hj)] at e2;obtain⟨u',r',q⟩:=hl j y v' e1 e2 e3;refine⟨u',r',?_⟩;rcases q with⟨k,e⟩|⟨k,c,e,z⟩
    ·refine .inl ⟨k,?_⟩;have:y≠x:=λe=>hj (qO hN e1 (e▸hi));simp[this,e]
    ·exact .inr ⟨k,c,e,z.sameBut hs (LG y c e)⟩
  ·obtain⟨w',z⟩:=I.cell y c e;exact⟨w',z.sameBut hs (LG y c e)⟩
  ·obtain⟨e,n,ne,nf,d⟩:=I.pin p hp;exact⟨(hs.2 p.1 ne).trans e,n,ne,nf,d⟩
 ·have hfn:X.fn x=true:=by
   rcases hf with z|z
   ·exact z
   ·rw[z] at hk;cases hk
  obtain⟨c,hc⟩:=I.ok.has x (.inl hk);obtain⟨w',z⟩:=I.cell x c hc;refine wpAny_storeName_cell I.ok.kind hk hc z (λh' hc' hs=>?_);obtain⟨oc,hoc,hocd⟩:=id z;refine h {s with heap:=h'} ⟨I.ok,I.os,I.bare,⟨λb o e n hb hx=>?_,λb o e n hb hx=>?_,I.base.free,λb o e hx=>?_,I.base.pz,I.base.nY,I.base.pE⟩,⟨m,hn.sameBut hs (Ne.symm (LG x c hc)),λj y v' e1 e2 e3=>?_⟩,λy c' e=>?_,I.free,I.fz,λp hp=>?_,tracked ⟨oc,hoc,I.fz x c hc⟩ hs,by simpa using I.len⟩ ⟨c,hs,.inr hc⟩
  ·exact(hs.2 b (Nat.ne_of_lt (Nat.lt_of_lt_of_le (Heap.lt_size e) (I.ok.MG x c hfn hc)))).trans (I.base.keep b o e n hb hx)
  ·obtain⟨sl,e1⟩:=I.base.slot b o e n hb hx;exact⟨sl,(hs.2 b (Nat.ne_of_lt (Nat.lt_of_lt_of_le (Heap.lt_size e) (I.ok.MG x c hfn hc)))).trans e1⟩
  ·obtain⟨o',e1⟩:=I.base.there b o e hx;exact⟨o',(hs.2 b (Nat.ne_of_lt (Nat.lt_of_lt_of_le (Heap.lt_size e) (I.ok.MG x c hfn hc)))).trans e1⟩
  ·by_cases hj:j=i
   ·subst hj;rw[hi] at e1;cases e1;rw[List.getElem?_set_self hiσ] at e2;cases e2;exact⟨u,r,.inr ⟨.inl hk,c,hc,hc'⟩⟩
   ·rw[List.getElem?_set_ne (Ne.symm hj)] at e2;obtain⟨u',r',q⟩:=hl j y v' e1 e2 e3;refine⟨u',r',?_⟩;rcases q with q|⟨k,c',e,z'⟩
    ·exact .inl q
    ·refine .inr ⟨k,c',e,z'.sameBut hs ?_⟩;rintro rfl;exact hj (qO hN e1 (I.ok.inj _ _ _ e hc▸hi))
  ·by_cases hcc:c'=c
   ·subst hcc;exact⟨_,hc'⟩
   ·obtain⟨w2,z2⟩:=I.cell y c' e;exact⟨w2,z2.sameBut hs hcc⟩
  ·obtain⟨e,n,ne,nf,d⟩:=I.pin p hp;refine⟨(hs.2 p.1 ?_).trans e,n,ne,nf,d⟩;intro q;rw[q,hoc] at e;have q':oc=p.2:=Option.some.inj e;exact d w' (by rw[<-q'];exact hocd)
theorem kQ{M:Model}{i:Nat}{v:V}{Q:Unit->Shared->Prop}(I:Inv X UI σ H s)(hN:X.N.Nodup)(hi:X.N[i]?=some x)(hx:Loc X.env.scope x)(r:RelV v u)(h:∀s',Inv X UI (σ.set i (some v)) H s'->Q () s')(hf:X.fn x=true\/X.env.scope.names.lookup x=some .local:=by first|exact .inl rfl|exact .inr rfl|assumption):wpAny M A (storeName X.env x u) Q E s:=
 Ez I hN hi hx r (λs' I' _=>h s' I') hf
theorem Inv.Mb{s':Shared}{ch:List Addr}(I:Inv X UI σ H s)(ho:s'.os=s.os)(u:Un (k7 X.stack) ch H H' s.heap s'.heap)(aZ:gy X.prog X.w H' s'.heap)(hg:AllBare s'.gens)(hch:∀b∈ch,(b∈X.ex\/X.oq.heap.objs.size<=b)/\b≠X.env.locals/\(∀x c,X.env.cells.lookup x=some c->c≠b)/\∀p∈X.pn++UI,p.1≠b):Inv X UI σ H' s':=by obtain⟨h',g',d',t',o'⟩:=s';have e:o'=s.os:=ho;subst e;exact I.call (g':=g') (t':=t') (d':=d') u aZ hg hch
end
abbrev XK:=Value->Option Addr->Hp->Prop
abbrev St:=List (Option V)
abbrev VK:=V->Hp->Prop
abbrev TE:=St->Hp->VK->Prop
abbrev TT:=St->Hp->(Bool->Hp->Prop)->Prop
abbrev TA:=St->Hp->(List V->Hp->Prop)->Prop
structure Ends where
 nx:St->Hp->Prop
 rt:VK
 bk:St->Hp->Prop:=λ_ _=>False
 ct:St->Hp->Prop:=λ_ _=>False
abbrev TS:=Ends->St->Hp->Prop
inductive EP(X:Cx)(UI:List (Addr×Obj))(σ:St)(Q:VK)(u:Value)(s':Shared):Prop
 |mk(v:_) (H':_) (_:Inv X UI σ H' s') (_:RelV v u) (_:Q v H')
inductive TP(X:Cx)(UI:List (Addr×Obj))(σ:St)(Q:Bool->Hp->Prop)(b:Bool)(s':Shared):Prop
 |mk(H':_) (_:Inv X UI σ H' s') (_:Q b H')
inductive AP(X:Cx)(UI:List (Addr×Obj))(σ:St)(Q:List V->Hp->Prop)(us:List Value)(s':Shared):Prop
 |mk(vs:_) (H':_) (_:Inv X UI σ H' s') (_:Vals vs us) (_:Q vs H')
def SP(X:Cx)(UI:List (Addr×Obj))(D:Ends)(f:Flow)(s':Shared):Prop:=
 match f with
 | .next=>∃σ' H',Inv X UI σ' H' s'/\D.nx σ' H'
 | .brk=>∃σ' H',Inv X UI σ' H' s'/\D.bk σ' H'
 | .cont=>∃σ' H',Inv X UI σ' H' s'/\D.ct σ' H'
 | .ret u=>∃v σ' H',Inv X UI σ' H' s'/\RelV v u/\D.rt v H'
def PE(X:Cx)(e:Expr)(t:TE):Prop:=
 ∀(UI:List (Addr×Obj))(s:Shared)(σ:St)(H:Hp)(Q:VK),Inv X UI σ H s->t σ H Q->wpAny (model X.prog X.w) X.A (eval e X.env) (EP X UI σ Q) X.xe s
def PT(X:Cx)(e:Expr)(t:TT):Prop:=
 ∀(UI:List (Addr×Obj))(s:Shared)(σ:St)(H:Hp)(Q:Bool->Hp->Prop),Inv X UI σ H s->t σ H Q->wpAny (model X.prog X.w) X.A (isTrue e X.env (eval e X.env)) (TP X UI σ Q) X.xe s
def PW(X:Cx)(e:Expr)(t:TT):Prop:=
 ∀(whole:Sem Value)(UI:List (Addr×Obj))(s:Shared)(σ:St)(H:Hp)(Q:Bool->Hp->Prop),Inv X UI σ H s->t σ H Q->wpAny (model X.prog X.w) X.A (isTrue e X.env whole) (TP X UI σ Q) X.xe s
theorem PW.pt{X:Cx}{e:Expr}{t:TT}(h:PW X e t):PT X e t:=h _
def PA(X:Cx)(es:List Expr)(t:TA):Prop:=
 ∀(pos:Pos)(UI:List (Addr×Obj))(s:Shared)(σ:St)(H:Hp)(Q:List V->Hp->Prop),Inv X UI σ H s->t σ H Q->wpAny (model X.prog X.w) X.A (spliced (backTo pos (starEach es X.env))) (AP X UI σ Q) X.xe s
def PS(X:Cx)(st:Stmt)(t:TS):Prop:=
 ∀(UI:List (Addr×Obj))(s:Shared)(σ:St)(H:Hp)(D:Ends),Inv X UI σ H s->t D σ H->wpAny (model X.prog X.w) X.A (exec st X.env) (SP X UI D) X.xe s
def so(X:Cx)(st:List Stmt)(t:TS):Prop:=
 ∀(UI:List (Addr×Obj))(s:Shared)(σ:St)(H:Hp)(D:Ends),Inv X UI σ H s->t D σ H->wpAny (model X.prog X.w) X.A (execs st X.env) (SP X UI D) X.xe s
theorem br{α:Type}{t:Sem α}{Q Q':α->Shared->Prop}{M:Model}(h:wpAny M A t Q E s)(hQ:∀a s,Q a s->Q' a s):wpAny M A t Q' E s:=wpAny_mono h hQ λ_ _ x=>x
section
variable{X:Cx}
inductive Ro(o:Option (Option V))(Q:VK)(H:Hp):Prop
 |mk(v:V) (_:o=some (some v)) (_:Q v H)
def dc(i:Nat):TE:=λσ H Q=>Ro σ[i]? Q H
def tC(v:V):TE:=λ_ H Q=>Q v H
theorem FD{i:Nat}{pos:Pos}(hN:X.N[i]?=some x)(hv:NC X.env.scope x)(hd:(x==("__debug__":Str))=false:=by decide)(hcd:(x==("__classdict__":Str))=false:=by decide):PE X (.Name x pos) (dc i):=by
 intro UI s σ H Q I h;obtain⟨v,e,h⟩:=h;obtain⟨m,hn,hl⟩:=I.loc;obtain⟨u,r,l⟩:=hl i x v hN e hv;have fin:EP X UI σ Q u s:=⟨v,H,I,r,h⟩
 rcases l with⟨hk,hm⟩|⟨hk,c,hc,hcell⟩
 ·exact wpAny_Name (wpAny_loadName_local I.ok.kind hk hn hm fin) hd
 ·rcases hk with hk|hk
  ·exact wpAny_Name (wpAny_loadName_cell I.ok.kind hk hc hcell fin) hd
  ·exact wpAny_Name (wpAny_loadName_free I.ok.kind hk hc hcell fin hcd) hd
theorem aw{i j pos}:PE X (.Constant (.int i) j pos) (tC (.int i)):=λ_ _ _ H _ I h=>wpAny_Constant_int ⟨.int i,H,I.tok _,⟨_,rfl⟩,h⟩
theorem Jq{b j pos}:PE X (.Constant (.bool b) j pos) (tC (.bl b)):=λ_ _ _ H _ I h=>Constant_bool ⟨.bl b,H,I,rfl,h⟩
theorem A2{j pos}:PE X (.Constant .none j pos) (tC .bF):=λ_ _ _ H _ I h=>Constant_none ⟨.bF,H,I,rfl,h⟩
theorem bN{x j pos}:PE X (.Constant (.str x) j pos) (tC (.str x)):=λ_ _ _ H _ I h=>Calls.Constant_str ⟨.str x,H,I.tok _,⟨_,rfl⟩,h⟩
def Gl(X:Cx)(x:Str):Prop:=X.env.kindOf x=some .globalImplicit
theorem dD{pos:Pos}(I:Inv X UI σ H s)(hg:Gl X x)(hm:X.mg x=some u)(h:Q u s)(hd:(x==("__debug__":Str))=false:=by decide):wpAny (model X.prog X.w) X.A (eval (.Name x pos) X.env) Q E s:=
 Calls.Name_function_global I.ok.kind hg (Calls.loadGlobal_global (by rw[I.ok.glob];exact I.mod.glob.keeps I.bk) hm h) hd
theorem xh{pos:Pos}(I:Inv X UI σ H s)(hg:Gl X x)(hm:X.mg x=none)(hv:bootBuiltins x=some u)(h:Q u s)(hn:x≠"__name__":=by decide)(hd:(x==("__debug__":Str))=false:=by decide):wpAny (model X.prog X.w) X.A (eval (.Name x pos) X.env) Q E s:=by obtain⟨mb,h1,h2⟩:=I.mod.blt;exact Calls.Name_function_global I.ok.kind hg (Calls.loadGlobal_builtin (by rw[I.ok.glob];exact I.mod.glob.keeps I.bk) hm (by rw[I.ok.blt];exact h1.keeps I.bk) ((h2 x hn).trans hv) h) hd
theorem xP{v:V}{pos:Pos}(hg:Gl X x)(hm:X.mg x=some u)(r:RelV v u)(hd:(x==("__debug__":Str))=false:=by decide):PE X (.Name x pos) (tC v):=
 λ_ _ _ H _ I h=>dD I hg hm ⟨v,H,I,r,h⟩ hd
theorem CV{v:V}{pos:Pos}(hg:Gl X x)(hm:X.mg x=none)(hv:bootBuiltins x=some u)(r:RelV v u)(hn:x≠"__name__":=by decide)(hd:(x==("__debug__":Str))=false:=by decide):PE X (.Name x pos) (tC v):=
 λ_ _ _ H _ I h=>xh I hg hm hv ⟨v,H,I,r,h⟩ hn hd
variable{a b:Expr}{ta tb:TE}{pos:Pos}
def PC(X:Cx)(op:CmpOp)(a b:Expr)(t:TE):Prop:=
 ∀(UI:List (Addr×Obj))(s:Shared)(σ:St)(H:Hp)(Q:VK),Inv X UI σ H s->t σ H Q->
  wpAny (model X.prog X.w) X.A (eval a X.env) (λv s₁=>wpAny (model X.prog X.w) X.A (eval b X.env) (λu s₂=>wpAny (model X.prog X.w) X.A (compareOp op v u) (EP X UI σ Q) X.xe s₂) X.xe s₁) X.xe s
def tB(t:TE):TT:=λσ H Q=>t σ H λx H1=>∃c,x= .bl c/\Q c H1
theorem IV{op:CmpOp}{t:TE}(h:PC X op a b t)(h1:behindInMarks op b=false:=by first|exact Qw _ ↑0 (↑0)|rfl):PT X (.Compare a [op] [b] pos) (tB t):=by intro UI s σ H Q I hw;refine wpAny_isTrue_Compare1 (br (h UI s σ H _ I hw) λv s1 h1=>br h1 λu s2 h2=>br h2 λc s3 ⟨x,H1,I1,r1,q1⟩=>?_) h1;obtain⟨d,rfl,q⟩:=q1;cases r1;exact wpAny_truthy_bool ⟨H1,I1,q⟩
theorem dq{e:Expr}{t:TE}(h:PE X e t)(he:∀whole,isTrue e X.env whole=(do let v<-whole;standAt e.pos;holding [v] (truthy v)):=by intro _;rfl):PT X e (tB t):=by intro UI s σ H Q I hw;refine isTrue_plain (br (h UI s σ H _ I hw) λv s1 ⟨x,H1,I1,r1,q1⟩=>?_) (he _);obtain⟨d,rfl,q⟩:=q1;cases r1;exact wpAny_truthy_bool ⟨H1,I1,q⟩
variable{tA tB':TT}{rest:List Expr}
def Ti(t u:TT):TT:=λσ H Q=>t σ H λc H1=>if c=true then u σ H1 Q else Q false H1
def Sr(t u:TT):TT:=λσ H Q=>t σ H λc H1=>if c=true then Q true H1 else u σ H1 Q
def TM(t:TT):TT:=λσ H Q=>t σ H λc H1=>Q (!c) H1
theorem i6(ha:PT X a tA):PW X (.BoolOp .And [a] pos) tA:=by
 intro wh UI s σ H Q I h;refine isTrue_and (br (ha UI s σ H Q I h) λc s1 e=>?_);cases c with
 |true=>exact isTrue_and_nil e
 |false=>exact e
theorem Jm(ha:PT X a tA):PW X (.BoolOp .Or [a] pos) tA:=by
 intro wh UI s σ H Q I h;refine isTrue_or (br (ha UI s σ H Q I h) λc s1 e=>?_);cases c with
 |false=>exact isTrue_or_nil e
 |true=>exact e
theorem nA(ha:PT X a tA)(hb:PW X (.BoolOp .And (b::rest) pos) tB'):PW X (.BoolOp .And (a::b::rest) pos) (Ti tA tB'):=by
 intro wh UI s σ H Q I h;refine isTrue_and (br (ha UI s σ H _ I h) λc s1 ⟨H1,I1,q1⟩=>?_);cases c with
 |true=>exact hb wh UI s1 σ H1 Q I1 q1
 |false=>exact⟨H1,I1,q1⟩
theorem L5(ha:PT X a tA)(hb:PW X (.BoolOp .Or (b::rest) pos) tB'):PW X (.BoolOp .Or (a::b::rest) pos) (Sr tA tB'):=by
 intro wh UI s σ H Q I h;refine isTrue_or (br (ha UI s σ H _ I h) λc s1 ⟨H1,I1,q1⟩=>?_);cases c with
 |true=>exact⟨H1,I1,q1⟩
 |false=>exact hb wh UI s1 σ H1 Q I1 q1
theorem F_(ha:PT X a tA):PT X (.UnaryOp .Not a pos) (TM tA):=by intro UI s σ H Q I h;exact isTrue_not (br (ha UI s σ H (λc H1=>Q (!c) H1) I h) λ_ _ ⟨H1,I1,q⟩=>⟨H1,I1,q⟩)
def DO(ta tb:TE):TE:=λσ H Q=>ta σ H λx H1=>∃c,x= .bl c/\if c=true then tb σ H1 Q else Q (.bl false) H1
def Ta(ta tb:TE):TE:=λσ H Q=>ta σ H λx H1=>∃c,x= .bl c/\if c=true then Q (.bl true) H1 else tb σ H1 Q
def L7(ta:TE):TE:=λσ H Q=>ta σ H λx H1=>∃c,x= .bl c/\Q (.bl (!c)) H1
theorem gH{op}{t:TE}(h:PE X a t):PE X (.BoolOp op [a] pos) t:=λUI s σ H Q I hw=>BoolOp_one (h UI s σ H Q I hw)
theorem rT(ha:PE X a ta)(hb:PE X (.BoolOp .And (b::rest) pos) tb):PE X (.BoolOp .And (a::b::rest) pos) (DO ta tb):=by
 intro UI s σ H Q I h;refine BoolOp_and (br (ha UI s σ H _ I h) λv s1 ⟨x,H1,I1,r1,q1⟩=>?_);obtain⟨c,rfl,q1⟩:=q1;cases r1;refine wpAny_truthy_bool ?_;cases c with
 |true=>exact hb UI s1 σ H1 Q I1 q1
 |false=>exact⟨.bl false,H1,I1,rfl,q1⟩
theorem zf(ha:PE X a ta)(hb:PE X (.BoolOp .Or (b::rest) pos) tb):PE X (.BoolOp .Or (a::b::rest) pos) (Ta ta tb):=by
 intro UI s σ H Q I h;refine BoolOp_or (br (ha UI s σ H _ I h) λv s1 ⟨x,H1,I1,r1,q1⟩=>?_);obtain⟨c,rfl,q1⟩:=q1;cases r1;refine wpAny_truthy_bool ?_;cases c with
 |false=>exact hb UI s1 σ H1 Q I1 q1
 |true=>exact⟨.bl true,H1,I1,rfl,q1⟩
theorem Om(ha:PE X a ta):PE X (.UnaryOp .Not a pos) (L7 ta):=by intro UI s σ H Q I h;refine UnaryOp_ (br (ha UI s σ H _ I h) λv s1 ⟨x,H1,I1,r1,q1⟩=>?_);obtain⟨c,rfl,q1⟩:=q1;cases r1;exact not_of (wpAny_truthy_bool ⟨.bl (!c),H1,I1,rfl,q1⟩)
def UB(t:TT)(ta tb:TE):TE:=λσ H Q=>t σ H λc H1=>if c=true then ta σ H1 Q else tb σ H1 Q
theorem lz{c:Expr}(hc:PT X c tA)(ha:PE X a ta)(hb:PE X b tb):PE X (.IfExp c a b pos) (UB tA ta tb):=by
 intro UI s σ H Q I h;refine wpAny_IfExp (br (hc UI s σ H _ I h) λd s1 ⟨H1,I1,q1⟩=>?_);cases d with
 |true=>exact ha UI s1 σ H1 Q I1 q1
 |false=>exact hb UI s1 σ H1 Q I1 q1
end
def bf(K:Frag)(H:Hp)(a:Addr)(xs:List V):Prop:=
 Rd H a (.lst xs)\/
  ∃(o:Obj)(its:Array Value)(n:Nat),K.lookup a=some o/\o.cls= .type "list"/\o.dict=none/\o.data= .seq its n/\its.size<=sizeLine/\Vals xs its.toList
def fE(K:Frag)(H:Hp)(a:Addr)(xs:List V):Prop:=
 Rd H a (.tup xs)\/
  ∃(o:Obj)(its:Array Value)(n:Nat),K.lookup a=some o/\o.cls= .type "tuple"/\o.data= .seq its n/\its.size<=sizeLine/\Vals xs its.toList
def Tw:Value->Option V
 | .none=>some .bF
 | .bool b=>some (.bl b)
 | .int i _=>some (.int i)
 | .str x _=>some (.str x)
 | .bytes b _=>some (.bW b)
 | .float b _=>some (.Ju b)
 | .ref a=>some (.ref a)
 | .type n=>some (.ty n)
 |_=>none
theorem RelV.abs{x:V}(r:RelV x u):Tw u=some x:=by
 cases x with
 |bF=>cases r;rfl
 |bl _=>cases r;rfl
 |int _=>obtain⟨t,rfl⟩:=r;rfl
 |str _=>obtain⟨t,rfl⟩:=r;rfl
 |bW _=>obtain⟨t,rfl⟩:=r;rfl
 |Ju _=>obtain⟨t,rfl⟩:=r;rfl
 |ref _=>cases r;rfl
 |ty _=>cases r;rfl
theorem RelV.inj{x y:V}(r:RelV x u)(q:RelV y u):x=y:=Option.some.inj (r.abs.symm.trans q.abs)
theorem Vals.inj:∀{xs ys:List V}{us:List Value},Vals xs us->Vals ys us->xs=ys
 |_,_,_,.nil,.nil=>rfl
 |_,_,_,.cons r t,.cons r' t'=>by rw[r.inj r',Vals.inj t t']
section
variable{X:Cx}{UI:List (Addr×Obj)}{σ:St}{H:Hp}{s:Shared}{a:Addr}{xs ys:List V}
theorem bf.of(h:H a=some (.lst xs)):bf K H a xs:=.inl (.inl h)
theorem fE.of(h:H a=some (.tup xs)):fE K H a xs:=.inl (.inl h)
theorem Inv.list(I:Inv X UI σ H s)(h:bf X.K H a xs):∃its:List Value,Vals xs its/\PlainL s.heap a its.toArray/\xs.length<=sizeLine:=by
 rcases h with h|⟨o,its,n,hk,hc,hd,hs,hz,r⟩
 ·obtain⟨z,its,n,r,e⟩:=h.ok I.aZ;exact⟨its,r,⟨_,n,e,rfl,rfl,rfl⟩,z⟩
 ·refine⟨its.toList,r,⟨o,n,I.dZ a o hk,hc,hd,by simpa using hs⟩,?_⟩;have e:=r.length;simp only[Array.length_toList] at e;omega
theorem Inv.tuple(I:Inv X UI σ H s)(h:fE X.K H a xs):∃its:List Value,Vals xs its/\IsTup s.heap a its.toArray/\xs.length<=sizeLine:=by
 rcases h with h|⟨o,its,n,hk,hc,hs,hz,r⟩
 ·obtain⟨z,its,r,p⟩:=h.ok I.aZ;exact⟨its,r,p,z⟩
 ·refine⟨its.toList,r,⟨o,I.dZ a o hk,hc,n,by simpa using hs⟩,?_⟩;have e:=r.length;simp only[Array.length_toList] at e;omega
theorem Inv.Jl(I:Inv X UI σ H s)(h:bf X.K H a xs)(h':bf X.K H a ys):xs=ys:=by
 obtain⟨its,r,⟨o,n,e,_,_,d⟩,_⟩:=I.list h;obtain⟨its',r',⟨o',n',e',_,_,d'⟩,_⟩:=I.list h';rw[e] at e';cases e';rw[d] at d';injection d' with d1 _
 have:its=its':=by simpa using congrArg Array.toList d1
 subst this;exact r.inj r'
theorem Inv.EM(I:Inv X UI σ H s)(h:fE X.K H a xs)(h':fE X.K H a ys):xs=ys:=by
 obtain⟨its,r,⟨o,e,_,n,d⟩,_⟩:=I.tuple h;obtain⟨its',r',⟨o',e',_,n',d'⟩,_⟩:=I.tuple h';rw[e] at e';cases e';rw[d] at d';injection d' with d1 _
 have:its=its':=by simpa using congrArg Array.toList d1
 subst this;exact r.inj r'
end
abbrev Cx.ki(X:Cx)(E:Value->Shared->Prop):Cx:={X with xe:=E}
abbrev Cx.Md(X:Cx):Cx:=X.ki λ_ _=>False
theorem Cx.Ok.ki{X:Cx}(ok:X.Ok)(E:Value->Shared->Prop):(X.ki E).Ok:=
 ⟨ok.mod,ok.kind,ok.glob,ok.blt,ok.above,ok.inj,ok.has,ok.MG,ok.hd,ok.frames,ok.N4,ok.Pj,ok.bs,ok.FC,ok.Cb,ok.Bl,ok.jq,ok.Jz⟩
theorem Cx.Ok.dM{X:Cx}(ok:(X.ki E).Ok):X.Ok:=
 ⟨ok.mod,ok.kind,ok.glob,ok.blt,ok.above,ok.inj,ok.has,ok.MG,ok.hd,ok.frames,ok.N4,ok.Pj,ok.bs,ok.FC,ok.Cb,ok.Bl,ok.jq,ok.Jz⟩
section
variable{X:Cx}{UI:List (Addr×Obj)}{σ:St}{H:Hp}{s:Shared}{E:Value->Shared->Prop}
theorem Inv.ki(I:Inv X UI σ H s)(E:Value->Shared->Prop):Inv (X.ki E) UI σ H s:=⟨I.ok.ki E,I.os,I.bare,I.base,I.loc,I.cell,I.free,I.fz,I.pin,I.aZ,I.len⟩
theorem Inv.dM(I:Inv (X.ki E) UI σ H s):Inv X UI σ H s:=⟨I.ok.dM,I.os,I.bare,I.base,I.loc,I.cell,I.free,I.fz,I.pin,I.aZ,I.len⟩
theorem SP.dM{D:Ends}{f:Flow}{s':Shared}(h:SP (X.ki E) UI D f s'):SP X UI D f s':=by
 cases f with
 |next=>obtain⟨σ',H',I,q⟩:=h;exact⟨σ',H',I.dM,q⟩
 |brk=>obtain⟨σ',H',I,q⟩:=h;exact⟨σ',H',I.dM,q⟩
 |cont=>obtain⟨σ',H',I,q⟩:=h;exact⟨σ',H',I.dM,q⟩
 |ret u=>obtain⟨v,σ',H',I,r,q⟩:=h;exact⟨v,σ',H',I.dM,r,q⟩
theorem so.Md{st:List Stmt}{t:TS}(h:so X.Md st t):so X st t:=λUI s σ H D I hw=>
 wpAny_mono (h UI s σ H D (I.ki _) hw) (λ_ _ q=>q.dM) λ_ _ z=>False.elim z
end
section
variable{X:Cx}{st:Stmt}{rest:List Stmt}{t u:TS}{e:Expr}{te:TE}{pos:Pos}
def zG:TS:=λD σ H=>D.nx σ H
def Cd(t u:TS):TS:=λD σ H=>t {D with nx:=u D} σ H
theorem aL:so X [] zG:=λ_ _ σ H _ I h=>wpAny_execs_nil ⟨σ,H,I,h⟩
theorem aj(h1:PS X st t)(h2:so X rest u):so X (st::rest) (Cd t u):=by
 intro UI s σ H D I h;refine wpAny_execs_cons (br (h1 UI s σ H {D with nx:=u D} I h) λf s1 q=>?_);cases f with
 |next=>
  obtain⟨σ',H',I',q⟩:=q;exact h2 UI s1 σ' H' D I' q
 |ret v=>exact q
 |brk=>exact q
 |cont=>exact q
theorem ai(h1:PS X st t):so X [st] t:=by
 intro UI s σ H D I h;refine wpAny_execs_cons (br (h1 UI s σ H D I h) λf s1 q=>?_);cases f with
 |next=>exact wpAny_execs_nil q
 |ret v=>exact q
 |brk=>exact q
 |cont=>exact q
theorem Inv.quiet(I:Inv X UI σ H s):interactive X.env=false:=by simp[interactive,I.ok.kind]
def Pu(te:TE):TS:=λD σ H=>te σ H λ_ H1=>D.nx σ H1
theorem aS(he:PE X e te)(hs:swapsWith e none pos.line X.env=pure false:=by rfl):PS X (.Expr e pos) (Pu te):=by intro UI s σ H D I h;exact wpAny_Expr_any (br (he UI s σ H _ I h) λv s1 ⟨x,H1,I1,r1,q1⟩=>⟨σ,H1,I1,q1⟩) I.quiet hs
def pC(te:TE):TS:=λD σ H=>te σ H D.rt
theorem aC(he:PE X e te):PS X (.Return (some e) pos) (pC te):=by intro UI s σ H D I h;exact wpAny_Return_some (br (he UI s σ H _ I h) λv s1 ⟨x,H1,I1,r1,q1⟩=>⟨x,σ,H1,I1,r1,q1⟩)
def Jb(c:TT)(t u:TS):TS:=λD σ H=>c σ H λb H1=>if b=true then t D σ H1 else u D σ H1
theorem aR{c:Expr}{a b:List Stmt}{tc:TT}(hc:PT X c tc)(ha:so X a t)(hb:so X b u):PS X (.If c a b pos) (Jb tc t u):=by
 intro UI s σ H D I h;refine wpAny_If (br (hc UI s σ H _ I h) λd s1 ⟨H1,I1,q1⟩=>?_);cases d with
 |true=>exact ha UI s1 σ H1 D I1 q1
 |false=>exact hb UI s1 σ H1 D I1 q1
end
abbrev TG:=V->St->Hp->(St->Hp->Prop)->Prop
abbrev Nc:=List V->St->Hp->(St->Hp->Prop)->Prop
def PG(X:Cx)(target:Expr)(t:TG):Prop:=
 ∀(UI:List (Addr×Obj))(s:Shared)(σ:St)(H:Hp)(v:V)(u:Value)(Q:St->Hp->Prop),Inv X UI σ H s->RelV v u->t v σ H Q->
  wpAny (model X.prog X.w) X.A (assign target X.env u) (λ_ s'=>∃σ' H',Inv X UI σ' H' s'/\Q σ' H') X.xe s
def Sb(X:Cx)(ts:List Expr)(t:Nc):Prop:=
 ∀(UI:List (Addr×Obj))(s:Shared)(σ:St)(H:Hp)(vs:List V)(us:List Value)(Q:St->Hp->Prop),Inv X UI σ H s->Vals vs us->t vs σ H Q->
  wpAny (model X.prog X.w) X.A (assignInOrder ((assignEach ts X.env).map (·.2)) us) (λ_ s'=>∃σ' H',Inv X UI σ' H' s'/\Q σ' H') X.xe s
abbrev HQ:=V->V->V->Hp->(Hp->Prop)->Prop
def Ow(X:Cx)(t:HQ):Prop:=
 ∀(UI:List (Addr×Obj))(s:Shared)(σ:St)(H:Hp)(o i v:V)(ov iv u:Value)(Q:Hp->Prop),Inv X UI σ H s->RelV o ov->RelV i iv->RelV v u->t o i v H Q->
  wpAny (model X.prog X.w) X.A (setItem ov iv u) (λ_ s'=>∃H',Inv X UI σ H' s'/\Q H') X.xe s
abbrev Pg:=V->V->Hp->VK->Prop
def Sa(X:Cx)(op:Operator)(t:Pg):Prop:=
 ∀(UI:List (Addr×Obj))(s:Shared)(σ:St)(H:Hp)(x y:V)(v u:Value)(Q:VK),Inv X UI σ H s->RelV x v->RelV y u->t x y H Q->
  wpAny (model X.prog X.w) X.A (inplaceOp op v u) (EP X UI σ Q) X.xe s
section
variable{X:Cx}{pos:Pos}
def LF(i:Nat):TG:=λv σ H Q=>Q (σ.set i (some v)) H
theorem fN{i:Nat}(hN:X.N.Nodup)(hi:X.N[i]?=some x)(hx:Loc X.env.scope x)(hf:X.fn x=true\/X.env.scope.names.lookup x=some .local:=by first|exact .inl rfl|exact .inr rfl|assumption):PG X (.Name x pos) (LF i):=by intro UI s σ H v u Q I r h;exact wpAny_assign_Name (kQ I hN hi hx r (λs' I'=>⟨_,H,I',h⟩) hf)
def TJ:Nc:=λvs σ H Q=>vs=[]/\Q σ H
def Pq(t:TG)(u:Nc):Nc:=λvs σ H Q=>∃v r,vs=v::r/\t v σ H λσ' H'=>u r σ' H' Q
theorem J5:Sb X [] TJ:=by intro UI s σ H vs us Q I r h;obtain⟨e,h⟩:=h;subst e;cases r;exact assignInOrder_nil ⟨σ,H,I,h⟩
theorem zi{e:Expr}{es:List Expr}{t:TG}{u:Nc}(h1:PG X e t)(h2:Sb X es u)(hs:(assignEach (e::es) X.env).map (·.2)=assign e X.env::(assignEach es X.env).map (·.2):=by rfl):Sb X (e::es) (Pq t u):=by
 intro UI s σ H vs us Q I r h;obtain⟨v,vr,e1,h⟩:=h;subst e1;cases r with
 |cons r rr=>
  rw[hs];refine assignInOrder_cons (br (h1 UI s σ H _ _ _ I r h) λ_ s1 ⟨σ1,H1,I1,q1⟩=>?_);exact h2 UI s1 σ1 H1 _ _ Q I1 rr q1
def S2(K:Frag)(n:Nat)(t:Nc):TG:=λv σ H Q=>∃a xs,v= .ref a/\fE K H a xs/\xs.length=n/\t xs σ H Q
theorem Oz{es:List Expr}{k:Nat}{t:Nc}{n:Nat}(hc:X.calm=true)(h:Sb X es t)(hn:(assignEach es X.env).length=n:=by rfl)(hst:(assignEach es X.env).findIdx? (·.1)=none:=by rfl):PG X (.Tuple es k pos) (S2 X.K n t):=by intro UI s σ H v u Q I r hw;obtain⟨a,xs,e1,hq,hl,hw⟩:=hw;subst e1;cases r;obtain⟨its,rv,ht,hz⟩:=I.tuple hq;refine assign_Tuple_tuple (I.ok.hd hc) ht (by simp[hn,<-hl,rv.length]) hst λh' hx=>?_;have I1:Inv X UI σ H {s with heap:=h'}:=I.kept (t':=s.toks) λb o e=>hx b o (Nat.ne_of_lt (Heap.lt_size e)) e;exact h UI _ σ H xs _ Q I1 (by simpa using rv) hw
def SF(to ti:TE)(t:HQ):TG:=λv σ H Q=>to σ H λo H1=>ti σ H1 λi H2=>t o i v H2 λH3=>Q σ H3
theorem Nm{o i:Expr}{to ti:TE}{t:HQ}(ho:PE X o to)(hi:PE X i ti)(hs:Ow X t)(ha:∀v,assign (.Subscript o i pos) X.env v=(do
   let ov<-holding [v] (eval o X.env)
   let iv<-holding [v,ov] (eval i X.env)
   standAt pos
   holding [v,ov,iv] (setItem ov iv v)
   release [v,ov,iv] []):=by intro _;rfl):PG X (.Subscript o i pos) (SF to ti t):=by
 intro UI s σ H v u Q I r h;rw[ha];refine wpAny_bind (wpAny_holding (br (ho UI s σ H _ I h) λov s1 ⟨x,H1,I1,r1,q1⟩=>?_));refine wpAny_bind (wpAny_holding (br (hi UI s1 σ H1 _ I1 q1) λiv s2 ⟨y,H2,I2,r2,q2⟩=>?_));refine wpAny_bind (wpAny_standAt (wpAny_bind (wpAny_holding (br (hs UI s2 σ H2 x y v ov iv u _ I2 r1 r2 r q2) λ_ s3 ⟨H3,I3,q3⟩=>?_))));exact wpAny_release ⟨σ,H3,I3,q3⟩
def Pn(te:TE)(g:TG):TS:=λD σ H=>te σ H λx H1=>g x σ H1 D.nx
theorem Mf{tg e:Expr}{te:TE}{g:TG}(he:PE X e te)(hg:PG X tg g)(hs:swapsWithSole [tg] e pos.line X.env=pure false:=by rfl)(hw:swappedStores [tg] e X.env=pure none:=by rfl)(h1:(assignEach [tg] X.env).map (·.2)=[assign tg X.env]:=by rfl):PS X (.Assign [tg] e pos) (Pn te g):=by intro UI s σ H D I h;refine wpAny_Assign_stores (br (he UI s σ H _ I h) λv s1 ⟨x,H1,I1,r1,q1⟩=>?_) hs hw;rw[h1];exact br (hg UI s1 σ H1 x v _ I1 r1 q1) λ_ s2 q=>q
theorem aN{i:Nat}{e:Expr}{te:TE}{pos':Pos}(hN:X.N.Nodup)(hi:X.N[i]?=some x)(hx:Loc X.env.scope x)(he:PE X e te)(hs:swapsWith e (some (.Name x pos')) pos.line X.env=pure false:=by rfl)(hf:X.fn x=true\/X.env.scope.names.lookup x=some .local:=by first|exact .inl rfl|exact .inr rfl|assumption):
  PS X (.Assign [.Name x pos'] e pos) (Pn te (LF i)):=by
 intro UI s σ H D I h;refine wpAny_Assign_Name (br (he UI s σ H _ I h) λv s1 ⟨y,H1,I1,r1,q1⟩=>?_) hs;exact kQ I1 hN hi hx r1 (λs2 I2=>⟨_,H1,I2,q1⟩) hf
def S_(i:Nat)(te:TE)(ti:Pg):TS:=λD σ H=>∃x,σ[i]?=some (some x)/\te σ H λy H1=>ti x y H1 λz H2=>D.nx (σ.set i (some z)) H2
theorem ip{i:Nat}{e:Expr}{te:TE}{op:Operator}{ti:Pg}{pos':Pos}(hN:X.N.Nodup)(hi:X.N[i]?=some x)(hx:Loc X.env.scope x)(he:PE X e te)(ho:Sa X op ti)(hf:X.fn x=true\/X.env.scope.names.lookup x=some .local:=by first|exact .inl rfl|exact .inr rfl|assumption):
  PS X (.AugAssign (.Name x pos') op e pos) (S_ i te ti):=by
 intro UI s σ H D I h;obtain⟨v,e1,h⟩:=h;obtain⟨m,hn,hl⟩:=I.loc;have vis:NC X.env.scope x:=by rcases hx with k|k;exact .inl k;exact .inr (.inl k)
 obtain⟨u,r,l⟩:=hl i x v hi e1 vis;refine wpAny_AugAssign_Name ?_;have go:wpAny (model X.prog X.w) X.A (eval e X.env) (λw s₂=>wpAny (model X.prog X.w) X.A (inplaceOp op u w) (λr s₃=>wpAny (model X.prog X.w) X.A (storeName X.env x r) (λ_=>SP X UI D .next) X.xe s₃) X.xe s₂) X.xe s:=by
  refine br (he UI s σ H _ I h) λw s1 ⟨y,H1,I1,r1,q1⟩=>?_;refine br (ho UI s1 σ H1 v y u w _ I1 r r1 q1) λz s2 ⟨zv,H2,I2,r2,q2⟩=>?_;exact kQ I2 hN hi hx r2 (λs3 I3=>⟨_,H2,I3,q2⟩) hf
 rcases l with⟨hk,hm⟩|⟨hk,c,hc,hcell⟩
 ·exact wpAny_loadName_local I.ok.kind hk hn hm go
 ·rcases hk with hk|hk
  ·exact wpAny_loadName_cell I.ok.kind hk hc hcell go
  ·rcases hx with k|k
   ·have:X.env.scope.names.lookup x=some .free:=hk;rw[k] at this;cases this
   ·have:X.env.scope.names.lookup x=some .free:=hk;rw[k] at this;cases this
def LL(to ti te:TE)(tget:V->V->Hp->VK->Prop)(tip:Pg)(tset:HQ):TS:=λD σ H=>to σ H λo H1=>ti σ H1 λi H2=>tget o i H2 λx H3=>te σ H3 λy H4=>tip x y H4 λz H5=>tset o i z H5 λH6=>D.nx σ H6
def Qr(X:Cx)(t:V->V->Hp->VK->Prop):Prop:=
 ∀(UI:List (Addr×Obj))(s:Shared)(σ:St)(H:Hp)(o i:V)(ov iv:Value)(Q:VK),Inv X UI σ H s->RelV o ov->RelV i iv->t o i H Q->
  wpAny (model X.prog X.w) X.A (getItem ov iv) (EP X UI σ Q) X.xe s
theorem Ct{o i e:Expr}{to ti te:TE}{tget:V->V->Hp->VK->Prop}{tip:Pg}{tset:HQ}{op:Operator}{tpos:Pos}(ho:PE X o to)(hi:PE X i ti)(hg:Qr X tget)(he:PE X e te)(hp:Sa X op tip)(hs:Ow X tset)(ha:∀ov iv new,augStore i ov iv new=(do holding [new,ov,iv] (setItem ov iv new);release [new,ov,iv] [];pure .next):=by intros;rfl):PS X (.AugAssign (.Subscript o i tpos) op e pos) (LL to ti te tget tip tset):=by intro UI s σ H D I h;refine wpAny_AugAssign_SubscriptAny (br (ho UI s σ H _ I h) λov s1 ⟨x1,H1,I1,r1,q1⟩=>?_) ha;refine br (hi UI s1 σ H1 _ I1 q1) λiv s2 ⟨x2,H2,I2,r2,q2⟩=>?_;refine br (hg UI s2 σ H2 x1 x2 ov iv _ I2 r1 r2 q2) λold s3 ⟨x3,H3,I3,r3,q3⟩=>?_;refine br (he UI s3 σ H3 _ I3 q3) λv s4 ⟨x4,H4,I4,r4,q4⟩=>?_;refine br (hp UI s4 σ H4 x3 x4 old v _ I4 r3 r4 q4) λnew s5 ⟨x5,H5,I5,r5,q5⟩=>?_;exact br (hs UI s5 σ H5 x1 x2 x5 ov iv new _ I5 r1 r2 r5 q5) λ_ s6 ⟨H6,I6,q6⟩=>⟨σ,H6,I6,q6⟩
def Th(f:Int->Int->Int):Pg:=λx y H Q=>∃i j,x= .int i/\y= .int j/\Q (.int (f i j)) H
theorem gP:Sa X .Add (Th λi j=>i+j):=by intro UI s σ H x y v u Q I r1 r2 h;obtain⟨i,j,e1,e2,q⟩:=h;subst e1;subst e2;obtain⟨t,rfl⟩:=r1;obtain⟨t',rfl⟩:=r2;exact iadd_int ⟨.int _,H,I.tok _,⟨_,rfl⟩,q⟩
theorem O7:Sa X .Sub (Th λi j=>i - j):=by intro UI s σ H x y v u Q I r1 r2 h;obtain⟨i,j,e1,e2,q⟩:=h;subst e1;subst e2;obtain⟨t,rfl⟩:=r1;obtain⟨t',rfl⟩:=r2;exact isub_int ⟨.int _,H,I.tok _,⟨_,rfl⟩,q⟩
end
section
variable{X:Cx}{pos:Pos}
def Mo(c:TT)(tb:TS):TS:=λD σ H=>∃W:Nat->St->Hp->Prop,(∃m,W m σ H)/\∀m σ H,W m σ H->
 c σ H λb H1=>if b=true then ∃N:St->Hp->Prop,(∀σ' H',N σ' H'->∃m',m'<m/\W m' σ' H')/\tb {D with nx:=N,ct:=N,bk:=D.nx} σ H1 else D.nx σ H1
theorem ft{c:Expr}{body:List Stmt}{tc:TT}{tb:TS}(hp:PassesOwn (model X.prog X.w) X.A X.env X.xe)(hc:PT X c tc)(hb:so X body tb):PS X (.While c body [] pos) (Mo tc tb):=by
 intro UI s σ H D I h;obtain⟨W,⟨m0,w0⟩,turn⟩:=h;refine wpAny_While (codeAny_whileLoop (λn s'=>∃σ' H',Inv X UI σ' H' s'/\W n σ' H') ?_ m0 ⟨σ,H,I,w0⟩);rintro n s1 ⟨σ1,H1,I1,w1⟩;refine wpAny_passesOwn hp (br (hc UI s1 σ1 H1 _ I1 (turn n σ1 H1 w1)) λb s2 ⟨H2,I2,q2⟩=>?_);cases b with
 |true=>
  obtain⟨N,hN,q2⟩:=q2;rw[if_pos rfl];refine wpAny_passesOwn hp (br (hb UI s2 σ1 H2 _ I2 q2) λf s3 q3=>?_);cases f with
  |next=>
   obtain⟨σ3,H3,I3,n3⟩:=q3;obtain⟨m',hm,w3⟩:=hN σ3 H3 n3;exact⟨m',hm,σ3,H3,I3,w3⟩
  |cont=>
   obtain⟨σ3,H3,I3,n3⟩:=q3;obtain⟨m',hm,w3⟩:=hN σ3 H3 n3;exact⟨m',hm,σ3,H3,I3,w3⟩
  |brk=>exact q3
  |ret v=>exact q3
 |false=>
  rw[if_neg Bool.false_ne_true];exact wpAny_execs_nil ⟨σ1,H2,I2,q2⟩
end
structure It where
 go:Nat->Hp->Prop
 Lv:Nat->Hp->V->Hp->Prop
 stop:Nat->Hp->Prop
def t7(X:Cx)(UI:List (Addr×Obj))(H:Hp)(b:Addr):Prop:=
 H b=none/\b≠X.env.locals/\b∉X.fs/\(b∈X.ex\/X.oq.heap.objs.size<=b)/\(∀x c,X.env.cells.lookup x=some c->c≠b)/\∀p∈X.pn++UI,p.1≠b
theorem Inv.G5{X:Cx}{H':Hp}(I:Inv X UI σ H s)(hb:s.heap.objs.size<=b)(hn:H' b=none):t7 X UI H' b:=by
 refine⟨hn,Nat.ne_of_gt (Nat.lt_of_lt_of_le I.lt hb),I.Tt hb,.inr (Nat.le_trans I.sz hb),λx c e z=>?_,λp hp z=>?_⟩
 ·obtain⟨v,q⟩:=I.cell x c e;exact absurd (Nat.lt_of_lt_of_le q.lt (by rw[z];exact hb)) (Nat.lt_irrefl _)
 ·exact absurd (Nat.lt_of_lt_of_le (Heap.lt_size (I.pin p hp).1) (by rw[z];exact hb)) (Nat.lt_irrefl _)
structure Turn(P:Program)(w:World)(K:Frag)(tg:Expr)(J:It)(fp:List Addr)(it:Addr)(tn:Nat->Heap->Prop):Prop where
 mem:it∈fp
 obj:∀i h,tn i h->∀b∈fp,∃o,h.get? b=some o/\∀v,o.data≠.cell v
 keep:∀i h h',tn i h->(∀b∈fp,∀o,h.get? b=some o->h'.get? b=some o)->tn i h'
 item:∀(X:Cx),X.prog=P->X.w=w->X.K=K->X.calm=true->∀(i:Nat)(UI:List (Addr×Obj))(s:Shared)(σ:St)(H:Hp)(E:Value->Shared->Prop),Inv X UI σ H s->(∀b∈fp,t7 X UI H b)->tn i s.heap->J.go i H->
  wpAny (model P w) X.A (pyNext (.ref it)) (λr s1=>∃u,r=some u/\
   wpAny (model P w) X.A (letOwnedTupleGo tg (.ref it) u) (λ_ s2=>∃x H',Inv X UI σ H' s2/\RelV x u/\J.Lv i H x H'/\tn (i+1) s2.heap/\∀b∈fp,H' b=none) E s1) E s
 done:∀(X:Cx),X.prog=P->X.w=w->X.K=K->X.calm=true->∀(i:Nat)(UI:List (Addr×Obj))(s:Shared)(σ:St)(H:Hp)(E:Value->Shared->Prop),Inv X UI σ H s->(∀b∈fp,t7 X UI H b)->tn i s.heap->J.stop i H->
  wpAny (model P w) X.A (pyNext (.ref it)) (λr s1=>r=none/\Inv X UI σ H s1) E s
 self:∀(A:Around)(i:Nat)(s:Shared)(Q:Value->Shared->Prop)(E:Value->Shared->Prop),tn i s.heap->Q (.ref it) s->wpAny (model P w) A (pyIter (.ref it)) Q E s
abbrev TI:=St->Hp->(It->Hp->Prop)->Prop
def SN(X:Cx)(UI:List (Addr×Obj))(σ:St)(tg:Expr)(R:It->Hp->Prop)(itv:Value)(s2:Shared):Prop:=
 ∃(it:Addr)(fp:List Addr)(tn:Nat->Heap->Prop)(J:It)(H':Hp),itv= .ref it/\Inv X UI σ H' s2/\Turn X.prog X.w X.K tg J fp it tn/\tn 0 s2.heap/\(∀b∈fp,t7 X UI H' b)/\R J H'
def PI(X:Cx)(tg iter:Expr)(wi:TI):Prop:=
 ∀(UI:List (Addr×Obj))(s:Shared)(σ:St)(H:Hp)(R:It->Hp->Prop),Inv X UI σ H s->wi σ H R->
  wpAny (model X.prog X.w) X.A (eval iter X.env) (λv s1=>wpAny (model X.prog X.w) X.A (pyIter v) (SN X UI σ tg R) X.xe s1) X.xe s
theorem CC{M:Model}{tg:Expr}{it:Addr}{o:Obj}{n:String}{vs:Array Value}{Q:Unit->Shared->Prop}(ho:s.heap.get? it=some o)(hc:o.cls= .type n)(hd:o.data= .fields vs)(hn:["enumerate","zip","dict_itemiterator","dict_reverseitemiterator","odict_iterator","itertools.zip_longest","itertools.pairwise"].contains n=false)(hQ:Q () s):wpAny M A (letOwnedTupleGo tg (.ref it) u) Q E s:=by
  unfold letOwnedTupleGo;cases tg <;> first
    |exact wpAny_pure hQ
    |(cases u <;> first
        |exact wpAny_pure hQ
        | (refine wpAny_bind (wpAny_load ho ?_)
           rw[hc,hd];show wpAny M A (if(["enumerate","zip","dict_itemiterator","dict_reverseitemiterator","odict_iterator","itertools.zip_longest","itertools.pairwise"].contains n&&vs[0]?==some (rawInt _))=true then _ else _) Q E s;rw[if_neg (by intro h;rw[hn,Bool.false_and] at h;cases h)];exact wpAny_pure hQ))
def LI(K:Frag)(a:Addr):It:=
 ⟨λi H=>∃xs x,bf K H a xs/\xs[i]?=some x,λi H x H'=>H'=H/\∀xs,bf K H a xs->xs[i]?=some x,λi H=>∃xs,bf K H a xs/\xs.length<=i⟩
def Pr(K:Frag)(a:Addr):It:=
 ⟨λi H=>∃xs x,fE K H a xs/\xs[i]?=some x,λi H x H'=>H'=H/\∀xs,fE K H a xs->xs[i]?=some x,λi H=>∃xs,fE K H a xs/\xs.length<=i⟩
def Ph(lo:Int)(n:Nat):It:=⟨λi _=>i<n,λi H x H'=>H'=H/\x= .int (lo+i),λi _=>n<=i⟩
theorem Ek{tg:Expr}(a it:Addr):Turn P w K tg (LI K a) [it] it (λi h=>h.IsListIter it a i) where
 mem:=by simp
 obj:=λi h st b hb=>by
  have e:b=it:=by simpa using hb
  subst e;obtain⟨o,e,c,d⟩:=st;exact⟨o,e,λv z=>by rw[d] at z;cases z⟩
 keep:=λi h h' st k=>st.at λo e=>k it (by simp) o e
 item:=by
  intro X hP hw hK hc i UI s σ H E I hf st hg;subst hP hw hK;obtain⟨xs,x,hq,hx⟩:=hg;obtain⟨its,rv,p,hz⟩:=I.list hq;obtain⟨u,hu,ru⟩:=rv.get hx;obtain⟨f0,f1,f2,f3,f4,f5⟩:=hf it (by simp);refine wpAny_pyNext_list_item st p.isList (x:=u) (by simpa using hu) λh' st' sb=>?_;have I1:Inv X UI σ H {s with heap:=h'}:=I.turned (t':=s.toks) (λb o hb e=>(sb.2 b hb).trans e) f0 f1 f3 f4 f5;obtain⟨o,e,c,d⟩:=id st';exact⟨u,rfl,CC (s:={s with heap:=h'}) e c d ↑0 ⟨x,H,I1,ru,⟨rfl,λys hy=>by rw[I.Jl hy hq];exact hx⟩,st',λb hb=>(hf b hb).1⟩⟩
 done:=by
  intro X hP hw hK hc i UI s σ H E I hf st hg;subst hP hw hK;obtain⟨xs,hq,hx⟩:=hg;obtain⟨its,rv,p,hz⟩:=I.list hq;obtain⟨f0,f1,f2,f3,f4,f5⟩:=hf it (by simp);have hl:=rv.length;exact wpAny_pyNext_list_end (I.ok.hd hc) st p.isList (by simp;omega) λh' eb=>⟨rfl,I.turned (t':=s.toks) (λb o hb e=>eb b o hb e) f0 f1 f3 f4 f5⟩
 self:=λ_ _ _ _ _ st h=>wpAny_pyIter_listiter st h
theorem B8{tg:Expr}(a it:Addr):Turn P w K tg (Pr K a) [it] it (λi h=>h.IsTupleIter it a i) where
 mem:=by simp
 obj:=λi h st b hb=>by
  have e:b=it:=by simpa using hb
  subst e;obtain⟨o,e,c,d⟩:=st;exact⟨o,e,λv z=>by rw[d] at z;cases z⟩
 keep:=λi h h' st k=>st.at λo e=>k it (by simp) o e
 item:=by
  intro X hP hw hK hc i UI s σ H E I hf st hg;subst hP hw hK;obtain⟨xs,x,hq,hx⟩:=hg;obtain⟨its,rv,p,hz⟩:=I.tuple hq;obtain⟨u,hu,ru⟩:=rv.get hx;obtain⟨f0,f1,f2,f3,f4,f5⟩:=hf it (by simp);refine wpAny_pyNext_tuple_item st (show s.heap.IsTuple a its.toArray from p) (x:=u) (by simpa using hu) λh' st' sb=>?_;have I1:Inv X UI σ H {s with heap:=h'}:=I.turned (t':=s.toks) (λb o hb e=>(sb.2 b hb).trans e) f0 f1 f3 f4 f5;obtain⟨o,e,c,d⟩:=id st';exact⟨u,rfl,CC (s:={s with heap:=h'}) e c d ↑0 ⟨x,H,I1,ru,⟨rfl,λys hy=>by rw[I.EM hy hq];exact hx⟩,st',λb hb=>(hf b hb).1⟩⟩
 done:=by
  intro X hP hw hK hc i UI s σ H E I hf st hg;subst hP hw hK;obtain⟨xs,hq,hx⟩:=hg;obtain⟨its,rv,p,hz⟩:=I.tuple hq;obtain⟨f0,f1,f2,f3,f4,f5⟩:=hf it (by simp);have hl:=rv.length;exact wpAny_pyNext_tuple_end (I.ok.hd hc) st (show s.heap.IsTuple a its.toArray from p) (by simp;omega) λh' eb=>⟨rfl,I.turned (t':=s.toks) (λb o hb e=>eb b o hb e) f0 f1 f3 f4 f5⟩
 self:=λ_ _ _ _ _ st h=>wpAny_pyIter_tupleiter st h
theorem Bf{tg:Expr}(it:Addr)(lo:Int)(n:Nat):Turn P w K tg (Ph lo n) [it] it (λi h=>IsRangeIter h it (lo+(i:Nat)*1) ((n:Int) - (i:Nat)) 1) where
 mem:=by simp
 obj:=λi h st b hb=>by
  have e:b=it:=by simpa using hb
  subst e;exact⟨_,st,λv z=>by
   have z':Data.fields _=Data.cell v:=z;cases z'⟩
 keep:=λi h h' st k=>k it (by simp) _ st
 item:=by
  intro X hP hw hK hc i UI s σ H E I hf st hg;subst hP hw hK;obtain⟨f0,f1,f2,f3,f4,f5⟩:=hf it (by simp);have W:=Walks.range (prog:=X.prog) (w:=X.w) (I.ok.hd hc) it lo 1 n;refine W.item i s _ _ hg st λv h' tk hv st' kk=>?_;obtain⟨t,rfl⟩:=hv;have I1:Inv X UI σ H {s with heap:=h',toks:=tk}:=I.turned (λb o hb e=>kk b o (by simpa using hb) e) f0 f1 f3 f4 f5;refine⟨_,rfl,CC (s:={s with heap:=h',toks:=tk}) (n:="range_iterator") st' rfl rfl ↑0 ⟨.int (lo+i),H,I1,⟨t,?_⟩,⟨rfl,rfl⟩,st',λb hb=>(hf b hb).1⟩⟩;rw[Int.mul_one]
 done:=by
  intro X hP hw hK hc i UI s σ H E I hf st hg;subst hP hw hK;obtain⟨f0,f1,f2,f3,f4,f5⟩:=hf it (by simp);exact wpAny_pyNext_range_end (I.ok.hd hc) st (by have:n<=i:=hg;omega) λh' eb=>⟨rfl,I.turned (t':=s.toks) (λb o hb e=>eb b o hb e) f0 f1 f3 f4 f5⟩
 self:=λ_ _ _ _ _ st h=>wpAny_pyIter_rangeiter st h
section
variable{X:Cx}{tg:Expr}
def RA(K:Frag)(tl:TE):TI:=λσ H R=>tl σ H λx H1=>∃a,x= .ref a/\(∃xs,bf K H1 a xs)/\R (LI K a) H1
def Tz(K:Frag)(tl:TE):TI:=λσ H R=>tl σ H λx H1=>∃a,x= .ref a/\(∃xs,fE K H1 a xs)/\R (Pr K a) H1
theorem qp{l:Expr}{tl:TE}(hl:PE X l tl):PI X tg l (RA X.K tl):=by
 intro UI s σ H R I h;refine br (hl UI s σ H _ I h) λv s1 ⟨x,H1,I1,r1,q1⟩=>?_;obtain⟨a,e,⟨xs,hq⟩,q⟩:=q1;subst e;cases r1;obtain⟨its,rv,p,hz⟩:=I1.list hq;refine wpAny_pyIter_list p.isList ?_;refine⟨s1.heap.objs.size,[s1.heap.objs.size],_,_,H1,rfl,I1.kept (t':=s1.toks) λb o e=>Heap.get?_push_of_some _ e,Ek a _,⟨_,Heap.get?_push_size _ rfl,rfl,rfl⟩,λb hb=>?_,q⟩;have e:b=s1.heap.objs.size:=by simpa using hb
 subst e;exact I1.G5 (Nat.le_refl _) (I1.aZ.fresh (Nat.le_refl _))
theorem N0{l:Expr}{tl:TE}(hl:PE X l tl):PI X tg l (Tz X.K tl):=by
 intro UI s σ H R I h;refine br (hl UI s σ H _ I h) λv s1 ⟨x,H1,I1,r1,q1⟩=>?_;obtain⟨a,e,⟨xs,hq⟩,q⟩:=q1;subst e;cases r1;obtain⟨its,rv,p,hz⟩:=I1.tuple hq;refine wpAny_pyIter_tuple (show s1.heap.IsTuple a its.toArray from p) ?_;refine⟨s1.heap.objs.size,[s1.heap.objs.size],_,_,H1,rfl,I1.kept (t':=s1.toks) λb o e=>Heap.get?_push_of_some _ e,B8 a _,⟨_,Heap.get?_push_size _ rfl,rfl,rfl⟩,λb hb=>?_,q⟩;have e:b=s1.heap.objs.size:=by simpa using hb
 subst e;exact I1.G5 (Nat.le_refl _) (I1.aZ.fresh (Nat.le_refl _))
theorem FK{R:It->Hp->Prop}{lo hi:Int}{t u v:Tok}{tk:Nat}(I:Inv X UI σ H s)(h1: -(2 ^ 62)<=lo)(h2:lo<2 ^ 62)(h3: -(2 ^ 62)<=hi)(h4:hi<2 ^ 62)(q:R (Ph lo (hi - lo).toNat) H):wpAny (model X.prog X.w) X.A (pyIter (.ref s.heap.objs.size)) (SN X UI σ tg R) E {s with heap:=s.heap.push {cls:=.type "range",data:=.fields #[.int lo t,.int hi u,.int 1 v]},toks:=tk}:=by
 refine wpAny_pyIter_range (IsRange.new ..) (small_one h1 h2 h3 h4) ?_;have I1:Inv X UI σ H {s with heap:=s.heap.push {cls:=.type "range",data:=.fields #[.int lo t,.int hi u,.int 1 v]},toks:=tk}:=I.kept λb o e=>Heap.get?_push_of_some _ e;refine⟨(s.heap.push {cls:=.type "range",data:=.fields #[.int lo t,.int hi u,.int 1 v]}).objs.size,[(s.heap.push {cls:=.type "range",data:=.fields #[.int lo t,.int hi u,.int 1 v]}).objs.size],_,_,H,rfl,
  I1.kept (t':=tk) λb o e=>Heap.get?_push_of_some _ e,Bf _ lo (hi - lo).toNat,?_,λb hb=>?_,q⟩
 ·have e1:lo+((0:Nat):Int)*1=lo:=by simp
  have e2:(((hi - lo).toNat:Nat):Int) - ((0:Nat):Int)=Builtin.Range.rangeSize lo hi 1:=by rw[rangeSize_one];split <;> omega
  show IsRangeIter _ _ (lo+((0:Nat):Int)*1) ((((hi - lo).toNat:Nat):Int) - ((0:Nat):Int)) 1;rw[e1,e2];exact Heap.get?_push_size _ rfl
 ·have e:b=(s.heap.push {cls:=.type "range",data:=.fields #[.int lo t,.int hi u,.int 1 v]}).objs.size:=by simpa using hb
  subst e;exact I1.G5 (Nat.le_refl _) (I1.aZ.fresh (Nat.le_refl _))
def Q9(ta:TA):TI:=λσ H R=>ta σ H λvs H1=>∃j:Int,vs=[.int j]/\ -(2 ^ 62)<=j/\j<2 ^ 62/\R (Ph 0 j.toNat) H1
theorem Fn{a:Expr}{ta:TA}{p pos:Pos}(hg:Gl X "range")(hm:X.mg "range"=none)(ha:PA X [a] ta)(hs:starEach [a] X.env=[(false,eval a X.env)]:=by rfl):PI X tg (.Call (.Name "range" p) [a] [] pos) (Q9 ta):=by
 intro UI s σ H R I h;refine Call_ (xh I hg hm boot_range (PyProof.Rows.callWith_type1 (br (ha pos UI s σ H _ I h) λus s1 ⟨vs,H1,I1,r1,q1⟩=>?_) hs rfl));obtain⟨j,e,q1,q2,q⟩:=q1;subst e;cases r1 with
 |cons r rr=>
  cases rr;obtain⟨t,rfl⟩:=r;exact call_range_1 (FK I1 ↑2 ↑2 q1 q2 (by simpa using q))
def Sj(wi:TI)(g:TG)(tb:TS):TS:=λD σ H=>wi σ H λJ H1=>∃W:Nat->Nat->St->Hp->Prop,(∃m,W 0 m σ H1)/\∀i m σ H,W i m σ H->
 (J.stop i H/\D.nx σ H)\/(J.go i H/\∃N:St->Hp->Prop,(∀σ' H',N σ' H'->∃m',m'<m/\W (i+1) m' σ' H')/\∀x H',J.Lv i H x H'->g x σ H' λσ2 H2=>tb {D with nx:=N,ct:=N,bk:=D.nx} σ2 H2)
def qM(fp:List Addr)(h:Heap):List (Addr×Obj):=fp.filterMap λb=>(h.get? b).map λo=>(b,o)
theorem jR{fp:List Addr}{h:Heap}{o:Obj}(hb:b∈fp)(e:h.get? b=some o):(b,o)∈qM fp h:=List.mem_filterMap.mpr ⟨b,hb,by rw[e];rfl⟩
theorem E8{fp:List Addr}{h:Heap}{p:Addr×Obj}(hp:p∈qM fp h):p.1∈fp/\h.get? p.1=some p.2:=by
 obtain⟨b,hb,e⟩:=List.mem_filterMap.mp hp;cases q:h.get? b with
 |none=>rw[q] at e;cases e
 |some o=>
  rw[q] at e;have e':(b,o)=p:=Option.some.inj e;subst e';exact⟨hb,q⟩
theorem Inv.pinned{fp:List Addr}(I:Inv X UI σ H s)(hf:∀b∈fp,t7 X UI H b)(ho:∀b∈fp,∃o,s.heap.get? b=some o/\∀v,o.data≠.cell v):Inv X (UI++qM fp s.heap) σ H s:=
 I.ql λp hp=>(List.mem_append.mp hp).elim (λz=>I.pin p (List.mem_append_right _ z)) λz=>by
  obtain⟨hb,e⟩:=E8 z;obtain⟨f0,f1,f2,_⟩:=hf p.1 hb;obtain⟨o,e',d⟩:=ho p.1 hb;rw[e] at e';cases e';exact⟨e,f0,f1,f2,d⟩
theorem Inv.kg{pl:List (Addr×Obj)}(I:Inv X (UI++pl) σ H s):Inv X UI σ H s:=I.ql λp hp=>I.pin p (List.mem_append_right _ (List.mem_append_left _ hp))
theorem rQ{iter:Expr}{body:List Stmt}{wi:TI}{g:TG}{tb:TS}{pos:Pos}(hp:PassesOwn (model X.prog X.w) X.A X.env X.xe)(hc:X.calm=true)(hi:PI X tg iter wi)(hg:PG X tg g)(hb:so X body tb)(hs:∀x,foldedSetIterable iter X.env x=pure x:=by intro _;rfl):PS X (.For tg iter body [] pos) (Sj wi g tb):=by
 intro UI s σ H D I h;refine wpAny_For (br (hi UI s σ H _ I h) λv s1 h1=>br h1 λitv s2 h2=>?_) hs;obtain⟨it,fp,tn,J,H2,e,I2,T,st2,f2,W,⟨m0,w0⟩,turn⟩:=h2;subst e;have stat:∀{H':Hp},(∀b∈fp,H' b=none)->∀b∈fp,t7 X UI H' b:=λhn b hb=>⟨hn b hb,(f2 b hb).2⟩
 refine codeAny_forLoop_any (λn s'=>∃i σ' H',Inv X UI σ' H' s'/\tn i s'.heap/\(∀b∈fp,H' b=none)/\W i n σ' H') ?_ m0 ⟨0,σ,H2,I2,st2,λb hb=>(f2 b hb).1,w0⟩;rintro n s3 ⟨i,σ3,H3,I3,st3,fr3,w3⟩;rcases turn i n σ3 H3 w3 with⟨stop,qn⟩|⟨go,N,hN,step⟩
 ·refine wpAny_passesOwn hp (br (T.done X rfl rfl rfl hc i UI s3 σ3 H3 X.xe I3 (stat fr3) st3 stop) λr s4 ⟨hr,I4⟩=>?_);subst hr;exact wpAny_execs_nil ⟨σ3,H3,I4,qn⟩
 ·refine wpAny_passesOwn hp (br (T.item X rfl rfl rfl hc i UI s3 σ3 H3 X.xe I3 (stat fr3) st3 go) λr s4 ⟨u,hr,h4⟩=>?_);subst hr;refine wpAny_passesOwn hp (br h4 λ_ s5 ⟨x,H5,I5,r5,y5,st5,fr5⟩=>?_);have I5':=I5.pinned (stat fr5) (T.obj _ _ st5);refine wpAny_passesOwn hp (br (hg _ s5 σ3 H5 x u _ I5' r5 (step x H5 y5)) λ_ s6 ⟨σ6,H6,I6,q6⟩=>?_);refine wpAny_passesOwn hp (br (hb _ s6 σ6 H6 _ I6 q6) λf s7 q7=>?_);have again:∀{σ7:St}{H7:Hp},Inv X (UI++qM fp s5.heap) σ7 H7 s7->N σ7 H7->∃m,m<n/\∃i σ' H',Inv X UI σ' H' s7/\tn i s7.heap/\(∀b∈fp,H' b=none)/\W i m σ' H':=λ{σ7 H7} I7 n7=>by
   obtain⟨m',hm,w7⟩:=hN σ7 H7 n7;refine⟨m',hm,i+1,σ7,H7,I7.kg,T.keep _ _ _ st5 λb hb o e=>(I7.pin (b,o) (List.mem_append_right _ (List.mem_append_right _ (jR hb e)))).1,λb hb=>?_,w7⟩;obtain⟨o,e,d⟩:=T.obj _ _ st5 b hb;exact(I7.pin (b,o) (List.mem_append_right _ (List.mem_append_right _ (jR hb e)))).2.1
  cases f with
  |next=>obtain⟨σ7,H7,I7,n7⟩:=q7;exact again I7 n7
  |cont=>obtain⟨σ7,H7,I7,n7⟩:=q7;exact again I7 n7
  |brk=>obtain⟨σ7,H7,I7,q7⟩:=q7;exact⟨σ7,H7,I7.kg,q7⟩
  |ret v=>obtain⟨x7,σ7,H7,I7,r7,q7⟩:=q7;exact⟨x7,σ7,H7,I7.kg,r7,q7⟩
end
theorem Ai{xs:List V}{g:TG}{tb:TS}{D:Ends}(Pv:Nat->St->Hp->Prop)(h0:Pv 0 σ H)(hl:∀i σ H,i<=xs.length->Pv i σ H->bf K H a xs)(hs:∀i x σ H,xs[i]?=some x->Pv i σ H->g x σ H λσ2 H2=>tb {D with nx:=Pv (i+1),ct:=Pv (i+1),bk:=D.nx} σ2 H2)(hd:∀σ H,Pv xs.length σ H->D.nx σ H):
  ∃W:Nat->Nat->St->Hp->Prop,(∃m,W 0 m σ H)/\∀i m σ H,W i m σ H->
   ((LI K a).stop i H/\D.nx σ H)\/((LI K a).go i H/\∃N:St->Hp->Prop,(∀σ' H',N σ' H'->∃m',m'<m/\W (i+1) m' σ' H')/\∀x H',(LI K a).Lv i H x H'->g x σ H' λσ2 H2=>tb {D with nx:=N,ct:=N,bk:=D.nx} σ2 H2):=by
 refine⟨λi m σ H=>m=xs.length - i/\i<=xs.length/\Pv i σ H,⟨xs.length,by simp,Nat.zero_le _,h0⟩,?_⟩;rintro i m σ H ⟨rfl,hi,p⟩;have q:=hl i σ H hi p;by_cases hlt:i<xs.length
 ·refine .inr ⟨⟨xs,xs[i],q,by simp[hlt]⟩,Pv (i+1),λσ' H' p'=>⟨xs.length - (i+1),↑2,rfl,hlt,p'⟩,λx H' y=>?_⟩;obtain⟨e,y⟩:=y;subst e;exact hs i x σ _ (y xs q) p
 ·have e:i=xs.length:=↑2
  subst e;exact .inl ⟨⟨xs,q,Nat.le_refl _⟩,hd σ H p⟩
theorem J6{xs:List V}{g:TG}{tb:TS}{D:Ends}(Pv:Nat->St->Hp->Prop)(h0:Pv 0 σ H)(hl:∀i σ H,i<=xs.length->Pv i σ H->fE K H a xs)(hs:∀i x σ H,xs[i]?=some x->Pv i σ H->g x σ H λσ2 H2=>tb {D with nx:=Pv (i+1),ct:=Pv (i+1),bk:=D.nx} σ2 H2)(hd:∀σ H,Pv xs.length σ H->D.nx σ H):
  ∃W:Nat->Nat->St->Hp->Prop,(∃m,W 0 m σ H)/\∀i m σ H,W i m σ H->
   ((Pr K a).stop i H/\D.nx σ H)\/((Pr K a).go i H/\∃N:St->Hp->Prop,(∀σ' H',N σ' H'->∃m',m'<m/\W (i+1) m' σ' H')/\∀x H',(Pr K a).Lv i H x H'->g x σ H' λσ2 H2=>tb {D with nx:=N,ct:=N,bk:=D.nx} σ2 H2):=by
 refine⟨λi m σ H=>m=xs.length - i/\i<=xs.length/\Pv i σ H,⟨xs.length,by simp,Nat.zero_le _,h0⟩,?_⟩;rintro i m σ H ⟨rfl,hi,p⟩;have q:=hl i σ H hi p;by_cases hlt:i<xs.length
 ·refine .inr ⟨⟨xs,xs[i],q,by simp[hlt]⟩,Pv (i+1),λσ' H' p'=>⟨xs.length - (i+1),↑2,rfl,hlt,p'⟩,λx H' y=>?_⟩;obtain⟨e,y⟩:=y;subst e;exact hs i x σ _ (y xs q) p
 ·have e:i=xs.length:=↑2
  subst e;exact .inl ⟨⟨xs,q,Nat.le_refl _⟩,hd σ H p⟩
theorem D'{lo:Int}{n:Nat}{g:TG}{tb:TS}{D:Ends}(Pv:Nat->St->Hp->Prop)(h0:Pv 0 σ H)(hs:∀i σ H,i<n->Pv i σ H->g (.int (lo+i)) σ H λσ2 H2=>tb {D with nx:=Pv (i+1),ct:=Pv (i+1),bk:=D.nx} σ2 H2)(hd:∀σ H,Pv n σ H->D.nx σ H):
  ∃W:Nat->Nat->St->Hp->Prop,(∃m,W 0 m σ H)/\∀i m σ H,W i m σ H->
   ((Ph lo n).stop i H/\D.nx σ H)\/((Ph lo n).go i H/\∃N:St->Hp->Prop,(∀σ' H',N σ' H'->∃m',m'<m/\W (i+1) m' σ' H')/\∀x H',(Ph lo n).Lv i H x H'->g x σ H' λσ2 H2=>tb {D with nx:=N,ct:=N,bk:=D.nx} σ2 H2):=by
 refine⟨λi m σ H=>m=n - i/\i<=n/\Pv i σ H,⟨n,by simp,Nat.zero_le _,h0⟩,?_⟩;rintro i m σ H ⟨rfl,hi,p⟩;by_cases hlt:i<n
 ·refine .inr ⟨hlt,Pv (i+1),λσ' H' p'=>⟨n - (i+1),↑2,rfl,hlt,p'⟩,λx H' y=>?_⟩;obtain⟨e,y⟩:=y;subst e y;exact hs i σ _ hlt p
 ·have e:i=n:=↑2
  subst e;exact .inl ⟨Nat.le_refl _,hd σ H p⟩
abbrev R2:=V->V->Hp->VK->Prop
def i'(X:Cx)(f:Value->Value->Sem Value)(r:R2):Prop:=
 ∀(UI:List (Addr×Obj))(s:Shared)(σ:St)(H:Hp)(x y:V)(v u:Value)(Q:VK),Inv X UI σ H s->RelV x v->RelV y u->r x y H Q->
  wpAny (model X.prog X.w) X.A (f v u) (EP X UI σ Q) X.xe s
def Tu(X:Cx)(f:Value->Sem Value)(r:V->Hp->VK->Prop):Prop:=
 ∀(UI:List (Addr×Obj))(s:Shared)(σ:St)(H:Hp)(x:V)(v:Value)(Q:VK),Inv X UI σ H s->RelV x v->r x H Q->
  wpAny (model X.prog X.w) X.A (f v) (EP X UI σ Q) X.xe s
def sj(X:Cx)(f:Value)(r:List V->Hp->VK->Prop):Prop:=
 ∀(UI:List (Addr×Obj))(s:Shared)(σ:St)(H:Hp)(xs:List V)(us:List Value)(Q:VK),Inv X UI σ H s->Vals xs us->r xs H Q->
  wpAny (model X.prog X.w) X.A (call f us) (EP X UI σ Q) X.xe s
def AB(r:R2)(ta tb:TE):TE:=λσ H Q=>ta σ H λx H1=>tb σ H1 λy H2=>r x y H2 Q
def Uc(r:V->Hp->VK->Prop)(ta:TE):TE:=λσ H Q=>ta σ H λx H1=>r x H1 Q
inductive rI(C:Int->Int->Prop)(g:Int->Int->V)(x:V)(y:V)(H:Hp)(Q:VK):Prop
 |mk(i:_) (j:_) (_:x= .int i) (_:y= .int j) (_:C i j) (_:Q (g i j) H)
inductive CO(g:Int->Int->V)(x:V)(y:V)(H:Hp)(Q:VK):Prop
 |mk(i:_) (j:_) (_:x= .int i) (_:y= .int j) (_:Q (g i j) H)
inductive rU(g:Int->V)(x:V)(H:Hp)(Q:VK):Prop
 |mk(i:_) (_:x= .int i) (_:Q (g i) H)
section
variable{X:Cx}{a b c:Expr}{ta tb tc:TE}{pos:Pos}
theorem Nw(ha:PE X a ta)(hb:PE X b tb){R:V->V->Hp->Prop}(I:Inv X UI σ H s)(h:ta σ H λx H1=>tb σ H1 λy H2=>R x y H2){f:Value->Value->Sem Value}(hf:∀v u s2 x y H2,Inv X UI σ H2 s2->RelV x v->RelV y u->R x y H2->wpAny (model X.prog X.w) X.A (f v u) Q X.xe s2):
  wpAny (model X.prog X.w) X.A (eval a X.env) (λv s₁=>wpAny (model X.prog X.w) X.A (eval b X.env) (λu s₂=>wpAny (model X.prog X.w) X.A (f v u) Q X.xe s₂) X.xe s₁) X.xe s:=by
 refine br (ha UI s σ H _ I h) λv s1 ⟨x,H1,I1,r1,q1⟩=>?_;refine br (hb UI s1 σ H1 _ I1 q1) λu s2 ⟨y,H2,I2,r2,q2⟩=>?_;exact hf v u s2 x y H2 I2 r1 r2 q2
theorem bA{op:Operator}{r:R2}(ho:i' X (binaryOp op) r)(ha:PE X a ta)(hb:PE X b tb):PE X (.BinOp a op b pos) (AB r ta tb):=by intro UI s σ H Q I h;exact wpAny_BinOp (Nw ha hb I h λv u s2 x y H2 I2 rx ry q=>ho UI s2 σ H2 x y v u Q I2 rx ry q)
theorem gc{op:UnaryOp}{r:V->Hp->VK->Prop}(ho:Tu X (unaryOp op) r)(ha:PE X a ta):PE X (.UnaryOp op a pos) (Uc r ta):=by intro UI s σ H Q I h;exact UnaryOp_ (br (ha UI s σ H _ I h) λv s1 ⟨x,H1,I1,r1,q1⟩=>ho UI s1 σ H1 x v Q I1 r1 q1)
theorem Sx{f:Value->Value->Sem Value}{C:Int->Int->Prop}{g:Int->Int->Int}(rule:∀(i j:Int)(t u:Tok)(s:Shared)(Q:Value->Shared->Prop)(E:Value->Shared->Prop),C i j->Q (.int (g i j) s.toks) {s with toks:=s.toks+1}->wpAny (model X.prog X.w) X.A (f (.int i t) (.int j u)) Q E s):
  i' X f (rI C λi j=>.int (g i j)):=by
 intro UI s σ H x y v u Q I rx ry h;obtain⟨i,j,rfl,rfl,hc,q⟩:=h;obtain⟨t,rfl⟩:=rx;obtain⟨t',rfl⟩:=ry;exact rule i j t t' s _ _ hc ⟨.int (g i j),H,I.tok _,⟨_,rfl⟩,q⟩
theorem K4{f:Value->Value->Sem Value}{g:Int->Int->Int}(rule:∀(i j:Int)(t u:Tok)(s:Shared)(Q:Value->Shared->Prop)(E:Value->Shared->Prop),Q (.int (g i j) s.toks) {s with toks:=s.toks+1}->wpAny (model X.prog X.w) X.A (f (.int i t) (.int j u)) Q E s):
  i' X f (CO λi j=>.int (g i j)):=by
 intro UI s σ H x y v u Q I rx ry h;obtain⟨i,j,rfl,rfl,q⟩:=h;obtain⟨t,rfl⟩:=rx;obtain⟨t',rfl⟩:=ry;exact rule i j t t' s _ _ ⟨.int (g i j),H,I.tok _,⟨_,rfl⟩,q⟩
theorem MX{f:Value->Value->Sem Value}{g:Int->Int->Bool}(rule:∀(i j:Int)(t u:Tok)(s:Shared)(Q:Value->Shared->Prop)(E:Value->Shared->Prop),Q (.bool (g i j)) s->wpAny (model X.prog X.w) X.A (f (.int i t) (.int j u)) Q E s):
  i' X f (CO λi j=>.bl (g i j)):=by
 intro UI s σ H x y v u Q I rx ry h;obtain⟨i,j,rfl,rfl,q⟩:=h;obtain⟨t,rfl⟩:=rx;obtain⟨t',rfl⟩:=ry;exact rule i j t t' s _ _ ⟨.bl (g i j),H,I,rfl,q⟩
def Sz(i j:Int):Prop:=0<=j/\j<=1000000/\i.natAbs<2 ^ 64
def Ot(i j:Int):Prop:=(-(2 ^ 64)<i/\i<2 ^ 64)\/(-(2 ^ 64)<j/\j<2 ^ 64)
theorem Ot.ok{i j:Int}(h:Ot i j):IntMulOk i j:=by
 rcases h with⟨h1,h2⟩|⟨h1,h2⟩
 ·exact .of_left (intBits_le_64 h1 h2)
 ·exact .of_right (intBits_le_64 h1 h2)
theorem BF(k:Nat):(0:Int)<=2 ^ k:=by rw[two_pow_cast];exact Int.natCast_nonneg _
theorem cu:i' X (binaryOp .Add) (CO λi j=>.int (i+j)):=K4 λ_ _ _ _ _ _ _ q=>add_int q
theorem jP:i' X (binaryOp .Sub) (CO λi j=>.int (i - j)):=K4 λ_ _ _ _ _ _ _ q=>sub_int q
theorem Iu:i' X (binaryOp .Mult) (rI Ot λi j=>.int (i*j)):=Sx λ_ _ _ _ _ _ _ hc q=>mul_int q hc.ok
theorem M8:i' X (binaryOp .LShift) (rI Sz λi j=>.int (i*2 ^ j.toNat)):=Sx λ_ _ _ _ _ _ _ hc q=>lshift_int_small hc.1 hc.2.1 hc.2.2 q
theorem Ms:i' X (binaryOp .RShift) (rI (λ_ j=>0<=j) λi j=>.int (i / 2 ^ j.toNat)):=Sx λi j _ _ _ _ _ hc q=>
 rshift_int hc (by rw[Int.fdiv_eq_ediv_of_nonneg i (BF _)];exact q)
theorem O8:i' X (binaryOp .BitAnd) (CO λi j=>.int (Builtin.bitAnd i j)):=K4 λ_ _ _ _ _ _ _ q=>and_int q
theorem QL:i' X (binaryOp .BitOr) (CO λi j=>.int (Builtin.bitOr i j)):=K4 λ_ _ _ _ _ _ _ q=>or_int q
theorem UH{f:Value->Sem Value}{g:Int->Int}(rule:∀(i:Int)(t:Tok)(s:Shared)(Q:Value->Shared->Prop)(E:Value->Shared->Prop),Q (.int (g i) s.toks) {s with toks:=s.toks+1}->wpAny (model X.prog X.w) X.A (f (.int i t)) Q E s):
  Tu X f (rU λi=>.int (g i)):=by
 intro UI s σ H x v Q I rx h;obtain⟨i,rfl,q⟩:=h;obtain⟨t,rfl⟩:=rx;exact rule i t s _ _ ⟨.int (g i),H,I.tok _,⟨_,rfl⟩,q⟩
theorem eg:Tu X (unaryOp .USub) (rU λi=>.int (-i)):=UH λ_ _ _ _ _ q=>neg_int q
end
def Il:V->V->Bool
 | .bF,.bF=>true| .bF,.int _=>true| .int _,.bF=>true| .bF,.bl _=>true| .bl _,.bF=>true| .bF,.str _=>true| .str _,.bF=>true
 | .int _,.int _=>true| .bl _,.bl _=>true| .str _,.str _=>true| .bW _,.bW _=>true
 | .int _,.str _=>true| .str _,.int _=>true| .bl _,.str _=>true| .str _,.bl _=>true
 |_,_=>false
def R5:R2:=λx y H Q=>Il x y=true/\Q (.bl (decide (x=y))) H
def Uq:R2:=λx y H Q=>Il x y=true/\Q (.bl (!decide (x=y))) H
theorem C8{i j:Int}:decide (V.int i=V.int j)=(i==j):=by rw[Bool.eq_iff_iff];simp
theorem Hs{i j:Bool}:decide (V.bl i=V.bl j)=(i==j):=by rw[Bool.eq_iff_iff];simp
theorem CM{i j:Str}:decide (V.str i=V.str j)=(i==j):=by rw[Bool.eq_iff_iff];simp
theorem CK{i j:Array UInt8}:decide (V.bW i=V.bW j)=(i.toList==j.toList):=by rw[Bool.eq_iff_iff];cases i;cases j;simp
section
variable{X:Cx}{a b c:Expr}{ta tb tc:TE}{pos:Pos}
theorem bc{Q:VK}{k k':Bool}(I:Inv X UI σ H s)(q:Q (.bl k) H)(e:k=k'):EP X UI σ Q (.bool k') s:=by subst e;exact⟨.bl k,H,I,rfl,q⟩
theorem cG:i' X (compareOp .Eq) R5:=by
 intro UI s σ H x y v u Q I rx ry h;obtain⟨hs,q⟩:=h;cases x with
 |bF=>
  cases rx;cases y with
  |bF=>cases ry;exact PySem.EqNone.eq_none_none (bc I q (by simp))
  |bl j=>cases ry;exact PySem.EqNone.eq_none_bool (bc I q (by simp))
  |int j=>obtain⟨t',rfl⟩:=ry;exact PySem.EqNone.eq_none_int (bc I q (by simp))
  |str j=>obtain⟨t',rfl⟩:=ry;exact PySem.EqNone.eq_none_str (bc I q (by simp))
  |_=>exact absurd (show false=true from hs) Bool.false_ne_true
 |bl i=>
  cases rx;cases y with
  |bF=>cases ry;exact PySem.EqNone.eq_bool_none (bc I q (by simp))
  |bl j=>cases ry;exact eq_bool (bc I q Hs)
  |str j=>obtain⟨t',rfl⟩:=ry;exact PySem.EqMixed.eq_bool_str (bc I q (by simp))
  |_=>exact absurd (show false=true from hs) Bool.false_ne_true
 |int i=>
  obtain⟨t,rfl⟩:=rx;cases y with
  |bF=>cases ry;exact PySem.EqNone.eq_int_none (bc I q (by simp))
  |int j=>obtain⟨t',rfl⟩:=ry;exact eq_int (bc I q C8)
  |str j=>obtain⟨t',rfl⟩:=ry;exact PySem.EqMixed.eq_int_str (bc I q (by simp))
  |_=>exact absurd (show false=true from hs) Bool.false_ne_true
 |str i=>
  obtain⟨t,rfl⟩:=rx;cases y with
  |bF=>cases ry;exact PySem.EqNone.eq_str_none (bc I q (by simp))
  |bl j=>cases ry;exact PySem.EqMixed.eq_str_bool (bc I q (by simp))
  |int j=>obtain⟨t',rfl⟩:=ry;exact PySem.EqMixed.eq_str_int (bc I q (by simp))
  |str j=>obtain⟨t',rfl⟩:=ry;exact eq_str (bc I q CM)
  |_=>exact absurd (show false=true from hs) Bool.false_ne_true
 |bW i=>
  obtain⟨t,rfl⟩:=rx;cases y with
  |bW j=>obtain⟨t',rfl⟩:=ry;exact PySem.W.eq_bytes (bc I q CK)
  |_=>exact absurd (show false=true from hs) Bool.false_ne_true
 |_=>cases y <;> exact absurd (show false=true from hs) Bool.false_ne_true
theorem Ma:i' X (compareOp .NotEq) Uq:=by
 intro UI s σ H x y v u Q I rx ry h;obtain⟨hs,q⟩:=h;cases x with
 |bF=>
  cases rx;cases y with
  |bF=>cases ry;exact PySem.EqNone.ne_none_none (bc I q (by simp))
  |bl j=>cases ry;exact PySem.EqNone.ne_none_bool (bc I q (by simp))
  |int j=>obtain⟨t',rfl⟩:=ry;exact PySem.EqNone.ne_none_int (bc I q (by simp))
  |str j=>obtain⟨t',rfl⟩:=ry;exact PySem.EqNone.ne_none_str (bc I q (by simp))
  |_=>exact absurd (show false=true from hs) Bool.false_ne_true
 |bl i=>
  cases rx;cases y with
  |bF=>cases ry;exact PySem.EqNone.ne_bool_none (bc I q (by simp))
  |bl j=>cases ry;exact ne_bool (bc I q (congrArg not Hs))
  |str j=>obtain⟨t',rfl⟩:=ry;exact PySem.EqMixed.ne_bool_str (bc I q (by simp))
  |_=>exact absurd (show false=true from hs) Bool.false_ne_true
 |int i=>
  obtain⟨t,rfl⟩:=rx;cases y with
  |bF=>cases ry;exact PySem.EqNone.ne_int_none (bc I q (by simp))
  |int j=>obtain⟨t',rfl⟩:=ry;exact ne_int (bc I q (congrArg not C8))
  |str j=>obtain⟨t',rfl⟩:=ry;exact PySem.EqMixed.ne_int_str (bc I q (by simp))
  |_=>exact absurd (show false=true from hs) Bool.false_ne_true
 |str i=>
  obtain⟨t,rfl⟩:=rx;cases y with
  |bF=>cases ry;exact PySem.EqNone.ne_str_none (bc I q (by simp))
  |bl j=>cases ry;exact PySem.EqMixed.ne_str_bool (bc I q (by simp))
  |int j=>obtain⟨t',rfl⟩:=ry;exact PySem.EqMixed.ne_str_int (bc I q (by simp))
  |str j=>obtain⟨t',rfl⟩:=ry;exact ne_str (bc I q (congrArg not CM))
  |_=>exact absurd (show false=true from hs) Bool.false_ne_true
 |bW i=>
  obtain⟨t,rfl⟩:=rx;cases y with
  |bW j=>obtain⟨t',rfl⟩:=ry;exact PySem.W.ne_bytes (bc I q (congrArg not CK))
  |_=>exact absurd (show false=true from hs) Bool.false_ne_true
 |_=>cases y <;> exact absurd (show false=true from hs) Bool.false_ne_true
theorem oP:i' X (compareOp .Lt) (CO λi j=>.bl (decide (i<j))):=MX λ_ _ _ _ _ _ _ q=>lt_int q
theorem g9:i' X (compareOp .LtE) (CO λi j=>.bl (decide (i<=j))):=MX λ_ _ _ _ _ _ _ q=>le_int q
theorem oN:i' X (compareOp .Gt) (CO λi j=>.bl (decide (j<i))):=MX λ_ _ _ _ _ _ _ q=>gt_int q
theorem Ig:i' X (compareOp .Is) (λx y H Q=>y= .bF/\Q (.bl (decide (x= .bF))) H):=by
 intro UI s σ H x y v u Q I rx ry h;obtain⟨rfl,q⟩:=h;cases ry;refine is_none_gen (bc I q ?_);cases x <;> first
  |(cases rx;rfl)
  |(obtain⟨t,rfl⟩:=rx;rfl)
theorem aJ(b:Expr){op:CmpOp}(h:op≠.In:=by decide)(h2:op≠.NotIn:=by decide):behindInMarks op b=false:=by
 have e1:(op==CmpOp.In)=false:=by cases op <;> first|rfl|exact absurd rfl h
 have e2:(op==CmpOp.NotIn)=false:=by cases op <;> first|rfl|exact absurd rfl h2
 cases b <;> simp[behindInMarks,e1,e2]
theorem dO{op:CmpOp}{r:R2}(ho:i' X (compareOp op) r)(ha:PE X a ta)(hb:PE X b tb)(hm:behindInMarks op b=false):PE X (.Compare a [op] [b] pos) (AB r ta tb):=by intro UI s σ H Q I h;exact wpAny_Compare1 (Nw ha hb I h λv u s2 x y H2 I2 rx ry q=>ho UI s2 σ H2 x y v u Q I2 rx ry q) hm
inductive Up(Q:Bool->Hp->Prop)(x:V)(H:Hp):Prop
 |mk(k:Bool) (_:x= .bl k) (_:Q k H)
def ra(t:TE):TT:=λσ H Q=>t σ H λx H'=>Up Q x H'
theorem aD{op:CmpOp}{r:R2}(ho:i' X (compareOp op) r)(ha:PE X a ta)(hb:PE X b tb)(hm:behindInMarks op b=false):PT X (.Compare a [op] [b] pos) (ra (AB r ta tb)):=by
 intro UI s σ H Q I h;refine wpAny_isTrue_Compare1 (br (ha UI s σ H _ I h) λv s1 ⟨x,H1,I1,r1,q1⟩=>br (hb UI s1 σ H1 _ I1 q1) λu s2 ⟨y,H2,I2,r2,q2⟩=>
  br (ho UI s2 σ H2 x y v u _ I2 r1 r2 q2) λc s3 ⟨z,H3,I3,r3,k,e,q3⟩=>?_) hm
 subst e;cases r3;exact wpAny_truthy_bool ⟨H3,I3,q3⟩
def FZ(r r':R2)(ta tb tc:TE):TE:=λσ H Q=>ta σ H λx H1=>tb σ H1 λy H2=>r x y H2 λz H3=>∃k,z= .bl k/\
 (if k=true then tc σ H3 λw' H4=>r' y w' H4 Q else Q (.bl false) H3)
theorem lM{op op':CmpOp}{r r':R2}(ho:i' X (compareOp op) r)(ho':i' X (compareOp op') r')(ha:PE X a ta)(hb:PE X b tb)(hc:PE X c tc)(hm:lastMarks [op,op'] [b,c]=false:=by with_unfolding_all rfl):PE X (.Compare a [op,op'] [b,c] pos) (FZ r r' ta tb tc):=by
 intro UI s σ H Q I h;refine Compare_chain (br (ha UI s σ H _ I h) λv s1 ⟨x,H1,I1,r1,q1⟩=>chain_link (br (hb UI s1 σ H1 _ I1 q1) λu s2 ⟨y,H2,I2,r2,q2⟩=>
  br (ho UI s2 σ H2 x y v u _ I2 r1 r2 q2) λd s3 ⟨z,H3,I3,r3,k,e,q3⟩=>?_)) hm
 subst e;cases r3;refine wpAny_truthy_bool ?_;cases k with
 |false=>exact ite_ff ⟨.bl false,H3,I3,rfl,q3⟩
 |true=>exact ite_tt (chain_last (br (hc UI s3 σ H3 _ I3 q3) λw' s4 ⟨z',H4,I4,r4,q4⟩=>ho' UI s4 σ H4 y z' u w' Q I4 r2 r4 q4))
theorem HM{op op':CmpOp}{r r':R2}(ho:i' X (compareOp op) r)(ho':i' X (compareOp op') r')(ha:PE X a ta)(hb:PE X b tb)(hc:PE X c tc)(hm:lastMarks [op,op'] [b,c]=false:=by with_unfolding_all rfl):PT X (.Compare a [op,op'] [b,c] pos) (ra (FZ r r' ta tb tc)):=by
 intro UI s σ H Q I h;refine isTrue_chain (br (ha UI s σ H _ I h) λv s1 ⟨x,H1,I1,r1,q1⟩=>test_link (br (hb UI s1 σ H1 _ I1 q1) λu s2 ⟨y,H2,I2,r2,q2⟩=>
  br (ho UI s2 σ H2 x y v u _ I2 r1 r2 q2) λd s3 ⟨z,H3,I3,r3,k,e,q3⟩=>?_)) hm
 subst e;cases r3;refine wpAny_truthy_bool ?_;cases k with
 |false=>
  obtain⟨k',e',q'⟩:=q3;cases e';exact ite_ff ⟨H3,I3,q'⟩
 |true=>
  refine ite_tt (test_last (br (hc UI s3 σ H3 _ I3 q3) λw' s4 ⟨z',H4,I4,r4,q4⟩=>br (ho' UI s4 σ H4 y z' u w' _ I4 r2 r4 q4) λd' s5 ⟨z2,H5,I5,r5,k2,e2,q5⟩=>?_));subst e2;cases r5;exact wpAny_truthy_bool ⟨H5,I5,q5⟩
theorem mG:(sizeLine:Nat)<2 ^ 63:=by rw[sizeLine_eq];decide
theorem vals1{x:V}(r:Vals [x] us):∃u,us=[u]/\RelV x u:=by
 cases r with
 |cons r1 r2=>cases r2;exact⟨_,rfl,r1⟩
theorem vals2{x y:V}(r:Vals [x,y] us):∃u w',us=[u,w']/\RelV x u/\RelV y w':=by
 cases r with
 |cons r1 r2=>
  cases r2 with
  |cons r3 r4=>cases r4;exact⟨_,_,rfl,r1,r3⟩
theorem uG(hc:X.calm=true):sj X (.builtin "max") (λxs H Q=>∃i j,xs=[.int i,.int j]/\Q (.int (if j>i then j else i)) H):=by
 intro UI s σ H xs us Q I r h;obtain⟨i,j,rfl,q⟩:=h;obtain⟨u,w',rfl,⟨t,rfl⟩,⟨t',rfl⟩⟩:=vals2 r;refine max_two_ints (I.ok.hd hc) λh' tk k=>⟨_,H,I.kept k,?_,q⟩
 by_cases hj:j>i
 ·rw[if_pos hj,if_pos hj];exact⟨_,rfl⟩
 ·rw[if_neg hj,if_neg hj];exact⟨_,rfl⟩
end
structure Ck(h:Heap)(x dx C:Addr)(mA:Str->Option Value):Prop where
 obj:h.get? x=some (PySem.W.instObj C dx)
 ns:h.Ns1 dx mA
 ne:dx≠x
theorem vi{h:Heap}{dx:Addr}{mA:Str->Option Value}(n:h.Ns1 dx mA):∃od,h.get? dx=some od/\∀name,PySem.W.lookIn name od=some (mA name):=by
 obtain⟨o,es,ep,ho,hd,hk,_,hm⟩:=n;refine⟨o,ho,λname=>?_⟩;have e:=hm name;unfold nsFind findBy at e;rw[<-Array.find?_toList] at e;unfold PySem.W.lookIn;rw[hd];dsimp only;split
 ·rename_i y q;rw[q] at e;exact congrArg some e
 ·rename_i q;rw[q] at e;have a:es.toList.any (·.refKey)=false:=by
   rw[List.any_eq_false];intro y hy;obtain⟨z,t,hkey⟩:=hk y (Array.mem_toList_iff.mp hy);simp[DictEntry.refKey,hkey]
  have a':¬es.toList.any (·.refKey)=true:=by rw[a];exact Bool.false_ne_true
  rw[if_neg a'];exact congrArg some e
theorem Ck.look{h:Heap}{x dx C:Addr}{mA:Str->Option Value}(I:Ck h x dx C mA):∃od,PySem.W.InstAt h x (PySem.W.instObj C dx) C (some od)/\∀name,PySem.W.lookIn name od=some (mA name):=
 let⟨od,ho,hl⟩:=vi I.ns
 ⟨od,⟨I.obj,rfl,rfl,ho⟩,hl⟩
section
variable{prog:Program}{w:World}{A:Around}{E:Value->Shared->Prop}{s:Shared}{K:Frag}{x dx C f:Addr}{mA:Str->Option Value}{name:Str}{v:Value}
theorem get_map{expr:Bool}(X:K.In s.heap)(I:Ck s.heap x dx C mA)(hg:PySem.W.plainGet K C name=true)(hh:PySem.W.hasDictIn K C=true)(ha:PySem.W.findIn K (.ref C) name=some none)(hv:mA name=some v)(hv':PySem.W.handedIn v=true)(h:Q v {s with toks:=s.toks+1}):
  wpAny (model prog w) A (getAttr (.ref x) name expr) Q E s:=by
 obtain⟨od,J,hl⟩:=I.look;exact PySem.W.get_value X J (PySem.W.plainGet_of hg).1 (PySem.W.findObj_own hh ha rfl (by rw[hl,hv])) hv' h
theorem Iq{pl:Sem Bool}{Q:Value×List Value->Shared->Prop}(X:K.In s.heap)(I:Ck s.heap x dx C mA)(hg:PySem.W.plainGet K C name=true)(hf:PySem.W.findIn K (.ref C) name=some (some (.ref f)))(ht:PySem.W.isFn K (.ref f)=true)(hv:mA name=none)(h:Q (.ref f,[.ref x]) s):
  wpAny (model prog w) A (getMethod (.ref x) name pl) Q E s:=by
 obtain⟨od,J,hl⟩:=I.look;exact PySem.W.method_fn X J (PySem.W.plainGet_of hg).1 (PySem.W.plainGet_of hg).2 hf (beq_iff_eq.mp ht) (by show(PySem.W.lookIn name od).map (·.isSome)=some false;rw[hl,hv];rfl) h
theorem KC{ns:List Str}{Q:Unit->Shared->Prop}(X:K.In s.heap)(I:Ck s.heap x dx C mA)(hs:PySem.W.findIn K (.ref C) "__setattr__"=some (some (.builtin "object.__setattr__")))(hp:PySem.W.plainOver K C=true)(ht:PySem.W.takerIn K C name=some none)(hh:PySem.W.hasDictIn K C=true)(hw:PySem.Within mA ns)(hsz:ns.length<=sizeLine)(h:∀h',Ck h' x dx C (λy=>if y=name then some v else mA y)->Heap.SameBut dx s.heap h'->Q () {s with heap:=h',toks:=s.toks+2}):
  wpAny (model prog w) A (setAttr (.ref x) name v) Q E s:=by
 obtain⟨od,J,hl⟩:=I.look;refine PySem.W.set_plain X J hs (PySem.W.osa_open (s:={s with toks:=s.toks+1}) (r:=none) X J hp ht λb=>?_);obtain⟨cd,hc,hd'⟩:=PySem.W.any_some hh;have hx:s.heap.get? x=some ⟨.ref C,some dx,.plain,#[]⟩:=I.obj;refine wpAny_bind (wpAny_pure (wpAny_bind (wpAny_bind (wpAny_loadPart hx (wpAny_bind (PySem.W.Looks.here (s:={s with toks:=s.toks+1}) (PySem.W.looks_clsIn X hc) ?_))))));rw[hd'];refine wpAny_pure (a:=some dx) (wpAny_bind (wpAny_pure (wpAny_bind ?_)));refine wpAny_nsSet1 (s:={s with toks:=s.toks+1}) I.ns λh' hn2 hs2=>?_;obtain⟨oD,esD,epD,hoD,hdD,hcD⟩:=hn2.count (PySem.Within.cons name v hw);refine wpAny_bind (wpAny_lookBehind hoD (by rw[hdD];exact pastItsLine_dict (Nat.le_trans hcD (by rw[List.length_cons];omega))) ?_);exact wpAny_pure (h _ ⟨(hs2.2 _ (Ne.symm I.ne)).trans I.obj,hn2,I.ne⟩ hs2)
theorem zy{R:Result->Shared->Prop}{vs:List Value}{kw:List (Str×Value)}(X:K.In s.heap)(hm:PySem.W.makesIn K C=true)(hi:PySem.W.findIn K (.ref C) "__init__"=some (some (.ref f)))(hf:PySem.W.typeIn K (.ref f)=some (.type "function"))(h:codeAny (model prog w) (A.under (.builtin "type.__call__" ⟨.ref C::vs,kw⟩)) (.call (.ref f) ⟨.ref (s.heap.objs.size+1)::vs,kw⟩) (PySem.W.InitBack (s.heap.objs.size+1) R)
   {s with heap:=(s.heap.push PySem.W.emptyDict).push (PySem.W.instObj C s.heap.objs.size)}):
  codeAny (model prog w) A (.call (.ref C) ⟨vs,kw⟩) R s:=by
 obtain⟨hh,g,d,t,os⟩:=s;exact PySem.W.make_core (PySem.W.makes_of X hm) (PySem.W.looks_findIn X hi) (λself=>PySem.W.bind_fn X self hf) (.inl rfl) h
end
def aW(f:Str)(v:V):List (Str×V)->List (Str×V)
 |[]=>[(f,v)]
 |(g,x)::r=>if g=f then(g,v)::r else(g,x)::aW f v r
theorem aA(f g:Str)(v:V):∀fs:List (Str×V),(aW f v fs).lookup g=if g=f then some v else fs.lookup g
 |[]=>by
  show List.lookup g [(f,v)]=_;by_cases h:g=f
  ·have hb:(g==f)=true:=beq_iff_eq.mpr h;simp only[List.lookup,hb,if_pos h]
  ·have hb:(g==f)=false:=beq_eq_false_iff_ne.mpr h;simp only[List.lookup,hb,if_neg h]
 |(k,x)::r=>by
  have ih:=aA f g v r;rw[show aW f v ((k,x)::r)=(if k=f then(k,v)::r else(k,x)::aW f v r) from rfl];by_cases hk:k=f
  ·rw[if_pos hk];by_cases h:g=k
   ·have hb:(g==k)=true:=beq_iff_eq.mpr h;simp only[List.lookup,hb,if_pos (h.trans hk)]
   ·have hb:(g==k)=false:=beq_eq_false_iff_ne.mpr h;simp only[List.lookup,hb,if_neg (λe:g=f=>h (e.trans hk.symm))]
  ·rw[if_neg hk];by_cases h:g=k
   ·have hb:(g==k)=true:=beq_iff_eq.mpr h;simp only[List.lookup,hb,if_neg (λe:g=f=>hk (h.symm.trans e))]
   ·have hb:(g==k)=false:=beq_eq_false_iff_ne.mpr h;simp only[List.lookup,hb];exact ih
theorem f7(f:Str)(v:V):∀fs:List (Str×V),f∈(aW f v fs).map (·.1)/\∀g,g∈fs.map (·.1)->g∈(aW f v fs).map (·.1)
 |[]=>⟨by simp[aW],λg h=>by simp at h⟩
 |(k,x)::r=>by
  obtain⟨i1,i2⟩:=f7 f v r;rw[show aW f v ((k,x)::r)=(if k=f then(k,v)::r else(k,x)::aW f v r) from rfl];by_cases hk:k=f
  ·rw[if_pos hk];subst hk;exact⟨by simp,λg h=>by simpa using h⟩
  ·rw[if_neg hk];refine⟨?_,λg h=>?_⟩
   ·rw[List.map_cons];exact List.mem_cons_of_mem _ i1
   ·rw[List.map_cons] at h ⊢;rcases List.mem_cons.mp h with e|e
    ·exact List.mem_cons.mpr (.inl e)
    ·exact List.mem_cons_of_mem _ (i2 g e)
theorem aF(f:Str)(v:V):∀fs:List (Str×V),(aW f v fs).length<=fs.length+1
 |[]=>by simp[aW]
 |(k,x)::r=>by
  have ih:=aF f v r;rw[show aW f v ((k,x)::r)=(if k=f then(k,v)::r else(k,x)::aW f v r) from rfl];by_cases hk:k=f
  ·rw[if_pos hk,List.length_cons,List.length_cons];omega
  ·rw[if_neg hk,List.length_cons,List.length_cons];omega
theorem d6.some_of{v:V}{o:Option Value}(r:d6 (some v) o):∃u,o=some u/\RelV v u:=by
 cases o with
 |none=>exact(show False from r).elim
 |some u=>exact⟨u,rfl,r⟩
theorem d6.none_of{o:Option Value}(r:d6 none o):o=none:=by
 cases o with
 |none=>rfl
 |some u=>exact(show False from r).elim
theorem uR{v:V}(r:RelV v u):PySem.W.handedIn u=true:=by
 cases v with
 |bF=>cases(show u=Value.none from r);rfl
 |bl b=>cases(show u=Value.bool b from r);rfl
 |int i=>obtain⟨t,e⟩:=(show ∃t,u=Value.int i t from r);cases e;rfl
 |str x=>obtain⟨t,e⟩:=(show ∃t,u=Value.str x t from r);cases e;rfl
 |bW b=>obtain⟨t,e⟩:=(show ∃t,u=Value.bytes b t from r);cases e;rfl
 |Ju b=>obtain⟨t,e⟩:=(show ∃t,u=Value.float b t from r);cases e;rfl
 |ref a=>cases(show u=Value.ref a from r);rfl
 |ty n=>cases(show u=Value.type n from r);rfl
section
variable{P:Program}{w:World}{H H':Hp}{h h':Heap}{a C dx:Addr}{fs fs':List (Str×V)}
theorem qm(aZ:gy P w H h)(e:H a=some (.ins C dx fs)):∃mA,Ck h a dx C mA/\(∀f,d6 (fs.lookup f) (mA f))/\PySem.Within mA (fs.map (·.1))/\fs.length<=1000/\H dx=some (.own a):=by
 obtain⟨d,z,ne,ob,mA,n,r,q⟩:=(show bK P w H h a (.ins C dx fs) from aZ a _ e)
 exact⟨mA,⟨ob,n,ne⟩,r,q,z,d⟩
end
structure sL(K:Frag)(C:Addr):Prop where
 pg:PySem.W.plainGet K C Str.empty=true
 hd:PySem.W.hasDictIn K C=true
 po:PySem.W.plainOver K C=true
 sa:PySem.W.findIn K (.ref C) "__setattr__"=some (some (.builtin "object.__setattr__"))
theorem sL.get{C:Addr}(c:sL K C)(f:Str):PySem.W.plainGet K C f=true:=c.pg
def aE(K:Frag)(C:Addr)(f:Str):Prop:=PySem.W.findIn K (.ref C) f=some none
theorem aE.F9{C:Addr}{f:Str}(n:aE K C f):PySem.W.takerIn K C f=some none:=by unfold PySem.W.takerIn;rw[show PySem.W.findIn K (.ref C) f=some none from n];rfl
structure Meth(K:Frag)(C:Addr)(m:Str)(f:Addr):Prop where
 at_:PySem.W.findIn K (.ref C) m=some (some (.ref f))
 fn:PySem.W.isFn K (.ref f)=true
 kp:PySem.W.keepIn K (.ref f)=true
section
variable{X:Cx}{UI:List (Addr×Obj)}{σ:St}{H:Hp}{s:Shared}{a C dx:Addr}{fs:List (Str×V)}{f:Str}{v:V}{A:Around}{E:Value->Shared->Prop}
theorem qP{b:Bool}(I:Inv X UI σ H s)(e:H a=some (.ins C dx fs))(c:sL X.K C)(n:aE X.K C f)(l:fs.lookup f=some v)(h:∀u s',Inv X UI σ H s'->RelV v u->Q u s'):wpAny (model X.prog X.w) A (getAttr (.ref a) f b) Q E s:=by obtain⟨mA,O,r,_,_,_⟩:=qm I.aZ e;obtain⟨u,hu,ru⟩:=d6.some_of (v:=v) (o:=mA f) (by rw[<-l];exact r f);exact get_map I.dZ O (c.get f) c.hd n hu (uR ru) (h u _ (I.tok _) ru)
theorem gC{m:Str}{g:Addr}{pl:Sem Bool}{Q:Value×List Value->Shared->Prop}(I:Inv X UI σ H s)(e:H a=some (.ins C dx fs))(c:sL X.K C)(k:Meth X.K C m g)(l:fs.lookup m=none)(h:Q (.ref g,[.ref a]) s):wpAny (model X.prog X.w) A (getMethod (.ref a) m pl) Q E s:=by obtain⟨mA,O,r,_,_,_⟩:=qm I.aZ e;have hn:mA m=none:=d6.none_of (by rw[<-l];exact r m);exact Iq I.dZ O (c.get m) k.at_ k.fn hn h
theorem r8{y:V}{Q:Unit->Shared->Prop}(I:Inv X UI σ H s)(e:H a=some (.ins C dx fs))(c:sL X.K C)(n:aE X.K C f)(hl:fs.length<1000)(ry:RelV y u)(h:∀s',Inv X UI σ (upd H a (.ins C dx (aW f y fs))) s'->Q () s'):wpAny (model X.prog X.w) A (setAttr (.ref a) f u) Q E s:=by
 obtain⟨mA,O,r,wi,_,ho⟩:=qm I.aZ e;have hz:(fs.map (·.1)).length<=sizeLine:=by rw[List.length_map,sizeLine_eq];omega
 refine KC I.dZ O c.sa c.po n.F9 c.hd wi hz λh' O' sb=>h _ ?_;have hd:∃o,h'.get? dx=some o:=let⟨o,_,_,e',_⟩:=O'.ns;⟨o,e'⟩;refine I.write (x:=a) (e:=dx) (by rw[e];exact True.intro) (.inr ho) (λb q hb z=>(sb.2 b hb).trans z) hd ?_;refine⟨by rw[ah O.ne];exact ho,?_,O.ne,O'.obj,_,O'.ns,λg=>?_,λg hg=>?_⟩
 ·have:=aF f y fs;omega
 ·show d6 ((aW f y fs).lookup g) (if g=f then some u else mA g);rw[aA];by_cases q:g=f
  ·rw[if_pos q,if_pos q];exact ry
  ·rw[if_neg q,if_neg q];exact r g
 ·by_cases q:g=f
  ·rw[q];exact(f7 f y fs).1
  ·refine(f7 f y fs).2 g (wi g λz=>hg ?_);show(if g=f then some u else mA g)=none;rw[if_neg q];exact z
theorem Inv.made(I:Inv X UI σ H s):Inv X UI σ (upd (upd H s.heap.objs.size (.own (s.heap.objs.size+1))) (s.heap.objs.size+1) (.ins C s.heap.objs.size []))
  {s with heap:=(s.heap.push PySem.W.emptyDict).push (PySem.W.instObj C s.heap.objs.size)}:=by
 have e1:(s.heap.push PySem.W.emptyDict).get? s.heap.objs.size=some PySem.W.emptyDict:=Heap.get?_push_size s.heap rfl;have e2:((s.heap.push PySem.W.emptyDict).push (PySem.W.instObj C s.heap.objs.size)).get? (s.heap.objs.size+1)=some (PySem.W.instObj C s.heap.objs.size):=by
  have:=Heap.get?_push_size (s.heap.push PySem.W.emptyDict) (o:=PySem.W.instObj C s.heap.objs.size) rfl
  rwa [Heap.size_push] at this
 have e3:(s.heap.push PySem.W.emptyDict).Ns s.heap.objs.size (λ_=>none):=⟨PySem.W.emptyDict,#[],_,e1,rfl,(λe he=>absurd he (by simp)),λ_=>rfl⟩
 have I1:=I.laid (a:=s.heap.objs.size) (o:=.own (s.heap.objs.size+1)) (h':=s.heap.push PySem.W.emptyDict) (t':=s.toks) (λb u q=>Heap.get?_push_of_some _ q) (Nat.le_refl _) ⟨_,e1⟩;refine I1.laid (a:=s.heap.objs.size+1) (o:=.ins C s.heap.objs.size []) (t':=s.toks) (λb u q=>Heap.get?_push_of_some _ q) (Nat.le_of_eq (Heap.size_push _ _)) ?_;have ne:s.heap.objs.size≠s.heap.objs.size+1:=Nat.ne_of_lt (Nat.lt_succ_self _);refine⟨by rw[ah ne,ag],Nat.zero_le _,ne,e2,λ_=>none,(Heap.Ns1.of_empty e3).at λo q=>Heap.get?_push_of_some _ q,λ_=>True.intro,λy hy=>absurd rfl hy⟩
theorem Dt{prog:Program}{env:Env}{e:Expr}{f:Str}{pos:Pos}{s:Shared}(hb:attributeBase e f env (eval e env)=eval e env)(h:wpAny (model prog w) A (eval e env) (λo s₁=>wpAny (model prog w) A (getAttr o f true) Q E s₁) E s):wpAny (model prog w) A (eval (.Attribute e f pos) env) Q E s:=
 Attribute_any_ h (by rw[arm_eval_Attribute,hb])
end
inductive Qm(K:Frag)(f:Str)(Q:VK)(x:V)(H:Hp):Prop
 |mk(a C dx:Addr) (fs:List (Str×V)) (v:V) (_:x= .ref a) (_:H a=some (.ins C dx fs)) (_:sL K C) (_:aE K C f) (_:fs.lookup f=some v) (_:Q v H)
def Be(K:Frag)(ta:TE)(f:Str):TE:=λσ H Q=>ta σ H λx H1=>Qm K f Q x H1
inductive QC(K:Frag)(f:Str)(R:Hp->Prop)(y x:V)(H:Hp):Prop
 |mk(a C dx:Addr) (fs:List (Str×V)) (_:x= .ref a) (_:H a=some (.ins C dx fs)) (_:sL K C) (_:aE K C f) (_:fs.length<1000) (_:R (upd H a (.ins C dx (aW f y fs))))
def Sl(K:Frag)(ta tv:TE)(f:Str):TS:=λD σ H=>tv σ H λy H1=>ta σ H1 λx H2=>QC K f (λH=>D.nx σ H) y x H2
def Py(X:Cx)(op:Operator)(rd:V->V->Hp->VK->Prop):Prop:=
 ∀(UI:List (Addr×Obj))(s:Shared)(σ:St)(H:Hp)(x y:V)(u v:Value)(Q:VK),Inv X UI σ H s->RelV x u->RelV y v->rd x y H Q->wpAny (model X.prog X.w) X.A (inplaceOp op u v) (EP X UI σ Q) X.xe s
def Dk(K:Frag)(ta tv:TE)(rd:V->V->Hp->VK->Prop)(f:Str):TS:=λD σ H=>ta σ H λx H1=>∃a C dx fs v,x= .ref a/\H1 a=some (.ins C dx fs)/\sL K C/\aE K C f/\fs.lookup f=some v/\
 tv σ H1 λy H2=>rd v y H2 λz H3=>∃dx' fs',H3 a=some (.ins C dx' fs')/\fs'.length<1000/\D.nx σ (upd H3 a (.ins C dx' (aW f z fs')))
section
variable{X:Cx}{o e value:Expr}{f:Str}{pos pos' tpos:Pos}{ta tv:TE}
theorem ay(he:PE X e ta)(hb:attributeBase e f X.env (eval e X.env)=eval e X.env):PE X (.Attribute e f pos) (Be X.K ta f):=by intro UI s σ H Q I h;refine Dt hb (br (he UI s σ H _ I h) λu s1 ⟨x,H1,I1,rx,a,C,dx,fs,v,ex,ea,c,n,l,q⟩=>?_);subst ex;obtain rfl:u=Value.ref a:=rx;exact qP I1 ea c n l λu' s2 I2 ru=>⟨v,H1,I2,ru,q⟩
theorem bE(ha:PE X o ta)(hv:PE X value tv)(hs:swapsWith value (some (.Attribute o f pos')) pos.line X.env=pure false):PS X (.Assign [.Attribute o f pos'] value pos) (Sl X.K ta tv f):=by intro UI s σ H D I h;refine plainObj_wpAny_Assign_Attribute (br (hv UI s σ H _ I h) λu s1 ⟨y,H1,I1,ry,q⟩=>br (ha UI s1 σ H1 _ I1 q) λov s2 ⟨x,H2,I2,rx,a,C,dx,fs,ex,ea,c,n,l,q2⟩=>?_) hs;subst ex;obtain rfl:ov=Value.ref a:=rx;exact r8 I2 ea c n l ry λs3 I3=>⟨σ,_,I3,q2⟩
theorem E'{op:Operator}{rd:V->V->Hp->VK->Prop}(ha:PE X o ta)(hv:PE X value tv)(hop:Py X op rd):PS X (.AugAssign (.Attribute o f tpos) op value pos) (Dk X.K ta tv rd f):=by intro UI s σ H D I h;refine wpAny_AugAssign_AttributeAny (br (ha UI s σ H _ I h) λov s1 ⟨x,H1,I1,rx,a,C,dx,fs,v,ex,ea,c,n,l,q⟩=>?_);subst ex;obtain rfl:ov=Value.ref a:=rx;refine qP I1 ea c n l λu s2 I2 ru=>br (hv UI s2 σ H1 _ I2 q) λw3 s3 ⟨y,H2,I3,ry,q3⟩=>br (hop UI s3 σ H2 v y u w3 _ I3 ru ry q3) λw4 s4 ⟨z,H3,I4,rz,dx',fs',ea',l',q4⟩=>?_;exact r8 I4 ea' c n l' rz λs5 I5=>⟨σ,_,I5,q4⟩
inductive QW(x:V)(y:V)(H:Hp)(Q:VK):Prop
 |mk(i:_) (j:_) (_:x= .int i) (_:y= .int j) (_:Q (.int (i+j)) H)
theorem Of:Py X .Add QW:=by
 rintro UI s σ H x y u v Q I rx ry ⟨i,j,rfl,rfl,q⟩;obtain⟨t,rfl⟩:=(show ∃t,u=Value.int i t from rx)
 obtain⟨t',rfl⟩:=(show ∃t',v=Value.int j t' from ry)
 exact PyProof.Rows.iadd_int ⟨.int (i+j),H,I.tok _,⟨_,rfl⟩,q⟩
end
section
variable{X:Cx}{UI:List (Addr×Obj)}{σ:St}{H:Hp}{s:Shared}{A:Around}{E:Value->Shared->Prop}{Q:Value->Shared->Prop}{c:Value}{b:Bool}
inductive nH(K:Frag)(H:Hp):V->Value->Prop where
 |bF:nH K H .bF (.type "NoneType")
 |bl(x:Bool):nH K H (.bl x) (.type "bool")
 |int(i:Int):nH K H (.int i) (.type "int")
 |str(x:Str):nH K H (.str x) (.type "str")
 |Ju(x:UInt64):nH K H (.Ju x) (.type "float")
 |lst{a:Addr} {xs:List V} (e:H a=some (.lst xs)):nH K H (.ref a) (.type "list")
 |rE{a:Addr} {o:Obj} {xs:List V} (e:H a=some (.rE o (.lst xs))):nH K H (.ref a) (.type "list")
 |tup{a:Addr} {xs:List V} (e:H a=some (.tup xs)):nH K H (.ref a) (.type "tuple")
 |dK{a:Addr} {kvs:List (Key×V)} (e:H a=some (.dK kvs)):nH K H (.ref a) (.type "dict")
 |dT{a:Addr} {kvs:List (List Key×V)} (e:H a=some (.dT kvs)):nH K H (.ref a) (.type "dict")
 |ins{a C dx:Addr} {fs:List (Str×V)} (e:H a=some (.ins C dx fs)) (cl:sL K C) (ha:PySem.W.findIn K (.ref C) "__class__"=some (some (.builtin "object.__class__")))
   (hn:PySem.W.specialIn K (.builtin "object.__class__") "__get__"=some (some (.builtin "getset_descriptor.__get__"))) (htk:PySem.W.takesIn K (.builtin "object.__class__")=some true)
   (hm:PySem.W.mroIn K C (.type "object")=some true):nH K H (.ref a) (.ref C)
theorem Eh{x:V}{t:Value}(I:Inv X UI σ H s)(rx:RelV x u)(ty:nH X.K H x t)(e:PySem.W.kitOne X.K t c=some b)(h:∀tk,Q (.bool b) {s with toks:=tk}):
  wpAny (model X.prog X.w) A (call (.builtin "isinstance") [u,c]) Q E s:=by
 cases ty with
 |bF=>cases(show u=Value.none from rx);exact PySem.W.kia_one PySem.W.kitx_none I.dZ True.intro e (λz=>nomatch z) h
 |bl y=>cases(show u=Value.bool y from rx);exact PySem.W.kia_one PySem.W.kitx_bool I.dZ True.intro e (λz=>nomatch z) h
 |int i=>obtain⟨t,q⟩:=(show ∃t,u=Value.int i t from rx);cases q;exact PySem.W.kia_one PySem.W.kitx_int I.dZ True.intro e (λz=>nomatch z) h
 |str y=>obtain⟨t,q⟩:=(show ∃t,u=Value.str y t from rx);cases q;exact PySem.W.kia_one PySem.W.kitx_str I.dZ True.intro e (λz=>nomatch z) h
 |Ju y=>obtain⟨t,q⟩:=(show ∃t,u=Value.float y t from rx);cases q;exact PySem.W.kia_one PySem.W.kitx_float I.dZ True.intro e (λz=>nomatch z) h
 |@lst a xs ea=>
  cases(show u=Value.ref a from rx);obtain⟨_,_,n,_,h1⟩:=(show bK X.prog X.w H s.heap a (.lst xs) from I.aZ a _ ea)
  exact PySem.W.kia_one PySem.W.kitx_list I.dZ ⟨_,h1,rfl⟩ e (λz=>nomatch z) h
 |@rE a ob xs ea=>
  cases(show u=Value.ref a from rx);obtain⟨_,_,_,n,_,h1⟩:=(show bK X.prog X.w H s.heap a (.rE ob (.lst xs)) from I.aZ a _ ea)
  exact PySem.W.kia_one PySem.W.kitx_list I.dZ ⟨_,h1,rfl⟩ e (λz=>nomatch z) h
 |@tup a xs ea=>
  cases(show u=Value.ref a from rx);obtain⟨_,_,_,p⟩:=(show bK X.prog X.w H s.heap a (.tup xs) from I.aZ a _ ea)
  obtain⟨o,h1,h2,_⟩:=p;exact PySem.W.kia_one PySem.W.kitx_tuple I.dZ ⟨o,h1,h2⟩ e (λz=>nomatch z) h
 |@dK a kvs ea=>
  cases(show u=Value.ref a from rx);obtain⟨_,_,vs,_,p⟩:=(show bK X.prog X.w H s.heap a (.dK kvs) from I.aZ a _ ea)
  obtain⟨o,es,ep,h1,h2,_⟩:=p;exact PySem.W.kia_one PySem.W.kitx_dict I.dZ ⟨o,h1,h2.1⟩ e (λz=>nomatch z) h
 |@dT a kvs ea=>
  cases(show u=Value.ref a from rx);obtain⟨_,_,xs,_,o,es,ep,h1,h2,_⟩:=(show bK X.prog X.w H s.heap a (.dT kvs) from I.aZ a _ ea)
  exact PySem.W.kia_one PySem.W.kitx_dict I.dZ ⟨o,h1,h2.1⟩ e (λz=>nomatch z) h
 |@ins a C dx fs ea cl ha hn htk hm=>
  cases(show u=Value.ref a from rx);obtain⟨mA,O,_⟩:=qm I.aZ ea;obtain⟨od,J,_⟩:=O.look;exact PySem.W.kia_one (PySem.W.kitx_own (cl.get _) cl.hd ha hn htk hm) I.dZ J e (λz=>nomatch z) h
end
structure bC(k:Nat)(A:Around):Prop where
 hd:A.handled=none
 dp:A.depth+3*k+5<recursionLimit
 un:A.units+16*k+200<cLine
theorem bC.mono{j k:Nat}(r:bC k A)(h:j<=k):bC j A:=⟨r.hd,by have:=r.dp;omega,by have:=r.un;omega⟩
theorem bC.deeper{k:Nat}(r:bC (k+1) A)(env:Env):bC k (A.deeper env):=
 ⟨r.hd,by have:=r.dp;show A.depth+1+3*k+5<_;omega,by have:=r.un;show A.units+3+16*k+200<_;omega⟩
theorem qA{C:Addr}{kw:List (Str×Value)}:(A.under (.builtin "type.__call__" ⟨.ref C::us,kw⟩)).depth=A.depth+1:=by first|rfl|simp[Around.under,Code.weight,Code.isCreation,Code.isGuard,Code.isCaller,Code.frames,Code.isFrame,guardIds]
theorem sN{C:Addr}{kw:List (Str×Value)}:(A.under (.builtin "type.__call__" ⟨.ref C::us,kw⟩)).units=A.units+1:=by first|rfl|simp[Around.under,Code.cUnits,Code.frames,Code.isFrame]
theorem bC.make{k:Nat}(r:bC (k+1) A)(C:Addr)(us:List Value)(kw:List (Str×Value)):bC k (A.under (.builtin "type.__call__" ⟨.ref C::us,kw⟩)):=
 ⟨r.hd,by have:=r.dp;rw[qA];omega,by have:=r.un;rw[sN];omega⟩
theorem bC.depth{k:Nat}(r:bC k A):A.depth<recursionLimit:=by have:=r.dp;omega
theorem bC.units{k:Nat}(r:bC k A):A.units+64<cLine:=by have:=r.un;omega
def d4:TA:=λ_ H Q=>Q [] H
def bV(ta:TE)(tr:TA):TA:=λσ H Q=>ta σ H λx H1=>tr σ H1 λxs H2=>Q (x::xs) H2
section
variable{X:Cx}{e:Expr}{es:List Expr}{te:TE}{t:TA}{pos:Pos}
theorem ao:PA X [] d4:=λ_ _ _ _ H Q I h=>Calls.spliced_nil ⟨[],H,I,.nil,h⟩
theorem aa(ha:PE X e te)(hr:PA X es t)(hs:starEach (e::es) X.env=(false,eval e X.env)::starEach es X.env:=by rfl):PA X (e::es) (bV te t):=by intro pos UI s σ H Q I h;rw[hs];show wpAny _ _ (spliced ((false,eval e X.env)::backTo pos (starEach es X.env))) _ _ s;refine Calls.spliced_cons (br (ha UI s σ H _ I h) λu s1 ⟨x,H1,I1,r1,q1⟩=>?_);exact br (hr pos UI s1 σ H1 _ I1 q1) λus s2 ⟨xs,H2,I2,r2,q2⟩=>⟨x::xs,H2,I2,.cons r1 r2,q2⟩
def KA(t:TA):TE:=λσ H Q=>t σ H λxs H1=>xs.length<=sizeLine/\∀p,H1 p=none->Q (.ref p) (upd H1 p (.tup xs))
def NG(t:TA):TE:=λσ H Q=>t σ H λxs H1=>xs.length<=sizeLine/\∀p,H1 p=none->Q (.ref p) (upd H1 p (.lst xs))
theorem fO{x1}(h:PA X es t):PE X (.Tuple es x1 pos) (KA t):=by intro UI s σ H Q I hq;refine wpAny_Tuple_spliced (br (h pos UI s σ H _ I hq) λus s1 ⟨xs,H1,I1,r,z,q⟩=>⟨by rw[<-r.length];exact z,?_⟩);have hf:H1 s1.heap.objs.size=none:=I1.aZ.fresh (Nat.le_refl _);refine⟨.ref s1.heap.objs.size,upd H1 s1.heap.objs.size (.tup xs),I1.laid (t':=s1.toks) (λb u e=>Heap.get?_push_of_some _ e) (Nat.le_refl _) ?_,rfl,q _ hf⟩;exact⟨z,us,r,⟨_,Heap.get?_push_size _ rfl,rfl,_,rfl⟩⟩
theorem bx(h:PA X es t):PE X (.List es pos) (NG t):=by intro UI s σ H Q I hq;refine wpAny_List_spliced (br (h pos UI s σ H _ I hq) λus s1 ⟨xs,H1,I1,r,z,q⟩=>⟨by rw[<-r.length];exact z,?_⟩);have hf:H1 s1.heap.objs.size=none:=I1.aZ.fresh (Nat.le_refl _);refine⟨.ref s1.heap.objs.size,upd H1 s1.heap.objs.size (.lst xs),I1.laid (t':=s1.toks) (λb u e=>Heap.get?_push_of_some _ e) (Nat.le_refl _) ?_,rfl,q _ hf⟩;exact⟨z,us,0,r,Heap.get?_push_size _ rfl⟩
end
abbrev Sp:=List V->Hp->VK->XK->Prop
abbrev yz:=List Env->Hp->Shared->XK->Value->Shared->Prop
structure wN(P:Program)(w:World)(K:Frag)(mg:Str->Option Value)(base:Heap)(A:Around)(outer:List Env)(s:Shared)(H:Hp):Prop where
 frames:A.frames=some outer
 mod:Mod K mg base
 bs:∀b o,base.get? b=some o->s.heap.get? b=some o/\H b=none
 FC:base.objs.size<=s.heap.objs.size
 jq:s.heap.FunFrames base outer
 Jz:∀b∈k7 outer,H b=none
 aZ:gy P w H s.heap
 bare:AllBare s.gens
def CE(outer:List Env)(P:Program)(w:World)(H:Hp)(s:Shared)(Q:VK)(u:Value)(s':Shared):Prop:=
 ∃v H',s'.os=s.os/\AllBare s'.gens/\Un (k7 outer) [] H H' s.heap s'.heap/\gy P w H' s'.heap/\RelV v u/\Q v H'
def CR(CX:yz)(outer:List Env)(P:Program)(w:World)(H:Hp)(s:Shared)(Q:VK)(E:XK)(r:Result)(s':Shared):Prop:=
 match r with
 | .ok (.ret u)=>CE outer P w H s Q u s'
 | .ok _=>False
 | .error e=>CX outer H s E e s'
structure cn(P:Program)(w:World)(K:Frag)(mg:Str->Option Value)(base:Heap)(CX:yz)(k:Nat)(f:Addr)(fd:FuncData)(ps:List Str)(sp:Sp):Prop where
 len:∀vs H Q E,sp vs H Q E->vs.length=ps.length
 run:∀(A:Around)(outer:List Env)(s:Shared)(H:Hp)(args:Args)(us:List Value)(vs:List V)(Q:VK)(E:XK),bC k A->wN P w K mg base A outer s H->BindsTo s fd args (ps.zip us)->Vals vs us->sp vs H Q E->
  codeAny (model P w) A (.call (.ref f) args) (CR CX outer P w H s Q E) s
theorem cn.mono{mg:Str->Option Value}{base:Heap}{CX:yz}{j k:Nat}{f:Addr}{fd:FuncData}{ps:List Str}{sp:Sp}(F:cn P w K mg base CX j f fd ps sp)(h:j<=k):
  cn P w K mg base CX k f fd ps sp:=⟨F.len,λA outer s H args us vs Q E hr=>F.run A outer s H args us vs Q E (hr.mono h)⟩
theorem wN.make{mg:Str->Option Value}{base:Heap}{outer:List Env}(e:wN P w K mg base A outer s H)(C:Addr)(us:List Value)(kw:List (Str×Value)):
  wN P w K mg base (A.under (.builtin "type.__call__" ⟨.ref C::us,kw⟩)) outer s H:=⟨by first|exact e.frames|(simpa[Around.under,Code.envs,Code.isFrame,pushEnvs] using e.frames),e.mod,e.bs,e.FC,e.jq,e.Jz,e.aZ,e.bare⟩
section
variable{X:Cx}{UI:List (Addr×Obj)}{σ:St}{H:Hp}{s s':Shared}
theorem Inv.EB(I:Inv X UI σ H s):wN X.prog X.w X.K X.mg X.base X.A X.stack s H:=
 ⟨I.ok.frames,I.ok.mod,I.bs,Nat.le_trans I.ok.FC I.sz,I.stack,I.wa,I.aZ,I.bare⟩
theorem Inv.after{Q:VK}(I:Inv X UI σ H s)(h:CE X.stack X.prog X.w H s Q u s'):EP X UI σ Q u s':=by obtain⟨v,H',os,bare,un,aZ,r,q⟩:=h;obtain⟨hh,g,d,t,os'⟩:=s';obtain rfl:os'=s.os:=os;exact⟨v,H',I.call (h':=hh) (g':=g) (d':=d) (t':=t) (ch:=[]) un aZ bare (λb z=>absurd z (by simp)),r,q⟩
end
def iK(sp:Sp)(dvs:List V)(E:XK)(t:TA):TE:=λσ H Q=>t σ H λvs H1=>sp (vs++dvs) H1 Q E
inductive Rx(C:Addr)(m:Str)(R:Hp->Prop)(x:V)(H:Hp):Prop
 |mk(a dx:Addr) (fs:List (Str×V)) (_:x= .ref a) (_:H a=some (.ins C dx fs)) (_:fs.lookup m=none) (_:R H)
def zw(C:Addr)(m:Str)(sp:Sp)(dvs:List V)(E:XK)(ta:TE)(t:TA):TE:=λσ H Q=>ta σ H λx H1=>Rx C m (λH1=>t σ H1 λvs H2=>sp (x::(vs++dvs)) H2 Q E) x H1
def u4(C:Addr)(sp:Sp)(dvs:List V)(E:XK)(t:TA):TE:=λσ H Q=>t σ H λvs H1=>∀x dx,H1 x=none->H1 dx=none->dx≠x->
 sp (.ref x::(vs++dvs)) (upd (upd H1 dx (.own x)) x (.ins C dx [])) (λv H2=>v= .bF/\Q (.ref x) H2) E
def Binds(K:Frag)(fd:FuncData)(ps:List Str)(ds:List Value):Prop:=
 ∀(s:Shared)(us:List Value),K.In s.heap->(us++ds).length=ps.length->BindsTo s fd ⟨us,[]⟩ (ps.zip (us++ds))
theorem Binds.all{fd:FuncData}{ps:List Str}(h:∀us:List Value,us.length=ps.length->bindArgs fd ⟨us,[]⟩=pure (ps.zip us)):Binds K fd ps []:=λs us _ hl=>by
 rw[List.append_nil] at hl ⊢;exact .of_eq (h us hl)
def Passes(CX:yz)(X:Cx)(E:XK):Prop:=∀(UI:List (Addr×Obj))(σ:St)(H:Hp)(s:Shared)(e:Value)(s':Shared),Inv X UI σ H s->CX X.stack H s E e s'->X.xe e s'
section
variable{X:Cx}{CX:yz}{k:Nat}{f C:Addr}{fd:FuncData}{ps:List Str}{sp:Sp}{dvs:List V}{ds:List Value}{E:XK}{x m:Str}{p pos apos:Pos}{e o:Expr}{es:List Expr}{ta:TE}{t:TA}
theorem m7{Q:VK}{vs:List V}(F:cn X.prog X.w X.K X.mg X.base CX k f fd ps sp)(hr:bC k X.A)(hb:Binds X.K fd ps ds)(hd:Vals dvs ds)(hx:Passes CX X E)(I:Inv X UI σ H s)(r:Vals vs us)(h:sp (vs++dvs) H Q E):wpAny (model X.prog X.w) X.A (call (.ref f) us) (EP X UI σ Q) X.xe s:=by
 have r2:Vals (vs++dvs) (us++ds):=r.append hd;have hl:(us++ds).length=ps.length:=by rw[<-r2.length];exact F.len _ _ _ _ h
 refine wpAny_call (codeAny_mono (F.run X.A X.stack s H ⟨us,[]⟩ (us++ds) (vs++dvs) Q E hr I.EB (hb s us I.dZ hl) r2 h) λr s' hq=>?_);cases r with
 |error e=>exact hx UI σ H s e s' I hq
 |ok fl=>
  cases fl with
  |ret u=>exact I.after hq
  |next=>exact False.elim hq
  |brk=>exact False.elim hq
  |cont=>exact False.elim hq
theorem JM(F:cn X.prog X.w X.K X.mg X.base CX k f fd ps sp)(hr:bC k X.A)(hg:Gl X x)(hm:X.mg x=some (.ref f))(hk:PySem.W.keepIn X.K (.ref f)=true)(hb:Binds X.K fd ps ds)(hd:Vals dvs ds)(hx:Passes CX X E)(ha:PA X (e::es) t)(hdb:(x==("__debug__":Str))=false:=by decide)(he:starEach (e::es) X.env=(false,eval e X.env)::starEach es X.env:=by rfl)(hpl:(backTo pos (starEach es X.env)).any (·.1)=false:=by rfl):
  PE X (.Call (.Name x p) (e::es) [] pos) (iK sp dvs E t):=by
 intro UI s σ H Q I h;refine wpAny_Call_Name_kw (dD I hg hm ?_ hdb);refine PySem.W.callWith_K (h₀:=X.base) I.ok.mod.EJ hk (br (ha pos UI s σ H _ I h) λus s1 ⟨vs,H1,I1,r,q⟩=>⟨I1.dZ,?_⟩) he hpl;exact m7 F hr hb hd hx I1 r q
theorem Gf(F:cn X.prog X.w X.K X.mg X.base CX k f fd ps sp)(hr:bC k X.A)(hg:Gl X x)(hm:X.mg x=some (.ref f))(hk:PySem.W.keepIn X.K (.ref f)=true)(hb:Binds X.K fd ps ds)(hd:Vals dvs ds)(hx:Passes CX X E)(hdb:(x==("__debug__":Str))=false:=by decide):PE X (.Call (.Name x p) [] [] pos) (iK sp dvs E d4):=by intro UI s σ H Q I h;refine wpAny_Call_Name_kw (dD I hg hm ?_ hdb);exact PySem.W.callWith_K0 I.dZ hk (m7 (us:=[]) F hr hb hd hx I .nil h)
theorem Ku{pl:Sem Bool}(he:PE X o ta)(c:sL X.K C)(hm:Meth X.K C m f)(F:cn X.prog X.w X.K X.mg X.base CX k f fd ps sp)(hr:bC k X.A)(hb:Binds X.K fd ps ds)(hd:Vals dvs ds)(hx:Passes CX X E)(ha:PA X (e::es) t)(hst:starEach (e::es) X.env=(false,eval e X.env)::starEach es X.env:=by rfl)(hpl:(backTo pos (starEach es X.env)).any (·.1)=false:=by rfl)(ht:eval (.Call (.Attribute o m apos) (e::es) [] pos) X.env=(do
   let ov<-eval o X.env
   standAt apos.atName
   let(f,first)<-holding [ov] (getMethod ov m pl)
   callWith pos f first (backTo pos (starEach (e::es) X.env)) (backToKw pos (keywordEach [] X.env))):=by rfl):
  PE X (.Call (.Attribute o m apos) (e::es) [] pos) (zw C m sp dvs E ta t):=by
 intro UI s σ H Q I h;refine PySem.W.methodCall_KW (pl:=pl) (br (he UI s σ H _ I h) λu s1 ⟨x,H1,I1,rx,a,dx,fs,ex,ea,l,q⟩=>?_) ht;subst ex;obtain rfl:u=Value.ref a:=rx;refine gC I1 ea c hm l ?_;refine PySem.W.callWith_K (first:=[.ref a]) (h₀:=X.base) I.ok.mod.EJ hm.kp (br (ha pos UI s1 σ H1 _ I1 q) λus s2 ⟨vs,H2,I2,r,q2⟩=>⟨I2.dZ,?_⟩) hst hpl;exact m7 (us:=.ref a::us) (vs:=.ref a::vs) F hr hb hd hx I2 (.cons rfl r) q2
theorem HV{pl:Sem Bool}(he:PE X o ta)(c:sL X.K C)(hm:Meth X.K C m f)(F:cn X.prog X.w X.K X.mg X.base CX k f fd ps sp)(hr:bC k X.A)(hb:Binds X.K fd ps ds)(hd:Vals dvs ds)(hx:Passes CX X E)(ht:eval (.Call (.Attribute o m apos) [] [] pos) X.env=(do
   let ov<-eval o X.env
   standAt apos.atName
   let(f,first)<-holding [ov] (getMethod ov m pl)
   callWith pos f first (backTo pos (starEach [] X.env)) (backToKw pos (keywordEach [] X.env))):=by rfl):
  PE X (.Call (.Attribute o m apos) [] [] pos) (zw C m sp dvs E ta d4):=by
 intro UI s σ H Q I h;refine PySem.W.methodCall_KW (pl:=pl) (br (he UI s σ H _ I h) λu s1 ⟨x,H1,I1,rx,a,dx,fs,ex,ea,l,q⟩=>?_) ht;subst ex;obtain rfl:u=Value.ref a:=rx;refine gC I1 ea c hm l ?_;exact PySem.W.callWith_K0 (first:=[.ref a]) I1.dZ hm.kp (m7 (us:=[.ref a]) (vs:=[.ref a]) F hr hb hd hx I1 (.cons rfl .nil) q)
structure Mk(K:Frag)(C f:Addr):Prop where
 makes:PySem.W.makesIn K C=true
 init:PySem.W.findIn K (.ref C) "__init__"=some (some (.ref f))
 fn:PySem.W.isFn K (.ref f)=true
 kp:PySem.W.keepIn K (.ref C)=true
theorem zt{Q:VK}{vs:List V}(M:Mk X.K C f)(F:cn X.prog X.w X.K X.mg X.base CX k f fd ps sp)(hr:bC (k+1) X.A)(hb:Binds X.K fd ps ds)(hd:Vals dvs ds)(hx:Passes CX X E)(I:Inv X UI σ H s)(r:Vals vs us)(h:∀x dx,H x=none->H dx=none->dx≠x->sp (.ref x::(vs++dvs)) (upd (upd H dx (.own x)) x (.ins C dx [])) (λv H2=>v= .bF/\Q (.ref x) H2) E):
  wpAny (model X.prog X.w) X.A (call (.ref C) us) (EP X UI σ Q) X.xe s:=by
 have hq:=h (s.heap.objs.size+1) s.heap.objs.size (I.aZ.fresh (Nat.le_succ _)) (I.aZ.fresh (Nat.le_refl _)) (Nat.ne_of_lt (Nat.lt_succ_self _));have I2:=Inv.made (C:=C) I;have r2:Vals (V.ref (s.heap.objs.size+1)::(vs++dvs)) (Value.ref (s.heap.objs.size+1)::(us++ds)):=.cons rfl (r.append hd);have hl:(Value.ref (s.heap.objs.size+1)::us++ds).length=ps.length:=by
  have e:=r2.length;rw[F.len _ _ _ _ hq] at e;exact e.symm
 refine wpAny_call (zy (f:=f) I.dZ M.makes M.init (beq_iff_eq.mp M.fn) (codeAny_mono (F.run _ X.stack _ _ ⟨Value.ref (s.heap.objs.size+1)::us,[]⟩ (Value.ref (s.heap.objs.size+1)::(us++ds)) _ _ E (hr.make C us [])
  (I2.EB.make C us []) (hb _ (Value.ref (s.heap.objs.size+1)::us) I2.dZ hl) r2 hq) λr s' hq'=>?_))
 cases r with
 |error e=>exact hx UI σ _ _ e s' I2 hq'
 |ok fl=>
  cases fl with
  |ret u=>
   obtain⟨v,H',I3,rv,ev,q3⟩:=I2.after hq';subst ev;exact⟨rv,⟨V.ref (s.heap.objs.size+1),H',I3,rfl,q3⟩⟩
  |next=>exact False.elim hq'
  |brk=>exact False.elim hq'
  |cont=>exact False.elim hq'
theorem K3(M:Mk X.K C f)(F:cn X.prog X.w X.K X.mg X.base CX k f fd ps sp)(hr:bC (k+1) X.A)(hg:Gl X x)(hm:X.mg x=some (.ref C))(hb:Binds X.K fd ps ds)(hd:Vals dvs ds)(hx:Passes CX X E)(ha:PA X (e::es) t)(hdb:(x==("__debug__":Str))=false:=by decide)(he:starEach (e::es) X.env=(false,eval e X.env)::starEach es X.env:=by rfl)(hpl:(backTo pos (starEach es X.env)).any (·.1)=false:=by rfl):
  PE X (.Call (.Name x p) (e::es) [] pos) (u4 C sp dvs E t):=by
 intro UI s σ H Q I h;refine wpAny_Call_Name_kw (dD I hg hm ?_ hdb);refine PySem.W.callWith_K (h₀:=X.base) I.ok.mod.EJ M.kp (br (ha pos UI s σ H _ I h) λus s1 ⟨vs,H1,I1,r,q⟩=>⟨I1.dZ,?_⟩) he hpl;exact zt M F hr hb hd hx I1 r q
theorem G4(M:Mk X.K C f)(F:cn X.prog X.w X.K X.mg X.base CX k f fd ps sp)(hr:bC (k+1) X.A)(hg:Gl X x)(hm:X.mg x=some (.ref C))(hb:Binds X.K fd ps ds)(hd:Vals dvs ds)(hx:Passes CX X E)(hdb:(x==("__debug__":Str))=false:=by decide):PE X (.Call (.Name x p) [] [] pos) (u4 C sp dvs E d4):=by intro UI s σ H Q I h;refine wpAny_Call_Name_kw (dD I hg hm ?_ hdb);exact PySem.W.callWith_K0 I.dZ M.kp (zt (us:=[]) M F hr hb hd hx I .nil h)
end
section
variable{X:Cx}{CX:yz}{k:Nat}{f C:Addr}{fd:FuncData}{ps ks:List Str}{sp:Sp}{E:XK}{x m:Str}{p pos apos kpos:Pos}{e o:Expr}{es:List Expr}{kws:List Keyword}{te ta:TE}{t tk:TA}{nm:Option Str}
variable{g:List Value->List Value->List Value}{gV:List V->List V->List V}
end
structure ax(N P:List Str)(sc:Scope):Prop where
 kind:sc.kind= .function
 co:sc.isCoroutine=false
 gen:sc.isGenerator=false
 nd:N.Nodup
 pre:N.take P.length=P
 par:∀x∈P,sc.names.lookup x=some .local\/sc.names.lookup x=some .cell
 NJ:∀y∈sc.names,y.2≠.free
theorem vq{kindOf:Str->Option NameKind}:∀{binds:List (Str×Value)}{m:Str->Option Value},(∀v,(x,v)∉binds)->bindL kindOf binds m x=m x
 |[],_,_=>rfl
 |(n,v)::r,m,h=>by
  unfold bindL;rw[vq λw hw=>h w (List.mem_cons_of_mem _ hw)];split
  ·have:x≠n:=by rintro rfl;exact h v List.mem_cons_self
   simp[this]
  ·rfl
theorem uI{kindOf:Str->Option NameKind}:∀{binds:List (Str×Value)}{m:Str->Option Value},(∀v,(x,v)∉binds)->bindC kindOf binds m x=m x
 |[],_,_=>rfl
 |(n,v)::r,m,h=>by
  unfold bindC;rw[uI λw hw=>h w (List.mem_cons_of_mem _ hw)];split
  ·rfl
  ·have:x≠n:=by rintro rfl;exact h v List.mem_cons_self
   simp[this]
theorem vz{kindOf:Str->Option NameKind}{v:Value}:∀{P:List Str}{vs:List Value}{i:Nat}{m:Str->Option Value},P.Nodup->P[i]?=some x->vs[i]?=some v->kindOf x=some .local->
  bindL kindOf (P.zip vs) m x=some v
 |[],_,_,_,_,h,_,_=>by simp at h
 |_::_,[],_,_,_,_,h,_=>by simp at h
 |p::P,w::vs,0,m,nd,h1,h2,hk=>by
  simp at h1 h2;subst h1;subst h2;show bindL kindOf ((p,w)::P.zip vs) m p=_;unfold bindL;rw[vq λv hv=>(List.nodup_cons.mp nd).1 (List.of_mem_zip hv).1,if_pos hk];simp
 |p::P,w::vs,i+1,m,nd,h1,h2,hk=>by
  show bindL kindOf ((p,w)::P.zip vs) m x=_;unfold bindL;exact vz (i:=i) (List.nodup_cons.mp nd).2 (by simpa using h1) (by simpa using h2) hk
theorem uK{kindOf:Str->Option NameKind}{v:Value}:∀{P:List Str}{vs:List Value}{i:Nat}{m:Str->Option Value},P.Nodup->P[i]?=some x->vs[i]?=some v->kindOf x≠some .local->
  bindC kindOf (P.zip vs) m x=some v
 |[],_,_,_,_,h,_,_=>by simp at h
 |_::_,[],_,_,_,_,h,_=>by simp at h
 |p::P,w::vs,0,m,nd,h1,h2,hk=>by
  simp at h1 h2;subst h1;subst h2;show bindC kindOf ((p,w)::P.zip vs) m p=_;unfold bindC;rw[uI λv hv=>(List.nodup_cons.mp nd).1 (List.of_mem_zip hv).1,if_neg hk];simp
 |p::P,w::vs,i+1,m,nd,h1,h2,hk=>by
  show bindC kindOf ((p,w)::P.zip vs) m x=_;unfold bindC;exact uK (i:=i) (List.nodup_cons.mp nd).2 (by simpa using h1) (by simpa using h2) hk
def start(N:List Str)(vs:List V):St:=vs.map some++List.replicate (N.length - vs.length) none
def iO(CX:yz)(P:Program)(w:World)(K:Frag)(mg:Str->Option Value)(base:Heap)(N:List Str)(qual:Str)(scope:Scope)(f:Addr)(cd:Value)(A:Around)(outer:List Env)(s:Shared)(H:Hp)(E:XK):Cx where
 prog:=P
 w:=w
 K:=K
 mg:=mg
 base:=base
 A:=A.deeper (envOfC qual scope s.heap.objs.size f cd)
 N:=N
 oq:=s
 R4:=H
 env:=envOfC qual scope s.heap.objs.size f cd
 outer:=outer
 stack:=envOfC qual scope s.heap.objs.size f cd::outer
 ex:=[]
 calm:=true
 fn:=λ_=>true
 pn:=[]
 xe:=λe s'=>wpAny (model P w) (A.deeper (envOfC qual scope s.heap.objs.size f cd)) (leaving (envOfC qual scope s.heap.objs.size f cd) e) (λ_ s''=>CX outer H s E e s'') (λe' s''=>CX outer H s E e' s'') s'
theorem Ap{sc:Scope}{n:Nat}(h:sc.names.lookup x=some .cell):∃c,(cellsFrom n sc.names []).lookup x=some c:=by have q:=PySem.W.cellsFrom_some sc.names n [] (.inl h);exact Option.isSome_iff_exists.mp q
theorem mY{CX:yz}{mg:Str->Option Value}{base:Heap}{N ps:List Str}{qual:Str}{scope:Scope}{f:Addr}{cd:Value}{outer:List Env}{s1:Shared}{E:XK}{vs:List V}(S:ax N ps scope)(hd:A.handled=none)(e0:wN P w K mg base A outer s H)(hl:vs.length=ps.length)(r:Vals vs us)(x:InCallC s s.heap.objs.size (bindL (envOfC qual scope s.heap.objs.size f cd).kindOf (ps.zip us) λ_=>none) (cellsFrom (s.heap.objs.size+1) scope.names []) (bindC (envOfC qual scope s.heap.objs.size f cd).kindOf (ps.zip us) λ_=>none) s1):
  Inv (iO CX P w K mg base N qual scope f cd A outer s H E) [] (start N vs) H s1:=by
 have hpl:ps.length<=N.length:=by have:=congrArg List.length S.pre;rw[List.length_take] at this;omega
 obtain⟨h1,tk,rfl,hk⟩:=x.done;have noA:∀b:Addr,b∉(iO CX P w K mg base N qual scope f cd A outer s H E).ex:=λb z=>absurd (show b∈([]:List Addr) from z) (by simp);refine⟨⟨e0.mod,S.kind,rfl,rfl,Nat.le_refl _,λy z c h1 h2=>?_,λy hy=>?_,λy c _ h=>?_,λ_=>hd,Around.frames_deeper e0.frames,.inr ⟨rfl,rfl⟩,λb z=>absurd z (noA b),e0.bs,e0.FC,λb _ _=>noA b,λb z=>absurd z (noA b),e0.jq,e0.Jz⟩,
  rfl,e0.bare,Un.kept hk,⟨_,x.toInCall.ns,λi y v h1 h2 h3=>?_⟩,λy c h=>⟨_,x.cell y c h⟩,e0.aZ.fresh (Nat.le_refl _),λy c h=>?_,λp hp=>absurd (show p∈([]:List (Addr×Obj)) from hp) (by simp),e0.aZ.kept hk,?_⟩
 ·exact name_of_addr x.apart (PySem.mem_of_lookup h1) (PySem.mem_of_lookup h2)
 ·have hy:scope.names.lookup y=some .cell\/scope.names.lookup y=some .free:=hy;rcases hy with hy|hy
  ·exact Ap hy
  ·exact absurd rfl (S.NJ _ (PySem.mem_of_lookup hy))
 ·exact Nat.le_of_lt (x.above y c (PySem.mem_of_lookup h))
 ·have hi:i<vs.length:=by
   unfold start at h2;by_cases hi:i<vs.length
   ·exact hi
   ·rw[List.getElem?_append_right (by simpa using hi)] at h2;rw[List.getElem?_replicate] at h2;split at h2 <;> cases h2
  have ha:vs[i]?=some v:=by
   unfold start at h2;rw[List.getElem?_append_left (by simpa using hi),List.getElem?_map] at h2;cases e:vs[i]? with
   |none=>rw[e] at h2;cases h2
   |some a=>rw[e] at h2;cases h2;rfl
  obtain⟨u,hu,rv⟩:=r.get ha;have hp:ps[i]?=some y:=by
   rw[<-S.pre,List.getElem?_take_of_lt ↑2];exact h1
  have ndP:ps.Nodup:=by rw[<-S.pre];exact S.nd.sublist (List.take_sublist _ _)
  refine⟨u,rv,?_⟩;rcases S.par y (List.mem_of_getElem? hp) with k|k
  ·exact .inl ⟨k,vz ndP hp hu k⟩
  ·obtain⟨c,e⟩:=Ap (n:=s.heap.objs.size+1) k;refine .inr ⟨.inl k,c,e,?_⟩;have q:=x.cell y c e;rw[uK ndP hp hu (by show scope.names.lookup y≠_;rw[k];decide)] at q;exact q
 ·exact e0.aZ.fresh (Nat.le_of_lt (x.above y c (PySem.mem_of_lookup h)))
 ·unfold start;show _=N.length;rw[List.length_append,List.length_map,List.length_replicate];omega
theorem LM{CX:yz}{mg:Str->Option Value}{base:Heap}{k:Nat}{f:Addr}{name qual:Str}{params:Arguments}{body:List Stmt}{scope:Scope}{dV kV doc pm UJ ct oc:Value}{an od:Option Addr}{osl:Array (Option Value)}{N ps:List Str}{sp:Sp}(lk:K.lookup f=some ⟨oc,od,.func (PySem.W.fnOf name qual params body scope dV kV doc pm an UJ ct),osl⟩)(hcd:PySem.W.codeIn K UJ qual=true)(S:ax N ps scope)(len:∀vs H Q E,sp vs H Q E->vs.length=ps.length)(hbody:∀(A:Around)(outer:List Env)(s:Shared)(H:Hp)(vs:List V)(Q:VK)(E:XK),bC k (A.deeper (envOfC qual scope s.heap.objs.size f UJ))->sp vs H Q E->
   ∃t,so (iO CX P w K mg base N qual scope f UJ A outer s H E) body t/\t {nx:=λ_ H'=>Q .bF H',rt:=Q} (start N vs) H):
  cn P w K mg base CX (k+1) f (PySem.W.fnOf name qual params body scope dV kV doc pm an UJ ct) ps sp:=by
 refine⟨len,λA outer s H args us vs Q E hr e0 hb r hsp=>?_⟩;have hl:=len _ _ _ _ hsp;have KX:K.In s.heap:=e0.mod.EJ.keeps λb o e=>(e0.bs b o e).1;have lim:s.heap.NoLimit:=e0.mod.nolimit.keeps λb o e=>(e0.bs b o e).1;have hkind:∀y∈ps.zip us,scope.names.lookup y.1=some .local\/(scope.names.lookup y.1=some .cell/\((cellsFrom (s.heap.objs.size+1) scope.names []).lookup y.1).isSome=true):=λ⟨n,v⟩ hy=>by
  rcases S.par n (List.of_mem_zip hy).1 with q|q
  ·exact .inl q
  ·exact .inr ⟨q,PySem.W.cellsFrom_some _ _ _ (.inl q)⟩
 refine codeAny_call_function hr.depth (KX _ _ lk) rfl S.co S.gen rfl (PySem.W.codeRec_of KX hcd) (hb _ _ _ _ ?_);refine wpAny_newFunctionEnv_cells S.kind hkind λenv he s1 x=>?_;subst he;refine⟨lim.keeps x.toInCall.keep,codeAny_func ?_⟩;obtain⟨t,ht,hq⟩:=hbody A outer s H vs Q E (hr.deeper _) hsp;have I:Inv (iO CX P w K mg base N qual scope f UJ A outer s H E) [] (start N vs) H s1:=mY S hr.hd e0 hl r x;refine wpAny_mono (ht [] s1 (start N vs) H _ I hq) (λfl s' hs=>?_) λe s' hs=>hs;have fin:∀{σ':St}{H':Hp}{v:V}{u:Value},Inv (iO CX P w K mg base N qual scope f UJ A outer s H E) [] σ' H' s'->RelV v u->Q v H'->CE outer P w H s Q u s':=
  λ{σ' H' v u} J rv q=>⟨v,H',J.os,J.bare,J.base,J.aZ,rv,q⟩
 cases fl with
 |ret u=>
  obtain⟨v,σ',H',J,rv,q⟩:=hs;exact fin J rv q
 |next=>
  obtain⟨σ',H',J,q⟩:=hs;exact fin (v:=V.bF) (u:=Value.none) J rfl q
 |brk=>
  obtain⟨_,_,_,q⟩:=hs;exact False.elim q
 |cont=>
  obtain⟨_,_,_,q⟩:=hs;exact False.elim q
section
variable{X:Cx}{x:Str}{p pos:Pos}{e:Expr}{es:List Expr}{t:TA}{id T:String}{r:List V->Hp->VK->Prop}
def LA(r:List V->Hp->VK->Prop)(t:TA):TE:=λσ H Q=>t σ H λvs H1=>r vs H1 Q
theorem eK(hc:sj X (.builtin id) r)(hg:Gl X x)(hm:X.mg x=none)(hv:bootBuiltins x=some (.builtin id))(ha:PA X (e::es) t)(hn:x≠"__name__":=by decide)(hdb:(x==("__debug__":Str))=false:=by decide)(he:starEach (e::es) X.env=(false,eval e X.env)::starEach es X.env:=by rfl)(hpl:(backTo pos (starEach es X.env)).any (·.1)=false:=by rfl):PE X (.Call (.Name x p) (e::es) [] pos) (LA r t):=by intro UI s σ H Q I h;refine wpAny_Call_Name_kw (xh I hg hm hv ?_ hn hdb);exact PyProof.Rows.callWith_builtin1 (br (ha pos UI s σ H _ I h) λus s1 ⟨vs,H1,I1,r1,q1⟩=>hc UI s1 σ H1 vs us Q I1 r1 q1) he hpl
theorem E6(hc:sj X (.type T) r)(hg:Gl X x)(hm:X.mg x=none)(hv:bootBuiltins x=some (.type T))(ha:PA X (e::es) t)(hn:x≠"__name__":=by decide)(hdb:(x==("__debug__":Str))=false:=by decide)(he:starEach (e::es) X.env=(false,eval e X.env)::starEach es X.env:=by rfl)(hpl:(backTo pos (starEach es X.env)).any (·.1)=false:=by rfl):PE X (.Call (.Name x p) (e::es) [] pos) (LA r t):=by intro UI s σ H Q I h;refine wpAny_Call_Name_kw (xh I hg hm hv ?_ hn hdb);exact PyProof.Rows.callWith_type1 (br (ha pos UI s σ H _ I h) λus s1 ⟨vs,H1,I1,r1,q1⟩=>hc UI s1 σ H1 vs us Q I1 r1 q1) he hpl
end
end L2
namespace HT
open PySem PyProof.Rows
section
open PySem.SeqAt
open PySem.AutoSeq1 (wpAny_loadPart')
open PySem.MeetsSeq PySem.MeetsSeq2 PySem.MeetsSeq3
end
section
variable{prog:Program}{w:World}{A:Around}{E:Value->Shared->Prop}{s:Shared}
def Am(n d:Nat):Option Int->Nat
 |none=>d
 |some v=>if v<0 then(v+(n:Int)).toNat else min v.toNat n
theorem F7(n d:Nat):Am n d none=d:=rfl
theorem kr(n d k:Nat):Am n d (some (k:Int))=min k n:=by show(if(k:Int)<0 then((k:Int)+(n:Int)).toNat else min (k:Int).toNat n)=min k n;rw[if_neg ↑2,Int.toNat_natCast]
theorem jT{v:Value}{o:Option Int}{Q:Option Int->Shared->Prop}(p:IsPart v o)(h:Q o s):wpAny (model prog w) A (Builtin.Slice.slicePartIndex v) Q E s:=by
 cases p with
 |none=>exact slicePart_none h
 |int i t=>exact slicePart_int h
end
end HT
namespace L2
open PySem PySem.Spec PyProof.Rows
variable{UI:List (Addr×Obj)}{H:Hp}{s:Shared}{A:Around}{w:World}{Q:Value->Shared->Prop}{kvs:List (List Key×V)}
abbrev TO:=St->Hp->(Option Int->Hp->Prop)->Prop
def PO(X:Cx)(e:Option Expr)(t:TO):Prop:=
 ∀(UI:List (Addr×Obj))(s:Shared)(σ:St)(H:Hp)(Q:Option Int->Hp->Prop),Inv X UI σ H s->t σ H Q->
  wpAny (model X.prog X.w) X.A (evalPart e X.env) (λu s'=>∃o H',Inv X UI σ H' s'/\IsPart u o/\Q o H') X.xe s
def Li:TO:=λ_ H Q=>Q none H
def Rb(t:TE):TO:=λσ H Q=>t σ H λx H1=>∃i,x= .int i/\Q (some i) H1
section
variable{X:Cx}{e:Expr}{te:TE}{lo hi:Option Expr}{tl th:TO}{pos p2:Pos}
theorem C2:PO X none Li:=by intro UI s σ H Q I h;rw[evalPart_none];exact wpAny_pure ⟨none,H,I,.none,h⟩
theorem bU(h:PE X e te):PO X (some e) (Rb te):=by intro UI s σ H Q I hw;rw[evalPart_some];refine br (h UI s σ H _ I hw) λu s1 ⟨x,H1,I1,r1,q1⟩=>?_;obtain⟨i,rfl,q⟩:=q1;obtain⟨t,rfl⟩:=r1;exact⟨some i,H1,I1,.int i t,q⟩
def T9(X:Cx)(r:V->Option Int->Option Int->Hp->VK->Prop):Prop:=
 ∀(UI:List (Addr×Obj))(s:Shared)(σ:St)(H:Hp)(x:V)(v vl vu:Value)(lo hi:Option Int)(sl:Addr)(Q:VK),Inv X UI σ H s->RelV x v->s.heap.IsSliceOf sl vl vu .none->IsPart vl lo->IsPart vu hi->r x lo hi H Q->
  ∃T id,typeLookup (.type T) "__getitem__"=pure (some (.builtin id))/\s.TypeIs v T/\wpAny (model X.prog X.w) X.A (getItem v (.ref sl)) (EP X UI σ Q) X.xe s
def Uo(r:V->Option Int->Option Int->Hp->VK->Prop)(te:TE)(tl th:TO):TE:=λσ H Q=>te σ H λx H1=>tl σ H1 λl H2=>th σ H2 λu H3=>r x l u H3 Q
theorem dP{r:V->Option Int->Option Int->Hp->VK->Prop}(hr:T9 X r)(he:PE X e te)(hl:PO X lo tl)(hu:PO X hi th):PE X (.Subscript e (.Slice lo hi none p2) pos) (Uo r te tl th):=by intro UI s σ H Q I h;refine Subscript_ (br (he UI s σ H _ I h) λv s1 ⟨x,H1,I1,r1,q1⟩=>?_);refine wpAny_Slice (br (hl UI s1 σ H1 _ I1 q1) λvl s2 ⟨l,H2,I2,pl,q2⟩=>br (hu UI s2 σ H2 _ I2 q2) λvu s3 ⟨u,H3,I3,pu,q3⟩=>?_);rw[evalPart_none];refine wpAny_pure ?_;have I4:Inv X UI σ H3 {s3 with heap:=s3.heap.push {cls:=.type "slice",data:=.fields #[vl,vu,.none]}}:=I3.kept (t':=s3.toks) λb ob q=>Heap.get?_push_of_some _ q;obtain⟨T,id,hT,ht,hg⟩:=hr UI {s3 with heap:=s3.heap.push {cls:=.type "slice",data:=.fields #[vl,vu,.none]}} σ H3 x v vl vu l u s3.heap.objs.size Q I4 r1 (Heap.IsSliceOf.new ..) pl pu q3;show wpAny (model X.prog X.w) X.A (subscriptTail e (.Slice lo hi none p2) v (.ref s3.heap.objs.size)) (EP X UI σ Q) X.xe {s3 with heap:=s3.heap.push {cls:=.type "slice",data:=.fields #[vl,vu,.none]}};exact tail_any (ops:=[.ref s3.heap.objs.size,v]) ht hT hg (by with_unfolding_all rfl)
def gT(xs:List V)(lo hi:Option Int):List V:=(xs.drop (HT.Am xs.length 0 lo)).take (HT.Am xs.length xs.length hi - HT.Am xs.length 0 lo)
theorem oz(xs:List V)(lo hi:Option Int):(gT xs lo hi).length<=xs.length:=by unfold gT;rw[List.length_take,List.length_drop];omega
end
def Fv(n:Nat)(i:Int):Option Nat:=if 0<=i then(if i<n then some i.toNat else none) else if -(n:Int)<=i then some (i+n).toNat else none
def vm{α:Type}(xs:List α)(i:Int):Option α:=(Fv xs.length i).bind λj=>xs[j]?
theorem Dy{n:Nat}{i:Int}{j:Nat}(h:Fv n i=some j):seqIndex? i n=some j/\j<n/\ -(n:Int)<=i/\i<n:=by
 unfold Fv at h;by_cases h0:0<=i
 ·rw[if_pos h0] at h;by_cases h1:i<n
  ·rw[if_pos h1] at h;have e:i.toNat=j:=Option.some.inj h;exact⟨by rw[seqIndex_of h0 h1,e],↑2,↑2,h1⟩
  ·rw[if_neg h1] at h;cases h
 ·rw[if_neg h0] at h;by_cases h1: -(n:Int)<=i
  ·rw[if_pos h1] at h;have e:(i+n).toNat=j:=Option.some.inj h;exact⟨by rw[seqIndex_neg ↑2 h1,e],↑2,h1,↑2⟩
  ·rw[if_neg h1] at h;cases h
theorem qi{α:Type}{xs:List α}{i:Int}{v:α}(h:vm xs i=some v):∃j,seqIndex? i xs.length=some j/\xs[j]?=some v/\j<xs.length/\ -(xs.length:Int)<=i/\i<xs.length:=by
 unfold vm at h;cases e:Fv xs.length i with
 |none=>rw[e] at h;cases h
 |some j=>
  rw[e] at h;obtain⟨h1,h2,h3,h4⟩:=Dy e;exact⟨j,h1,h,h2,h3,h4⟩
theorem KY{α:Type}{xs:List α}{j:Nat}{v:α}(h:xs[j]?=some v):vm xs (j:Int)=some v:=by
 have hj:j<xs.length:=(List.getElem?_eq_some_iff.mp h).1;have e:Fv xs.length (j:Int)=some j:=by
  unfold Fv;rw[if_pos ↑2,if_pos ↑2];simp
 unfold vm;rw[e];exact h
def Kh(b:Expr):Prop:=∀o i,subscripted b false o i=operate [o,i] (getItem o i)
def Pb(X:Cx)(r:R2):Prop:=
 ∀(value UK:Expr)(UI:List (Addr×Obj))(s:Shared)(σ:St)(H:Hp)(x y:V)(v u:Value)(Q:VK),Inv X UI σ H s->RelV x v->RelV y u->r x y H Q->
  subscripted UK false v u=operate [v,u] (getItem v u)->wpAny (model X.prog X.w) X.A (subscriptTail value UK v u) (EP X UI σ Q) X.xe s
def R9(X:Cx)(id:String)(r:V->List V->Hp->VK->Prop):Prop:=
 ∀(UI:List (Addr×Obj))(s:Shared)(σ:St)(H:Hp)(x:V)(xs:List V)(v:Value)(us:List Value)(Q:VK),Inv X UI σ H s->RelV x v->Vals xs us->r x xs H Q->
  wpAny (model X.prog X.w) X.A (call (.builtin id) (v::us)) (EP X UI σ Q) X.xe s
section
variable{X:Cx}{a b:Expr}{ta tb:TE}{pos:Pos}
theorem bz{r:R2}(hr:Pb X r)(ha:PE X a ta)(hb:PE X b tb)(hs:Kh b):PE X (.Subscript a b pos) (AB r ta tb):=by intro UI s σ H Q I h;exact Subscript_ (Nw ha hb I h λv u s2 x y H2 I2 rx ry q=>hr a b UI s2 σ H2 x y v u Q I2 rx ry q (hs _ _))
inductive Ki(K:Frag)(x:V)(y:V)(H:Hp)(Q:VK):Prop
 |mk(p:_) (xs:_) (i:_) (v:_) (_:x= .ref p) (_:y= .int i) (_:bf K H p xs) (_:vm xs i=some v) (_:Q v H)
inductive SU(K:Frag)(x:V)(y:V)(H:Hp)(Q:VK):Prop
 |mk(p:_) (xs:_) (i:_) (v:_) (_:x= .ref p) (_:y= .int i) (_:fE K H p xs) (_:vm xs i=some v) (_:Q v H)
inductive SO(x:V)(y:V)(H:Hp)(Q:VK):Prop
 |mk(z:_) (i:_) (c:_) (_:x= .str z) (_:y= .int i) (_:z.length<=sizeLine) (_:vm z.cps.toList i=some c) (_:Q (.str ⟨#[c]⟩) H)
theorem aX:Pb X (Ki X.K):=by
 intro value UK UI s σ H x y v u Q I rx ry h hs;obtain⟨p,xs,i,z,rfl,rfl,hq,he,q⟩:=h;cases rx;obtain⟨t,rfl⟩:=ry;obtain⟨its,r,pl,hz⟩:=I.list hq;obtain⟨j,h1,h2,h3,h4,h5⟩:=qi he;obtain⟨w,ew,rw'⟩:=r.get h2;have hl:=r.length;have hn:=mG;have fin:EP X UI σ Q w s:=⟨z,H,I,rw',q⟩
 by_cases h0:0<=i
 ·have hj:i.toNat=j:=by
   rw[seqIndex_of h0 h5] at h1;exact Option.some.inj h1
  exact item_listR pl.isList h0 ↑2 (by rw[hj];simpa using ew) fin hs
 ·have hj:(i+(its.toArray.size:Int)).toNat=j:=by
   rw[seqIndex_neg ↑2 h4] at h1;rw[List.size_toArray,<-hl];exact Option.some.inj h1
  exact subscriptTail_builtinR (x:=w) pl.isList.typeIs slot_list_getitem.lookup
   (wpAny_getItem_list_neg (Q:=λr s'=>r=w/\EP X UI σ Q r s') pl.isList ↑2 (by rw[List.size_toArray] <;> omega) ↑2 (by rw[hj];simpa using ew) ⟨rfl,fin⟩) hs
theorem yc:Pb X (SU X.K):=by
 intro value UK UI s σ H x y v u Q I rx ry h hs;obtain⟨p,xs,i,z,rfl,rfl,hq,he,q⟩:=h;cases rx;obtain⟨t,rfl⟩:=ry;obtain⟨its,r,pl,hz⟩:=I.tuple hq;obtain⟨j,h1,h2,h3,h4,h5⟩:=qi he;obtain⟨w,ew,rw'⟩:=r.get h2;have hl:=r.length;have hn:=mG;have fin:EP X UI σ Q w s:=⟨z,H,I,rw',q⟩
 exact subscriptTail_builtinR (x:=w) pl.typeIs slot_tuple_getitem.lookup
  (getItem_tuple (j:=j) (Q:=λr s'=>r=w/\EP X UI σ Q r s') pl ↑2 ↑2 (by rw[List.size_toArray,<-hl];exact h1) (by simpa using ew) ⟨rfl,fin⟩) hs
theorem Mn:Pb X SO:=by
 intro value UK UI s σ H x y v u Q I rx ry h hs;obtain⟨z,i,c,rfl,rfl,hz,he,q⟩:=h;obtain⟨t,rfl⟩:=rx;obtain⟨t',rfl⟩:=ry;obtain⟨j,h1,h2,h3,h4,h5⟩:=qi he;have hl:z.cps.toList.length=z.length:=by simp[Str.length]
 rw[hl] at h1 h4 h5;have hn:=mG;exact tail_any (typeIs_str s z t) slot_str_getitem.lookup (getItem_str (c:=c) (by
  have e1:decide (i< -(2 ^ 63:Int))=false:=decide_eq_false ↑2;have e2:decide (i≥2 ^ 63)=false:=decide_eq_false ↑2;rw[e1,e2,Bool.or_false]) (by rw[h1];simpa using h2) ⟨.str ⟨#[c]⟩,H,I.tok _,⟨_,rfl⟩,q⟩) hs
theorem BA(its:List Value)(n j:Nat)(u:Value):Obj.mapSeq (·.setIfInBounds j u) {cls:=.type "list",data:=.seq its.toArray n}={cls:=.type "list",data:=.seq (its.set j u).toArray n}:=by simp[Obj.mapSeq]
theorem Inv.lst{σ:St}{p:Addr}{xs:List V}(I:Inv X UI σ H s)(h:H p=some (.lst xs)):
  ∃(its:List Value)(n:Nat),Vals xs its/\s.heap.get? p=some {cls:=.type "list",data:=.seq its.toArray n}/\xs.length<=sizeLine:=by
 obtain⟨z,its,n,r,e⟩:=I.aZ p _ h;exact⟨its,n,r,e,z⟩
theorem Inv.Ni{σ:St}{p:Addr}{xs ys:List V}{its its':List Value}{n n':Nat}{f:Obj->Obj}(I:Inv X UI σ H s)(h:H p=some (.lst xs))(ho:s.heap.get? p=some {cls:=.type "list",data:=.seq its.toArray n})(hf:f {cls:=.type "list",data:=.seq its.toArray n}={cls:=.type "list",data:=.seq its'.toArray n'})(r:Vals ys its')(hz:ys.length<=sizeLine)(t:Nat):
  Inv X UI σ (upd H p (.lst ys)) {s with heap:=s.heap.update p f,toks:=t}:=by
 have e:(s.heap.update p f).get? p=some {cls:=.type "list",data:=.seq its'.toArray n'}:=by
  rw[Heap.get?_update_self f ho (by rw[hf] <;> rfl),hf]
 refine I.write (x:=p) (e:=p) (by rw[h];trivial) (.inl rfl) (λb u hb q=>(Heap.get?_update_other _ _ (Ne.symm hb)).trans q) ⟨_,e⟩ ?_;exact⟨hz,its',n',r,e⟩
inductive L_(o:V)(i:V)(v:V)(H:Hp)(Q:(Hp->Prop)):Prop
 |mk(p:_) (xs:_) (k:_) (j:_) (_:o= .ref p) (_:i= .int k) (_:H p=some (.lst xs)) (_:Fv xs.length k=some j) (_:Q (upd H p (.lst (xs.set j v))))
theorem set_list:Ow X L_:=by
 intro UI s σ H o i v ov iv u Q I ro ri rv h;obtain⟨p,xs,k,j,rfl,rfl,hp,hj,q⟩:=h;cases ro;obtain⟨t,rfl⟩:=ri;obtain⟨its,n,r,ho,hz⟩:=I.lst hp;obtain⟨h1,h2,h3,h4⟩:=Dy hj;have hl:=r.length;have hn:=mG;have I':Inv X UI σ (upd H p (.lst (xs.set j v))) {s with heap:=s.heap.update p (Obj.mapSeq (·.setIfInBounds j u))}:=
  I.Ni hp ho (BA its n j u) (r.set rv j) (by rw[List.length_set];exact hz) s.toks
 by_cases h0:0<=k
 ·have hk:k.toNat=j:=by
   rw[seqIndex_of h0 h4] at h1;exact Option.some.inj h1
  exact PySem.W.ki_setAt ho h0 ↑2 (by rw[List.size_toArray,<-hl];exact h4) (by rw[hk];exact⟨_,I',q⟩)
 ·have hk:(k+(its.toArray.size:Int)).toNat=j:=by
   rw[seqIndex_neg ↑2 h3] at h1;rw[List.size_toArray,<-hl];exact Option.some.inj h1
  exact PySem.W.ki_setBack ho ↑2 (by rw[List.size_toArray,<-hl];exact h3) ↑2 (by rw[hk];exact⟨_,I',q⟩)
theorem vI(lo hi:Option Int)(n:Nat):(sliceBounds lo hi none n).1=((HT.Am n 0 lo:Nat):Int)/\(sliceBounds lo hi none n).2.1=((HT.Am n n hi:Nat):Int)/\(sliceBounds lo hi none n).2.2=1:=by
 refine⟨?_,?_,rfl⟩
 ·cases lo with
  |none=>simp[sliceBounds,HT.Am]
  |some i=>
   simp only[sliceBounds,HT.Am,Option.getD_none,show(1:Int)>0 by decide,if_true];by_cases h:i<0
   ·simp only[h,if_true] <;> omega
   ·simp only[h,if_false] <;> omega
 ·cases hi with
  |none=>simp[sliceBounds,HT.Am]
  |some i=>
   simp only[sliceBounds,HT.Am,Option.getD_none,show(1:Int)>0 by decide,if_true];by_cases h:i<0
   ·simp only[h,if_true] <;> omega
   ·simp only[h,if_false] <;> omega
theorem tX(its:List Value)(lo hi:Option Int):slicePick its.toArray lo hi none=((its.drop (HT.Am its.length 0 lo)).take (HT.Am its.length its.length hi - HT.Am its.length 0 lo)).toArray:=by obtain⟨h1,h2,h3⟩:=vI lo hi its.toArray.size;unfold slicePick;rw[h1,h2,h3];simp only[sliceRange_one,pick_run,List.size_toArray] <;> rfl
inductive Tp(K:Frag)(x:V)(lo:Option Int)(hi:Option Int)(H:Hp)(Q:VK):Prop
 |mk(a:_) (xs:_) (_:x= .ref a) (_:bf K H a xs) (_:∀p,H p=none->Q (.ref p) (upd H p (.lst (gT xs lo hi))))
theorem eV:T9 X (Tp X.K):=by intro UI s σ H x v vl vu lo hi sl Q I rx hs pl pu h;obtain⟨a,xs,rfl,hx,q⟩:=h;cases rx;obtain⟨its,r,ht,hz⟩:=I.list hx;have hlen:=r.length;refine⟨"list",_,slot_list_getitem.lookup,ht.isList.typeIs,?_⟩;refine wpAny_getItem_list_slice ht.isList hs pl pu .none (by simp) ?_ (by rw[List.size_toArray] <;> omega);rw[tX,<-hlen];refine⟨.ref s.heap.objs.size,_,I.laid (t':=s.toks) (o:=.lst (gT xs lo hi)) (λb ob q=>Heap.get?_push_of_some _ q) (Nat.le_refl _) ?_,rfl,q _ (I.aZ.fresh (Nat.le_refl _))⟩;exact⟨Nat.le_trans (oz xs lo hi) hz,_,0,(r.drop (HT.Am xs.length 0 lo)).take (HT.Am xs.length xs.length hi - HT.Am xs.length 0 lo),Heap.get?_push_size _ rfl⟩
def iw:V->Bool
 | .bF=>true
 | .bl _=>true
 | .int _=>true
 | .str _=>true
 |_=>false
def En:V->V->Bool
 | .bF,.bF=>true
 | .bl a,.bl b=>a==b
 | .bl a,.int b=>(if a then 1 else 0)==b
 | .int a,.bl b=>a==(if b then 1 else 0)
 | .int a,.int b=>a==b
 | .str a,.str b=>a==b
 |_,_=>false
theorem Na{y x:V}{u v:Value}(ry:RelV y u)(rx:RelV x v)(fy:iw y=true)(fx:iw x=true):SeqAt.EqAt A s u v (En y x):=by
 cases y with
 |bF=>
  cases ry;cases x with
  |bF=>cases rx;exact SeqAt.EqAt.same _
  |bl b=>cases rx;exact SeqAt.EqAt.none_bool b
  |int b=>obtain⟨t,rfl⟩:=rx;exact SeqAt.EqAt.none_int b t
  |str b=>obtain⟨t,rfl⟩:=rx;exact SeqAt.EqAt.none_str b t
  |_=>exact absurd (show false=true from fx) Bool.false_ne_true
 |bl a=>
  cases ry;cases x with
  |bF=>cases rx;exact SeqAt.EqAt.bool_none a
  |bl b=>cases rx;exact SeqAt.EqAt.bool_bool a b
  |int b=>obtain⟨t,rfl⟩:=rx;exact SeqAt.EqAt.bool_int a b t
  |str b=>obtain⟨t,rfl⟩:=rx;exact SeqAt.EqAt.bool_str a b t
  |_=>exact absurd (show false=true from fx) Bool.false_ne_true
 |int a=>
  obtain⟨t',rfl⟩:=ry;cases x with
  |bF=>cases rx;exact SeqAt.EqAt.int_none a t'
  |bl b=>cases rx;exact SeqAt.EqAt.int_bool a t' b
  |int b=>obtain⟨t,rfl⟩:=rx;exact SeqAt.EqAt.int_int a t' b t
  |str b=>obtain⟨t,rfl⟩:=rx;exact SeqAt.EqAt.int_str a t' b t
  |_=>exact absurd (show false=true from fx) Bool.false_ne_true
 |str a=>
  obtain⟨t',rfl⟩:=ry;cases x with
  |bF=>cases rx;exact SeqAt.EqAt.str_none a t'
  |bl b=>cases rx;exact SeqAt.EqAt.str_bool a t' b
  |int b=>obtain⟨t,rfl⟩:=rx;exact SeqAt.EqAt.str_int a t' b t
  |str b=>obtain⟨t,rfl⟩:=rx;exact SeqAt.EqAt.str_str a t' b t
  |_=>exact absurd (show false=true from fx) Bool.false_ne_true
 |_=>exact absurd (show false=true from fy) Bool.false_ne_true
def Bi(x:V)(u:Value):Bool:=match u with
 | .none=>En .bF x
 | .bool b=>En (.bl b) x
 | .int i _=>En (.int i) x
 | .str z _=>En (.str z) x
 |_=>false
theorem GL{x y:V}{u:Value}(r:RelV y u)(f:iw y=true):Bi x u=En y x:=by
 cases y with
 |bF=>cases r;rfl
 |bl b=>cases r;rfl
 |int i=>obtain⟨t,rfl⟩:=r;rfl
 |str z=>obtain⟨t,rfl⟩:=r;rfl
 |_=>exact absurd (show false=true from f) Bool.false_ne_true
theorem lT{x:V}:∀{xs:List V}{us:List Value},Vals xs us->xs.all iw=true->us.any (Bi x)=xs.any λy=>En y x
 |_,_,.nil,_=>rfl
 |y::xs,u::us,.cons r t,f=>by
  rw[List.all_cons,Bool.and_eq_true] at f;rw[List.any_cons,List.any_cons,GL r f.1,lT t f.2]
theorem ib{x:V}{v:Value}(rx:RelV x v)(fx:iw x=true):∀{xs:List V}{us:List Value},Vals xs us->xs.all iw=true->∀u∈us,SeqAt.EqAt A s u v (Bi x u)
 |_,_,.nil,_=>λu hu=>by cases hu
 |y::xs,u::us,.cons r t,f=>λu' hu=>by
  rw[List.all_cons,Bool.and_eq_true] at f;rcases List.mem_cons.mp hu with rfl|hu
  ·rw[GL r f.1];exact Na r rx f.1 fx
  ·exact ib rx fx t f.2 u' hu
def Dn(x:V)(xs:List V):Bool:=xs.any λy=>En y x
inductive T8(K:Frag)(neg:Bool)(x:V)(y:V)(H:Hp)(Q:VK):Prop
 |mk(p:_) (xs:_) (_:y= .ref p) (_:(bf K H p xs\/fE K H p xs)) (_:iw x=true) (_:xs.all iw=true) (_:Q (.bl (if neg then !Dn x xs else Dn x xs)) H)
theorem e_:i' X (compareOp .In) (T8 X.K false):=by
 intro UI s σ H x y v u Q I rx ry h;obtain⟨p,xs,rfl,hq,fx,fs,q⟩:=h;cases ry;rcases hq with hq|hq
 ·obtain⟨its,r,pl,hz⟩:=I.list hq;refine SeqAt.in_listAt (Bi x) pl.isList (λw hw=>ib rx fx r fs w (by simpa using hw)) ⟨.bl _,H,I,rfl,?_⟩;rw[show its.toArray.any (Bi x)=its.any (Bi x) by simp,lT r fs];exact q
 ·obtain⟨its,r,pl,hz⟩:=I.tuple hq;refine SeqAt.in_tupleAt (Bi x) pl (λw hw=>ib rx fx r fs w (by simpa using hw)) ⟨.bl _,H,I,rfl,?_⟩;rw[show its.toArray.any (Bi x)=its.any (Bi x) by simp,lT r fs];exact q
theorem xO:i' X (compareOp .NotIn) (T8 X.K true):=by
 intro UI s σ H x y v u Q I rx ry h;obtain⟨p,xs,rfl,hq,fx,fs,q⟩:=h;cases ry;rcases hq with hq|hq
 ·obtain⟨its,r,pl,hz⟩:=I.list hq;refine SeqAt.notIn_listAt (Bi x) pl.isList (λw hw=>ib rx fx r fs w (by simpa using hw)) ⟨.bl _,H,I,rfl,?_⟩;rw[show its.toArray.any (Bi x)=its.any (Bi x) by simp,lT r fs];exact q
 ·obtain⟨its,r,pl,hz⟩:=I.tuple hq;refine SeqAt.notIn_tupleAt (Bi x) pl (λw hw=>ib rx fx r fs w (by simpa using hw)) ⟨.bl _,H,I,rfl,?_⟩;rw[show its.toArray.any (Bi x)=its.any (Bi x) by simp,lT r fs];exact q
inductive yU(K:Frag)(xs:List V)(H:Hp)(Q:VK):Prop
 |mk(p:Addr) (ys:List V) (_:xs=[.ref p]) (_:bf K H p ys\/fE K H p ys) (_:Q (.int ys.length) H)
theorem x_:sj X (.builtin "len") (yU X.K):=by
 intro UI s σ H xs us Q I r h;obtain⟨p,ys,rfl,hq,q⟩:=h;obtain⟨u,rfl,rx⟩:=vals1 r;cases rx;have hn:=mG;rcases hq with hq|hq
 ·obtain⟨its,r',pl,hz⟩:=I.list hq;have hlen:=r'.length;exact Calls.call_len_list pl.isList (by simp only[List.size_toArray] <;> omega) ⟨.int ys.length,H,I.tok _,⟨s.toks+1,by rw[List.size_toArray,hlen]⟩,q⟩
 ·obtain⟨its,r',pl,hz⟩:=I.tuple hq;have hlen:=r'.length;exact len_tuple pl (by simp only[List.size_toArray] <;> omega) ⟨.int ys.length,H,I.tok _,⟨s.toks+1,by rw[List.size_toArray,hlen]⟩,q⟩
theorem vX:sj X (.type "list") (λxs H Q=>∃p ys,xs=[.ref p]/\(bf X.K H p ys\/fE X.K H p ys)/\∀l,H l=none->Q (.ref l) (upd H l (.lst ys))):=by
 intro UI s σ H xs us Q I r h;obtain⟨p,ys,rfl,hq,q⟩:=h;obtain⟨u,rfl,rx⟩:=vals1 r;cases rx;have fin:∀(its:List Value),Vals ys its->ys.length<=sizeLine->∀(h':Heap)(c':Nat),(∀b o',s.heap.get? b=some o'->h'.get? b=some o')->
   h'.get? s.heap.objs.size=some {cls:=.type "list",dict:=none,data:=.seq its.toArray c',slots:=#[]}->EP X UI σ Q (.ref s.heap.objs.size) {s with heap:=h'}:=λits r' hz h' c' kp e=>
  ⟨.ref s.heap.objs.size,_,I.laid (t':=s.toks) kp (Nat.le_refl _) (show bK X.prog X.w _ h' _ (.lst ys) from⟨hz,its,c',r',e⟩),rfl,q _ (I.aZ.fresh (Nat.le_refl _))⟩
 rcases hq with hq|hq
 ·obtain⟨its,r',pl,hz⟩:=I.list hq;have hlen:=r'.length;obtain⟨o,ho,hc,n,hd⟩:=pl.isList;exact call_list_seq p (.inl rfl) ho hc hd (λh' c' kp e=>fin its r' hz h' c' kp e) (by simp only[List.size_toArray] <;> omega)
 ·obtain⟨its,r',pl,hz⟩:=I.tuple hq;have hlen:=r'.length;obtain⟨o,ho,hc,n,hd⟩:=pl;exact call_list_seq p (.inr rfl) ho hc hd (λh' c' kp e=>fin its r' hz h' c' kp e) (by simp only[List.size_toArray] <;> omega)
def Su(K:Frag)(T:String)(x:V)(H:Hp):Prop:=match x with
 | .str _=>T="str"
 | .int _=>T="int"
 | .ref p=>(T="list"/\∃xs,bf K H p xs)\/(T="tuple"/\∃o,K.lookup p=some o/\o.cls= .type "tuple"/\o.dict=none)\/
   (T="dict"/\((∃kvs,H p=some (.dK kvs))\/∃kvs,H p=some (.dT kvs)))\/(T="set"/\∃S n,H p=some (.set S n))
 |_=>False
theorem IC{σ:St}{T:String}{x:V}{v:Value}(I:Inv X UI σ H s)(r:RelV x v)(ty:Su X.K T x H):
  s.TypeIs v T/\∀a,v= .ref a->∃ob,s.heap.get? a=some ob/\ob.dict=none:=by
 cases x with
 |str z=>
  obtain⟨t,rfl⟩:=r;cases(show T="str" from ty);exact⟨typeIs_str s z t,λ_ e=>nomatch e⟩
 |int i=>
  obtain⟨t,rfl⟩:=r;cases(show T="int" from ty);exact⟨typeIs_int s i t,λ_ e=>nomatch e⟩
 |ref p=>
  cases r;rcases ty with⟨rfl,xs,hq⟩|⟨rfl,o,hk,hc,hd⟩|⟨rfl,hk⟩|⟨rfl,S,n,hk⟩
  ·obtain⟨its,_,pl,_⟩:=I.list hq;refine⟨pl.isList.typeIs,λa e=>?_⟩;cases e;obtain⟨o,n,e,c,hd,_⟩:=pl;exact⟨o,e,hd⟩
  ·refine⟨⟨o,I.dZ p o hk,hc⟩,λa e=>?_⟩;cases e;exact⟨o,I.dZ _ o hk,hd⟩
  ·have z:∃o,s.heap.get? p=some o/\o.ExactDict:=by
    rcases hk with⟨kvs,hk⟩|⟨kvs,hk⟩
    ·obtain⟨_,_,_,_,o,_,_,e,ex,_⟩:=I.aZ p _ hk;exact⟨o,e,ex⟩
    ·obtain⟨_,_,_,_,o,_,_,e,ex,_⟩:=I.aZ p _ hk;exact⟨o,e,ex⟩
   obtain⟨o,e,ex⟩:=z;refine⟨⟨o,e,ex.1⟩,λa e2=>?_⟩;cases e2;exact⟨o,e,ex.2.1⟩
  ·obtain⟨o,_,_,_,e,ex,_⟩:=I.aZ p _ hk;refine⟨⟨o,e,ex.1⟩,λa e2=>?_⟩;cases e2;exact⟨o,e,ex.2.1⟩
 |_=>exact False.elim ty
def S1(K:Frag)(T:String)(r:V->List V->Hp->VK->Prop)(to:TE):TE:=λσ H Q=>to σ H λx H1=>Su K T x H1/\r x [] H1 Q
def Ul(K:Frag)(T:String)(r:V->List V->Hp->VK->Prop)(to:TE)(t:TA):TE:=λσ H Q=>to σ H λx H1=>Su K T x H1/\t σ H1 λxs H2=>r x xs H2 Q
variable{o e:Expr}{es:List Expr}{to:TE}{t:TA}{name:Str}{apos cpos:Pos}{T id:String}{r:V->List V->Hp->VK->Prop}
theorem tT(pa:PlainAttrs T)(slot:Slot T name id)(hty:typeOf (.builtin id)=pure (.type "method_descriptor"))(hm:R9 X id r)(ho:PE X o to)(hbase:attributeBase o name X.env (eval o X.env)=eval o X.env:=by rfl)(hline:(apos.endLine==cpos.line)=true:=by rfl):PE X (.Call (.Attribute o name apos) [] [] cpos) (S1 X.K T r to):=by intro UI s σ H Q I h;refine wpAny_Call_method0_late hbase hline (br (ho UI s σ H _ I h) λv s1 ⟨x,H1,I1,r1,ty,q1⟩=>?_);obtain⟨h1,h2⟩:=IC I1 r1 ty;exact⟨T,id,pa,slot,hty,h1,h2,Calls.callWith_builtin rfl (PySem.evalArgs_none (hm UI s1 σ H1 x [] v [] Q I1 r1 .nil q1))⟩
theorem fK(pa:PlainAttrs T)(slot:Slot T name id)(hty:typeOf (.builtin id)=pure (.type "method_descriptor"))(hm:R9 X id r)(ho:PE X o to)(ha:PA X (e::es) t)(hbase:attributeBase o name X.env (eval o X.env)=eval o X.env:=by rfl)(hfew:((backTo cpos (starEach (e::es) X.env)).all (λx=>!x.1)&&(backToKw cpos (keywordEach [] X.env)).all (λx=>x.1.isSome)
   &&decide ((e::es).length+([]:List Keyword).length+(if([]:List Keyword).isEmpty then 0 else 1)<30))=true:=by rfl)(hline:(apos.endLine==cpos.line)=true:=by rfl)(hs:starEach (e::es) X.env=(false,eval e X.env)::starEach es X.env:=by rfl)(hplain:(backTo cpos (starEach es X.env)).any (·.1)=false:=by rfl):
  PE X (.Call (.Attribute o name apos) (e::es) [] cpos) (Ul X.K T r to t):=by
 intro UI s σ H Q I h;refine wpAny_Call_method_late hbase hfew hline rfl (br (ho UI s σ H _ I h) λv s1 ⟨x,H1,I1,r1,ty,q1⟩=>?_);obtain⟨h1,h2⟩:=IC I1 r1 ty;refine⟨T,id,pa,slot,hty,h1,h2,?_⟩;have hA:=ha cpos UI s1 σ H1 _ I1 q1;rw[hs] at hA ⊢;refine Calls.callWith_builtin (by show(false||(backTo cpos (starEach es X.env)).any (·.1))=false;rw[hplain] <;> rfl) (Calls.evalArgs_plain ?_);exact br hA λus s2 ⟨vs,H2,I2,r2,q2⟩=>hm UI s2 σ H2 x vs v us Q I2 r1 r2 q2
end
def R7(X:Cx)(id:String)(r:V->List V->Hp->VK->Prop):Prop:=
 ∀(UI:List (Addr×Obj))(s:Shared)(σ:St)(H:Hp)(x:V)(xs:List V)(v:Value)(us:List Value)(Q:VK),Inv X UI σ H s->RelV x v->Vals xs us->r x xs H Q->
  wpAny (model X.prog X.w) X.A (call (.builtin id) (v::us)) (EP X UI σ Q) X.xe s
def Ra(us:List Value):List V->Prop
 |[]=>us=[]
 |x::xs=>∃u us',us=u::us'/\RelV x u/\Vals xs us'
theorem Vals.ri{xs:List V}{us:List Value}(h:Vals xs us):Ra us xs:=by
 cases h with
 |nil=>rfl
 |cons r q=>exact⟨_,_,rfl,r,q⟩
theorem Vals.one{x:V}{us:List Value}(h:Vals [x] us):∃u,us=[u]/\RelV x u:=by obtain⟨u,us,rfl,r,q⟩:=h.ri;exact⟨u,congrArg _ q.ri,r⟩
theorem Vals.zero:∀{us:List Value},Vals [] us->us=[]
 |_,.nil=>rfl
theorem Vals.dropLast{xs:List V}{us:List Value}(h:Vals xs us):Vals xs.dropLast us.dropLast:=by
 induction h with
 |nil=>exact .nil
 |cons r t ih=>
  cases t with
  |nil=>exact .nil
  |cons q t'=>exact .cons r ih
theorem Vals.reverse{xs:List V}{us:List Value}(h:Vals xs us):Vals xs.reverse us.reverse:=by
 induction h with
 |nil=>exact .nil
 |cons r t ih=>rw[List.reverse_cons,List.reverse_cons];exact Vals.append ih (.cons r .nil)
theorem B4{α:Type}(l:List α):l.eraseIdx (l.length - 1)=l.dropLast:=by
 induction l with
 |nil=>rfl
 |cons a r ih=>
  cases r with
  |nil=>rfl
  |cons b r=>
   have e:(a::b::r).length - 1=((b::r).length - 1)+1:=by
    have h1:(a::b::r).length=r.length+2:=rfl;have h2:(b::r).length=r.length+1:=rfl;omega
   rw[e,List.eraseIdx_cons_succ,ih]
   all_goals rfl
section
variable{X:Cx}{UI:List (Addr×Obj)}{σ:St}{H:Hp}{s:Shared}{l b:Addr}{xs ys zs:List V}
theorem Inv.KQ{its its':List Value}{n:Nat}{f:Array Value->Array Value}{t':Nat}(I:Inv X UI σ H s)(hH:H l=some (.lst xs))(e:s.heap.get? l=some {cls:=.type "list",data:=.seq its.toArray n})(hf:f its.toArray=its'.toArray)(hv:Vals ys its')(hz:ys.length<=sizeLine):
  Inv X UI σ (upd H l (.lst ys)) {s with heap:=s.heap.update l (Obj.mapSeq f),toks:=t'}:=by
 have q:=PySem.IsL.update e f;rw[hf] at q;refine I.write (x:=l) (e:=l) (by rw[hH];exact trivial) (.inl rfl) (λb' u hb hu=>(Heap.get?_update_other s.heap (Obj.mapSeq f) (Ne.symm hb)).trans hu) ⟨_,q⟩ ?_;exact⟨hz,its',_,hv,q⟩
theorem Inv.S7{its:List Value}{t':Nat}(I:Inv X UI σ H s)(hv:Vals ys its)(hz:ys.length<=sizeLine):
  Inv X UI σ (upd H s.heap.objs.size (.lst ys)) {s with heap:=s.heap.push {cls:=.type "list",data:=.seq its.toArray},toks:=t'}:=
 I.laid (λ_ _ q=>Heap.get?_push_of_some _ q) (Nat.le_refl _) ⟨hz,its,0,hv,Heap.get?_push_size _ rfl⟩
theorem Inv.fresh(I:Inv X UI σ H s):H s.heap.objs.size=none:=I.aZ.fresh (Nat.le_refl _)
theorem Inv.Cf(I:Inv X UI σ H s)(hH:H l=some (.lst xs)):xs.length<=sizeLine/\∃(its:List Value)(n:Nat),Vals xs its/\xs.length=its.length/\s.heap.get? l=some {cls:=.type "list",data:=.seq its.toArray n}:=by obtain⟨z,its,n,r,e⟩:=I.aZ l _ hH;exact⟨z,its,n,r,r.length,e⟩
theorem yQ{n:Nat}(h:n<=sizeLine):Builtin.List.listTooLong n=false:=by unfold Builtin.List.listTooLong;exact decide_eq_false ↑2
end
section
variable{X:Cx}
inductive JE(x:V)(vs:List V)(H:Hp)(Q:VK):Prop
 |mk(l:_) (xs:_) (y:_) (_:x= .ref l) (_:vs=[y]) (_:H l=some (.lst xs)) (_:xs.length<sizeLine) (_:Q .bF (upd H l (.lst (xs++[y]))))
theorem cY:R7 X "list.append" JE:=by intro UI s σ H x vs v us Q I rx rv h;obtain⟨l,xs,y,rfl,rfl,hH,hz,q⟩:=h;cases rx;obtain⟨u,rfl,ru⟩:=rv.one;obtain⟨z,its,n,r,hl,e⟩:=I.Cf hH;refine call_meets F.slot_list_append ⟨_,e,rfl⟩ F.entry_list_append (F.args_list_append_2 _ _) (PySem.list_append l its.toArray n u (by rw[List.size_toArray];omega)) ⟨e,?_⟩;refine⟨.bF,_,I.KQ (its':=its++[u]) hH e (by simp) (r.append (.cons ru .nil)) ?_,rfl,q⟩;rw[List.length_append,List.length_singleton];omega
inductive JV(x:V)(vs:List V)(H:Hp)(Q:VK):Prop
 |mk(l:_) (b:_) (xs:_) (zs:_) (_:x= .ref l) (_:vs=[.ref b]) (_:H l=some (.lst xs)) (_:H b=some (.lst zs)) (_:xs.length+zs.length<=sizeLine) (_:Q .bF (upd H l (.lst (xs++zs))))
theorem mP:R7 X "list.extend" JV:=by
 intro UI s σ H x vs v us Q I rx rv h;obtain⟨l,b,xs,zs,rfl,rfl,hH,hB,hz,q⟩:=h;cases rx;obtain⟨u,rfl,ru⟩:=rv.one;cases ru;obtain⟨z,its,n,r,hl,e⟩:=I.Cf hH;obtain⟨z2,its2,n2,r2,hl2,e2⟩:=I.Cf hB;have hsz:its.toArray.size+its2.toArray.size<=sizeLine:=by rw[List.size_toArray,List.size_toArray];omega
 have hlong:¬(!its.toArray.isEmpty&&Builtin.List.listTooLong (its.toArray.size+its2.toArray.size))=true:=by
  rw[yQ hsz,Bool.and_false];exact Bool.false_ne_true
 refine call_meets F.slot_list_extend ⟨_,e,rfl⟩ F.entry_list_extend (F.args_list_extend_2 _ _)
  (AutoSeq1.list_extend_list_list_0 l its.toArray n b its2.toArray n2 hlong (by rw[List.size_toArray];omega) ↑2) ⟨e,e2,?_⟩
 refine⟨.bF,_,I.KQ (its':=its++its2) hH e (by simp) (r.append r2) ?_,rfl,q⟩;rw[List.length_append];omega
inductive Tr(x:V)(vs:List V)(H:Hp)(Q:VK):Prop
 |mk(l:_) (xs:_) (y:_) (_:x= .ref l) (_:vs=[]) (_:H l=some (.lst xs)) (_:xs[xs.length - 1]?=some y) (_:Q y (upd H l (.lst xs.dropLast)))
theorem qR:R7 X "list.pop" Tr:=by
 intro UI s σ H x vs v us Q I rx rv h;obtain⟨l,xs,y,rfl,rfl,hH,hy,q⟩:=h;cases rx;have hus:=rv.zero;subst hus;obtain⟨z,its,n,r,hl,e⟩:=I.Cf hH;obtain⟨u,hu,ru⟩:=r.get hy;have hy':its.toArray[its.toArray.size - 1]?=some u:=by
  show its.toArray[its.length - 1]?=some u;rw[<-Array.getElem?_toList,<-hl];exact hu
 refine call_meets F.slot_list_pop ⟨_,e,rfl⟩ F.entry_list_pop (F.args_list_pop_1 _) (MeetsSeq.list_pop_last l its.toArray n u hy' (by rw[List.size_toArray];omega)) ⟨e,?_⟩;refine⟨y,_,I.KQ (its':=its.dropLast) hH e ?_ r.dropLast ?_,ru,q⟩
 ·show its.toArray.eraseIdxIfInBounds (its.toArray.size - 1)=its.dropLast.toArray;rw[List.size_toArray,List.eraseIdxIfInBounds_toArray,B4]
 ·rw[List.length_dropLast];omega
inductive SW(x:V)(y:V)(H:Hp)(Q:VK):Prop
 |mk(l:_) (b:_) (xs:_) (zs:_) (_:x= .ref l) (_:y= .ref b) (_:H l=some (.lst xs)) (_:H b=some (.lst zs)) (_:xs.length+zs.length<=sizeLine) (_:∀p,H p=none->Q (.ref p) (upd H p (.lst (xs++zs))))
theorem Gz:i' X (binaryOp .Add) SW:=by
 intro UI s σ H x y v u Q I rx ry h;obtain⟨l,b,xs,zs,rfl,rfl,hH,hB,hz,q⟩:=h;cases rx;cases ry;obtain⟨z,its,n,r,hl,e⟩:=I.Cf hH;obtain⟨z2,its2,n2,r2,hl2,e2⟩:=I.Cf hB;refine PySem.P.add_list e e2 ?_ (by rw[List.size_toArray,List.size_toArray];omega);have ea:its.toArray++its2.toArray=(its++its2).toArray:=by simp
 rw[ea];exact⟨.ref _,_,I.S7 (t':=s.toks) (r.append r2) (by rw[List.length_append];omega),rfl,q _ I.fresh⟩
end
section
variable{prog:Program}{w:World}{A:Around}{E:Value->Shared->Prop}{s:Shared}
set_option maxRecDepth 100000 in
end
section
variable{X:Cx}
end
theorem Vals.TZ:∀{bs:List Bool}{us:List Value},Vals (bs.map V.bl) us->us=bs.map Value.bool
 |[],us,h=>by
  rw[List.map_nil] at h;cases h;rfl
 |b::bs,us,h=>by
  rw[List.map_cons] at h;cases h with
  |cons r t=>
   cases r;rw[Vals.TZ t,List.map_cons]
theorem Vals.SY{a:Addr}{us:List Value}(r:Vals [V.ref a] us):us=[Value.ref a]:=by
 cases r with
 |cons r t=>
  cases t;cases r;rfl
section
variable{prog:Program}{w:World}{A:Around}{E:Value->Shared->Prop}{s:Shared}{l:Addr}{its:List Value}{ns:List Int}{Q:Value->Shared->Prop}
end
section
variable{X:Cx}
end
section
variable{X:Cx}
end
section
variable{X:Cx}
end
theorem Jd{prog:Program}{E:Value->Shared->Prop}{l:Addr}{items:Array Value}(hl:s.heap.IsList l items)(h:∀s₂:Shared,s₂={s with heap:=s.heap.push {cls:=.type "list_iterator",data:=.fields #[.ref l,.int 0 0]}}->
   (s₂.heap.IsListIter s.heap.objs.size l 0/\s₂.heap.IsList l items)->l≠s.heap.objs.size->Q (.ref s.heap.objs.size) s₂):wpAny (model prog w) A (pyIter (.ref l)) Q E s:=by
 have hlt:l<s.heap.objs.size:=by obtain⟨_,e,_⟩:=hl;exact Heap.lt_size e
 exact wpAny_pyIter_list hl (h _ rfl ⟨⟨_,Heap.get?_push_size _ rfl,rfl,rfl⟩,hl.push _⟩ (Nat.ne_of_lt hlt))
theorem zb{prog:Program}{bs:List Bool}{its:List Value}(e:its=bs.map Value.bool):
  TruthOf prog w A (λi v=>its.toArray[i]?=some v) (λi=>bs.getD i false):=λi v s Q E hv hq=>by
 have hv':its[i]?=some v:=by simpa using hv
 rw[e,List.getElem?_map] at hv';obtain⟨b,hb,rfl⟩:=Option.map_eq_some_iff.mp hv';have hg:bs.getD i false=b:=by rw[List.getD_eq_getElem?_getD,hb] <;> rfl
 have hq':Q (bs.getD i false) s:=hq;rw[hg] at hq';exact wpAny_truthy_bool hq'
theorem all_range:∀bs:List Bool,(List.range bs.length).all (λi=>bs.getD i false)=bs.all id
 |[]=>rfl
 |b::bs=>by
  rw[List.length_cons,List.range_succ_eq_map,List.all_cons,List.all_map,List.all_cons,<-all_range bs]
  all_goals rfl
section
variable{X:Cx}
inductive Tf(K:Frag)(vs:List V)(H:Hp)(Q:VK):Prop
 |mk(a:Addr) (bs:List Bool) (_:vs=[V.ref a]) (_:bf K H a (bs.map V.bl)) (_:Q (.bl (bs.all id)) H)
theorem Me(hc:X.calm=true):sj X (.builtin "all") (Tf X.K):=by
 intro UI s σ H vs us Q I r h;obtain⟨a,bs,rfl,hs,q⟩:=h;obtain⟨its,rv,hl,_⟩:=I.list hs;rw[Vals.SY r];have hb:=rv.TZ;refine call_all_walk (Jd hl.isList λs₂ e2 st hne=>?_);subst e2;refine⟨_,_,_,_,_,_,_,rfl,Walks.list (A:=X.A.in1) (I.ok.hd hc) _ a hne its.toArray,st,zb hb,λh' tk hk=>?_⟩;refine⟨.bl _,H,I.kept λb o eo=>hk b o (λhmem=>?_) (Heap.get?_push_of_some _ eo),?_,q⟩
 ·rcases List.mem_cons.mp hmem with e1|hmem
  ·exact absurd (e1▸Heap.lt_size eo) (Nat.lt_irrefl _)
  ·cases hmem
 ·show Value.bool _=Value.bool _;rw[<-all_range,hb,List.size_toArray,List.length_map]
end
mutual
inductive Dp(K:Frag)(H:Hp):V->PyData->Prop
 |bF:Dp K H .bF .none
 |bl(b:Bool):Dp K H (.bl b) (.bool b)
 |int(i:Int):Dp K H (.int i) (.int i)
 |str(x:Str):Dp K H (.str x) (.str x)
 |lst{a:Addr} {xs:List V} {ds:List PyData}:bf K H a xs->sZ K H xs ds->Dp K H (.ref a) (.list ds)
 |tup{a:Addr} {xs:List V} {ds:List PyData}:fE K H a xs->sZ K H xs ds->Dp K H (.ref a) (.tuple ds)
inductive sZ(K:Frag)(H:Hp):List V->List PyData->Prop
 |nil:sZ K H [] []
 |cons{v:V} {vs:List V} {d:PyData} {ds:List PyData}:Dp K H v d->sZ K H vs ds->sZ K H (v::vs) (d::ds)
end
section
variable{X:Cx}{UI:List (Addr×Obj)}{σ:St}{H:Hp}{s:Shared}
mutual
theorem Dp.reads(I:Inv X UI σ H s):∀(d:PyData)(v:V)(u:Value),Dp X.K H v d->RelV v u->∃as,Reads s.heap u d as
 | .none,_,_,h,r=>by
  cases h;cases r;exact⟨_,Reads.none⟩
 | .bool b,_,_,h,r=>by
  cases h;cases r;exact⟨_,Reads.bool b⟩
 | .int i,_,_,h,r=>by
  cases h;obtain⟨t,rfl⟩:=r;exact⟨_,Reads.int i t⟩
 | .str x,_,_,h,r=>by
  cases h;obtain⟨t,rfl⟩:=r;exact⟨_,Reads.str x t⟩
 | .list ds,_,_,h,r=>by
  cases h with
  |lst hs ha=>
   cases r;obtain⟨its,rv,⟨o,n,ho,hc,_,hd⟩,_⟩:=I.list hs;obtain⟨as,hr⟩:=Dp.readsAll I ds _ its ha rv;exact⟨_,Reads.list ho hc hd hr⟩
 | .tuple ds,_,_,h,r=>by
  cases h with
  |tup hs ha=>
   cases r;obtain⟨its,rv,⟨o,ho,hc,n,hd⟩,_⟩:=I.tuple hs;obtain⟨as,hr⟩:=Dp.readsAll I ds _ its ha rv;exact⟨_,Reads.tuple ho hc hd hr⟩
 | .dict _,_,_,h,_=>by cases h
theorem Dp.readsAll(I:Inv X UI σ H s):∀(ds:List PyData)(vs:List V)(us:List Value),sZ X.K H vs ds->Vals vs us->∃as,ReadsAll s.heap us ds as
 |[],_,_,h,r=>by
  cases h;cases r;exact⟨_,ReadsAll.nil⟩
 |d::ds,_,_,h,r=>by
  cases h with
  |cons h1 h2=>
   cases r with
   |cons r1 r2=>
    obtain⟨as,q1⟩:=Dp.reads I d _ _ h1 r1;obtain⟨bs,q2⟩:=Dp.readsAll I ds _ _ h2 r2;exact⟨_,ReadsAll.cons q1 q2⟩
end
end
section
variable{X:Cx}
inductive Tq(K:Frag)(x:V)(y:V)(H:Hp)(Q:VK):Prop
 |mk(d:_) (e:_) (_:Dp K H x d) (_:Dp K H y e) (_:SeqAt.shaped d=true) (_:SeqAt.shaped e=true) (_:Q (.bl (PyData.eqv d e)) H)
inductive SX(K:Frag)(x:V)(y:V)(H:Hp)(Q:VK):Prop
 |mk(d:_) (e:_) (_:Dp K H x d) (_:Dp K H y e) (_:SeqAt.shaped d=true) (_:SeqAt.shaped e=true) (_:Q (.bl (!PyData.eqv d e)) H)
theorem Ou(hu:X.A.units+64<cLine):i' X (compareOp .Eq) (Tq X.K):=by intro UI s σ H x y v u Q I rx ry h;obtain⟨d,e,hd,he,sd,se,q⟩:=h;obtain⟨as,r1⟩:=Dp.reads I d x v hd rx;obtain⟨bs,r2⟩:=Dp.reads I e y u he ry;exact SeqAt.compareEq_shaped r1 r2 sd se hu ⟨.bl _,H,I,rfl,q⟩
theorem NB(hu:X.A.units+64<cLine):i' X (compareOp .NotEq) (SX X.K):=by intro UI s σ H x y v u Q I rx ry h;obtain⟨d,e,hd,he,sd,se,q⟩:=h;obtain⟨as,r1⟩:=Dp.reads I d x v hd rx;obtain⟨bs,r2⟩:=Dp.reads I e y u he ry;exact SeqAt.compareNe_shaped r1 r2 sd se hu ⟨.bl _,H,I,rfl,q⟩
end
abbrev He(h:Heap)(c:Addr)(v:Option Value):Prop:=h.IsCell c v
def TY(scope sc:Scope):Scope:=
 {scope with names:=scope.names.map λ(n,k)=>if(k==.free&&sc.kind==.function&&sc.names.lookup n==some .cell) then(n,.cell) else(n,k)}
def bu(cells:List (Str×Addr)):List (Str×NameKind)->List (Str×Addr)->List (Str×Addr)
 |[],acc=>acc
 |(n,k)::r,acc=>if k==.free then bu cells r ((n,(cells.lookup n).getD 0)::acc) else bu cells r acc
theorem lO(env:Env)(f:Str×NameKind->List (Str×Addr)->Sem (ForInStep (List (Str×Addr))))(hf:∀n k c,f (n,k) c=if k==.free then(do let a<-cellOf env n;pure (.yield ((n,a)::c))) else pure (.yield c)):
  ∀(names:List (Str×NameKind))(acc:List (Str×Addr)),(∀y∈names,y.2= .free->∃c,env.cells.lookup y.1=some c)->forIn names acc f=pure (bu env.cells names acc)
 |[],acc,_=>by rw[List.forIn_nil];rfl
 |(n,k)::r,acc,h=>by
  rw[List.forIn_cons,hf];have ih:=λacc=>lO env f hf r acc λy hy=>h y (List.mem_cons_of_mem _ hy);unfold bu;by_cases hk:(k==NameKind.free)=true
  ·rw[if_pos hk,if_pos hk];obtain⟨c,hc⟩:=h (n,k) List.mem_cons_self (by simpa using hk);have e:cellOf env n=pure c:=by unfold cellOf;rw[hc]
   rw[e];have e2:(env.cells.lookup n).getD 0=c:=by rw[hc];rfl
   rw[e2];exact ih _
  ·rw[if_neg hk,if_neg hk];exact ih _
theorem BU{scope:Scope}{env:Env}(h:∀y∈scope.names,y.2= .free->∃c,env.cells.lookup y.1=some c):closureFor scope env=pure (bu env.cells scope.names []):=by simp only[closureFor];rw[lO env _ (λn k c=>rfl) scope.names [] h];rfl
theorem mem_lookup{α:Type}:∀{l:List (Str×α)}{n:Str}{c:α},(n,c)∈l->∃c',l.lookup n=some c'
 |(k,v)::r,n,c,h=>by
  rw[List.lookup_cons];cases hb:n==k with
  |true=>exact⟨_,rfl⟩
  |false=>
   rcases List.mem_cons.mp h with e|h
   ·cases e;simp at hb
   ·exact mem_lookup h
theorem fM{cells:List (Str×Addr)}:∀{names:List (Str×NameKind)}{acc:List (Str×Addr)}{n:Str}{c:Addr},(n,c)∈bu cells names acc->(n,c)∈acc\/((n,.free)∈names/\c=(cells.lookup n).getD 0)
 |[],_,_,_,h=>.inl h
 |(m,k)::r,acc,n,c,h=>by
  unfold bu at h;split at h
  ·rename_i hk;have hk:k= .free:=by simpa using hk
   rcases fM h with h|⟨h1,h2⟩
   ·rcases List.mem_cons.mp h with e|h
    ·cases e;exact .inr ⟨hk▸List.mem_cons_self,rfl⟩
    ·exact .inl h
   ·exact .inr ⟨List.mem_cons_of_mem _ h1,h2⟩
  ·rcases fM h with h|⟨h1,h2⟩
   ·exact .inl h
   ·exact .inr ⟨List.mem_cons_of_mem _ h1,h2⟩
theorem iF{cells:List (Str×Addr)}:∀{names:List (Str×NameKind)}{acc:List (Str×Addr)}{p:Str×Addr},p∈acc->p∈bu cells names acc
 |[],_,_,h=>h
 |(m,k)::r,acc,p,h=>by
  unfold bu;split
  ·exact iF (List.mem_cons_of_mem _ h)
  ·exact iF h
theorem iI{cells:List (Str×Addr)}:∀{names:List (Str×NameKind)}{acc:List (Str×Addr)}{n:Str},(n,.free)∈names->(n,(cells.lookup n).getD 0)∈bu cells names acc
 |(m,k)::r,acc,n,h=>by
  unfold bu;rcases List.mem_cons.mp h with e|h
  ·cases e;exact iF List.mem_cons_self
  ·split
   ·exact iI h
   ·exact iI h
theorem gu:∀{names:List (Str×NameKind)}{h:Heap}{acc:List (Str×Addr)}{x:Str}{c:Addr},(x,c)∈cellsFrom h.objs.size names acc->
  (x,c)∈acc\/((x,.cell)∈names/\h.objs.size<=c/\He (pushCells h names) c none)
 |[],_,_,_,_,h=>.inl h
 |(n,k)::r,h,acc,x,c,hm=>by
  unfold cellsFrom at hm;unfold pushCells;split at hm
  ·rename_i hk;rw[if_pos hk];have hk:k= .cell:=by simpa using hk
   rw[<-Heap.size_push h {cls:=.type "cell",data:=.cell none}] at hm;rcases gu hm with hm|⟨h1,h2,h3⟩
   ·rcases List.mem_cons.mp hm with e|hm
    ·cases e;exact .inr ⟨hk▸List.mem_cons_self,Nat.le_refl _,_,pushCells_keeps r _ _ _ (Heap.get?_push_size _ rfl),rfl⟩
    ·exact .inl hm
   ·rw[Heap.size_push] at h2;exact .inr ⟨List.mem_cons_of_mem _ h1,Nat.le_of_succ_le h2,h3⟩
  ·rename_i hk;rw[if_neg hk];rcases gu hm with hm|⟨h1,h2,h3⟩
   ·exact .inl hm
   ·exact .inr ⟨List.mem_cons_of_mem _ h1,h2,h3⟩
theorem iY:∀{names:List (Str×NameKind)}{n:Nat}{acc:List (Str×Addr)}{p:Str×Addr},p∈acc->p∈cellsFrom n names acc
 |[],_,_,_,h=>h
 |(m,k)::r,n,acc,p,h=>by
  unfold cellsFrom;split
  ·exact iY (List.mem_cons_of_mem _ h)
  ·exact iY h
theorem mz:∀{names:List (Str×NameKind)}{n:Nat}{acc:List (Str×Addr)}{x:Str},(x,.cell)∈names->∃c,(x,c)∈cellsFrom n names acc
 |(m,k)::r,n,acc,x,h=>by
  unfold cellsFrom;rcases List.mem_cons.mp h with e|h
  ·cases e;exact⟨n,iY List.mem_cons_self⟩
  ·split
   ·exact mz h
   ·exact mz h
theorem nB:∀{names:List (Str×NameKind)}{h:Heap}{acc:List (Str×Addr)}{x y:Str}{c:Addr},(∀p∈acc,p.2<h.objs.size)->(∀x y c,(x,c)∈acc->(y,c)∈acc->x=y)->
  (x,c)∈cellsFrom h.objs.size names acc->(y,c)∈cellsFrom h.objs.size names acc->x=y
 |[],_,_,_,_,_,_,hi,h1,h2=>hi _ _ _ h1 h2
 |(n,k)::r,h,acc,x,y,c,hl,hi,h1,h2=>by
  unfold cellsFrom at h1 h2;split at h1
  ·rename_i hk;rw[if_pos hk] at h2;rw[<-Heap.size_push h {cls:=.type "cell",data:=.cell none}] at h1 h2;refine nB (h:=h.push _) (λp hp=>?_) (λx y c a b=>?_) h1 h2
   ·rw[Heap.size_push];rcases List.mem_cons.mp hp with rfl|hp
    ·exact Nat.lt_succ_self _
    ·exact Nat.lt_succ_of_lt (hl p hp)
   ·rcases List.mem_cons.mp a with e|a <;> rcases List.mem_cons.mp b with e'|b
    ·cases e;cases e';rfl
    ·cases e;exact absurd (hl _ b) (Nat.lt_irrefl _)
    ·cases e';exact absurd (hl _ a) (Nat.lt_irrefl _)
    ·exact hi _ _ _ a b
  ·rename_i hk;rw[if_neg hk] at h2;exact nB hl hi h1 h2
theorem zr{M:Model}{E:Value->Shared->Prop}{scope:Scope}{globals:Addr}{closure:List (Str×Addr)}{qual:Str}{func:Option Addr}{code:Value}{around:Env}{builtins:Addr}{Q:Env->Shared->Prop}(h:Q (newEnv scope s.heap.objs.size globals (cellsFrom (s.heap.objs.size+1) scope.names closure) qual func code (some around) builtins)
   {s with heap:=pushCells (s.heap.push {cls:=.type "dict",data:=.dict #[]}) scope.names}):
  wpAny M A (newFunctionEnv scope globals closure [] qual func code (some around) builtins) Q E s:=by
 simp only[newFunctionEnv,Option.isSome_some,if_true];refine wpAny_bind (wpAny_alloc ?_);refine wpAny_bind (wpAny_layCells _ (λn k c=>rfl) scope.names closure _ _ ?_);rw[show({s with heap:=s.heap.push {cls:=.type "dict",data:=.dict #[]}}:Shared).heap.objs.size=s.heap.objs.size+1 from Heap.size_push ..];rw[List.forIn_nil];exact wpAny_bind (wpAny_pure (wpAny_pure h))
theorem h8{sc:Scope}:∀{names:List (Str×NameKind)}{x:Str}{k:NameKind},
  (names.map λ(n,k)=>if(k==NameKind.free&&sc.kind==.function&&sc.names.lookup n==some .cell) then(n,NameKind.cell) else(n,k)).lookup x=some k->
  ∃k',names.lookup x=some k'/\(k=k'\/(k'= .free/\k= .cell))
 |[],_,_,h=>by simp at h
 |(n,k₀)::r,x,k,h=>by
  have ih:=@h8 sc r x k;have h':List.lookup x ((if(k₀==NameKind.free&&sc.kind==.function&&sc.names.lookup n==some .cell)=true then(n,NameKind.cell) else(n,k₀))::(r.map _))=some k:=h;cases hx:x==n with
  |true=>
   simp only[List.lookup_cons,hx];by_cases hc:(k₀==NameKind.free&&sc.kind==.function&&sc.names.lookup n==some .cell)=true
   ·rw[if_pos hc] at h';simp only[List.lookup_cons,hx] at h';cases h';simp only[Bool.and_eq_true,beq_iff_eq] at hc;exact⟨k₀,rfl,.inr ⟨hc.1.1,rfl⟩⟩
   ·rw[if_neg hc] at h';simp only[List.lookup_cons,hx] at h';cases h';exact⟨_,rfl,.inl rfl⟩
  |false=>
   simp only[List.lookup_cons,hx];by_cases hc:(k₀==NameKind.free&&sc.kind==.function&&sc.names.lookup n==some .cell)=true
   ·rw[if_pos hc] at h';simp only[List.lookup_cons,hx] at h';exact ih h'
   ·rw[if_neg hc] at h';simp only[List.lookup_cons,hx] at h';exact ih h'
structure vh(N:List Str)(sc scope:Scope)(own:List (Str×Nat)):Prop where
 kind:scope.kind= .function
 uniq:∀y∈scope.names,scope.names.lookup y.1=some y.2
 ix:∀p∈own,N[p.2]?=some p.1
 free:∀y∈scope.names,y.2= .free->sc.names.lookup y.1=some .cell\/sc.names.lookup y.1=some .free
 own:∀y∈scope.names,y.2= .local\/y.2= .cell->y.1∈own.map (·.1)\/y.1∉N
def wipe(σ:St):List Nat->St
 |[]=>σ
 |v::vs=>(wipe σ vs).set v none
theorem h7(σ:St):∀vs:List Nat,(wipe σ vs).length=σ.length
 |[]=>rfl
 |v::vs=>by unfold wipe;rw[List.length_set,h7 σ vs]
theorem nE{σ:St}{i:Nat}{x:V}:∀{vs:List Nat},(wipe σ vs)[i]?=some (some x)->σ[i]?=some (some x)/\i∉vs
 |[],h=>⟨h,by simp⟩
 |v::vs,h=>by
  unfold wipe at h;by_cases hi:v=i
  ·subst hi;by_cases hv:v<(wipe σ vs).length
   ·rw[List.getElem?_set_self hv] at h;cases h
   ·rw[List.getElem?_eq_none (by simpa using hv)] at h;cases h
  ·rw[List.getElem?_set_ne hi] at h;obtain⟨h1,h2⟩:=nE h;exact⟨h1,by simp only[List.mem_cons,not_or];exact⟨λe=>hi e.symm,h2⟩⟩
abbrev Cx.AA(X:Cx)(s:Shared)(H:Hp)(scope:Scope)(cenv:Env)(fp:List Addr):Cx:={X with oq:=s,R4:=H,env:=cenv,outer:=X.stack,ex:=fp,fn:=λx=>scope.names.lookup x==some .cell,pn:=[],xe:=λ_ _=>False}
section
variable{X:Cx}{UI:List (Addr×Obj)}{σ:St}{H:Hp}{s:Shared}
theorem yP{scope:Scope}{own:List (Str×Nat)}{fp:List Addr}(I:Inv X UI σ H s)(ok:vh X.N X.env.scope scope own)(hN:X.N.Nodup)(hfp:∀b∈fp,t7 X UI H b/\b<s.heap.objs.size):
  Inv (X.AA s H scope (compEnvC scope (cellsFrom (s.heap.objs.size+1) scope.names (bu X.env.cells scope.names [])) s.heap.objs.size X.env) fp) [] (wipe σ (own.map (·.2))) H {s with heap:=pushCells (s.heap.push {cls:=.type "dict",data:=.dict #[]}) scope.names}:=by
 have hfree:∀y∈scope.names,y.2= .free->∃c,X.env.cells.lookup y.1=some c:=λy hy e=>by
  rcases ok.free y hy e with k|k
  ·exact I.ok.has _ (.inl k)
  ·exact I.ok.has _ (.inr k)
 generalize hcenv:compEnvC scope (cellsFrom (s.heap.objs.size+1) scope.names (bu X.env.cells scope.names [])) s.heap.objs.size X.env=cenv;have kp:∀b o,s.heap.get? b=some o->(pushCells (s.heap.push {cls:=.type "dict",data:=.dict #[]}) scope.names).get? b=some o:=λb o e=>pushCells_keeps _ _ _ _ (Heap.get?_push_of_some _ e);have hL:cenv.locals=s.heap.objs.size:=by rw[<-hcenv];rfl
 have hcl:cenv.cells=cellsFrom (s.heap.objs.size+1) scope.names (bu X.env.cells scope.names []):=by rw[<-hcenv];rfl
 have hsc:cenv.scope=TY scope X.env.scope:=by rw[<-hcenv];rfl
 rw[<-Heap.size_push s.heap {cls:=.type "dict",data:=.dict #[]}] at hcl;have cm:∀{y c},(y,c)∈bu X.env.cells scope.names []->X.env.cells.lookup y=some c/\c<s.heap.objs.size:=λ{y c} hm=>by
  rcases fM hm with hm|⟨h1,rfl⟩
  ·cases hm
  ·obtain⟨c,hc⟩:=hfree _ h1 rfl;rw[hc];obtain⟨w,z⟩:=I.cell _ _ hc;exact⟨rfl,z.lt⟩
 have mem:∀{y c},cenv.cells.lookup y=some c->(X.env.cells.lookup y=some c/\c<s.heap.objs.size)\/(s.heap.objs.size+1<=c/\He (pushCells (s.heap.push {cls:=.type "dict",data:=.dict #[]}) scope.names) c none):=λ{y c} e=>by
  rw[hcl] at e;rcases gu (PySem.mem_of_lookup e) with hm|⟨_,h2,h3⟩
  ·exact .inl (cm hm)
  ·rw[Heap.size_push] at h2;exact .inr ⟨h2,h3⟩
 have look:∀{y},scope.names.lookup y=some .free->∃c,cenv.cells.lookup y=some c/\X.env.cells.lookup y=some c:=λ{y} hl=>by
  have hy:(y,NameKind.free)∈scope.names:=PySem.mem_of_lookup hl;obtain⟨c',e'⟩:=mem_lookup (iY (names:=scope.names) (n:=(s.heap.push {cls:=.type "dict",data:=.dict #[]}).objs.size) (iI (cells:=X.env.cells) (acc:=[]) hy));rw[<-hcl] at e';refine⟨c',e',?_⟩;rw[hcl] at e';rcases gu (PySem.mem_of_lookup e') with hm|⟨h1,_,_⟩
  ·exact(cm hm).1
  ·have:=ok.uniq _ h1;rw[hl] at this;cases this
 have okB:(X.AA s H scope cenv fp).Ok:=by
  refine⟨I.ok.mod,by show cenv.scope.kind=_;rw[hsc];exact ok.kind,by show cenv.globals=_;rw[<-hcenv];exact I.ok.glob,by show cenv.builtins=_;rw[<-hcenv];exact I.ok.blt,by show s.heap.objs.size<=cenv.locals;rw[hL];exact Nat.le_refl _,
   λy z c e1 e2=>?_,λy hy=>?_,λy c z e=>?_,I.ok.hd,I.ok.frames,.inl rfl,λb hb=>⟨?_,λy c e z=>?_⟩,I.bs,Nat.le_trans I.ok.FC I.sz,λb o e hb=>?_,λb hb z=>?_,I.stack,I.wa⟩
  ·have e1:cenv.cells.lookup y=some c:=e1;have e2:cenv.cells.lookup z=some c:=e2;rw[hcl] at e1 e2;refine nB (λp hp=>?_) (λy z c a b=>I.ok.inj y z c (cm a).1 (cm b).1) (PySem.mem_of_lookup e1) (PySem.mem_of_lookup e2);rw[Heap.size_push];exact Nat.lt_succ_of_lt (cm (y:=p.1) (c:=p.2) hp).2
  ·show ∃c,cenv.cells.lookup y=some c;have key:∀k,cenv.kindOf y=some k->(k= .cell\/k= .free)->∃c,cenv.cells.lookup y=some c:=λk hk hk'=>by
    unfold Env.kindOf at hk;rw[hsc] at hk;obtain⟨k',e,r⟩:=h8 hk;have:k'= .cell\/k'= .free:=by
     rcases r with rfl|⟨rfl,_⟩
     ·exact hk'
     ·exact .inr rfl
    rcases this with rfl|rfl
    ·obtain⟨c,hm⟩:=mz (n:=(s.heap.push {cls:=.type "dict",data:=.dict #[]}).objs.size) (acc:=bu X.env.cells scope.names []) (PySem.mem_of_lookup e);obtain⟨c',e'⟩:=mem_lookup hm;exact⟨c',by rw[hcl];exact e'⟩
    ·obtain⟨c,h1,_⟩:=look e;exact⟨c,h1⟩
   rcases hy with hy|hy
   ·exact key _ hy (.inl rfl)
   ·exact key _ hy (.inr rfl)
  ·have z:(scope.names.lookup y==some NameKind.cell)=true:=z;have z:scope.names.lookup y=some .cell:=by simpa using z
   have e:cenv.cells.lookup y=some c:=e;rw[hcl] at e;rcases gu (PySem.mem_of_lookup e) with hm|⟨_,h2,_⟩
   ·rcases fM hm with hm|⟨h1,_⟩
    ·cases hm
    ·have q:=ok.uniq _ h1;rw[z] at q;cases q
   ·rw[Heap.size_push] at h2;exact Nat.le_of_succ_le h2
  ·show b≠cenv.locals;rw[hL];exact Nat.ne_of_lt (hfp b hb).2
  ·have e:cenv.cells.lookup y=some c:=e;rcases mem e with⟨h1,_⟩|⟨h1,_⟩
   ·exact(hfp b hb).1.2.2.2.2.1 y c h1 z
   ·have h2:s.heap.objs.size+1<=b:=by rw[<-z];exact h1
    exact absurd (Nat.lt_of_lt_of_le (hfp b hb).2 (Nat.le_of_succ_le h2)) (Nat.lt_irrefl _)
  ·rcases(hfp b hb).1.2.2.2.1 with z|z
   ·exact I.ok.Cb b o e z
   ·exact absurd (Nat.lt_of_lt_of_le (Heap.lt_size e) (Nat.le_trans I.ok.FC z)) (Nat.lt_irrefl _)
  ·rcases List.mem_cons.mp (I.yu b z) with z|z
   ·exact(hfp b hb).1.2.1 z
   ·exact(hfp b hb).1.2.2.1 z
 refine⟨okB,rfl,I.bare,Un.kept kp,⟨λ_=>none,?_,λi y av e1 e2 e3=>?_⟩,λy c e=>?_,?_,λy c e=>?_,λp hp=>?_,I.aZ.kept kp,by rw[h7];exact I.len⟩
 ·show Heap.Ns _ cenv.locals _;rw[hL];exact Heap.Ns.keeps (Heap.Ns.new ..) λb o e=>pushCells_keeps _ _ _ _ e
 ·obtain⟨e2,hne⟩:=nE e2;have hfr:scope.names.lookup y=some .free/\(cenv.kindOf y=some .cell\/cenv.kindOf y=some .free):=by
   have key:∀k,cenv.scope.names.lookup y=some k->k= .local\/k= .cell\/k= .free->scope.names.lookup y=some .free/\(cenv.kindOf y=some .cell\/cenv.kindOf y=some .free):=λk hk hk'=>by
    have hk0:=hk;rw[hsc] at hk;obtain⟨k',e,r⟩:=h8 hk;have no:¬(k'= .local\/k'= .cell):=λhh=>by
     rcases ok.own _ (PySem.mem_of_lookup e) hh with e'|e'
     ·obtain⟨p,hp,hpy⟩:=List.mem_map.mp e';have e3:=ok.ix p hp;have:p.1=y:=hpy;rw[this] at e3;exact hne (List.mem_map.mpr ⟨p,hp,qO hN e3 e1⟩)
     ·exact e' (List.mem_of_getElem? e1)
    rcases r with rfl|⟨rfl,rfl⟩
    ·rcases hk' with rfl|rfl|rfl
     ·exact absurd (.inl rfl) no
     ·exact absurd (.inr rfl) no
     ·exact⟨e,.inr hk0⟩
    ·exact⟨e,.inl hk0⟩
   have e3:NC cenv.scope y:=e3;rcases e3 with e3|e3|e3
   ·exact key _ e3 (.inl rfl)
   ·exact key _ e3 (.inr (.inl rfl))
   ·exact key _ e3 (.inr (.inr rfl))
  obtain⟨m,hn,hl⟩:=I.loc;have hvis:NC X.env.scope y:=(ok.free _ (PySem.mem_of_lookup hfr.1) rfl).elim (λk=>.inr (.inl k)) (λk=>.inr (.inr k));obtain⟨w,r,q⟩:=hl i y av e1 e2 hvis;refine⟨w,r,.inr ⟨hfr.2,?_⟩⟩;obtain⟨c,h1,h2⟩:=look hfr.1;rcases q with⟨k,_⟩|⟨_,c',e',z⟩
  ·have k:X.env.scope.names.lookup y=some .local:=k;rcases ok.free _ (PySem.mem_of_lookup hfr.1) rfl with k'|k' <;> rw[show X.env.scope.names.lookup y=_ from k'] at k <;> cases k
  ·rw[h2] at e';cases e';exact⟨c,h1,z.keeps kp⟩
 ·have e:cenv.cells.lookup y=some c:=e;rcases mem e with⟨h1,_⟩|⟨_,z⟩
  ·obtain⟨w,z⟩:=I.cell y c h1;exact⟨w,z.keeps kp⟩
  ·exact⟨_,z⟩
 ·show H cenv.locals=none;rw[hL];exact I.aZ.fresh (Nat.le_refl _)
 ·have e:cenv.cells.lookup y=some c:=e;rcases mem e with⟨h1,_⟩|⟨h1,_⟩
  ·exact I.fz y c h1
  ·exact I.aZ.fresh (Nat.le_of_succ_le h1)
 ·exact absurd (show p∈([]:List (Addr×Obj))++[] from hp) (by simp)
theorem Oj{E:Value->Shared->Prop}{D:Addr}{xs:List V}{y:V}{v:Value}(I:Inv X UI σ H s)(hD:H D=some (.lst xs))(hz:xs.length<sizeLine)(r:RelV y v)(h:∀s',Inv X UI σ (upd H D (.lst (xs++[y]))) s'->Q .none s'):wpAny (model X.prog X.w) X.A (call (.builtin "list.append") [.ref D,v]) Q E s:=by obtain⟨hz',its,n,ri,e⟩:=I.aZ D _ hD;have hl:=ri.length;refine append_at (hsz:=by rw[List.size_toArray];omega) e λh' sb ho'=>?_;refine h {s with heap:=h'} (I.write (t':=s.toks) (by rw[hD];trivial) (.inl rfl) (λb u hb q=>(sb.2 b hb).trans q) ⟨_,ho'⟩ ⟨by rw[List.length_append];exact hz,its++[v],n+1,ri.append (.cons r .nil),?_⟩);rw[ho'];simp
def SE(X:Cx)(ifs:List Expr)(t:TT):Prop:=
 ∀(UI:List (Addr×Obj))(s:Shared)(σ:St)(H:Hp)(Q:Bool->Hp->Prop),Inv X UI σ H s->t σ H Q->
  wpAny (model X.prog X.w) X.A (forIn ifs true λc r=>if r=true then do let ok<-isTrue c X.env (eval c X.env);pure (ForInStep.yield ok) else pure (ForInStep.yield r)) (TP X UI σ Q) X.xe s
def QQ:TT:=λ_ H Q=>Q true H
theorem Dq:SE X [] QQ:=λ_ _ _ H _ I h=>wpAny_tests_nil ⟨H,I,h⟩
end
theorem Fs{α:Type}{t:Sem α}{Q Q':α->Shared->Prop}{M:Model}{E:Value->Shared->Prop}(h:wpAny M A t Q (λ_ _=>False) s)(hQ:∀a s,Q a s->Q' a s):wpAny M A t Q' E s:=wpAny_mono h hQ λ_ _ z=>False.elim z
theorem wy{prog:Program}{R:Result->Shared->Prop}{elt target iter:Expr}{ifs:List Expr}{scope:Scope}{pos:Pos}{it acc:Value}{env:Env}(I:Nat->Shared->Prop)(turn:∀n s,I n s->wpAny (model prog w) A (pyNext it) (λr s₁=>match r with
   |none=>R (.ok .next) s₁
   |some v=>wpAny (model prog w) A (letOwnedTupleGo target it v) (λ_ s₁'=>wpAny (model prog w) A (assign target env v) (λ_ s₂=>
     wpAny (model prog w) A (forIn ifs true λc r=>if r=true then do let ok<-isTrue c env (eval c env);pure (ForInStep.yield ok) else pure (ForInStep.yield r)) (λok s₃=>
      if ok=true then wpAny (model prog w) A (eval elt env) (λx s₄=>
       wpAny (model prog w) A (call (.builtin "list.append") [acc,x]) (λ_ s₅=>∃m,m<n/\I m s₅) (notedBy (model prog w) A env λe s'=>R (.error e) s') s₄) (notedBy (model prog w) A env λe s'=>R (.error e) s') s₃
      else ∃m,m<n/\I m s₃) (notedBy (model prog w) A env λe s'=>R (.error e) s') s₂) (notedBy (model prog w) A env λe s'=>R (.error e) s') s₁') (notedBy (model prog w) A env λe s'=>R (.error e) s') s₁) (notedBy (model prog w) A env λe s'=>R (.error e) s') s)(n:Nat)(h:I n s):
  codeAny (model prog w) A (.compLoop (.ListComp elt [⟨target,iter,ifs,0⟩] scope pos) 0 it acc env) R s:=by
 refine codeAny_loop rfl I (λn s hI=>?_) n h;show wpAny _ A ((compTurn (.ListComp elt [⟨target,iter,ifs,0⟩] scope pos) 0 it acc env).onRaise (λx=>do noteFrame x env;theTreesLotGoes x)) _ _ s;refine wpAny_noted ?_;rw[compTurn_list];refine wpAny_bind (wpAny_standAt (wpAny_bind (wpAny_mono (turn n s hI) (λr s₁ h₁=>?_) λ_ _ h'=>h')));cases r with
 |none=>exact wpAny_pure h₁
 |some v=>
  refine wpAny_bind (wpAny_mono h₁ (λ_ s₁' h₁'=>?_) λ_ _ h'=>h');refine wpAny_bind (wpAny_mono h₁' (λ_ s₂ h₂=>wpAny_bind (wpAny_mono h₂ (λok s₃ h₃=>?_) λ_ _ h'=>h')) λ_ _ h'=>h');cases ok with
  |false=>exact wpAny_pure ⟨rfl,h₃⟩
  |true=>
   exact wpAny_bind (wpAny_bind (wpAny_mono h₃ (λx s₄ h₄=>wpAny_bind (wpAny_mono h₄ (λ_ s₅ h₅=>wpAny_pure (wpAny_pure ⟨rfl,h₅⟩)) λ_ _ h'=>h')) λ_ _ h'=>h'))
section
variable{X:Cx}
def T7(wi:TI)(g:TG)(tt:TT)(te:TE)(vs:List Nat):TE:=λσ H Q=>wi σ H λJ H1=>∀D,H1 D=none->∃W:Nat->Nat->Hp->Prop,(∃m,W 0 m (upd H1 D (.lst [])))/\∀i m H,W i m H->
 (J.stop i H/\Q (.ref D) H)\/(J.go i H/\∃Nx:Hp->Prop,(∀H',Nx H'->∃m',m'<m/\W (i+1) m' H')/\∀x H',J.Lv i H x H'->g x (wipe σ vs) H' λσ2 H2=>wipe σ2 vs=wipe σ vs/\tt σ2 H2 λb H3=>
  if b=true then te σ2 H3 λy H4=>∃acc,H4 D=some (.lst acc)/\acc.length<sizeLine/\Nx (upd H4 D (.lst (acc++[y]))) else Nx H3)
theorem KL{σ:St}{Q:VK}{elt tg iter:Expr}{ifs:List Expr}{scope:Scope}{own:List (Str×Nat)}{pos pos':Pos}{wi:TI}{g:TG}{tt:TT}{te:TE}{use:Option (Value->Sem Unit)}{Qf:Value->Shared->Prop}(hc:X.calm=true)(hN:X.N.Nodup)(I:Inv X UI σ H s)(hi:PI X tg iter wi)(ok:vh X.N X.env.scope scope own)(hg:∀(s:Shared)(H:Hp)(C:Addr)(cl:List (Str×Addr))(fp:List Addr),PG (X.AA s H scope (compEnvC scope cl C X.env) fp) tg g)(ht:∀(s:Shared)(H:Hp)(C:Addr)(cl:List (Str×Addr))(fp:List Addr),SE (X.AA s H scope (compEnvC scope cl C X.env) fp) ifs tt)(he:∀(s:Shared)(H:Hp)(C:Addr)(cl:List (Str×Addr))(fp:List Addr),PE (X.AA s H scope (compEnvC scope cl C X.env) fp) elt te)(hs:∀x,foldedSetIterable iter X.env x=pure x)(h:T7 wi g tt te (own.map (·.2)) σ H Q)(hRR:∀D C s' m H',Inv X UI σ H' s'->Q (.ref D) H'->s'.heap.Ns C m->t7 X UI H' C->compPost (model X.prog X.w) X.A X.xe use Qf (.ref D) C (.ok .next) s'):
  wpAny (model X.prog X.w) X.A (comprehension (.ListComp elt [⟨tg,iter,ifs,0⟩] scope pos) scope X.env pos' (newList []) false (eval iter X.env) use) Qf X.xe s:=by
 have hfree:∀y∈scope.names,y.2= .free->∃c,X.env.cells.lookup y.1=some c:=λy hy e=>by
  rcases ok.free y hy e with k|k
  ·exact I.ok.has _ (.inl k)
  ·exact I.ok.has _ (.inr k)
 refine wpAny_comprehension_free (use:=use) rfl hs (BU hfree) ok.kind (λy hy e=>by rw[ok.uniq y hy,e])
  (br (hi UI s σ H _ I h) λxv s1 hx=>br hx λitv s2 h2=>?_)
 obtain⟨it,fp,tn,J,H2,e,I2,T,st2,f2,q⟩:=h2;subst e;refine wpAny_newObj_type (zr ?_) (by show 0<=sizeLine;decide);generalize hD:s2.heap.objs.size=D;have hDn:H2 D=none:=I2.aZ.fresh (Nat.le_of_eq hD);obtain⟨W,⟨m0,w0⟩,turn⟩:=q D hDn;generalize hs3:({s2 with heap:=s2.heap.push {cls:=.type "list",data:=.seq ([]:List Value).toArray}}:Shared)=s3;have I3:Inv X UI σ (upd H2 D (.lst [])) s3:=by
  rw[<-hs3];refine I2.laid (t':=s2.toks) (λb o e=>Heap.get?_push_of_some _ e) (Nat.le_of_eq hD) ⟨Nat.zero_le _,[],0,.nil,?_⟩;rw[<-hD];exact Heap.get?_push_size _ rfl
 have h3:s3.heap=s2.heap.push {cls:=.type "list",data:=.seq ([]:List Value).toArray}:=by rw[<-hs3]
 have sz:∀b∈fp,b<s2.heap.objs.size:=λb hb=>by
  obtain⟨o,e,_⟩:=T.obj _ _ st2 b hb;exact Heap.lt_size e
 have f3:∀b∈fp,t7 X UI (upd H2 D (.lst [])) b/\b<s3.heap.objs.size:=λb hb=>by
  have hlt:=sz b hb;refine⟨⟨?_,(f2 b hb).2⟩,by rw[h3,Heap.size_push];exact Nat.lt_succ_of_lt hlt⟩;rw[ah (by rw[<-hD];exact Nat.ne_of_lt hlt)];exact(f2 b hb).1
 have st3:tn 0 s3.heap:=T.keep _ _ _ st2 λb _ o e=>by rw[h3];exact Heap.get?_push_of_some _ e
 have I4:=yP I3 ok hN f3;have pg:=hg s3 (upd H2 D (.lst [])) s3.heap.objs.size (cellsFrom (s3.heap.objs.size+1) scope.names (bu X.env.cells scope.names [])) fp;have pt:=ht s3 (upd H2 D (.lst [])) s3.heap.objs.size (cellsFrom (s3.heap.objs.size+1) scope.names (bu X.env.cells scope.names [])) fp;have pe:=he s3 (upd H2 D (.lst [])) s3.heap.objs.size (cellsFrom (s3.heap.objs.size+1) scope.names (bu X.env.cells scope.names [])) fp;show codeAny _ _ (.compStart (.ListComp elt [⟨tg,iter,ifs,0⟩] scope pos) 0 (.ref it) (.ref D) (compEnvC scope (cellsFrom (s3.heap.objs.size+1) scope.names (bu X.env.cells scope.names [])) s3.heap.objs.size X.env)) (compPost (model X.prog X.w) X.A X.xe use Qf (.ref D) s3.heap.objs.size) {s3 with heap:=pushCells (s3.heap.push {cls:=.type "dict",data:=.dict #[]}) scope.names};have nfp:∀b∈fp,(upd H2 D (.lst [])) b=none:=λb hb=>(f3 b hb).1.1;generalize hce:compEnvC scope (cellsFrom (s3.heap.objs.size+1) scope.names (bu X.env.cells scope.names [])) s3.heap.objs.size X.env=ce at I4 pg pt pe ⊢;have cL:ce.locals=s3.heap.objs.size:=by subst hce;rfl
 generalize hH3:upd H2 D (.lst [])=H3 at I3 I4 pg pt pe w0 nfp f3;generalize hs4:({s3 with heap:=pushCells (s3.heap.push {cls:=.type "dict",data:=.dict #[]}) scope.names}:Shared)=s4 at I4 ⊢;have st4:tn 0 s4.heap:=T.keep _ _ _ st3 λb _ o e=>by rw[<-hs4];exact pushCells_keeps _ _ _ _ (Heap.get?_push_of_some _ e)
 have stat:∀{σ':St}{H':Hp}{s':Shared},Inv (X.AA s3 H3 scope ce fp) [] σ' H' s'->(∀b∈fp,H' b=none)->∀b∈fp,t7 (X.AA s3 H3 scope ce fp) [] H' b:=λ{σ' H' s'} I' hn b hb=>
  ⟨hn b hb,(I'.ok.Pj b hb).1,I'.ok.Bl b hb,.inl hb,λx c e=>(I'.ok.Pj b hb).2 x c e,λp hp=>absurd (show p∈([]:List (Addr×Obj))++[] from hp) (by simp)⟩
 have loop:codeAny (model X.prog X.w) X.A (.compLoop (.ListComp elt [⟨tg,iter,ifs,0⟩] scope pos) 0 (.ref it) (.ref D) ce) (compPost (model X.prog X.w) X.A X.xe use Qf (.ref D) s3.heap.objs.size) s4:=by
  refine wy (λn s'=>∃i H',Inv (X.AA s3 H3 scope ce fp) [] (wipe σ (own.map (·.2))) H' s'/\tn i s'.heap/\(∀b∈fp,H' b=none)/\W i n H') ?_ m0 ⟨0,H3,I4,st4,nfp,w0⟩;rintro n s5 ⟨i,H5,I5,st5,n5,w5⟩;rcases turn i n H5 w5 with⟨stop,qq⟩|⟨go,Nx,hNx,step⟩
  ·have td:=T.done (X.AA s3 H3 scope ce fp) rfl rfl rfl hc i [] s5 _ H5 (λ_ _=>False) I5 (stat I5 n5) st5 stop;refine Fs td λr s6 ⟨hr,I6⟩=>?_;subst hr;have I7:Inv X UI σ H5 s6:=I3.Mb (ch:=fp) I6.os I6.base I6.aZ I6.bare λb hb=>⟨(f3 b hb).1.2.2.2.1,(f3 b hb).1.2.1,(f3 b hb).1.2.2.2.2.1,(f3 b hb).1.2.2.2.2.2⟩
   have nC:H5 s3.heap.objs.size=none:=by
    have z:H5 ce.locals=none:=I6.free;rw[cL] at z;exact z
   obtain⟨m,hn,_⟩:=I6.loc;have hn:s6.heap.Ns ce.locals m:=hn;rw[cL] at hn;exact hRR D s3.heap.objs.size s6 m H5 I7 qq hn (I3.G5 (Nat.le_refl _) nC)
  ·have ti:=T.item (X.AA s3 H3 scope ce fp) rfl rfl rfl hc i [] s5 _ H5 (λ_ _=>False) I5 (stat I5 n5) st5 go;refine Fs ti λr s6 ⟨u,hr,h6⟩=>?_;subst hr;refine Fs h6 λ_ s7 ⟨x,H7,I7,r7,y7,st7,n7⟩=>?_;have I7':=I7.pinned (stat I7 n7) (T.obj _ _ st7);refine Fs (pg _ s7 _ H7 x u _ I7' r7 (step x H7 y7)) λ_ s8 ⟨σ8,H8,I8,hw8,q8⟩=>?_;refine Fs (pt _ s8 σ8 H8 _ I8 q8) λb s9 ⟨H9,I9,q9⟩=>?_;have fin:∀{s':Shared}{H':Hp},Inv (X.AA s3 H3 scope ce fp) ([]++qM fp s7.heap) σ8 H' s'->Nx H'->∃m,m<n/\∃i H',Inv (X.AA s3 H3 scope ce fp) [] (wipe σ (own.map (·.2))) H' s'/\tn i s'.heap/\(∀b∈fp,H' b=none)/\W i m H':=λ{s' H'} I' nx=>by
    obtain⟨m',hm,w'⟩:=hNx H' nx;have pin':∀b∈fp,∀o,s7.heap.get? b=some o->s'.heap.get? b=some o/\H' b=none:=λb hb o e=>
     let z:=I'.pin (b,o) (List.mem_append_right _ (List.mem_append_right _ (jR hb e)))
     ⟨z.1,z.2.1⟩
    have hl:(wipe σ (own.map (·.2))).length=σ8.length:=by rw[<-hw8,h7]
    refine⟨m',hm,i+1,H',(I'.kg (UI:=[])).weak hl (λj v e=>?_),T.keep _ _ _ st7 λb hb o e=>(pin' b hb o e).1,λb hb=>?_,w'⟩
    ·rw[<-hw8] at e;exact(nE e).1
    ·obtain⟨o,e,_⟩:=T.obj _ _ st7 b hb;exact(pin' b hb o e).2
   cases b with
   |false=>
    simp only[Bool.false_eq_true,if_false] at q9 ⊢;exact fin I9 q9
   |true=>
    simp only[if_true] at q9 ⊢;refine Fs (pe _ s9 σ8 H9 _ I9 q9) λz s10 ⟨yv,H10,I10,r10,acc,hD10,hz10,nx⟩=>?_;exact Oj (X:=X.AA s3 H3 scope ce fp) I10 hD10 hz10 r10 λs11 I11=>fin I11 nx
 exact codeAny_compStart_list loop (T.self X.A 0 _ _ _ st4 loop)
theorem L8{elt tg iter:Expr}{ifs:List Expr}{scope:Scope}{own:List (Str×Nat)}{pos:Pos}{wi:TI}{g:TG}{tt:TT}{te:TE}(hc:X.calm=true)(hN:X.N.Nodup)(hi:PI X tg iter wi)(ok:vh X.N X.env.scope scope own)(hg:∀(s:Shared)(H:Hp)(C:Addr)(cl:List (Str×Addr))(fp:List Addr),PG (X.AA s H scope (compEnvC scope cl C X.env) fp) tg g)(ht:∀(s:Shared)(H:Hp)(C:Addr)(cl:List (Str×Addr))(fp:List Addr),SE (X.AA s H scope (compEnvC scope cl C X.env) fp) ifs tt)(he:∀(s:Shared)(H:Hp)(C:Addr)(cl:List (Str×Addr))(fp:List Addr),PE (X.AA s H scope (compEnvC scope cl C X.env) fp) elt te)(hs:∀x,foldedSetIterable iter X.env x=pure x:=by intro _;rfl):
  PE X (.ListComp elt [⟨tg,iter,ifs,0⟩] scope pos) (T7 wi g tt te (own.map (·.2))):=by
 intro UI s σ H Q I h;rw[eval_ListComp];refine KL hc hN I hi ok hg ht he hs h λD C s' m H' I' q hn f=>⟨m,hn,λh'' sb=>?_⟩
 obtain⟨f0,f1,f2,f3,f4,f5⟩:=f;exact⟨.ref D,H',I'.turned (t':=s'.toks) (λb o hb e=>(sb.2 b hb).trans e) f0 f1 f3 f4 f5,rfl,q⟩
end
theorem De{K:Frag}{a:Addr}{xs:List V}{g:TG}{tt:TT}{te:TE}{vs:List Nat}{σ:St}{H1:Hp}{D:Addr}{Qd:Hp->Prop}(Pv:Nat->Hp->Prop)(h0:Pv 0 (upd H1 D (.lst [])))(hl:∀i H,i<=xs.length->Pv i H->bf K H a xs)(hs:∀i x H,xs[i]?=some x->Pv i H->g x (wipe σ vs) H λσ2 H2=>wipe σ2 vs=wipe σ vs/\tt σ2 H2 λb H3=>
   if b=true then te σ2 H3 λy H4=>∃acc,H4 D=some (.lst acc)/\acc.length<sizeLine/\Pv (i+1) (upd H4 D (.lst (acc++[y]))) else Pv (i+1) H3)(hd:∀H,Pv xs.length H->Qd H):
  ∃W:Nat->Nat->Hp->Prop,(∃m,W 0 m (upd H1 D (.lst [])))/\∀i m H,W i m H->
   ((LI K a).stop i H/\Qd H)\/((LI K a).go i H/\∃Nx:Hp->Prop,(∀H',Nx H'->∃m',m'<m/\W (i+1) m' H')/\∀x H',(LI K a).Lv i H x H'->g x (wipe σ vs) H' λσ2 H2=>wipe σ2 vs=wipe σ vs/\tt σ2 H2 λb H3=>
    if b=true then te σ2 H3 λy H4=>∃acc,H4 D=some (.lst acc)/\acc.length<sizeLine/\Nx (upd H4 D (.lst (acc++[y]))) else Nx H3):=by
 refine⟨λi m H=>m=xs.length - i/\i<=xs.length/\Pv i H,⟨xs.length,by simp,Nat.zero_le _,h0⟩,?_⟩;rintro i m H ⟨rfl,hi,p⟩;have q:=hl i H hi p;by_cases hlt:i<xs.length
 ·refine .inr ⟨⟨xs,xs[i],q,by simp[hlt]⟩,Pv (i+1),λH' p'=>⟨xs.length - (i+1),↑2,rfl,hlt,p'⟩,λx H' y=>?_⟩;obtain⟨e,y⟩:=y;subst e;exact hs i x _ (y xs q) p
 ·have e:i=xs.length:=↑2
  subst e;exact .inl ⟨⟨xs,q,Nat.le_refl _⟩,hd H p⟩
def Qk(N:List Str)(sc scope:Scope)(own:List (Str×Nat)):Bool:=
 (match scope.kind with| .function=>true|_=>false)&&(scope.names.all λy=>decide (scope.names.lookup y.1=some y.2))&&(own.all λp=>decide (N[p.2]?=some p.1))&&
  (scope.names.all λy=>match y.2 with
   | .free=>(match sc.names.lookup y.1 with|some .cell=>true|some .free=>true|_=>false)
   | .local=>decide (y.1∈own.map (·.1))||decide (y.1∉N)
   | .cell=>decide (y.1∈own.map (·.1))||decide (y.1∉N)
   |_=>true)
theorem An{N:List Str}{sc scope:Scope}{own:List (Str×Nat)}(h:Qk N sc scope own=true):vh N sc scope own:=by
 unfold Qk at h;simp only[Bool.and_eq_true,List.all_eq_true,decide_eq_true_eq] at h;obtain⟨⟨⟨h1,h2⟩,h3⟩,h4⟩:=h;refine⟨?_,h2,h3,λy hy e=>?_,λy hy e=>?_⟩
 ·split at h1
  ·assumption
  ·cases h1
 ·have q:=h4 y hy;simp only[e] at q;split at q <;> first|exact .inl (by assumption)|exact .inr (by assumption)|cases q
 ·have q:=h4 y hy;rcases e with e|e <;> (simp only[e,Bool.or_eq_true,decide_eq_true_eq] at q;exact q)
section
variable{prog:Program}{w:World}{A:Around}{R:Result->Shared->Prop}{s:Shared}{elt t0 i0 t1 i1:Expr}{ifs0 ifs1:List Expr}{scope:Scope}{pos:Pos}{it acc:Value}{env:Env}
end
section
variable{X:Cx}
end
section
variable{κ:Type}[DecidableEq κ]
def jS(kvs:List (κ×V))(k:κ):Option V:=(kvs.find? λkv=>decide (kv.1=k)).map (·.2)
def putK(kvs:List (κ×V))(k:κ)(v:V):List (κ×V):=
 if(kvs.any λkv=>decide (kv.1=k))=true then kvs.map (λkv=>if kv.1=k then(kv.1,v) else kv) else kvs++[(k,v)]
theorem ku{p:κ×V}{r:List (κ×V)}{k:κ}(e:p.1=k):jS (p::r) k=some p.2:=by simp[jS,List.find?_cons,e]
theorem ka{p:κ×V}{r:List (κ×V)}{k:κ}(e:¬p.1=k):jS (p::r) k=jS r k:=by simp[jS,List.find?_cons,e]
theorem rY(k:κ):∀kvs:List (κ×V),(kvs.any λkv=>decide (kv.1=k))=(jS kvs k).isSome
 |[]=>rfl
 |p::r=>by
  rw[List.any_cons];by_cases e:p.1=k
  ·simp only[ku e,decide_eq_true e,Bool.true_or,Option.isSome_some]
  ·rw[ka e,decide_eq_false e,Bool.false_or];exact rY k r
theorem o8(kvs:List (κ×V))(k:κ)(v:V):(putK kvs k v).length<=kvs.length+1:=by
 unfold putK;split
 ·rw[List.length_map];omega
 ·rw[List.length_append,List.length_cons,List.length_nil];omega
theorem Gb{kvs:List (κ×V)}{k:κ}(v:V)(h:jS kvs k=none):putK kvs k v=kvs++[(k,v)]:=by unfold putK;rw[rY,h];exact if_neg ↑0
theorem d6.nZ{o:Option V}{u:Option Value}(r:d6 o u):o.isSome=u.isSome:=by
 cases o with
 |none=>cases u with
  |none=>rfl
  |some _=>exact(show False from r).elim
 |some _=>cases u with
  |none=>exact(show False from r).elim
  |some _=>rfl
theorem KV.val{kvs:List (κ×V)}{vs:List (κ×Value)}(r:KV kvs vs)(k:κ):d6 (jS kvs k) (valueAt vs k):=by
 unfold KV at r;induction r with
 |nil=>exact True.intro
 |@cons p q ps qs h t ih=>
  obtain⟨h1,h2⟩:=h;by_cases e:p.1=k
  ·have e':q.1=k:=h1.symm.trans e;have b:valueAt (q::qs) k=some q.2:=by simp[valueAt,List.find?_cons,e']
   rw[ku e,b];exact h2
  ·have e':¬q.1=k:=λz=>e (h1.trans z);have b:valueAt (q::qs) k=valueAt qs k:=by simp[valueAt,List.find?_cons,e']
   rw[ka e,b];exact ih
theorem KV.any{kvs:List (κ×V)}{vs:List (κ×Value)}(r:KV kvs vs)(k:κ):(kvs.any λkv=>decide (kv.1=k))=vs.any λkv=>decide (kv.1=k):=by
 unfold KV at r;induction r with
 |nil=>rfl
 |cons h t ih=>rw[List.any_cons,List.any_cons,ih,h.1]
theorem KV.Nk{kvs:List (κ×V)}{vs:List (κ×Value)}(r:KV kvs vs)(k:κ){y:V}{u:Value}(ry:RelV y u):
  KV (kvs.map λkv=>if kv.1=k then(kv.1,y) else kv) (vs.map λkv=>if kv.1=k then(kv.1,u) else kv):=by
 unfold KV at r ⊢;induction r with
 |nil=>exact .nil
 |@cons p q ps qs h t ih=>
  rw[List.map_cons,List.map_cons];refine .cons ?_ ih;obtain⟨h1,h2⟩:=h;by_cases e:p.1=k
  ·rw[if_pos e,if_pos (h1.symm.trans e)];exact⟨h1,ry⟩
  ·rw[if_neg e,if_neg (λz=>e (h1.trans z))];exact⟨h1,h2⟩
theorem KV.put{kvs:List (κ×V)}{vs:List (κ×Value)}(r:KV kvs vs)(k:κ){y:V}{u:Value}(ry:RelV y u):KV (putK kvs k y) (stored vs k u):=by
 unfold putK stored;rw[r.any k];by_cases e:(vs.any λkv=>decide (kv.1=k))=true
 ·rw[if_pos e,if_pos e];exact r.Nk k ry
 ·rw[if_neg e,if_neg e];exact Paired.snoc r ⟨rfl,ry⟩
theorem KV.length{kvs:List (κ×V)}{vs:List (κ×Value)}(r:KV kvs vs):kvs.length=vs.length:=Paired.length r
end
theorem Dv{P:Program}{k:Key}{u:Value}(r:RelV (kV k) u):(cX P w).is k u=true:=by
 cases k with
 |inl i=>obtain⟨t,e⟩:=(show ∃t,u=Value.int i t from r);subst e;exact yT P w i t
 |inr x=>obtain⟨t,e⟩:=(show ∃t,u=Value.str x t from r);subst e;exact zP P w x t
theorem uJ{P:Program}:∀{ks:List Key}{us:List Value},Vals (ks.map kV) us->ItemsAre (cX P w) ks us
 |[],_,r=>by rw[List.map_nil] at r;cases r;exact .nil
 |k::ks,_,r=>by
  rw[List.map_cons] at r;cases r with
  |cons h t=>exact .cons (Dv h) (uJ t)
abbrev KT(H:Hp):List (List Key×V)->List (List Key×Addr×Value)->Prop:=Paired λp q=>p.1=q.1/\H q.2.1=some (.tup (p.1.map kV))/\RelV p.2 q.2.2
theorem KT.val{xs:List (List Key×Addr×Value)}(r:KT H kvs xs)(k:List Key):d6 (jS kvs k) ((atKey xs k).map (·.2)):=by
 induction r with
 |nil=>exact True.intro
 |@cons p q ps qs h t ih=>
  obtain⟨h1,_,h2⟩:=h;by_cases e:p.1=k
  ·have e':q.1=k:=h1.symm.trans e;have b:atKey (q::qs) k=some q.2:=by simp[atKey,List.find?_cons,e']
   rw[ku e,b];exact h2
  ·have e':¬q.1=k:=λz=>e (h1.trans z);have b:atKey (q::qs) k=atKey qs k:=by simp[atKey,List.find?_cons,e']
   rw[ka e,b];exact ih
theorem KT.Nk{xs:List (List Key×Addr×Value)}(r:KT H kvs xs)(k:List Key){y:V}{u:Value}(ry:RelV y u):
  KT H (kvs.map λkv=>if kv.1=k then(kv.1,y) else kv) (xs.map (putAt k u)):=by
 induction r with
 |nil=>exact .nil
 |@cons p q ps qs h t ih=>
  rw[List.map_cons,List.map_cons];refine .cons ?_ ih;obtain⟨h1,h2,h3⟩:=h;unfold putAt;by_cases e:p.1=k
  ·rw[if_pos e,if_pos (h1.symm.trans e)];exact⟨h1,h2,ry⟩
  ·rw[if_neg e,if_neg (λz=>e (h1.trans z))];exact⟨h1,h2,h3⟩
theorem KT.put{xs:List (List Key×Addr×Value)}(r:KT H kvs xs)(k:List Key){b:Addr}{y:V}{u:Value}(hb:H b=some (.tup (k.map kV)))(ry:RelV y u):
  KT H (putK kvs k y) (storedH xs k b u):=by
 have e:(kvs.any λkv=>decide (kv.1=k))=(atKey xs k).isSome:=by
  rw[rY,(r.val k).nZ,Option.isSome_map]
 unfold putK storedH;rw[e];by_cases q:(atKey xs k).isSome=true
 ·rw[if_pos q,if_pos q];exact r.Nk k ry
 ·rw[if_neg q,if_neg q];exact Paired.snoc r ⟨rfl,hb,ry⟩
theorem KT.keeps{H':Hp}{xs:List (List Key×Addr×Value)}(r:KT H kvs xs)(ht:∀b ys,H b=some (.tup ys)->H' b=some (.tup ys)):KT H' kvs xs:=
 Paired.K2 r λ_ _ z=>⟨z.1,ht _ _ z.2.1,z.2.2⟩
section
variable{P:Program}{w:World}{H:Hp}{h:Heap}{a:Addr}
theorem LJ{u:HO}(ok:gy P w H h)(e:Rd H a u):bK P w H h a u:=e.ok ok
theorem CI{kvs:List (Key×V)}(ok:gy P w H h)(e:Rd H a (.dK kvs)):kvs.length<=sizeLine/\(a==sysModules)=false/\∃vs,KV kvs vs/\h.DictOf (cX P w) a vs:=
 show bK P w H h a (.dK kvs) from LJ ok e
theorem RB{kvs:List (Key×V)}(ok:gy P w H h)(e:H a=some (.dK kvs)):kvs.length<=sizeLine/\(a==sysModules)=false/\∃vs,KV kvs vs/\h.DictOf (cX P w) a vs:=CI ok (.inl e)
theorem yn{ks:List Key}(ok:gy P w H h)(e:H a=some (.tup (ks.map kV))):(tupleKind (cX P w)).is h ks a:=by
 obtain⟨_,its,r,o,h1,h2,n,h3⟩:=(show bK P w H h a (.tup (ks.map kV)) from ok a _ e)
 exact⟨o,its.toArray,n,h1,h2,h3,by simpa using uJ r⟩
theorem Dg(ok:gy P w H h)(e:Rd H a (.dT kvs)):kvs.length<=sizeLine/\(a==sysModules)=false/\
  ∃xs,KT H kvs xs/\h.DictOfH (tupleKind (cX P w)) a xs:=by
 obtain⟨z,y,xs,r,o,es,ep,h1,h2,h3,h4,h5⟩:=(show bK P w H h a (.dT kvs) from LJ ok e)
 refine⟨z,y,xs,r,o,es,ep,h1,h2,h3,h4,λx hx=>?_,h5⟩;have all:∀{l:List (List Key×V)}{m:List (List Key×Addr×Value)},KT H l m->∀x∈m,(tupleKind (cX P w)).is h x.1 x.2.1:=by
  intro l m q;induction q with
  |nil=>intro x hx;exact nomatch hx
  |@cons p q ps qs hq t ih=>
   intro x hx;rcases List.mem_cons.mp hx with e|hx
   ·subst e;exact yn ok (by rw[<-hq.1];exact hq.2.1)
   ·exact ih x hx
 exact all r x hx
theorem Qi(ok:gy P w H h)(e:H a=some (.dT kvs)):kvs.length<=sizeLine/\(a==sysModules)=false/\
  ∃xs,KT H kvs xs/\h.DictOfH (tupleKind (cX P w)) a xs:=Dg ok (.inl e)
end
def rG(H:Hp)(a:Addr)(y:V)(r:Option V):Prop:=
 (∃kvs k,Rd H a (.dK kvs)/\y=kV k/\r=jS kvs k)\/∃kvs k b,Rd H a (.dT kvs)/\y= .ref b/\H b=some (.tup (k.map kV))/\r=jS kvs k
def Ga(H:Hp)(a:Addr)(y v:V)(H':Hp):Prop:=
 (∃kvs k,H a=some (.dK kvs)/\y=kV k/\kvs.length<sizeLine/\H'=upd H a (.dK (putK kvs k v)))\/
 ∃kvs k b,H a=some (.dT kvs)/\y= .ref b/\H b=some (.tup (k.map kV))/\kvs.length<sizeLine/\H'=upd H a (.dT (putK kvs k v))
theorem rG.t{a b:Addr}{k:List Key}(e:H a=some (.dT kvs))(eb:H b=some (.tup (k.map kV))):rG H a (.ref b) (jS kvs k):=.inr ⟨kvs,k,b,.inl e,rfl,eb,rfl⟩
theorem Ga.t{a b:Addr}{k:List Key}{v:V}(e:H a=some (.dT kvs))(eb:H b=some (.tup (k.map kV)))(hl:kvs.length<sizeLine):
  Ga H a (.ref b) v (upd H a (.dT (putK kvs k v))):=.inr ⟨kvs,k,b,e,rfl,eb,hl,rfl⟩
section
variable{X:Cx}{UI:List (Addr×Obj)}{σ:St}{H:Hp}{s:Shared}{a:Addr}{y v:V}{u r:Value}{o:Option V}{A:Around}{E:Value->Shared->Prop}
theorem Inv.big(I:Inv X UI σ H s):sysModules<s.heap.objs.size:=by have h:mainGlobals<s.heap.objs.size:=(I.mod.glob.keeps I.bk).lt;exact Nat.lt_trans ↑0 h
theorem D1(hu:A.units+1<cLine)(I:Inv X UI σ H s)(g:rG H a y (some v))(ry:RelV y u)(h:∀w' s',Inv X UI σ H s'->RelV v w'->Q w' s'):
  wpAny (model X.prog X.w) A (getItem (.ref a) u) Q E s:=by
 rcases g with⟨kvs,k,e,ey,l⟩|⟨kvs,k,b,e,ey,eb,l⟩
 ·subst ey;obtain⟨z,hd,vs,rel,dd⟩:=CI I.aZ e;obtain⟨w',hw,rw'⟩:=d6.some_of (v:=v) (o:=valueAt vs k) (by rw[l];exact rel.val k);exact wpAny_getItem_of (Dv ry) dd.mapOf hw (h w' _ (I.tok _) rw')
 ·subst ey;cases(show u=Value.ref b from ry);obtain⟨z,hd,xs,rel,dd⟩:=Dg I.aZ e;obtain⟨w',hw,rw'⟩:=d6.some_of (v:=v) (o:=(atKey xs k).map (·.2)) (by rw[l];exact rel.val k);obtain⟨p,hp,hp2⟩:=Option.map_eq_some_iff.mp hw;refine wpAny_getItem_heap (tupleKind_room_in1 hu) (yn I.aZ eb) dd hp ?_;rw[hp2];exact h w' _ (I.tok _) rw'
theorem Tx(hu:A.units+1<cLine)(I:Inv X UI σ H s)(g:rG H a y o)(ry:RelV y u)(h:∀s',Inv X UI σ H s'->Q (.bool o.isSome) s'):
  wpAny (model X.prog X.w) A (compareOp .In u (.ref a)) Q E s:=by
 rcases g with⟨kvs,k,e,ey,l⟩|⟨kvs,k,b,e,ey,eb,l⟩
 ·subst ey;obtain⟨z,hd,vs,rel,dd⟩:=CI I.aZ e;refine wpAny_in_of (Dv ry) hd dd.mapOf ?_;rw[<-(rel.val k).nZ,<-l];exact h _ (I.tok _)
 ·subst ey;cases(show u=Value.ref b from ry);obtain⟨z,hd,xs,rel,dd⟩:=Dg I.aZ e;refine wpAny_in_heap (tupleKind_room_in1 hu) (yn I.aZ eb) hd dd ?_;have q:=(rel.val k).nZ;rw[Option.isSome_map] at q;rw[<-q,<-l];exact h _ (I.tok _)
theorem Cu{h':Heap}{t':Nat}{ob:HO}(I:Inv X UI σ H s)(mu:Pf (H a))(hs:Heap.SameBut a s.heap h')(he:∃q,h'.get? a=some q)(new:bK X.prog X.w (upd H a ob) h' a ob):
  Inv X UI σ (upd H a ob) {s with heap:=h',toks:=t'}:=
 I.write (x:=a) (e:=a) mu (.inl rfl) (λb q hb z=>(hs.2 b hb).trans z) he new
theorem OB{P:Program}{H':Hp}{h':Heap}{kvs:List (Key×V)}{vs:List (Key×Value)}(z:kvs.length<=sizeLine)(hd:(a==sysModules)=false)(rel:KV kvs vs)(dd:h'.DictOf (cX P w) a vs):
  bK P w H' h' a (.dK kvs):=⟨z,hd,vs,rel,dd⟩
theorem El{H':Hp}{Q:Unit->Shared->Prop}(hu:A.units+1<cLine)(I:Inv X UI σ H s)(g:Ga H a y v H')(ry:RelV y u)(rv:RelV v r)(h:∀s',Inv X UI σ H' s'->Q () s'):
  wpAny (model X.prog X.w) A (setItem (.ref a) u r) Q E s:=by
 rcases g with⟨kvs,k,e,ey,l,eH⟩|⟨kvs,k,b,e,ey,eb,l,eH⟩
 ·subst ey eH;obtain⟨z,hd,vs,rel,dd⟩:=RB I.aZ e;have hz:vs.length<=sizeLine:=by rw[<-rel.length];exact z
  have hl:(putK kvs k v).length<=sizeLine:=by have:=o8 kvs k v;omega
  refine wpAny_setItem_pairs (hsz:=hz) (Dv ry) dd λh' dd' hs=>h _ ?_;have he:∃q,h'.get? a=some q:=let⟨q,_,_,hq,_⟩:=dd';⟨q,hq⟩;exact Cu I (by rw[e];exact True.intro) hs he (OB hl hd (rel.put k rv) dd')
 ·subst ey eH;cases(show u=Value.ref b from ry);obtain⟨z,hd,xs,rel,dd⟩:=Qi I.aZ e;have hz:xs.length<=sizeLine:=by rw[<-Paired.length rel];exact z
  have hl:(putK kvs k v).length<=sizeLine:=by have:=o8 kvs k v;omega
  refine wpAny_setItem_heap (hsz:=hz) (tupleKind_room_in1 hu) (yn I.aZ eb) dd λh' dd' hs=>h _ ?_;obtain⟨q,es,ep,hq,h2,h3,h4,_,h5⟩:=dd';refine Cu I (by rw[e];exact True.intro) hs ⟨q,hq⟩ ⟨hl,hd,_,(rel.put k eb rv).keeps λc ys ec=>?_,q,es,ep,hq,h2,h3,h4,h5⟩;rw[ah (dv ec e (λz=>nomatch z))];exact ec
end
section
variable{X:Cx}{UI:List (Addr×Obj)}{σ:St}{H:Hp}{s:Shared}{a:Addr}{kvs:List (Key×V)}{k:Key}{u:Value}{A:Around}{E:Value->Shared->Prop}
end
def RJ(i:Expr):Prop:=∀ov iv,subscripted i false ov iv=operate [ov,iv] (getItem ov iv)
theorem JR{prog:Program}{E:Value->Shared->Prop}{env:Env}{value UK:Expr}{pos:Pos}{T id:String}(hl:typeLookup (.type T) "__getitem__"=pure (some (.builtin id)))(hs:RJ UK)(h:wpAny (model prog w) A (eval value env) (λo s₁=>wpAny (model prog w) A (eval UK env) (λi s₂=>s₂.TypeIs o T/\wpAny (model prog w) A (getItem o i) Q E s₂) E s₁) E s):
  wpAny (model prog w) A (eval (.Subscript value UK pos) env) Q E s:=by
 refine Subscript_ (wpAny_mono h (λo s₁ h₁=>wpAny_mono h₁ (λi s₂ h₂=>?_) λ_ _ x=>x) λ_ _ x=>x);obtain⟨hT,h₂⟩:=h₂;unfold subscriptTail;refine wpAny_bind ?_;rw[getitemInPython_of_ne hT.not_modules];refine wpAny_bind (wpAny_specialOf hT hl ?_);have fin:wpAny (model prog w) A (subscripted UK false o i) (λr s₃=>wpAny (model prog w) A (letTemporaryGo value o r>>=λ_=>pure r) Q E s₃) E s₂:=by
  rw[hs o i];exact wpAny_operating (wpAny_mono h₂ (λr s₃ h₃=>wpAny_bind (wpAny_letTemporaryGo (wpAny_pure h₃))) λ_ _ x=>x)
 first
  |exact wpAny_pure (wpAny_bind fin)
  |exact wpAny_bind (wpAny_pure (wpAny_bind fin))
  |exact wpAny_bind fin
theorem Ah{X:Cx}{σ:St}{a:Addr}{y:V}{o:Option V}(I:Inv X UI σ H s)(g:rG H a y o):s.TypeIs (.ref a) "dict":=by
 rcases g with⟨kvs,k,e,_,_⟩|⟨kvs,k,b,e,_,_,_⟩
 ·obtain⟨_,_,vs,_,dd⟩:=CI I.aZ e;exact dd.typeIs
 ·obtain⟨_,_,xs,_,dd⟩:=Dg I.aZ e;exact dd.typeIs
def QF(td ty:TE):TE:=λσ H Q=>td σ H λx H1=>ty σ H1 λy H2=>∃a v,x= .ref a/\rG H2 a y (some v)/\Q v H2
def SH(ty td:TE):TE:=λσ H Q=>ty σ H λy H1=>td σ H1 λx H2=>∃a o,x= .ref a/\rG H2 a y o/\Q (.bl o.isSome) H2
def Px(td ty tv:TE):TS:=λD σ H=>tv σ H λv H1=>td σ H1 λx H2=>ty σ H2 λy H3=>∃a H4,x= .ref a/\Ga H3 a y v H4/\D.nx σ H4
section
variable{X:Cx}{o i e value:Expr}{pos pos' tpos:Pos}{td ty tv:TE}
theorem Ds(hu:X.A.units+1<cLine)(ho:PE X o td)(hi:PE X i ty)(hs:RJ i):PE X (.Subscript o i pos) (QF td ty):=by intro UI s σ H Q I h;refine JR PySem.F.slot_dict_getitem.lookup hs (br (ho UI s σ H _ I h) λu s1 ⟨x,H1,I1,rx,q1⟩=>br (hi UI s1 σ H1 _ I1 q1) λiv s2 ⟨y,H2,I2,ry,a,v,ex,g,q2⟩=>?_);subst ex;obtain rfl:u=Value.ref a:=rx;exact⟨Ah I2 g,D1 hu I2 g ry λw' s3 I3 rw'=>⟨v,H2,I3,rw',q2⟩⟩
theorem Im(hu:X.A.units+1<cLine)(hi:PE X i ty)(ho:PE X o td):PC X .In i o (SH ty td):=by intro UI s σ H Q I h;refine br (hi UI s σ H _ I h) λiv s1 ⟨y,H1,I1,ry,q1⟩=>br (ho UI s1 σ H1 _ I1 q1) λu s2 ⟨x,H2,I2,rx,a,ov,ex,g,q2⟩=>?_;subst ex;obtain rfl:u=Value.ref a:=rx;exact Tx hu I2 g ry λs3 I3=>⟨.bl ov.isSome,H2,I3,rfl,q2⟩
theorem JS(hu:X.A.units+1<cLine)(ho:PE X o td)(hi:PE X i ty)(hv:PE X value tv)(hs:swapsWith value (some (.Subscript o i pos')) pos.line X.env=pure false):
  PS X (.Assign [.Subscript o i pos'] value pos) (Px td ty tv):=by
 intro UI s σ H D I h;refine wpAny_Assign_Subscript (br (hv UI s σ H _ I h) λr s1 ⟨v,H1,I1,rv,q1⟩=>br (ho UI s1 σ H1 _ I1 q1) λu s2 ⟨x,H2,I2,rx,q2⟩=>br (hi UI s2 σ H2 _ I2 q2) λiv s3 ⟨y,H3,I3,ry,a,H4,ex,g,q3⟩=>?_) hs;subst ex;obtain rfl:u=Value.ref a:=rx;exact El hu I3 g ry rv λs4 I4=>⟨σ,H4,I4,q3⟩
end
theorem Iz{P:Program}(h:Heap)(hb:sysModules<h.objs.size):bK P w H (h.push {cls:=.type "dict",data:=.dict #[]}) h.objs.size (.dT []):=
 ⟨Nat.zero_le _,beq_eq_false_iff_ne.mpr (Ne.symm (Nat.ne_of_lt hb)),[],.nil,_,#[],0,Heap.get?_push_size _ rfl,⟨rfl,rfl,rfl⟩,rfl,rfl,List.nodup_nil⟩
def MB:TE:=λ_ H Q=>∀p,H p=none->Q (.ref p) (upd H p (.dT []))
section
variable{X:Cx}{pos:Pos}
theorem FI:PE X (.Dict [] [] pos) MB:=λUI s σ H Q I h=>
 wpAny_Dict_empty ⟨.ref s.heap.objs.size,_,I.laid (a:=s.heap.objs.size) (o:=.dT []) (t':=s.toks) (λ_ _ q=>Heap.get?_push_of_some _ q) (Nat.le_refl _) (Iz s.heap I.big),rfl,h _ (I.aZ.fresh (Nat.le_refl _))⟩
end
section
variable{X:Cx}{UI:List (Addr×Obj)}{σ:St}{H:Hp}{s:Shared}{a:Addr}{y d:V}{u r:Value}{o:Option V}{A:Around}{E:Value->Shared->Prop}
end
section
variable{X:Cx}{o e f:Expr}{apos cpos:Pos}{td ty tx:TE}
end
section
variable{X:Cx}{UI:List (Addr×Obj)}{σ:St}{H:Hp}{s:Shared}{a:Addr}{kvs:List (Key×V)}{A:Around}{E:Value->Shared->Prop}
end
section
variable{X:Cx}{UI:List (Addr×Obj)}{σ:St}{H:Hp}{s:Shared}{a:Addr}{y:V}{u:Value}{A:Around}{E:Value->Shared->Prop}
end
section
variable{prog:Program}{w:World}{A:Around}{E:Value->Shared->Prop}
end
section
variable{X:Cx}
end
section
variable{X:Cx}{UI:List (Addr×Obj)}{σ:St}{H:Hp}{s:Shared}{h':Heap}
end
section
variable{X:Cx}
theorem Mq{tg:Expr}{σ:St}{R:It->Hp->Prop}{J:It}{tn:Nat->Heap->Prop}{tk:Nat}(I:Inv X UI σ H s)(o:Obj)(T:Turn X.prog X.w X.K tg J [s.heap.objs.size] s.heap.objs.size tn)(st:tn 0 (s.heap.push o))(q:R J H):SN X UI σ tg R (.ref s.heap.objs.size) {s with heap:=s.heap.push o,toks:=tk}:=by
 refine⟨s.heap.objs.size,[s.heap.objs.size],tn,J,H,rfl,I.kept λb ob e=>Heap.get?_push_of_some _ e,T,st,λb hb=>?_,q⟩;have e:b=s.heap.objs.size:=by simpa using hb
 subst e;exact I.G5 (Nat.le_refl _) (I.aZ.fresh (Nat.le_refl _))
end
section
variable{X:Cx}{tg:Expr}
end
section
variable{X:Cx}{tg:Expr}
end
section
variable{prog:Program}{w:World}{A:Around}{E:Value->Shared->Prop}{s:Shared}
theorem Eu{d:Addr}{o:Obj}{es:Array DictEntry}{ep:Nat}(hd:(d==sysModules)=false)(ho:s.heap.get? d=some o)(hc:o.ExactDict)(hdat:o.data= .dict es ep)(hQ:Q (.ref s.heap.objs.size) {s with heap:=s.heap.push {cls:=.type "dict_keyiterator",data:=.fields #[.ref d,.int 0 0,.int es.size 0,.int ep 0]}}):
  wpAny (model prog w) A (pyIter (.ref d)) Q E s:=by
 have hT:s.TypeIs (.ref d) "dict":=⟨o,ho,hc.1⟩
 refine wpAny_pyIter_slot hT F.slot_dict_iter (wpAny_call_entry F.slot_dict_iter hT F.entry_dict_iter ?_ (F.args_dict_iter_1 _));unfold Builtin.«dict.__iter__»;refine wpAny_bind ?_;unfold Builtin.Dict.dictSlotNone;refine wpAny_bind (wpAny_notOrdered_dict hT ?_);show wpAny _ _ (pure (Value.ref d)) _ _ s;refine wpAny_pure ?_;show wpAny _ _ (Builtin.Dict.showsAll d>>=_) _ _ s;unfold Builtin.Dict.showsAll;rw[if_neg (by rw[hd];exact Bool.false_ne_true)];refine wpAny_bind (wpAny_pure ?_);refine wpAny_bind (wpAny_dictEntries ho hdat ?_);refine wpAny_bind (wpAny_dictEpoch ho hdat ?_);refine wpAny_bind (wpAny_newObj_type (wpAny_pure ⟨_,rfl,"dict_keyiterator",_,⟨_,Heap.get?_push_size _ rfl,rfl⟩,F.slot_dict_keyiterator_next.lookup,?_⟩));simpa[rawInt] using hQ
theorem ur{it d:Addr}{i n ep:Nat}{od:Obj}{es:Array DictEntry}{en:DictEntry}{Q:Option Value->Shared->Prop}(hit:s.heap.IsKeyIter it d i n ep)(hod:s.heap.get? d=some od)(hdd:od.data= .dict es ep)(hsz:es.size=n)(hx:es[i]?=some en)(hQ:∀h',h'.IsKeyIter it d (i+1) n ep->Heap.SameBut it s.heap h'->Q (some en.key) {s with heap:=h'}):wpAny (model prog w) A (pyNext (.ref it)) Q E s:=by
 obtain⟨o,ho,hc,hd⟩:=id hit;unfold pyNext;refine wpAny_bind (wpAny_attempt (wpAny_callSpecial?_slot (name:=Str.ofString "__next__") hit.typeIs F.slot_dict_keyiterator_next
  (wpAny_call_entry F.slot_dict_keyiterator_next hit.typeIs F.entry_dict_keyiterator_next ?_ (F.args_dict_keyiterator_next_1 _))))
 refine wpAny_bind (wpAny_pure ?_);refine wpAny_bind ?_;refine wpAny_bind ?_;first|refine wpAny_bind (wpAny_typeNameOfWhole_keyiter hit.typeIs (wpAny_pure ?_))|refine wpAny_bind (wpAny_typeNameOf_keyiter hit.typeIs (wpAny_pure ?_))
 refine wpAny_bind (wpAny_fieldsOf ho hd ?_);have hown:Builtin.Dict_items.ownsTuple "dict_keyiterator"=false:=↑0
 simp only[hown,Bool.false_eq_true,if_false];show wpAny _ _ (if(Value.ref d==Value.none)=true then _ else _) _ _ s;rw[if_neg (show ¬((Value.ref d==Value.none)=true) from Bool.false_ne_true)];refine wpAny_bind (wpAny_pure ?_);refine wpAny_bind (wpAny_dictEntries hod hdd ?_);rw[if_neg (by rw[hsz];simp)];refine wpAny_bind (wpAny_pure ?_);refine wpAny_bind (wpAny_dictEpoch hod hdd ?_);rw[if_neg (by simp)];refine wpAny_pure ?_;obtain⟨hlt',hen⟩:=Array.getElem?_eq_some_iff.mp hx;simp only[show ¬((i:Int)<0) from ↑2,if_false,Int.toNat_natCast,Array.getElem?_eq_getElem hlt'];refine wpAny_bind ?_;first|refine wpAny_bind (wpAny_typeNameOfWhole_keyiter hit.typeIs (wpAny_pure ?_))|refine wpAny_bind (wpAny_typeNameOf_keyiter hit.typeIs (wpAny_pure ?_))
 refine wpAny_bind (wpAny_isOneOf_keyiter hit.typeIs ?_);show wpAny _ _ (setField (.ref it) 1 (rawInt ((i:Int)+1))>>=_) _ _ s;refine wpAny_bind (wpAny_setField ho hd (by simp) ?_);have hit':(s.heap.update it (Obj.mapFields (·.setIfInBounds 1 (rawInt ((i:Int)+1))))).IsKeyIter it d (i+1) n ep:=
  ⟨_,Heap.get?_update_self _ ho (Obj.isFreed_of_fields (Obj.data_mapFields hd _)),(Obj.cls_mapFields ..).trans hc,by rw[Obj.data_mapFields hd];simp[rawInt]⟩
 refine wpAny_bind (wpAny_holding ?_);refine wpAny_bind (wpAny_isOneOf_keyiter (s:={s with heap:=s.heap.update it (Obj.mapFields (·.setIfInBounds 1 (rawInt ((i:Int)+1))))}) hit'.typeIs ?_);show wpAny _ _ (pure es[i].key) _ _ _;rw[hen];exact wpAny_pure (wpAny_pure ⟨_,rfl,wpAny_pure (hQ _ hit' (Heap.SameBut.update ..))⟩)
theorem xC{it d:Addr}{i n ep:Nat}{od:Obj}{es:Array DictEntry}{Q:Option Value->Shared->Prop}(hh:A.handled=none)(hit:s.heap.IsKeyIter it d i n ep)(hod:s.heap.get? d=some od)(hdd:od.data= .dict es ep)(hsz:es.size=n)(hge:n<=i)(hQ:∀h',Heap.ExtBut it s.heap h'->Q none {s with heap:=h'}):wpAny (model prog w) A (pyNext (.ref it)) Q E s:=by
 obtain⟨o,ho,hc,hd⟩:=id hit;unfold pyNext;refine wpAny_bind (wpAny_attempt (wpAny_callSpecial?_slot (name:=Str.ofString "__next__") hit.typeIs F.slot_dict_keyiterator_next
  (wpAny_call_entry F.slot_dict_keyiterator_next hit.typeIs F.entry_dict_keyiterator_next ?_ (F.args_dict_keyiterator_next_1 _))))
 refine wpAny_bind (wpAny_pure ?_);refine wpAny_bind ?_;refine wpAny_bind ?_;first|refine wpAny_bind (wpAny_typeNameOfWhole_keyiter hit.typeIs (wpAny_pure ?_))|refine wpAny_bind (wpAny_typeNameOf_keyiter hit.typeIs (wpAny_pure ?_))
 refine wpAny_bind (wpAny_fieldsOf ho hd ?_);have hown:Builtin.Dict_items.ownsTuple "dict_keyiterator"=false:=↑0
 simp only[hown,Bool.false_eq_true,if_false];show wpAny _ _ (if(Value.ref d==Value.none)=true then _ else _) _ _ s;rw[if_neg (show ¬((Value.ref d==Value.none)=true) from Bool.false_ne_true)];refine wpAny_bind (wpAny_pure ?_);refine wpAny_bind (wpAny_dictEntries hod hdd ?_);rw[if_neg (by rw[hsz];simp)];refine wpAny_bind (wpAny_pure ?_);refine wpAny_bind (wpAny_dictEpoch hod hdd ?_);rw[if_neg (by simp)];refine wpAny_pure ?_;have hge':es.size<=i:=by rw[hsz];exact hge
 simp only[show ¬((i:Int)<0) from ↑2,if_false,Int.toNat_natCast,Array.getElem?_eq_none hge'];refine wpAny_bind ?_;first|refine wpAny_bind (wpAny_typeNameOfWhole_keyiter hit.typeIs (wpAny_pure ?_))|refine wpAny_bind (wpAny_typeNameOf_keyiter hit.typeIs (wpAny_pure ?_))
 show wpAny _ _ (setField (.ref it) 0 .none>>=_) _ _ s;refine wpAny_bind (wpAny_setField ho hd (by simp) ?_);show wpAny _ _ (newExc (.type "StopIteration") []>>=_) _ _ _;refine wpAny_bind ?_;simp only[newExc,newTuple];refine wpAny_bind (wpAny_newObj_type ?_ (by size_fits));refine wpAny_bind (m:=firstArgMember _ _) (wpAny_of_eq (a:=Value.none) (by first|rfl|(simp only[firstArgMember];rfl)) ?_);refine wpAny_newObj_type ?_ (by size_fits);simp only[raiseNew];refine wpAny_bind (wpAny_handled ?_);rw[show A.in1.handled=none from hh];refine wpAny_bind (wpAny_pure (wpAny_throw ?_));refine wpAny_bind (wpAny_isInstance (T:="StopIteration") (b:=true) ⟨_,Heap.get?_push_size _ rfl,rfl⟩ isSubtype_stop ?_);exact wpAny_pure (hQ _ (((Heap.SameBut.update ..).extBut.push _).push _))
end
theorem jr{α β:Type}{G:α->β->Prop}{l₁:List α}{l₂:List β}(h:Paired G l₁ l₂):∀{i:Nat}{a:α},l₁[i]?=some a->∃b,l₂[i]?=some b/\G a b:=by
 induction h with
 |nil=>intro i a e;simp at e
 |@cons a b l₁ l₂ r t ih=>
  intro i a' e;cases i with
  |zero=>
   simp only[List.getElem?_cons_zero,Option.some.injEq] at e;subst e;exact⟨b,rfl,r⟩
  |succ j=>
   simp only[List.getElem?_cons_succ] at e ⊢;exact ih e
section
variable{X:Cx}{UI:List (Addr×Obj)}{σ:St}{H:Hp}{s:Shared}{d:Addr}{o:Obj}
end
section
variable{P:Program}{w:World}{K:Frag}{tg:Expr}{d:Addr}{o:Obj}{es:Array DictEntry}{ep:Nat}
end
section
variable{X:Cx}{tg e:Expr}{td:TE}{apos cpos:Pos}
end
end L2
namespace TV
open PySem PyProof.Rows
end TV
namespace TL
open PySem PySem.Builtin PySem.Builtin.Str PySem.StrLaws
theorem join_eq(y:Str)(parts:List Str):Txt.join y parts=Str.join y parts:=glued_eq_join y parts
end TL
namespace L2
open PySem PySem.Spec PyProof.Rows
theorem gM:∀{ys:List Str}{us:List Value},Vals (ys.map V.str) us->StrsAre us ys
 |[],_,.nil=>.nil
 |y::ys,_,.cons r t=>by
  obtain⟨k,rfl⟩:=r;exact .cons y k (gM t)
section
variable{X:Cx}{UI:List (Addr×Obj)}{σ:St}{H:Hp}{s:Shared}{Q:VK}
end
section
variable{X:Cx}
theorem Lk:R9 X "str.join" (λx xs H Q=>∃a p,∃ys:List Str,x= .str a/\xs=[.ref p]/\(bf X.K H p (ys.map V.str)\/fE X.K H p (ys.map V.str))/\
  (ys.map (·.length)).sum+ys.length*a.length<=16777216/\Q (.str (Txt.join a ys)) H):=by
 intro UI s σ H x xs v us Q I rx rs h;obtain⟨a,p,ys,rfl,rfl,hp,hz,h⟩:=h;obtain⟨t,rfl⟩:=rx;cases rs with
 |cons r1 rs=>
  cases rs;cases r1;rcases hp with hp|hp
  ·obtain⟨its,r,⟨o,n,ho,hc,_,hd⟩,_⟩:=I.list hp;exact PyProof.Rows.join_list (items:=its.toArray) ⟨o,ho,hc,n,hd⟩ (by rw[List.toList_toArray];exact gM r) hz λt' k=>⟨.str _,H,I.tok k,⟨t',rfl⟩,h⟩
  ·obtain⟨its,r,ht,_⟩:=I.tuple hp;exact PyProof.Rows.join_tuple (items:=its.toArray) ht (by rw[List.toList_toArray];exact gM r) hz λt' k=>⟨.str _,H,I.tok k,⟨t',rfl⟩,h⟩
end
section
variable{X:Cx}{o e:Expr}{to te:TE}
def T'(r:V->List V->Hp->VK->Prop)(to te:TE):TE:=λσ H Q=>to σ H λx H1=>(∃a,x= .str a)/\te σ H1 λy H2=>r x [y] H2 Q
theorem QP{id:String}{name:Str}{apos pos:Pos}{r:V->List V->Hp->VK->Prop}(slot:Slot "str" name id)(ty:typeOf (.builtin id)=pure (.type "method_descriptor"))(rule:R9 X id r)(ho:PE X o to)(he:PE X e te)(hs:starEach [e] X.env=[(false,eval e X.env)]:=by rfl)(hbase:attributeBase o name X.env (eval o X.env)=eval o X.env:=by rfl)(hline:(apos.endLine==pos.line)=true:=by rfl):
  PE X (.Call (.Attribute o name apos) [e] [] pos) (T' r to te):=by
 intro UI s σ H Q I h;refine PySem.Call_method1 hbase hs hline (br (ho UI s σ H _ I h) λv s1 ⟨x,H1,I1,r1,q1⟩=>?_);obtain⟨⟨a,rfl⟩,q1⟩:=q1;obtain⟨t,rfl⟩:=_root_.id r1;refine⟨"str",_,F.plainAttrs_str,slot,ty,typeIs_str _ _ _,(λ_ e=>nomatch e),Calls.callWith_builtin rfl (Calls.evalArgs_plain (Calls.spliced_cons ?_))⟩;exact br (he UI s1 σ H1 _ I1 q1) λu s2 ⟨y,H2,I2,r2,q2⟩=>Calls.spliced_nil (rule UI s2 σ H2 _ [y] _ [u] Q I2 r1 (.cons r2 .nil) q2)
theorem KN{apos pos:Pos}(ho:PE X o to)(he:PE X e te)(hs:starEach [e] X.env=[(false,eval e X.env)]:=by rfl)(hbase:attributeBase o "join" X.env (eval o X.env)=eval o X.env:=by rfl)(hline:(apos.endLine==pos.line)=true:=by rfl):
  PE X (.Call (.Attribute o "join" apos) [e] [] pos) (T' (λx xs H Q=>∃a p,∃ys:List Str,x= .str a/\xs=[.ref p]/\(bf X.K H p (ys.map V.str)\/fE X.K H p (ys.map V.str))/\
   (ys.map (·.length)).sum+ys.length*a.length<=16777216/\Q (.str (Txt.join a ys)) H) to te):=
 QP F.slot_str_join F.type_str_join Lk ho he hs hbase hline
end
section
variable{X:Cx}
end
end L2
namespace Uh
open PySem PySem.W PySem.Calls PyProof.Rows
section
variable{prog:Program}{w:World}{A:Around}{E:Value->Shared->Prop}{s:Shared}{K:Frag}
end
end Uh
namespace L2
open PySem PySem.Spec PyProof.Rows
def inClass(s:Stmt)(j:Nat):Stmt:=match s with
 | .ClassDef _ _ _ body _ _ _ _ _ _ _=>body.getD j (.Pass ⟨0,0,0,0⟩)
 |_=>.Pass ⟨0,0,0,0⟩
def ej(s:Stmt):Arguments:=match s with
 | .FunctionDef _ a _ _ _ _ _ _ _ _=>a
 |_=>{posonlyargs:=[],args:=[],vararg:=none,kwonlyargs:=[],kw_defaults:=[],kwarg:=none,defaults:=[]}
def bX(s:Stmt):List Stmt:=match s with
 | .FunctionDef _ _ b _ _ _ _ _ _ _=>b
 |_=>[]
def aq(s:Stmt):Scope:=match s with
 | .FunctionDef _ _ _ _ _ _ sc _ _ _=>sc
 |_=>{kind:=.function,names:=[],isGenerator:=false,isCoroutine:=false}
abbrev bh:yz:=λ_ _ _ _ _ _=>False
abbrev E0:XK:=λ_ _ _=>False
theorem g_{X:Cx}:Passes bh X E0:=λ_ _ _ _ _ _ _ h=>h.elim
structure jC(K:Frag)(x qual:Str)(st:Stmt)(f:Addr)(fd:FuncData):Prop where
 ex:∃(oc:Value)(od:Option Addr)(kV doc pm:Value)(an:Option Addr)(UJ ct:Value)(osl:Array (Option Value)),
  fd=PySem.W.fnOf x qual (ej st) (bX st) (aq st) .none kV doc pm an UJ ct/\K.lookup f=some ⟨oc,od,.func fd,osl⟩/\PySem.W.codeIn K UJ qual=true
 kp:PySem.W.keepIn K (.ref f)=true
section
variable{P:Program}{w:World}{K:Frag}{mg:Str->Option Value}{base:Heap}
theorem jC.ok{x qual:Str}{st:Stmt}{f:Addr}{fd:FuncData}{N ps:List Str}{k:Nat}{sp:Sp}(F:jC K x qual st f fd)(S:ax N ps (aq st))(len:∀vs H Q E,sp vs H Q E->vs.length=ps.length)(hbody:∀(UJ:Value)(A:Around)(outer:List Env)(s:Shared)(H:Hp)(vs:List V)(Q:VK)(E:XK),bC k (A.deeper (envOfC qual (aq st) s.heap.objs.size f UJ))->sp vs H Q E->
   ∃t,so (iO bh P w K mg base N qual (aq st) f UJ A outer s H E).Md (bX st) t/\t {nx:=λ_ H'=>Q .bF H',rt:=Q} (start N vs) H):cn P w K mg base bh (k+1) f fd ps sp:=by
 obtain⟨oc,od,kV,doc,pm,an,UJ,ct,osl,rfl,lk,hcd⟩:=F.ex;refine LM lk hcd S len λA outer s H vs Q E hr hsp=>?_;obtain⟨t,h,q⟩:=hbody UJ A outer s H vs Q E hr hsp;exact⟨t,h.Md,q⟩
theorem jC.binds{x qual:Str}{st:Stmt}{f:Addr}{fd:FuncData}{ps:List Str}(F:jC K x qual st f fd)(h:∀(kV doc pm:Value)(an:Option Addr)(UJ ct:Value)(us:List Value),us.length=ps.length->bindArgs (PySem.W.fnOf x qual (ej st) (bX st) (aq st) .none kV doc pm an UJ ct) ⟨us,[]⟩=pure (ps.zip us)):Binds K fd ps []:=by obtain⟨oc,od,kV,doc,pm,an,UJ,ct,osl,rfl,lk,hcd⟩:=F.ex;exact .all (h kV doc pm an UJ ct)
theorem sW{x qual:Str}{st:Stmt}{f:Addr}{oc:Value}{od an:Option Addr}{osl:Array (Option Value)}{kV doc pm UJ ct:Value}(l:K.lookup f=some ⟨oc,od,.func (PySem.W.fnOf x qual (ej st) (bX st) (aq st) .none kV doc pm an UJ ct),osl⟩)(c:PySem.W.codeIn K UJ qual=true)(k:PySem.W.keepIn K (.ref f)=true):jC K x qual st f (PySem.W.fnOf x qual (ej st) (bX st) (aq st) .none kV doc pm an UJ ct):=⟨⟨oc,od,kV,doc,pm,an,UJ,ct,osl,rfl,l,c⟩,k⟩
end
theorem Lx{A:Around}{k:Nat}(hr:bC k A):A.units+1<cLine:=Nat.lt_of_le_of_lt (Nat.add_le_add_left (by decide:1<=64) _) hr.units
section
variable{X:Cx}
theorem pv(i:Nat){x:Str}{pos:Pos}(hN:X.N[i]?=some x:=by rfl)(hv:NC X.env.scope x:=by first|exact Or.inl rfl|exact Or.inr (Or.inl rfl)|exact Or.inr (Or.inr rfl))(hd:(x==("__debug__":Str))=false:=by decide)(hcd:(x==("__classdict__":Str))=false:=by decide):PE X (.Name x pos) (dc i):=FD hN hv hd hcd
end
theorem dQ{A B:Prop}(h:B):if false=true then A else B:=by rw[if_neg Bool.false_ne_true];exact h
theorem fV{A B:Prop}(h:A):if true=true then A else B:=by rw[if_pos rfl];exact h
theorem aT{c A B:Prop}[Decidable c](h1:c->A)(h2:¬c->B):if c then A else B:=by
 by_cases h:c
 ·rw[if_pos h];exact h1 h
 ·rw[if_neg h];exact h2 h
def aG(H H':Hp):Prop:=∀b o,H b=some o->H' b=some o
theorem aG.refl(H:Hp):aG H H:=λ_ _ h=>h
theorem aG.trans{H H1 H2:Hp}(a:aG H H1)(b:aG H1 H2):aG H H2:=λc o h=>b c o (a c o h)
theorem aG.free{H H':Hp}(e:aG H H'){l:Addr}(h:H' l=Option.none):H l=Option.none:=by
 cases q:H l with
 |none=>rfl
 |some o=>
  rw[e l o q] at h;cases h
theorem aG.seq{K:Frag}{H H':Hp}{a:Addr}{xs:List V}(e:aG H H')(h:bf K H a xs):bf K H' a xs:=by
 rcases h with(h|⟨o,h⟩)|h
 ·exact .inl (.inl (e _ _ h))
 ·exact .inl (.inr ⟨o,e _ _ h⟩)
 ·exact .inr h
section
variable{κ:Type}[DecidableEq κ]
end
theorem at_of{xs:List V}{z:Int}{j:Nat}{v:V}(e:z=(j:Int))(h:xs[j]?=some v):vm xs z=some v:=by rw[e];exact KY h
theorem aG.made{H H1:Hp}{x dx C:Addr}(nx:H x=Option.none)(nd:H dx=Option.none)(k:∀b o,(upd (upd H dx (.own x)) x (.ins C dx [])) b=some o->b≠x->H1 b=some o):aG H H1:=λb o e=>
 k b o (by rw[ah (au e nx),ah (au e nd)];exact e) (au e nx)
section
open PySem.W (WData Codec OpenSpec Well WellAll ReadsW ReadsAllW)
mutual
inductive Dw(K:Frag)(H:Hp):V->WData->Prop
 |bF:Dw K H .bF .none
 |bl(b:Bool):Dw K H (.bl b) (.bool b)
 |int(i:Int):Dw K H (.int i) (.int i)
 |str(x:Str):Dw K H (.str x) (.str x)
 |bW(b:Array UInt8):Dw K H (.bW b) (.bytes b.toList)
 |lst{a:Addr} {xs:List V} {ds:List WData}:bf K H a xs->gg K H xs ds->Dw K H (.ref a) (.list ds)
 |tup{a:Addr} {xs:List V} {ds:List WData}:fE K H a xs->gg K H xs ds->Dw K H (.ref a) (.tuple ds)
inductive gg(K:Frag)(H:Hp):List V->List WData->Prop
 |nil:gg K H [] []
 |cons{v:V} {vs:List V} {d:WData} {ds:List WData}:Dw K H v d->gg K H vs ds->gg K H (v::vs) (d::ds)
end
theorem Dr{K:Frag}{H:Hp}:∀ns:List Int,gg K H (ns.map V.int) (ns.map WData.int)
 |[]=>.nil
 |n::r=>.cons (.int n) (Dr r)
theorem vF{K:Frag}{H:Hp}:∀(ns:List Int)(xs:List V),gg K H xs (ns.map WData.int)->xs=ns.map V.int
 |[],xs,h=>by
  cases h;rfl
 |n::r,xs,h=>by
  cases h with
  |cons h1 h2=>
   cases h1;rw[vF r _ h2] <;> rfl
section
variable{P:Program}{w:World}{K:Frag}{H:Hp}{h:Heap}{R:PySem.W.WRecords}{cl:Str->Option Addr}
theorem O1{a:Addr}{xs:List V}(aZ:gy P w H h)(KX:K.In h)(q:bf K H a xs):∃(its:List Value)(o:Obj)(n:Nat),Vals xs its/\h.get? a=some o/\o.cls= .type "list"/\o.data= .seq its.toArray n:=by
 rcases q with q|⟨o,its,n,e,hc,_,hd,_,hv⟩
 ·obtain⟨_,its,n,hv,e⟩:=(show bK P w H h a (.lst xs) from q.ok aZ)
  exact⟨its,_,n,hv,e,rfl,rfl⟩
 ·exact⟨its.toList,o,n,hv,KX _ _ e,hc,by simp[hd]⟩
theorem Od{a:Addr}{xs:List V}(aZ:gy P w H h)(KX:K.In h)(q:fE K H a xs):∃(its:List Value)(o:Obj)(n:Nat),Vals xs its/\h.get? a=some o/\o.cls= .type "tuple"/\o.data= .seq its.toArray n:=by
 rcases q with q|⟨o,its,n,e,hc,hd,_,hv⟩
 ·obtain⟨_,its,hv,o,e,hc,n,hd⟩:=(show bK P w H h a (.tup xs) from q.ok aZ)
  exact⟨its,o,n,hv,e,hc,hd⟩
 ·exact⟨its.toList,o,n,hv,KX _ _ e,hc,by simp[hd]⟩
mutual
theorem Dw.reads(aZ:gy P w H h)(KX:K.In h):∀(d:WData)(v:V)(u:Value),Dw K H v d->RelV v u->∃as,ReadsW R cl h u d as
 | .none,_,_,x,r=>by
  cases x;cases r;exact⟨_,ReadsW.none⟩
 | .bool b,_,_,x,r=>by
  cases x;cases r;exact⟨_,ReadsW.bool b⟩
 | .int i,_,_,x,r=>by
  cases x;obtain⟨t,rfl⟩:=r;exact⟨_,ReadsW.int i t⟩
 | .str s,_,_,x,r=>by
  cases x;obtain⟨t,rfl⟩:=r;exact⟨_,ReadsW.str s t⟩
 | .bytes b,_,_,x,r=>by
  cases x;obtain⟨t,rfl⟩:=r;exact⟨_,ReadsW.bytes _ t⟩
 | .list ds,_,_,x,r=>by
  cases x with
  |lst hs ha=>
   cases r;obtain⟨its,o,n,rv,ho,hc,hd⟩:=O1 aZ KX hs;obtain⟨as,hr⟩:=Dw.readsAll aZ KX ds _ its ha rv;exact⟨_,ReadsW.list ho hc hd hr⟩
 | .tuple ds,_,_,x,r=>by
  cases x with
  |tup hs ha=>
   cases r;obtain⟨its,o,n,rv,ho,hc,hd⟩:=Od aZ KX hs;obtain⟨as,hr⟩:=Dw.readsAll aZ KX ds _ its ha rv;exact⟨_,ReadsW.tuple ho hc hd hr⟩
 | .float _,_,_,x,_=>by cases x
 | .dict _,_,_,x,_=>by cases x
 | .bytearray _,_,_,x,_=>by cases x
 | .set _,_,_,x,_=>by cases x
 | .frozenset _,_,_,x,_=>by cases x
 | .obj _ _,_,_,x,_=>by cases x
theorem Dw.readsAll(aZ:gy P w H h)(KX:K.In h):∀(ds:List WData)(vs:List V)(us:List Value),gg K H vs ds->Vals vs us->∃as,ReadsAllW R cl h us ds as
 |[],_,_,x,r=>by
  cases x;cases r;exact⟨_,ReadsAllW.nil⟩
 |d::ds,_,_,x,r=>by
  cases x with
  |cons h1 h2=>
   cases r with
   |cons r1 r2=>
    obtain⟨as,q1⟩:=Dw.reads aZ KX d _ _ h1 r1;obtain⟨bs,q2⟩:=Dw.readsAll aZ KX ds _ _ h2 r2;exact⟨_,ReadsAllW.cons q1 q2⟩
end
end
mutual
def Dj:WData->Bool
 | .none=>true
 | .bool _=>true
 | .int _=>true
 | .str _=>true
 | .bytes _=>true
 | .list xs=>pR xs
 | .tuple xs=>pR xs
 |_=>false
def pR:List WData->Bool
 |[]=>true
 |x::r=>Dj x&&pR r
end
theorem zY{α:Type}{f:α->WData}(h:∀a,Dj (f a)=true):∀l:List α,pR (l.map f)=true
 |[]=>rfl
 |x::r=>by
  show(Dj (f x)&&pR (r.map f))=true;rw[h x,zY h r] <;> rfl
theorem iN:∀(c:Codec)(a:c.denote),Dj (c.enc a)=true
 | .unit,_=>rfl
 | .bool,_=>rfl
 | .int _ _,_=>rfl
 | .nat _ _,_=>rfl
 | .u8,_=>rfl
 | .bytes _ _,_=>rfl
 | .text _ _ _ _,_=>rfl
 | .list _ _ c,a=>zY (λx=>iN c x) a
 | .pair c d,a=>by
  show(Dj (c.enc a.1)&&(Dj (d.enc a.2)&&true))=true;rw[iN c a.1,iN d a.2] <;> rfl
 | .triple c d e,a=>by
  show(Dj (c.enc a.1)&&(Dj (d.enc a.2.1)&&(Dj (e.enc a.2.2)&&true)))=true;rw[iN c a.1,iN d a.2.1,iN e a.2.2] <;> rfl
 | .option c,none=>rfl
 | .option c,some x=>iN c x
theorem uU:∀(cs:List Codec)(a:Codec.denoteAll cs),pR (Codec.encAll cs a)=true
 |[],_=>rfl
 |c::cs,a=>by
  show(Dj (c.enc a.1)&&pR (Codec.encAll cs a.2))=true;rw[iN c a.1,uU cs a.2] <;> rfl
theorem jM:∀{xs:List WData}{d:WData},d∈xs->d.weight<=WData.weightAll xs
 |[],d,h=>absurd h (by simp)
 |x::r,d,h=>by
  show d.weight<=x.weight+1+WData.weightAll r;rcases List.mem_cons.mp h with e|m
  ·rw[e];omega
  ·have z:=jM m;omega
def toV:Value->V
 | .none=>.bF
 | .bool b=>.bl b
 | .int i _=>.int i
 | .str x _=>.str x
 | .bytes b _=>.bW b
 | .ref a=>.ref a
 |_=>.bF
def Fp(A:List Addr):Value->Prop
 | .none=>True
 | .bool _=>True
 | .int _ _=>True
 | .str _ _=>True
 | .bytes _ _=>True
 | .ref a=>a∈A
 |_=>False
theorem Fp.mono{A B:List Addr}(h:∀a∈A,a∈B):∀{u:Value},Fp A u->Fp B u:=λ{u} x=>by
 cases u with
 |ref a=>exact h a x
 |none=>trivial
 |bool b=>trivial
 |int i t=>trivial
 |str s t=>trivial
 |bytes b t=>trivial
 |_=>exact False.elim x
theorem GW{A:List Addr}{u:Value}(x:Fp A u):RelV (toV u) u:=by
 cases u with
 |ref a=>rfl
 |none=>rfl
 |bool b=>rfl
 |int i t=>exact⟨t,rfl⟩
 |str s t=>exact⟨t,rfl⟩
 |bytes b t=>exact⟨t,rfl⟩
 |_=>exact False.elim x
theorem fY{A:List Addr}:∀{vs:List Value},(∀u∈vs,Fp A u)->Vals (vs.map toV) vs
 |[],_=>.nil
 |u::r,h=>.cons (GW (h u (List.mem_cons_self ..))) (fY λx hx=>h x (List.mem_cons_of_mem _ hx))
def g5(h:Heap)(A:List Addr)(a:Addr):Prop:=∃vs:List Value,vs.length<=sizeLine/\(∀u∈vs,Fp A u)/\
 (h.get? a=some {cls:=.type "list",data:=.seq vs.toArray}\/h.get? a=some {cls:=.type "tuple",data:=.seq vs.toArray})
theorem g5.mono{h:Heap}{A B:List Addr}{a:Addr}(k:∀a∈A,a∈B)(x:g5 h A a):g5 h B a:=by obtain⟨vs,h1,h2,h3⟩:=x;exact⟨vs,h1,λu hu=>(h2 u hu).mono k,h3⟩
theorem fF{P:Params}{h:Heap}:∀{vs:List Value}{ds:List WData},WellAll P h vs ds->vs.length=ds.length
 |_,_,.nil=>rfl
 |_,_,.cons _ b=>by
  show _+1=_+1;rw[fF b]
theorem uL{P:Params}{h:Heap}{v:Value}{ds:List WData}(x:Well P h v (.list ds)):∃(a:Addr)(vs:List Value),v= .ref a/\h.get? a=some {cls:=.type "list",data:=.seq vs.toArray}/\WellAll P h vs ds:=by
 cases x with
 |list ho hall=>exact⟨_,_,rfl,ho,hall⟩
theorem tQ{P:Params}{h:Heap}{v:Value}{ds:List WData}(x:Well P h v (.tuple ds)):∃(a:Addr)(vs:List Value),v= .ref a/\h.get? a=some {cls:=.type "tuple",data:=.seq vs.toArray}/\WellAll P h vs ds:=by
 cases x with
 |tuple ho hall=>exact⟨_,_,rfl,ho,hall⟩
theorem vc{P:Params}{h:Heap}{us:List Value}{d:WData}{ds:List WData}(x:WellAll P h us (d::ds)):∃(v:Value)(vs:List Value),us=v::vs/\Well P h v d/\WellAll P h vs ds:=by
 cases x with
 |cons a b=>exact⟨_,_,rfl,a,b⟩
theorem CH{n:Nat}(h:n<=1048576):n<=sizeLine:=Nat.le_trans h ↑0
section
variable{P:Params}{h:Heap}
mutual
theorem F1:∀(d:WData)(v:Value),Well P h v d->Dj d=true->d.weight<=1048576->∃A:List Addr,Fp A v/\∀a∈A,g5 h A a
 | .none,_,x,_,_=>by
  cases x;exact⟨[],trivial,λa m=>absurd m (by simp)⟩
 | .bool b,_,x,_,_=>by
  cases x;exact⟨[],trivial,λa m=>absurd m (by simp)⟩
 | .int i,_,x,_,_=>by
  cases x;exact⟨[],trivial,λa m=>absurd m (by simp)⟩
 | .str s,_,x,_,_=>by
  cases x;exact⟨[],trivial,λa m=>absurd m (by simp)⟩
 | .bytes b,_,x,_,_=>by
  cases x;exact⟨[],trivial,λa m=>absurd m (by simp)⟩
 | .list ds,_,x,p,z=>by
  obtain⟨a,vs,rfl,ho,hall⟩:=uL x;have z2:WData.weightAll ds<=1048576:=z;obtain⟨A,h1,h2⟩:=kU ds _ hall p λd hd=>Nat.le_trans (jM hd) z2;have k:∀b∈A,b∈a::A:=λb hb=>List.mem_cons_of_mem _ hb;refine⟨a::A,List.mem_cons_self ..,λb hb=>?_⟩;rcases List.mem_cons.mp hb with e|m
  ·rw[e];exact⟨vs,CH (by rw[fF hall];exact Nat.le_trans (PySem.W.length_le_weightAllW ds) z2),λu hu=>(h1 u hu).mono k,.inl ho⟩
  ·exact(h2 b m).mono k
 | .tuple ds,_,x,p,z=>by
  obtain⟨a,vs,rfl,ho,hall⟩:=tQ x;have z2:WData.weightAll ds<=1048576:=z;obtain⟨A,h1,h2⟩:=kU ds _ hall p λd hd=>Nat.le_trans (jM hd) z2;have k:∀b∈A,b∈a::A:=λb hb=>List.mem_cons_of_mem _ hb;refine⟨a::A,List.mem_cons_self ..,λb hb=>?_⟩;rcases List.mem_cons.mp hb with e|m
  ·rw[e];exact⟨vs,CH (by rw[fF hall];exact Nat.le_trans (PySem.W.length_le_weightAllW ds) z2),λu hu=>(h1 u hu).mono k,.inr ho⟩
  ·exact(h2 b m).mono k
 | .float _,_,_,p,_=>Bool.noConfusion (show false=true from p)
 | .dict _,_,_,p,_=>Bool.noConfusion (show false=true from p)
 | .bytearray _,_,_,p,_=>Bool.noConfusion (show false=true from p)
 | .set _,_,_,p,_=>Bool.noConfusion (show false=true from p)
 | .frozenset _,_,_,p,_=>Bool.noConfusion (show false=true from p)
 | .obj _ _,_,_,p,_=>Bool.noConfusion (show false=true from p)
theorem kU:∀(ds:List WData)(vs:List Value),WellAll P h vs ds->pR ds=true->(∀d∈ds,d.weight<=1048576)->∃A:List Addr,(∀u∈vs,Fp A u)/\∀a∈A,g5 h A a
 |[],_,x,_,_=>by
  cases x;exact⟨[],λu m=>absurd m (by simp),λa m=>absurd m (by simp)⟩
 |d::ds,_,x,p,z=>by
  obtain⟨v,vs,rfl,x1,x2⟩:=vc x;have q:Dj d=true/\pR ds=true:=Bool.and_eq_true_iff.mp p;obtain⟨A,a1,a2⟩:=F1 d v x1 q.1 (z d (List.mem_cons_self ..));obtain⟨B,b1,b2⟩:=kU ds vs x2 q.2 λe he=>z e (List.mem_cons_of_mem _ he);have kA:∀b∈A,b∈A++B:=λb hb=>List.mem_append.mpr (.inl hb);have kB:∀b∈B,b∈A++B:=λb hb=>List.mem_append.mpr (.inr hb);refine⟨A++B,λu hu=>?_,λb hb=>?_⟩
  ·rcases List.mem_cons.mp hu with e|m
   ·rw[e];exact a1.mono kA
   ·exact(b1 u m).mono kB
  ·rcases List.mem_append.mp hb with m|m
   ·exact(a2 b m).mono kA
   ·exact(b2 b m).mono kB
end
end
def Lr(o:Obj):Option HO:=match o.data with
 | .seq vs _=>if(o.cls==Value.type "list")=true then some (.rE o (.lst (vs.toList.map toV))) else some (.rE o (.tup (vs.toList.map toV)))
 |_=>none
def gS(K:Frag)(h:Heap)(A:List Addr):Hp:=λb=>if b∈A then(if(K.lookup b).isNone=true then(h.get? b).bind Lr else none) else none
def vC(H:Hp):Prop:=∀b,H b=none\/∃o u,H b=some (.rE o u)
theorem yY(vs:List Value):Lr {cls:=.type "list",data:=.seq vs.toArray}=some (.rE {cls:=.type "list",data:=.seq vs.toArray} (.lst (vs.map toV))):=by show(if(Value.type "list"==Value.type "list")=true then some (HO.rE {cls:=.type "list",data:=.seq vs.toArray} (.lst (vs.toArray.toList.map toV))) else some (HO.rE {cls:=.type "list",data:=.seq vs.toArray} (.tup (vs.toArray.toList.map toV))))=_;rw[if_pos (beq_self_eq_true _)]
theorem Ae(vs:List Value):Lr {cls:=.type "tuple",data:=.seq vs.toArray}=some (.rE {cls:=.type "tuple",data:=.seq vs.toArray} (.tup (vs.map toV))):=by show(if(Value.type "tuple"==Value.type "list")=true then some (HO.rE {cls:=.type "tuple",data:=.seq vs.toArray} (.lst (vs.toArray.toList.map toV))) else some (HO.rE {cls:=.type "tuple",data:=.seq vs.toArray} (.tup (vs.toArray.toList.map toV))))=_;rw[if_neg ↑0]
section
variable{P:Program}{w:World}{K:Frag}{h:Heap}{A:List Addr}
theorem qg{b:Addr}{o:Obj}(hb:b∈A)(hk:K.lookup b=none)(e:h.get? b=some o):gS K h A b=Lr o:=by unfold gS;rw[if_pos hb,hk,if_pos (show(none:Option Obj).isNone=true from rfl),e] <;> rfl
theorem Ls{b:Addr}{u:HO}(q:gS K h A b=some u):b∈A/\K.lookup b=none:=by
 unfold gS at q;by_cases hb:b∈A
 ·rw[if_pos hb] at q;cases hk:K.lookup b with
  |none=>exact⟨hb,rfl⟩
  |some o=>
   rw[hk,if_neg (by simp)] at q;cases q
 ·rw[if_neg hb] at q;cases q
theorem qk(ar:∀a∈A,g5 h A a){b:Addr}{u:HO}(q:gS K h A b=some u):K.lookup b=none/\∃vs:List Value,vs.length<=sizeLine/\(∀u∈vs,Fp A u)/\
    ((h.get? b=some {cls:=.type "list",data:=.seq vs.toArray}/\u= .rE {cls:=.type "list",data:=.seq vs.toArray} (.lst (vs.map toV)))\/
     (h.get? b=some {cls:=.type "tuple",data:=.seq vs.toArray}/\u= .rE {cls:=.type "tuple",data:=.seq vs.toArray} (.tup (vs.map toV)))):=by
  obtain⟨hb,hk⟩:=Ls q;obtain⟨vs,h1,h2,h3⟩:=ar b hb;refine⟨hk,vs,h1,h2,?_⟩;rcases h3 with e|e
  · rw[qg hb hk e,yY] at q;exact .inl ⟨e,(Option.some.inj q).symm⟩
  · rw[qg hb hk e,Ae] at q;exact .inr ⟨e,(Option.some.inj q).symm⟩
theorem Er(ar:∀a∈A,g5 h A a):vC (gS K h A):=λb=>by
 cases q:gS K h A b with
 |none=>exact .inl rfl
 |some u=>
  obtain⟨_,vs,_,_,⟨_,e⟩|⟨_,e⟩⟩:=qk ar q
  ·exact .inr ⟨_,_,by rw[e]⟩
  ·exact .inr ⟨_,_,by rw[e]⟩
theorem Kn(ar:∀a∈A,g5 h A a):gy P w (gS K h A) h:=λb u q=>by
 obtain⟨_,vs,h1,h2,⟨e,rfl⟩|⟨e,rfl⟩⟩:=qk ar q
 ·exact⟨e,by rw[List.length_map];exact h1,vs,_,fY h2,e⟩
 ·exact⟨e,by rw[List.length_map];exact h1,vs,fY h2,_,e,rfl,_,rfl⟩
theorem qo{c c':Value}{vs us:List Value}(e:(some {cls:=c,data:=.seq vs.toArray}:Option Obj)=some {cls:=c',data:=.seq us.toArray}):c=c'/\vs=us:=by have e1:=Option.some.inj e;have e2:c=c':=congrArg Obj.cls e1;have e3:Data.seq vs.toArray=Data.seq us.toArray:=congrArg Obj.data e1;injection e3 with e4;refine⟨e2,?_⟩;have e5:=congrArg Array.toList e4;simpa using e5
theorem Ss(KX:K.In h)(ar:∀a∈A,g5 h A a){a:Addr}{vs:List Value}(ha:a∈A)(e:h.get? a=some {cls:=.type "list",data:=.seq vs.toArray}):(∀u∈vs,Fp A u)/\bf K (gS K h A) a (vs.map toV):=by
 obtain⟨us,h1,h2,h3⟩:=ar a ha;have hu:us=vs:=by
  rcases h3 with q|q
  ·rw[e] at q;exact(qo q).2.symm
  ·rw[e] at q;exact absurd (Value.type.inj (qo q).1) ↑0
 subst hu;refine⟨h2,?_⟩;cases hk:K.lookup a with
 |none=>exact .inl (.inr ⟨_,by rw[qg ha hk e,yY]⟩)
 |some o=>
  have e2:=KX a o hk;rw[e] at e2;obtain rfl:=Option.some.inj e2;exact .inr ⟨_,us.toArray,_,hk,rfl,rfl,rfl,by rw[List.size_toArray];exact h1,by simpa using fY h2⟩
theorem Tc(KX:K.In h)(ar:∀a∈A,g5 h A a){a:Addr}{vs:List Value}(ha:a∈A)(e:h.get? a=some {cls:=.type "tuple",data:=.seq vs.toArray}):(∀u∈vs,Fp A u)/\fE K (gS K h A) a (vs.map toV):=by
 obtain⟨us,h1,h2,h3⟩:=ar a ha;have hu:us=vs:=by
  rcases h3 with q|q
  ·rw[e] at q;exact absurd (Value.type.inj (qo q).1) ↑0
  ·rw[e] at q;exact(qo q).2.symm
 subst hu;refine⟨h2,?_⟩;cases hk:K.lookup a with
 |none=>exact .inl (.inr ⟨_,by rw[qg ha hk e,Ae]⟩)
 |some o=>
  have e2:=KX a o hk;rw[e] at e2;obtain rfl:=Option.some.inj e2;exact .inr ⟨_,us.toArray,_,hk,rfl,rfl,by rw[List.size_toArray];exact h1,by simpa using fY h2⟩
mutual
theorem NK{Pm:Params}(KX:K.In h)(ar:∀a∈A,g5 h A a):∀(d:WData)(v:Value),Well Pm h v d->Dj d=true->Fp A v->Dw K (gS K h A) (toV v) d
 | .none,_,x,_,_=>by
  cases x;exact .bF
 | .bool b,_,x,_,_=>by
  cases x;exact .bl b
 | .int i,_,x,_,_=>by
  cases x;exact .int i
 | .str s,_,x,_,_=>by
  cases x;exact .str s
 | .bytes b,_,x,_,_=>by
  cases x;have z:=Dw.bW (K:=K) (H:=gS K h A) b.toArray;exact z
 | .list ds,_,x,p,hu=>by
  obtain⟨a,vs,rfl,ho,hall⟩:=uL x;obtain⟨h2,hs⟩:=Ss KX ar hu ho;exact .lst hs (wM KX ar ds _ hall p h2)
 | .tuple ds,_,x,p,hu=>by
  obtain⟨a,vs,rfl,ho,hall⟩:=tQ x;obtain⟨h2,hs⟩:=Tc KX ar hu ho;exact .tup hs (wM KX ar ds _ hall p h2)
 | .float _,_,_,p,_=>Bool.noConfusion (show false=true from p)
 | .dict _,_,_,p,_=>Bool.noConfusion (show false=true from p)
 | .bytearray _,_,_,p,_=>Bool.noConfusion (show false=true from p)
 | .set _,_,_,p,_=>Bool.noConfusion (show false=true from p)
 | .frozenset _,_,_,p,_=>Bool.noConfusion (show false=true from p)
 | .obj _ _,_,_,p,_=>Bool.noConfusion (show false=true from p)
theorem wM{Pm:Params}(KX:K.In h)(ar:∀a∈A,g5 h A a):∀(ds:List WData)(vs:List Value),WellAll Pm h vs ds->pR ds=true->(∀u∈vs,Fp A u)->gg K (gS K h A) (vs.map toV) ds
 |[],_,x,_,_=>by
  cases x;exact .nil
 |d::ds,_,x,p,hu=>by
  obtain⟨v,vs,rfl,x1,x2⟩:=vc x;have q:Dj d=true/\pR ds=true:=Bool.and_eq_true_iff.mp p;exact .cons (NK KX ar d v x1 q.1 (hu _ (List.mem_cons_self ..))) (wM KX ar ds vs x2 q.2 λu m=>hu u (List.mem_cons_of_mem _ m))
end
end
theorem E1{P:Program}{w:World}{K:Frag}{mg mb:Str->Option Value}{CX:yz}{k:Nat}{fa:Addr}{fd:FuncData}{ps:List Str}{sp:Sp}{s₁:Shared}{vals:List Value}{ds:List WData}{R:PySem.W.WRecords}{cl:Str->Option Addr}{d0:WData}(KX:K.In s₁.heap)(hns:s₁.heap.Ns mainGlobals mg)(hb:s₁.heap.Ns builtinsNs mb)(hbb:∀x:Str,x≠"__name__"->mb x=bootBuiltins x)(hlim:s₁.heap.NoLimit)(hg:s₁.gens=#[])(hwl:WellAll w.params s₁.heap vals ds)(hpl:pR ds=true)(hwt:∀d∈ds,d.weight<=1048576)(hr:bC k callerA)(F:∀base:Heap,K.In base->base.Ns mainGlobals mg->cn P w K mg base CX k fa fd ps sp)(hbind:∀(s:Shared)(us:List Value),us.length=ps.length->BindsTo s fd ⟨us,[]⟩ (ps.zip us))(hlen:ds.length=ps.length)(hsp:∀(H:Hp)(xs:List V),vC H->gg K H xs ds->sp xs H (λv H'=>Dw K H' v d0) λ_ _ _=>False)(hCX:∀H e s',CX [] H s₁ (λ_ _ _=>False) e s'->False):
  codeAny (model P w) callerA (.call (.ref fa) ⟨vals,[]⟩) (λr s'=>∃u as,r= .ok (.ret u)/\ReadsW R cl s'.heap u d0 as/\OldK s₁.heap s'.heap/\s'.os=s₁.os/\AllBare s'.gens) s₁:=by
 obtain⟨A,ho,ar⟩:=kU ds vals hwl hpl hwt;have hO:vC (gS K s₁.heap A):=Er ar;have aZ:gy P w (gS K s₁.heap A) s₁.heap:=Kn ar;have hS:=wM KX ar ds vals hwl hpl ho;have hV:=fY ho;have hK:∀b u,gS K s₁.heap A b=some u->K.lookup b=none:=λb u q=>(qk ar q).1;have noA:∀{b:Addr}{o:Obj}{es:Array DictEntry}{ep:Nat},s₁.heap.get? b=some o->o.data= .dict es ep->gS K s₁.heap A b=none:=λ{b o es ep} e d=>by
  cases q:gS K s₁.heap A b with
  |none=>rfl
  |some u=>
   obtain⟨_,vs,_,_,⟨e2,_⟩|⟨e2,_⟩⟩:=qk ar q
   ·rw[e2] at e;cases e;have d':Data.seq vs.toArray _=Data.dict es ep:=d;cases d'
   ·rw[e2] at e;cases e;have d':Data.seq vs.toArray _=Data.dict es ep:=d;cases d'
 generalize gS K s₁.heap A=H at hO aZ hS hK noA;have base_of:∀{b:Addr}{o:Obj},s₁.heap.get? b=some o->H b=none->(vG s₁.heap H).get? b=some o:=λe n=>IG e n;have nsK:∀{b:Addr}{m:Str->Option Value},s₁.heap.Ns b m->(vG s₁.heap H).Ns b m:=λ{b m} ⟨o,es,ep,e,d,r⟩=>⟨o,es,ep,base_of e (noA e d),d,r⟩
 have nK:∀b o,K.lookup b=some o->H b=none:=λb o e=>by
  cases q:H b with
  |none=>rfl
  |some u=>
   rw[hK b u q] at e;cases e
 have hKb:K.In (vG s₁.heap H):=λb o e=>base_of (KX b o e) (nK b o e);have hM:Mod K mg (vG s₁.heap H):=⟨hKb,nsK hns,⟨mb,nsK hb,hbb⟩,let⟨mc,h1,h2⟩:=hlim;⟨mc,nsK h1,h2⟩⟩
 have e0:wN P w K mg (vG s₁.heap H) callerA [] s₁ H:=⟨rfl,hM,λb o e=>JF e,Nat.le_of_eq (Ec _ _),trivial,λb hb=>absurd (show b∈([]:List Addr) from hb) (by simp),aZ,.of_eq hg⟩
 have hl:vals.length=ps.length:=by rw[fF hwl];exact hlen
 refine codeAny_mono ((F _ hKb (nsK hns)).run callerA [] s₁ H ⟨vals,[]⟩ vals (vals.map toV) _ _ hr e0 (hbind s₁ vals hl) hV (hsp H _ hO hS)) λr s' x=>?_;cases r with
 |error e=>exact(hCX H e s' x).elim
 |ok fl=>
  cases fl with
  |next=>exact False.elim x
  |brk=>exact False.elim x
  |cont=>exact False.elim x
  |ret u=>
   obtain⟨v,H',os,bare,un,hok',r',q⟩:=x;have kept:∀b o,s₁.heap.get? b=some o->s'.heap.get? b=some o:=λb o e=>by
    cases q2:H b with
    |none=>exact un.keep b o e q2 (by intro z;exact absurd (show b∈([]:List Addr) from z) (by simp)) (by simp)
    |some u2=>
     rcases hO b with z|⟨ob,u3,z⟩
     ·rw[q2] at z;cases z
     ·have z2:=un.nY b ob _ z;obtain⟨e1,_⟩:=aZ b _ z;obtain⟨e2,_⟩:=hok' b _ z2;rw[e] at e1;cases e1;exact e2
   have KX':K.In s'.heap:=λb o e=>kept b o (KX b o e);obtain⟨as,hrd⟩:=Dw.reads (R:=R) (cl:=cl) hok' KX' d0 v u q r';exact⟨u,as,rfl,hrd,OldK.of_keep kept,os,bare⟩
theorem qX{ds:List WData}(h:WData.layableAll ds=true):∀d∈ds,d.weight<=1048576:=λd hd=>
 (PySem.W.layableW_iff.mp (List.all_eq_true.mp h d hd)).2.2
theorem qC:∀(cs:List Codec)(a:Codec.denoteAll cs),(Codec.encAll cs a).length=cs.length
 |[],_=>rfl
 |c::cs,a=>by
  show(Codec.encAll cs a.2).length+1=cs.length+1;rw[qC cs a.2]
theorem Fh{r:OpenSpec}{k:Nat}{q:Program}{loose:List Str}{XP:(Str->Option Value)->Heap->Prop}{YP:World->Heap->Prop}{d:DefRec}{K:Params->Frag}{CX:World->yz}{ps:List Str}{sp:World->Sp}(hwell:r.wellSaid=true)(hdf:d.params.defaults=[])(hlen:r.args.length=ps.length)(hr:bC k callerA)(hY:∀(w:World)(h:Heap),YP w h->(K w.params).In h)(F:∀(w:World)(mg:Str->Option Value)(fa:Addr)(h:Heap),YP w h->(K w.params).In h->h.Ns mainGlobals mg->mg d.name=some (.ref fa)->
   ∃fd:FuncData,(∀(s:Shared)(us:List Value),us.length=ps.length->BindsTo s fd ⟨us,[]⟩ (ps.zip us))/\
    ∀base:Heap,(K w.params).In base->base.Ns mainGlobals mg->cn r.prog w (K w.params) mg base (CX w) k fa fd ps (sp w))(hsp:∀(w:World)(H:Hp)(xs:List V)(a:Codec.denoteAll r.args),vC H->Codec.withinAll r.args a=true->Codec.app r.args r.asked a=true->gg (K w.params) H xs (Codec.encAll r.args a)->
   sp w xs H (λv H'=>Dw (K w.params) H' v (r.ret.enc (Codec.app r.args r.f a))) λ_ _ _=>False)(hCX:∀(w:World)(H:Hp)(s:Shared)(e:Value)(s':Shared),CX w [] H s (λ_ _ _=>False) e s'->False):
  PySem.W.WalkOS q loose XP YP r d [] (λf vs=>PySem.call f vs):=by
 intro w oq s₁ mg mb G Y fa o pm cd doc dV kV ho hd hcd hD hmg hg args vals as hpre hlay hrd hwl hlo;obtain⟨a,e1,e2⟩:=PySem.W.os_pre_some hpre;obtain⟨e3,hwi⟩:=Codec.encAll_of_decAll r.args args a e1;subst e3;have KX:=hY w _ Y;obtain⟨fd,hb,hF⟩:=F w mg fa _ Y KX G.T.g hmg;refine PySem.W.enter_call (codeAny_mono (E1 (R:=[]) (cl:=classAt oq.heap) (d0:=r.ret.enc (Codec.app r.args r.f a)) KX G.T.g G.T.b G.T.builtins G.T.nolimit hg hwl (uU _ _) (qX hlay) hr hF hb (by rw[qC];exact hlen)
  (λH xs hO hS=>hsp w H xs a hO hwi e2 hS) λH e s'=>hCX w H s₁ e s') λr' s' hq=>?_)
 obtain⟨u,as',rfl,h1,h2,h3,h4⟩:=hq;exact⟨.inl ⟨u,_,as',rfl,λ_=>rfl,h1,(OpenSpec.post_iff hwell hwi _ _).mpr rfl,λz=>Bool.noConfusion (show false=true from z)⟩,h2,h3,h4⟩
theorem BP{r:OpenSpec}{k:Nat}{q:Program}{loose:List Str}{XP:(Str->Option Value)->Heap->Prop}{YP:World->Heap->Prop}{d:DefRec}{K:Params->Frag}{CX:yz}{ps:List Str}{sp:Frag->Sp}(hwell:r.wellSaid=true)(hdf:d.params.defaults=[])(hlen:r.args.length=ps.length)(hr:bC k callerA)(hY:∀(w:World)(h:Heap),YP w h->(K w.params).In h)(F:∀(w:World)(mg:Str->Option Value)(fa:Addr)(h:Heap),YP w h->(K w.params).In h->h.Ns mainGlobals mg->mg d.name=some (.ref fa)->
   ∃fd:FuncData,(∀(s:Shared)(us:List Value),us.length=ps.length->BindsTo s fd ⟨us,[]⟩ (ps.zip us))/\
    ∀base:Heap,(K w.params).In base->base.Ns mainGlobals mg->cn r.prog w (K w.params) mg base CX k fa fd ps (sp (K w.params)))(hsp:∀(K:Frag)(H:Hp)(xs:List V)(a:Codec.denoteAll r.args),vC H->Codec.withinAll r.args a=true->Codec.app r.args r.asked a=true->gg K H xs (Codec.encAll r.args a)->
   sp K xs H (λv H'=>Dw K H' v (r.ret.enc (Codec.app r.args r.f a))) λ_ _ _=>False)(hCX:∀(H:Hp)(s:Shared)(e:Value)(s':Shared),CX [] H s (λ_ _ _=>False) e s'->False):
  PySem.W.WalkOS q loose XP YP r d [] (λf vs=>PySem.call f vs):=
 Fh (K:=K) (CX:=λ_=>CX) (sp:=λw=>sp (K w.params)) hwell hdf hlen hr hY F (λw H xs a h1 h2 h3 h4=>hsp (K w.params) H xs a h1 h2 h3 h4) λ_ H s e s'=>hCX H s e s'
end
end L2
namespace TW
open EwTree
variable{b:By}{c:UInt8}{p:Nat}{r:By}
abbrev By:=List UInt8
theorem eA{α:Type}(p:α->Bool):∀(l:List α)(n:Nat),(l.takeWhile p).length<=n->(l.take n).takeWhile p=l.takeWhile p
 |[],n,_=>by simp
 |a::l,0,h=>by
  cases e:p a with
  |false=>simp[List.takeWhile_cons,e]
  |true=>simp[List.takeWhile_cons,e] at h
 |a::l,n+1,h=>by
  cases e:p a with
  |false=>simp[List.takeWhile_cons,e]
  |true=>
   simp only[List.take_succ_cons,List.takeWhile_cons,e,if_true];rw[eA p l n (by simpa[List.takeWhile_cons,e] using h)]
theorem i_{α:Type}(p:α->Bool):∀(l:List α)(n:Nat),(l.takeWhile p).length<=n->(l.take n).dropWhile p=(l.dropWhile p).take (n - (l.takeWhile p).length)
 |[],n,_=>by simp
 |a::l,0,h=>by
  cases e:p a with
  |false=>simp[List.dropWhile_cons,e,List.takeWhile_cons]
  |true=>simp[List.takeWhile_cons,e] at h
 |a::l,n+1,h=>by
  cases e:p a with
  |false=>simp[List.takeWhile_cons,List.dropWhile_cons,e]
  |true=>
   simp only[List.take_succ_cons,List.takeWhile_cons,List.dropWhile_cons,e,if_true,List.length_cons];rw[i_ p l n (by simpa[List.takeWhile_cons,e] using h)];congr 1;omega
theorem dm{α:Type}(p:α->Bool):∀(l:List α),l.dropWhile p=l.drop (l.takeWhile p).length
 |[]=>rfl
 |a::l=>by
  cases e:p a with
  |false=>simp[List.takeWhile_cons,List.dropWhile_cons,e]
  |true=>
   simp only[List.takeWhile_cons,List.dropWhile_cons,e,if_true,List.length_cons,List.drop_succ_cons];exact dm p l
theorem gJ{α:Type}(p:α->Bool):∀(l:List α),l.takeWhile p=l.take (l.takeWhile p).length
 |[]=>rfl
 |a::l=>by
  cases e:p a with
  |false=>simp[List.takeWhile_cons,e]
  |true=>
   simp only[List.takeWhile_cons,e,if_true,List.length_cons,List.take_succ_cons];rw[<-gJ p l]
theorem df{α:Type}(p:α->Bool)(l:List α):(l.takeWhile p).length+(l.dropWhile p).length=l.length:=by have:=congrArg List.length (List.takeWhile_append_dropWhile (p:=p) (l:=l));rw[List.length_append] at this;exact this
theorem FP{α:Type}(p:α->Bool):∀(l:List α),(l.takeWhile p).all p=true
 |[]=>rfl
 |a::l=>by
  cases e:p a with
  |false=>simp[List.takeWhile_cons,e]
  |true=>
   simp only[List.takeWhile_cons,e,if_true,List.all_cons,Bool.true_and];exact FP p l
theorem tS{a b:UInt8}:a<=b↔a.toNat<=b.toNat:=UInt8.le_iff_toNat_le
theorem jb{a b:UInt8}:a=b↔a.toNat=b.toNat:=⟨λh=>by rw[h],λh=>UInt8.toNat_inj.mp h⟩
theorem xJ{n:Nat}{m:UInt8}(h:m.toNat=n):decide ((n:Int)<=(c.toNat:Int))=decide (m<=c):=by
 by_cases q:m<=c
 ·rw[decide_eq_true q];exact decide_eq_true (by have:=tS.mp q;omega)
 ·rw[decide_eq_false q];exact decide_eq_false (λz=>q (tS.mpr ↑2))
theorem vL{n:Nat}{m:UInt8}(h:m.toNat=n):decide ((c.toNat:Int)<=(n:Int))=decide (c<=m):=by
 by_cases q:c<=m
 ·rw[decide_eq_true q];exact decide_eq_true (by have:=tS.mp q;omega)
 ·rw[decide_eq_false q];exact decide_eq_false (λz=>q (tS.mpr ↑2))
theorem Cj{n:Nat}{m:UInt8}(h:m.toNat=n):decide ((c.toNat:Int)=(n:Int))=decide (c=m):=by
 by_cases q:c=m
 ·rw[decide_eq_true q];exact decide_eq_true (by rw[q];omega)
 ·rw[decide_eq_false q];exact decide_eq_false (λz=>q (jb.mpr ↑2))
def h_(n:Int):Bool:=decide (97<=n)&&decide (n<=122)
def ux(n:Int):Bool:=decide (65<=n)&&decide (n<=90)
def bZ(n:Int):Bool:=decide (48<=n)&&decide (n<=57)
def g7(n:Int):Bool:=decide (32<=n)&&decide (n<=126)
def g8(n:Int):Bool:=h_ n||(bZ n||decide (n=95))
def oU(n:Int):Bool:=ux n||bZ n
def oW(n:Int):Bool:=g8 n||ux n
theorem tu(c:UInt8):h_ c.toNat=isSmall c:=by unfold h_ isSmall;rw[<-xJ (n:=97) (m:=97) rfl,<-vL (n:=122) (m:=122) rfl];rfl
theorem BB(c:UInt8):ux c.toNat=isBig c:=by unfold ux isBig;rw[<-xJ (n:=65) (m:=65) rfl,<-vL (n:=90) (m:=90) rfl];rfl
theorem fB(c:UInt8):bZ c.toNat=isDigit c:=by unfold bZ isDigit;rw[<-xJ (n:=48) (m:=48) rfl,<-vL (n:=57) (m:=57) rfl];rfl
theorem DC(c:UInt8):g7 c.toNat=isSeen c:=by unfold g7 isSeen;rw[<-xJ (n:=32) (m:=32) rfl,<-vL (n:=126) (m:=126) rfl];rfl
theorem DP(c:UInt8):g8 c.toNat=isWordByte c:=by
 unfold g8 isWordByte;rw[tu,fB];have:decide ((c.toNat:Int)=95)=(c==95):=by
  show decide ((c.toNat:Int)=((95:Nat):Int))=_;rw[Cj (n:=95) (m:=95) rfl];by_cases q:c=95 <;> simp[q]
 rw[this]
theorem JZ(c:UInt8):oU c.toNat=isCodeByte c:=by unfold oU isCodeByte;rw[BB,fB]
theorem Lc(c:UInt8):oW c.toNat=isMarkByte c:=by unfold oW isMarkByte;rw[DP,BB]
def cQ(b:By)(p:Nat):Int:=match b[p]? with|some c=>(c.toNat:Int)|none=> -1
def aK(q:UInt8->Bool)(b:By)(p:Nat):Nat:=p+((b.drop p).takeWhile q).length
theorem dN(q:UInt8->Bool)(h:p<=b.length):aK q b p<=b.length:=by unfold aK;have:=df q (b.drop p);rw[List.length_drop] at this;omega
theorem bP(q:UInt8->Bool)(b:By)(p:Nat):p<=aK q b p:=Nat.le_add_right _ _
theorem bo(h:b[p]?=some c):b.drop p=c::b.drop (p+1):=by obtain⟨hp,e⟩:=List.getElem?_eq_some_iff.mp h;rw[List.drop_eq_getElem_cons hp,e]
theorem bH(h:b.drop p=c::r):b[p]?=some c/\r=b.drop (p+1):=by
 have hp:p<b.length:=by
  have:=congrArg List.length h;rw[List.length_drop,List.length_cons] at this;omega
 have e:=List.drop_eq_getElem_cons hp;rw[h] at e;injection e with e1 e2;exact⟨by rw[List.getElem?_eq_getElem hp,e1],e2⟩
theorem uO{q:UInt8->Bool}(h:b[p]?=some c)(hq:q c=true):aK q b p=aK q b (p+1):=by unfold aK;rw[bo h,List.takeWhile_cons,if_pos hq,List.length_cons];omega
theorem Em{q:UInt8->Bool}(h:b[p]?=some c)(hq:q c=false):aK q b p=p:=by unfold aK;rw[bo h,List.takeWhile_cons,if_neg (by rw[hq];decide)];rfl
theorem Ih{q:UInt8->Bool}(h:b[p]?=none):aK q b p=p:=by unfold aK;rw[List.drop_eq_nil_of_le (List.getElem?_eq_none_iff.mp h)];rfl
theorem gj(q:UInt8->Bool)(b:By)(p:Nat):b.drop (aK q b p)=(b.drop p).dropWhile q:=by rw[dm,List.drop_drop];rfl
theorem HN:∀(n k p:Nat)(b:By)(x:Bytes×Nat×Bytes),b.length<=n->itemsIn k p b= .ok x->p<x.2.1/\x.2.1<=p+b.length/\x.2.2=b.drop (x.2.1 - p):=by
 intro n;induction n with
 |zero=>
  intro k p b x hb h;have:b=[]:=List.eq_nil_of_length_eq_zero ↑2;subst this;rw[itemsIn] at h;cases h
 |succ n ih=>
  intro k p b x hb h;cases b with
  |nil=>rw[itemsIn] at h;cases h
  |cons c r=>
   have hr:r.length<=n:=by simp at hb;exact hb
   unfold itemsIn at h;split at h
   ·cases h;refine⟨Nat.lt_succ_self _,by simp,?_⟩;show r=(c::r).drop (p+1 - p);rw[Nat.add_sub_cancel_left];rfl
   split at h
   ·cases h
   split at h
   ·cases h
   have two:∀(a d:UInt8)(s:By),r=d::s->((itemsIn (k+1) (p+2) s).map λ(x:Bytes×Nat×Bytes)=>(a::x.1,x.2))= .ok x->p<x.2.1/\x.2.1<=p+(c::r).length/\x.2.2=(c::r).drop (x.2.1 - p):=by
    intro a d s e h;cases q:itemsIn (k+1) (p+2) s with
    |error z=>rw[q] at h;cases h
    |ok y=>
     rw[q] at h;have h:(a::y.1,y.2)=x:=by injection h
     obtain⟨i1,i2,i3⟩:=ih (k+1) (p+2) s y (by rw[e] at hr;simp at hr;omega) q;subst h;dsimp only;refine⟨↑2,by rw[e];simp;omega,?_⟩;rw[i3,e];obtain⟨m,hm⟩:∃m,y.2.1=p+2+m:=⟨y.2.1 - (p+2),↑2⟩
     rw[hm,show p+2+m - (p+2)=m from ↑2,show p+2+m - p=m+2 from ↑2];rfl
   split at h
   ·split at h
    ·exact two _ _ _ rfl h
    ·exact two _ _ _ rfl h
    ·exact two _ _ _ rfl h
    ·cases h
   ·split at h
    ·cases q:itemsIn (k+1) (p+1) r with
     |error z=>rw[q] at h;cases h
     |ok y=>
      rw[q] at h;have h:(c::y.1,y.2)=x:=by injection h
      obtain⟨i1,i2,i3⟩:=ih (k+1) (p+1) r y hr q;subst h;dsimp only;refine⟨↑2,by simp;omega,?_⟩;rw[i3];obtain⟨m,hm⟩:∃m,y.2.1=p+1+m:=⟨y.2.1 - (p+1),↑2⟩
      rw[hm,show p+1+m - (p+1)=m from ↑2,show p+1+m - p=m+1 from ↑2];rfl
    ·cases h
theorem iD(b:By):∃k,k<=b.length/\(pointIn b).2=b.drop k:=by
 unfold pointIn;split
 ·rename_i c r;split
  ·refine⟨1+((c::r).takeWhile isDigit).length,?_,?_⟩
   ·have:=df isDigit (c::r);simp only[List.length_cons] at this ⊢;omega
   ·show(c::r).dropWhile isDigit=(46::c::r).drop (1+_);rw[dm,Nat.add_comm 1,List.drop_succ_cons]
  ·exact⟨0,Nat.zero_le _,rfl⟩
 ·exact⟨0,Nat.zero_le _,rfl⟩
theorem jF(b:By):∃k,k<=b.length/\(expoIn b).2=b.drop k:=by
 unfold expoIn;split
 ·rename_i c r;split
  ·refine⟨2+((c::r).takeWhile isDigit).length,?_,?_⟩
   ·have:=df isDigit (c::r);simp only[List.length_cons] at this ⊢;omega
   ·show(c::r).dropWhile isDigit=(101::45::c::r).drop (2+_);rw[dm,Nat.add_comm 2,List.drop_succ_cons,List.drop_succ_cons]
  ·exact⟨0,Nat.zero_le _,rfl⟩
 ·rename_i c r _;split
  ·refine⟨1+((c::r).takeWhile isDigit).length,?_,?_⟩
   ·have:=df isDigit (c::r);simp only[List.length_cons] at this ⊢;omega
   ·show(c::r).dropWhile isDigit=(101::c::r).drop (1+_);rw[dm,Nat.add_comm 1,List.drop_succ_cons]
  ·exact⟨0,Nat.zero_le _,rfl⟩
 ·exact⟨0,Nat.zero_le _,rfl⟩
theorem xU(b:By):∃k,k<=b.length/\(digitsIn b).2=b.drop k:=by
 obtain⟨k1,h1,e1⟩:=iD (b.dropWhile isDigit);obtain⟨k2,h2,e2⟩:=jF (pointIn (b.dropWhile isDigit)).2;have l0:=df isDigit b;have l3:=df isMarkByte (expoIn (pointIn (b.dropWhile isDigit)).2).2;refine⟨(b.takeWhile isDigit).length+k1+k2+((expoIn (pointIn (b.dropWhile isDigit)).2).2.takeWhile isMarkByte).length,?_,?_⟩
 ·rw[e2,e1] at l3;rw[e1] at h2;rw[e2,e1];simp only[List.length_drop] at l3 h2 ⊢;omega
 ·show(expoIn (pointIn (b.dropWhile isDigit)).2).2.dropWhile isMarkByte=_;rw[dm,e2,e1,dm,List.drop_drop,List.drop_drop,List.drop_drop];congr 1;omega
theorem ND{s:By}(h:∃k,k<=b.length/\s=b.drop k):s=b.drop (b.length - s.length):=by obtain⟨k,hk,rfl⟩:=h;rw[List.length_drop];congr 1;omega
theorem ie{t:Tok}{s:By}(h:tokenIn p b= .ok (t,s)):t.place=p/\p<t.halt_/\t.halt_<=p+b.length/\s=b.drop (t.halt_ - p):=by
 unfold tokenIn at h;cases b with
 |nil=>cases h
 |cons c r=>
  dsimp only at h;split at h
  ·rename_i hs;have hw:isWordByte c=true:=by unfold isWordByte;rw[hs];rfl
   have hl:0<((c::r).takeWhile isWordByte).length:=by rw[List.takeWhile_cons,if_pos hw];simp
   have hle:((c::r).takeWhile isWordByte).length<=(c::r).length:=by have:=df isWordByte (c::r);omega
   split at h
   ·cases h;exact⟨rfl,Nat.lt_add_of_pos_right hl,Nat.add_le_add_left hle _,by dsimp only;rw[Nat.add_sub_cancel_left]⟩
   ·split at h
    ·cases h;exact⟨rfl,Nat.lt_add_of_pos_right hl,Nat.add_le_add_left hle _,by dsimp only;rw[Nat.add_sub_cancel_left]⟩
    ·cases h
  split at h
  ·rename_i hs;have hw:isCodeByte c=true:=by unfold isCodeByte;rw[hs];rfl
   have hl:0<((c::r).takeWhile isCodeByte).length:=by rw[List.takeWhile_cons,if_pos hw];simp
   have hle:((c::r).takeWhile isCodeByte).length<=(c::r).length:=by have:=df isCodeByte (c::r);omega
   split at h
   ·cases h;exact⟨rfl,Nat.lt_add_of_pos_right hl,Nat.add_le_add_left hle _,by dsimp only;rw[Nat.add_sub_cancel_left]⟩
   ·cases h
  split at h
  ·split at h
   ·rename_i hn;cases h;have hl:0<((c::r).take ((c::r).length - (digitsIn (c::r)).2.length)).length:=by
     cases e:(c::r).take ((c::r).length - (digitsIn (c::r)).2.length) with
     |nil=>rw[e] at hn;cases hn
     |cons _ _=>simp
    refine⟨rfl,Nat.lt_add_of_pos_right hl,Nat.add_le_add_left (List.length_take_le' _ _) _,?_⟩;dsimp only;rw[Nat.add_sub_cancel_left,List.length_take,Nat.min_eq_left (Nat.sub_le _ _)];exact ND (xU _)
   ·cases h
  split at h
  ·split at h
   ·cases h
   ·rename_i x hx;cases h;obtain⟨i1,i2,i3⟩:=HN _ 0 (p+1) r x (Nat.le_refl _) hx;refine⟨rfl,by dsimp only;omega,by dsimp only;rw[List.length_cons];omega,?_⟩;dsimp only;rw[i3];obtain⟨m,hm⟩:∃m,x.2.1=p+1+m:=⟨x.2.1 - (p+1),↑2⟩
    rw[hm,show p+1+m - (p+1)=m from ↑2,show p+1+m - p=m+1 from ↑2];rfl
  ·split at h
   ·rename_i z hz;cases h;have hp:=List.find?_some hz;have hm:=List.mem_of_find?_eq_some hz;have hl:0<z.length:=by
     have:∀y∈SIGNS,0<y.length:=↑0
     exact this z hm
    have hle:z.length<=(c::r).length:=by
     have:=List.IsPrefix.length_le (List.isPrefixOf_iff_prefix.mp hp);exact this
    exact⟨rfl,Nat.lt_add_of_pos_right hl,Nat.add_le_add_left hle _,by dsimp only;rw[Nat.add_sub_cancel_left]⟩
   ·cases h
def Tn(p:Nat)(b:By):List Tok×Option Fault:=tokensIn (b.length+1) p b
theorem Hm:∀(n:Nat)(b:By),b.length<=n->∀(f g p:Nat),b.length<f->b.length<g->tokensIn f p b=tokensIn g p b:=by
 intro n;induction n with
 |zero=>
  intro b hb f g p hf hg;have:b=[]:=List.eq_nil_of_length_eq_zero ↑2;subst this;cases f <;> cases g <;> simp_all [tokensIn]
 |succ n ih=>
  intro b hb f g p hf hg;cases b with
  |nil=>cases f <;> cases g <;> simp_all [tokensIn]
  |cons c r=>
   cases f with
   |zero=>simp at hf
   |succ f=>
    cases g with
    |zero=>simp at hg
    |succ g=>
     simp only[List.length_cons] at hb hf hg;have hr:r.length<=n:=↑2
     simp only[tokensIn];split
     ·exact ih r hr f g _ ↑2 ↑2
     ·split
      ·split
       ·rfl
       ·exact ih _ (by rw[List.length_drop];omega) f g _ (by rw[List.length_drop];omega) (by rw[List.length_drop];omega)
      ·cases e:tokenIn p (c::r) with
       |error z=>rfl
       |ok x=>
        obtain⟨t,s⟩:=x;obtain⟨h1,h2,h3,h4⟩:=ie e;have hs:s.length<=r.length:=by rw[h4,List.length_drop,List.length_cons];omega
        dsimp only;rw[ih s ↑2 f g _ ↑2 ↑2]
theorem C_{f:Nat}(h:b.length<f):tokensIn f p b=Tn p b:=Hm b.length b (Nat.le_refl _) f _ p h (Nat.lt_succ_self _)
theorem Ea(b:By):tokens b=Tn 0 b:=rfl
theorem gB(p:Nat):Tn p []=([],none):=rfl
theorem iC(h:isBlank c=true):Tn p (c::r)=Tn (p+1) r:=by unfold Tn;simp only[List.length_cons,tokensIn];rw[if_pos h]
theorem m_(h:isBlank c=false)(h35:c≠35):
  Tn p (c::r)=(match tokenIn p (c::r) with| .error e=>([],some e)| .ok (t,s)=>(t::(Tn t.halt_ s).1,(Tn t.halt_ s).2)):=by
 unfold Tn;simp only[List.length_cons,tokensIn];rw[if_neg (by rw[h];decide),if_neg h35];cases e:tokenIn p (c::r) with
 |error z=>rfl
 |ok x=>
  obtain⟨t,s⟩:=x;obtain⟨h1,h2,h3,h4⟩:=ie e;have hs:s.length<=r.length:=by rw[h4,List.length_drop,List.length_cons];omega
  dsimp only;rw[C_ (by omega:s.length<r.length+1)];rfl
theorem Gk(h:isSeen c=false):tokenIn p (c::r)= .error (1,p):=by
 have hn:¬(32<=c.toNat/\c.toNat<=126):=by
  intro z;unfold isSeen at h;rw[decide_eq_true (show(32:UInt8)<=c from tS.mpr z.1),decide_eq_true (show c<=(126:UInt8) from tS.mpr z.2)] at h;cases h
 have b1:∀(a m:UInt8),32<=a.toNat->m.toNat<=126->(decide (a<=c)&&decide (c<=m))=false:=by
  intro a m ha hm;by_cases z:a<=c
  ·by_cases y:c<=m
   ·have:=tS.mp z;have:=tS.mp y;exact absurd ⟨↑2,↑2⟩ hn
   ·rw[decide_eq_false y,Bool.and_false]
  ·rw[decide_eq_false z];rfl
 have ne:∀(d:UInt8),32<=d.toNat->d.toNat<=126->c≠d:=λd h1 h2 e=>hn (by rw[e];exact⟨h1,h2⟩);unfold tokenIn;dsimp only;rw[if_neg (by unfold isSmall;rw[b1 97 122 ↑0 ↑0];decide),if_neg (by unfold isBig;rw[b1 65 90 ↑0 ↑0];decide),
  if_neg (by unfold isDigit;rw[b1 48 57 ↑0 ↑0];decide),if_neg (ne 34 ↑0 ↑0)]
 have hf:(SIGNS.find? λ(s:Bytes)=>s.isPrefixOf (c::r))=none:=by
  rw[List.find?_eq_none];intro s hs hp;have hh:∀y∈SIGNS,∃d z,y=d::z/\32<=d.toNat/\d.toNat<=126:=by
   have q:SIGNS.all (λy=>match y with|[]=>false|d::z=>decide (32<=d.toNat)&&decide (d.toNat<=126))=true:=↑0
   intro y hy;have:=List.all_eq_true.mp q y hy;cases y with
   |nil=>cases this
   |cons d z=>simp only[Bool.and_eq_true,decide_eq_true_eq] at this;exact⟨d,z,rfl,this.1,this.2⟩
  obtain⟨d,z,rfl,h1,h2⟩:=hh s hs;have:=List.isPrefixOf_iff_prefix.mp hp;have e:d=c:=by
   obtain⟨t,ht⟩:=this;injection ht
  exact ne d h1 h2 e.symm
 rw[hf]
theorem lD:Tn p (35::r)=Tn (p+((35::r).takeWhile isSeen).length) ((35::r).drop ((35::r).takeWhile isSeen).length):=by
 have e35:isSeen 35=true:=↑0
 rw[List.takeWhile_cons,if_pos e35,List.length_cons,List.drop_succ_cons];have key:∀(r:By),(match(r.takeWhile λ(x:UInt8)=>x != 10).findIdx? λ(x:UInt8)=>!isSeen x with
   |some i=>i=(r.takeWhile isSeen).length/\∃c z,r.drop i=c::z/\isSeen c=false/\c≠10
   |none=>r.takeWhile isSeen=r.takeWhile λ(x:UInt8)=>x != 10):=by
  intro r;induction r with
  |nil=>simp
  |cons c r ih=>
   by_cases h10:c=10
   ·subst h10;simp[List.takeWhile_cons,show isSeen 10=false from ↑0]
   ·have hb:(c != 10)=true:=by simp[h10]
    rw[List.takeWhile_cons,if_pos hb,List.findIdx?_cons];cases hs:isSeen c with
    |false=>
     simp only[Bool.not_false,if_true];rw[List.takeWhile_cons,if_neg (by rw[hs];decide)];exact⟨rfl,c,r,rfl,hs,h10⟩
    |true=>
     simp only[Bool.not_true,Bool.false_eq_true,if_false];rw[List.takeWhile_cons,if_pos hs];cases hf:(r.takeWhile λ(x:UInt8)=>x != 10).findIdx? λ(x:UInt8)=>!isSeen x with
     |none=>
      rw[hf] at ih;simp only[Option.map_none];rw[show r.takeWhile isSeen=_ from ih]
     |some i=>
      rw[hf] at ih;simp only[Option.map_some];obtain⟨h1,h2⟩:=ih;exact⟨by rw[h1];rfl,h2⟩
 have hk:=key r;have hL:Tn p (35::r)=(match(r.takeWhile λ(x:UInt8)=>x != 10).findIdx? λ(x:UInt8)=>!isSeen x with
    |some i=>([],some (1,p+1+i))
    |none=>tokensIn (r.length+1) (p+1+(r.takeWhile λ(x:UInt8)=>x != 10).length) (r.drop (r.takeWhile λ(x:UInt8)=>x != 10).length)):=by
  show tokensIn ((35::r).length+1) p (35::r)=_;simp only[List.length_cons,tokensIn];rw[if_neg ↑0,if_pos True.intro];rfl
 rw[hL];cases hf:(r.takeWhile λ(x:UInt8)=>x != 10).findIdx? λ(x:UInt8)=>!isSeen x with
 |none=>
  rw[hf] at hk;have hk:r.takeWhile isSeen=r.takeWhile λ(x:UInt8)=>x != 10:=hk;dsimp only;rw[C_ (by rw[List.length_drop];omega),hk];congr 1;omega
 |some i=>
  rw[hf] at hk;obtain⟨h1,c,z,h2,h3,h4⟩:=hk;dsimp only;rw[<-h1,h2];have hb:isBlank c=false:=by
   unfold isBlank;have e1:c≠32:=λe=>by rw[e] at h3;exact absurd h3 ↑0
   have e2:c≠59:=λe=>by rw[e] at h3;exact absurd h3 ↑0
   simp[e1,e2,h4]
  have h35:c≠35:=λe=>by rw[e] at h3;exact absurd h3 ↑0
  rw[m_ hb h35,Gk h3];dsimp only;rw[show p+(i+1)=p+1+i from ↑2]
theorem jU(h:isDigit c=true):pointIn (46::c::r)=(some ((c::r).takeWhile isDigit),(c::r).dropWhile isDigit):=by simp[pointIn,h]
theorem j9{x:By}(h:∀c r,x=46::c::r->isDigit c=false):pointIn x=(none,x):=by
 unfold pointIn;split
 ·rename_i c r;rw[if_neg (by rw[h c r rfl];decide)]
 ·rfl
theorem qJ(h:isDigit c=true):expoIn (101::45::c::r)=(some (true,(c::r).takeWhile isDigit),(c::r).dropWhile isDigit):=by simp[expoIn,h]
theorem sq(h:isDigit c=true):expoIn (101::c::r)=(some (false,(c::r).takeWhile isDigit),(c::r).dropWhile isDigit):=by
 have hc:c≠45:=λe=>by rw[e] at h;exact absurd h ↑0
 unfold expoIn;split
 ·rename_i heq;injection heq with _ h2;injection h2 with h3 _;exact absurd h3 hc
 ·rename_i heq;injection heq with _ h2;injection h2 with h3 h4;subst h3;subst h4;rw[if_pos h]
 ·rename_i h1 h2;exact absurd rfl (h2 c r)
theorem gv{x:By}(h1:∀c r,x=101::45::c::r->isDigit c=false)(h2:∀c r,x=101::c::r->isDigit c=false):expoIn x=(none,x):=by
 unfold expoIn;split
 ·rename_i c r;rw[if_neg (by rw[h1 c r rfl];decide)]
 ·rename_i c r _;rw[if_neg (by rw[h2 c r rfl];decide)]
 ·rfl
theorem sD{x:By}{m:Nat}{l s:By}(h:x.take m=l++s):∃s',x=l++s':=by have:=List.take_append_drop m x;rw[h,List.append_assoc] at this;exact⟨_,this.symm⟩
theorem Cc(x:By)(m:Nat)(h:x.length - (pointIn x).2.length<=m):
  pointIn (x.take m)=((pointIn x).1,(pointIn x).2.take (m - (x.length - (pointIn x).2.length))):=by
 by_cases q:∃c r,x=46::c::r/\isDigit c=true
 ·obtain⟨c,r,rfl,hc⟩:=q;rw[jU hc] at h ⊢;dsimp only at h ⊢;have l:=df isDigit (c::r);have l1:1<=((c::r).takeWhile isDigit).length:=by rw[List.takeWhile_cons,if_pos hc];simp
  simp only[List.length_cons] at h l ⊢;obtain⟨n,rfl⟩:∃n,m=n+2:=⟨m - 2,↑2⟩
  show pointIn (46::c::r.take n)=_;rw[jU hc];have e1:c::r.take n=(c::r).take (n+1):=rfl;rw[e1,eA _ _ _ ↑2,i_ _ _ _ ↑2];congr 2;omega
 ·have ex:pointIn x=(none,x):=j9 λc r e=>by
   cases z:isDigit c with
   |false=>rfl
   |true=>exact absurd ⟨c,r,e,z⟩ q
  have et:pointIn (x.take m)=(none,x.take m):=j9 λc r e=>by
   cases z:isDigit c with
   |false=>rfl
   |true=>
    obtain⟨s',es⟩:=sD (l:=[46,c]) (s:=r) (by rw[e];rfl);exact absurd ⟨c,s',es,z⟩ q
  rw[et,ex];dsimp only;rw[Nat.sub_self,Nat.sub_zero]
theorem EY(x:By)(m:Nat)(h:x.length - (expoIn x).2.length<=m):
  expoIn (x.take m)=((expoIn x).1,(expoIn x).2.take (m - (x.length - (expoIn x).2.length))):=by
 by_cases q1:∃c r,x=101::45::c::r/\isDigit c=true
 ·obtain⟨c,r,rfl,hc⟩:=q1;rw[qJ hc] at h ⊢;dsimp only at h ⊢;have l:=df isDigit (c::r);have l1:1<=((c::r).takeWhile isDigit).length:=by rw[List.takeWhile_cons,if_pos hc];simp
  simp only[List.length_cons] at h l ⊢;obtain⟨n,rfl⟩:∃n,m=n+3:=⟨m - 3,↑2⟩
  show expoIn (101::45::c::r.take n)=_;rw[qJ hc];have e1:c::r.take n=(c::r).take (n+1):=rfl;rw[e1,eA _ _ _ ↑2,i_ _ _ _ ↑2];congr 2;omega
 by_cases q2:∃c r,x=101::c::r/\isDigit c=true
 ·obtain⟨c,r,rfl,hc⟩:=q2;rw[sq hc] at h ⊢;dsimp only at h ⊢;have l:=df isDigit (c::r);have l1:1<=((c::r).takeWhile isDigit).length:=by rw[List.takeWhile_cons,if_pos hc];simp
  simp only[List.length_cons] at h l ⊢;obtain⟨n,rfl⟩:∃n,m=n+2:=⟨m - 2,↑2⟩
  show expoIn (101::c::r.take n)=_;rw[sq hc];have e1:c::r.take n=(c::r).take (n+1):=rfl;rw[e1,eA _ _ _ ↑2,i_ _ _ _ ↑2];congr 2;omega
 ·have ex:expoIn x=(none,x):=gv (λc r e=>by
   cases z:isDigit c with
   |false=>rfl
   |true=>exact absurd ⟨c,r,e,z⟩ q1) (λc r e=>by
   cases z:isDigit c with
   |false=>rfl
   |true=>exact absurd ⟨c,r,e,z⟩ q2)
  have et:expoIn (x.take m)=(none,x.take m):=gv (λc r e=>by
   cases z:isDigit c with
   |false=>rfl
   |true=>
    obtain⟨s',es⟩:=sD (l:=[101,45,c]) (s:=r) (by rw[e];rfl);exact absurd ⟨c,s',es,z⟩ q1) (λc r e=>by
   cases z:isDigit c with
   |false=>rfl
   |true=>
    obtain⟨s',es⟩:=sD (l:=[101,c]) (s:=r) (by rw[e];rfl);exact absurd ⟨c,s',es,z⟩ q2)
  rw[et,ex];dsimp only;rw[Nat.sub_self,Nat.sub_zero]
theorem zQ(b:By):digitsIn (b.take (b.length - (digitsIn b).2.length))=((digitsIn b).1,[]):=by
 obtain⟨k1,h1,e1⟩:=iD (b.dropWhile isDigit);obtain⟨k2,h2,e2⟩:=jF (pointIn (b.dropWhile isDigit)).2;have l0:=df isDigit b;have l3:=df isMarkByte (expoIn (pointIn (b.dropWhile isDigit)).2).2;have lr:(digitsIn b).2=(expoIn (pointIn (b.dropWhile isDigit)).2).2.dropWhile isMarkByte:=rfl;have lp:(pointIn (b.dropWhile isDigit)).2.length<=(b.dropWhile isDigit).length:=by rw[e1,List.length_drop];omega
 have le:(expoIn (pointIn (b.dropWhile isDigit)).2).2.length<=(pointIn (b.dropWhile isDigit)).2.length:=by rw[e2,List.length_drop];omega
 generalize hn:b.length - (digitsIn b).2.length=n;rw[lr] at hn;have a1:=eA isDigit b n ↑2;have a2:=i_ isDigit b n ↑2;have a3:=Cc (b.dropWhile isDigit) (n - (b.takeWhile isDigit).length) ↑2;generalize hm:n - (b.takeWhile isDigit).length - ((b.dropWhile isDigit).length - (pointIn (b.dropWhile isDigit)).2.length)=m at a3;have a4:=EY (pointIn (b.dropWhile isDigit)).2 m ↑2;generalize hm':m - ((pointIn (b.dropWhile isDigit)).2.length - (expoIn (pointIn (b.dropWhile isDigit)).2).2.length)=m' at a4;have a5:=eA isMarkByte (expoIn (pointIn (b.dropWhile isDigit)).2).2 m' ↑2;have a6:=i_ isMarkByte (expoIn (pointIn (b.dropWhile isDigit)).2).2 m' ↑2;unfold digitsIn;dsimp only;rw[a1,a2,a3];dsimp only;rw[a4];dsimp only;rw[a5,a6,show m' - ((expoIn (pointIn (b.dropWhile isDigit)).2).2.takeWhile isMarkByte).length=0 from ↑2,List.take_zero]
theorem ug(hc:isDigit c=true):isNumber ((c::r).take ((c::r).length - (digitsIn (c::r)).2.length))=
  (decide ((c::r).length - (digitsIn (c::r)).2.length<=255)&&(digitsIn (c::r)).1.right):=by
 have hs:(digitsIn (c::r)).2.length<=r.length:=by
  have l0:=df isDigit (c::r);rw[List.takeWhile_cons,if_pos hc,List.length_cons] at l0;obtain⟨k1,h1,e1⟩:=iD ((c::r).dropWhile isDigit);obtain⟨k2,h2,e2⟩:=jF (pointIn ((c::r).dropWhile isDigit)).2;have l3:=df isMarkByte (expoIn (pointIn ((c::r).dropWhile isDigit)).2).2;show((expoIn (pointIn ((c::r).dropWhile isDigit)).2).2.dropWhile isMarkByte).length<=_;rw[e2,e1] at l3 ⊢;simp only[List.length_drop,List.length_cons] at l3 l0 ⊢;omega
 unfold isNumber;rw[zQ];have hh:((c::r).take ((c::r).length - (digitsIn (c::r)).2.length)).head?.any isDigit=true:=by
  obtain⟨n,hn⟩:∃n,(c::r).length - (digitsIn (c::r)).2.length=n+1:=⟨r.length - (digitsIn (c::r)).2.length,by rw[List.length_cons];omega⟩
  rw[hn];simp[hc]
 rw[hh];simp only[List.isEmpty_nil,Bool.true_and,List.length_take,Nat.min_eq_left (Nat.sub_le _ _)];rfl
def aP(b:By)(q:Nat):Nat:=if cQ b q=46/\bZ (cQ b (q+1))=true then aK isDigit b (q+1) else q
def gA(b:By)(q:Nat):Nat:=if cQ b (q+1)=45 then q+2 else q+1
def aQ(b:By)(q:Nat):Nat:=if cQ b q=101 then(if bZ (cQ b (gA b q))=true then aK isDigit b (gA b q) else q) else q
def cut(b:By)(i j:Nat):By:=(b.drop i).take (j - i)
theorem bY{q:Nat}(h:b[q]?=some c):cQ b q=c.toNat:=by unfold cQ;rw[h]
theorem iB{q:Nat}(h:b[q]?=none):cQ b q= -1:=by unfold cQ;rw[h]
theorem gQ{q n:Nat}{m:UInt8}(hm:m.toNat=n):cQ b q=(n:Int)↔b[q]?=some m:=by
 cases h:b[q]? with
 |none=>rw[iB h];exact⟨λz=>↑2,λz=>by cases z⟩
 |some c=>
  rw[bY h];constructor
  ·intro z;rw[show c=m from jb.mpr ↑2]
  ·intro z;cases z;omega
theorem dy{q:Nat}:bZ (cQ b q)=true↔∃c,b[q]?=some c/\isDigit c=true:=by
 cases h:b[q]? with
 |none=>rw[iB h];exact⟨λz=>by exact absurd z ↑0,λ⟨c,e,_⟩=>by cases e⟩
 |some c=>
  rw[bY h,fB];exact⟨λz=>⟨c,rfl,z⟩,λ⟨d,e,z⟩=>by cases e;exact z⟩
theorem qr(q:UInt8->Bool)(b:By)(p:Nat):cut b p (aK q b p)=(b.drop p).takeWhile q:=by unfold cut aK;rw[Nat.add_sub_cancel_left,<-gJ]
theorem wL(b:By)(q:Nat):(pointIn (b.drop q)).2=b.drop (aP b q)/\((pointIn (b.drop q)).1=none↔aP b q=q)/\q<=aP b q/\(q<=b.length->aP b q<=b.length):=by
 unfold aP;by_cases h:cQ b q=46/\bZ (cQ b (q+1))=true
 ·rw[if_pos h];obtain⟨c,e2,hc⟩:=dy.mp h.2;have e1:=(gQ (m:=46) (n:=46) rfl).mp h.1;have d1:=bo e1;have d2:=bo e2;rw[d1,d2,jU hc];dsimp only;have hlt:q+1<b.length:=(List.getElem?_eq_some_iff.mp e2).1;refine⟨by rw[gj,d2],⟨(λz=>by cases z),λz=>?_⟩,(by have:=bP isDigit b (q+1);omega),λ_=>dN _ ↑2⟩;have:=bP isDigit b (q+1);omega
 ·rw[if_neg h,j9 λc r e=>by
   cases z:isDigit c with
   |false=>rfl
   |true=>
    obtain⟨g1,g2⟩:=bH e;obtain⟨g3,g4⟩:=bH g2.symm;exact absurd ⟨(gQ (m:=46) (n:=46) rfl).mpr g1,dy.mpr ⟨c,g3,z⟩⟩ h]
  exact⟨rfl,⟨λ_=>rfl,λ_=>rfl⟩,Nat.le_refl _,λz=>z⟩
def cF:Option (Bool×By)->By
 |none=>[]
 |some (true,d)=>101::45::d
 |some (false,d)=>101::d
theorem BW(b:By)(q:Nat):(expoIn (b.drop q)).2=b.drop (aQ b q)/\cut b q (aQ b q)=cF (expoIn (b.drop q)).1/\q<=aQ b q/\(q<=b.length->aQ b q<=b.length)/\
  (∀x,(expoIn (b.drop q)).1=some x->∃c d,x.2=c::d/\isDigit c=true):=by
 have none_case:aQ b q=q->expoIn (b.drop q)=(none,b.drop q)->(expoIn (b.drop q)).2=b.drop (aQ b q)/\cut b q (aQ b q)=cF (expoIn (b.drop q)).1/\q<=aQ b q/\(q<=b.length->aQ b q<=b.length)/\
   (∀x,(expoIn (b.drop q)).1=some x->∃c d,x.2=c::d/\isDigit c=true):=λh1 h2=>by
  rw[h1,h2];refine⟨rfl,?_,Nat.le_refl _,λz=>z,λx e=>by cases e⟩;unfold cut;rw[Nat.sub_self,List.take_zero];rfl
 by_cases h:cQ b q=101
 ·have e1:=(gQ (m:=101) (n:=101) rfl).mp h;have d1:=bo e1;by_cases hm:cQ b (q+1)=45
  ·have e2:=(gQ (m:=45) (n:=45) rfl).mp hm;have d2:=bo e2;have hd:gA b q=q+2:=by unfold gA;rw[if_pos hm]
   by_cases hc:bZ (cQ b (q+2))=true
   ·obtain⟨c,e3,hc'⟩:=dy.mp hc;have d3:=bo e3;have hE:aQ b q=aK isDigit b (q+2):=by unfold aQ;rw[if_pos h,hd,if_pos hc]
    have hlt:q+2<b.length:=(List.getElem?_eq_some_iff.mp e3).1;have ge:=bP isDigit b (q+2);rw[hE,d1,d2,d3,qJ hc'];dsimp only;refine⟨by rw[gj,d3],?_,↑2,λ_=>dN _ ↑2,λx e=>?_⟩
    ·unfold cut cF;rw[d1,d2,d3];have:aK isDigit b (q+2) - q=((c::b.drop (q+2+1)).takeWhile isDigit).length+2:=by
      unfold aK;rw[d3];omega
     rw[this,List.take_succ_cons,List.take_succ_cons,<-gJ]
    ·cases e;exact⟨c,_,by dsimp only;rw[List.takeWhile_cons,if_pos hc'],hc'⟩
   ·refine none_case (by unfold aQ;rw[if_pos h,hd,if_neg hc]) ?_;rw[d1,d2];refine gv (λc r e=>?_) (λc r e=>?_)
    ·injection e with _ e;injection e with _ e;cases z:isDigit c with
     |false=>rfl
     |true=>exact absurd (dy.mpr ⟨c,(bH e).1,z⟩) hc
    ·injection e with _ e;injection e with e _;rw[<-e];decide
  ·have hd:gA b q=q+1:=by unfold gA;rw[if_neg hm]
   by_cases hc:bZ (cQ b (q+1))=true
   ·obtain⟨c,e3,hc'⟩:=dy.mp hc;have d3:=bo e3;have hE:aQ b q=aK isDigit b (q+1):=by unfold aQ;rw[if_pos h,hd,if_pos hc]
    have hlt:q+1<b.length:=(List.getElem?_eq_some_iff.mp e3).1;have ge:=bP isDigit b (q+1);rw[hE,d1,d3,sq hc'];dsimp only;refine⟨by rw[gj,d3],?_,↑2,λ_=>dN _ ↑2,λx e=>?_⟩
    ·unfold cut cF;rw[d1,d3];have:aK isDigit b (q+1) - q=((c::b.drop (q+1+1)).takeWhile isDigit).length+1:=by
      unfold aK;rw[d3];omega
     rw[this,List.take_succ_cons,<-gJ]
    ·cases e;exact⟨c,_,by dsimp only;rw[List.takeWhile_cons,if_pos hc'],hc'⟩
   ·refine none_case (by unfold aQ;rw[if_pos h,hd,if_neg hc]) ?_;rw[d1];refine gv (λc r e=>?_) (λc r e=>?_)
    ·injection e with _ e;obtain⟨g1,g2⟩:=bH e;exact absurd ((gQ (m:=45) (n:=45) rfl).mpr g1) hm
    ·injection e with _ e;cases z:isDigit c with
     |false=>rfl
     |true=>exact absurd (dy.mpr ⟨c,(bH e).1,z⟩) hc
 ·refine none_case (by unfold aQ;rw[if_neg h]) ?_;refine gv (λc r e=>?_) (λc r e=>?_)
  ·exact absurd ((gQ (m:=101) (n:=101) rfl).mpr (bH e).1) h
  ·exact absurd ((gQ (m:=101) (n:=101) rfl).mpr (bH e).1) h
def MK:List UInt8:=[109,120,100,115,104,105,112]
def oY(m:By):Bool:=decide (m=[])||(decide (m.length=1)&&(match m with|[]=>false|a::_=>MK.contains a))
def iU(d f e:By):Bool:=(decide (f=[])&&decide (e=[]))&&decide (d.length<=31)
def isNeg(e:By):Bool:=decide (cQ e 1=45)
def cH(e:By):By:=if isNeg e=true then e.drop 2 else e.drop 1
def Fj(e:By):Bool:=if cQ (cH e) 0=48 then decide ((cH e).length=1)&&!isNeg e else decide ((cH e).length<=5)
def da(d f e m:By):Bool:=
 if 255<d.length+f.length+e.length+m.length then false
 else if oY m=false then false
 else if m=[112] then iU d f e
 else if 1<d.length/\cQ d 0=48 then false
 else if e=[] then true
 else !decide (m=[])&&Fj e
theorem Hv(m:By):oY m=MARKS.contains m:=by
 have hM:MARKS=[[],[109],[120],[100],[115],[104],[105],[112]]:=↑0
 rw[hM];unfold oY MK
 match m with
 |[]=>rfl
 |[a]=>
  simp only[List.length_cons,List.length_nil,List.contains_cons,List.contains_nil,Bool.or_false];have:∀x y:UInt8,([x]==[y])=(x==y):=λx y=>by
   by_cases h:x=y <;> simp[h]
  simp[this]
 |a::c::r=>
  simp
theorem zh{d:By}:plain (c::d)=!(decide (1<(c::d).length)&&decide (cQ (c::d) 0=48)):=by
 have hb:cQ (c::d) 0=c.toNat:=rfl;have e0:decide (cQ (c::d) 0=48)=decide (c=48):=by rw[hb];exact Cj (n:=48) (m:=48) rfl
 rw[e0];unfold plain;by_cases h:c=48
 ·subst h;cases d with
  |nil=>rfl
  |cons _ _=>simp
 ·simp[h]
theorem JA{neg:Bool}{d:By}(hc:isDigit c=true)(mk:By):Fj (cF (some (neg,c::d)))=(plain (c::d)&&(decide ((c::d).length<=5)&&(!(neg&&(c::d)==[48])))):=by
 have n1:isNeg (cF (some (neg,c::d)))=neg:=by
  cases neg with
  |true=>rfl
  |false=>
   show decide (cQ (101::c::d) 1=45)=false;have hb:cQ (101::c::d) 1=c.toNat:=rfl;rw[hb,show decide ((c.toNat:Int)=45)=decide (c=45) from Cj (n:=45) (m:=45) rfl];exact decide_eq_false λe=>by rw[e] at hc;exact absurd hc ↑0
 have n2:cH (cF (some (neg,c::d)))=c::d:=by unfold cH;rw[n1];cases neg <;> rfl
 unfold Fj;rw[n1,n2];have hb:cQ (c::d) 0=c.toNat:=rfl;rw[zh,hb];by_cases h:c=48
 ·subst h;rw[if_pos ↑0];cases d with
  |nil=>cases neg <;> rfl
  |cons x y=>simp
 ·have hn:¬((c.toNat:Int)=48):=λe=>h (jb.mpr (by have:(48:UInt8).toNat=48:=rfl;omega));rw[if_neg hn,decide_eq_false hn];simp[h]
theorem N5(hb:b.drop p=c::r)(hc:isDigit c=true):
  (digitsIn (b.drop p)).2=b.drop (aK isMarkByte b (aQ b (aP b (aK isDigit b p))))/\p<aK isDigit b p/\aK isDigit b p<=aP b (aK isDigit b p)/\
  aP b (aK isDigit b p)<=aQ b (aP b (aK isDigit b p))/\aK isMarkByte b (aQ b (aP b (aK isDigit b p)))<=b.length/\
  (b.drop p).length - (digitsIn (b.drop p)).2.length=aK isMarkByte b (aQ b (aP b (aK isDigit b p))) - p/\
  isNumber ((b.drop p).take ((b.drop p).length - (digitsIn (b.drop p)).2.length))=da (cut b p (aK isDigit b p)) (cut b (aK isDigit b p) (aP b (aK isDigit b p)))
   (cut b (aP b (aK isDigit b p)) (aQ b (aP b (aK isDigit b p)))) (cut b (aQ b (aP b (aK isDigit b p))) (aK isMarkByte b (aQ b (aP b (aK isDigit b p))))):=by
 have hp:p<b.length:=by
  have:=congrArg List.length hb;rw[List.length_drop,List.length_cons] at this;omega
 have cf:=qr isDigit b p;have r1:=gj isDigit b p;have g1:p<aK isDigit b p:=by
  unfold aK;rw[hb,List.takeWhile_cons,if_pos hc,List.length_cons];omega
 have l1:=dN isDigit (b:=b) (p:=p) ↑2;generalize hde:aK isDigit b p=de at*;obtain⟨f1,f2,f3,f4⟩:=wL b de;have l2:=f4 l1;generalize hfe:aP b de=fe at*;obtain⟨x1,x2,x3,x4,x5⟩:=BW b fe;have l3:=x4 l2;generalize hee:aQ b fe=ee at*;have cm:=qr isMarkByte b ee;have r4:=gj isMarkByte b ee;have g4:=bP isMarkByte b ee;have l4:=dN isMarkByte (b:=b) (p:=ee) l3;generalize hme:aK isMarkByte b ee=me at*;have hD:digitsIn (b.drop p)=(⟨cut b p de,(pointIn (b.drop de)).1,(expoIn (b.drop fe)).1,cut b ee me⟩,b.drop me):=by
  unfold digitsIn;dsimp only;rw[cf,<-r1,f1,x1,cm,<-r4]
 have hlen:(b.drop p).length - (digitsIn (b.drop p)).2.length=me - p:=by
  rw[hD];simp only[List.length_drop];omega
 refine⟨by rw[hD],g1,f3,x3,l4,hlen,?_⟩;have hN:=ug (c:=c) (r:=r) hc;rw[<-hb] at hN;rw[hN,hlen,hD];have L1:(cut b p de).length=de - p:=by unfold cut;rw[List.length_take,List.length_drop];omega
 have L2:(cut b de fe).length=fe - de:=by unfold cut;rw[List.length_take,List.length_drop];omega
 have L3:(cut b fe ee).length=ee - fe:=by unfold cut;rw[List.length_take,List.length_drop];omega
 have L4:(cut b ee me).length=me - ee:=by unfold cut;rw[List.length_take,List.length_drop];omega
 have hsum:(cut b p de).length+(cut b de fe).length+(cut b fe ee).length+(cut b ee me).length=me - p:=↑2
 have hpt:(pointIn (b.drop de)).1.isNone=decide (cut b de fe=[]):=by
  by_cases z:fe=de
  ·rw[f2.mpr z];rw[decide_eq_true (List.eq_nil_of_length_eq_zero ↑2)];rfl
  ·have:cut b de fe≠[]:=λe=>by rw[e] at L2;simp at L2;omega
   rw[decide_eq_false this];cases e:(pointIn (b.drop de)).1 with
   |none=>exact absurd (f2.mp e) z
   |some _=>rfl
 obtain⟨c1,d1,hcd⟩:∃c1 d1,cut b p de=c1::d1:=by
  cases e:cut b p de with
  |nil=>rw[e] at L1;simp at L1;omega
  |cons x y=>exact⟨x,y,rfl⟩
 unfold da;rw[hsum];by_cases h255:255<me - p
 ·rw[if_pos h255,decide_eq_false ↑2];rfl
 rw[if_neg h255,decide_eq_true ↑2,Bool.true_and];unfold Digits.right;dsimp only;rw[<-Hv];cases hmk:oY (cut b ee me) with
 |false=>rfl
 |true=>
  rw[if_neg (show ¬(true=false) by decide),Bool.true_and];have hw:word "p"=[112]:=↑0
  rw[hw];by_cases hpk:cut b ee me=[112]
  ·rw[if_pos hpk,if_pos hpk,hpt];unfold iU;have hx:(expoIn (b.drop fe)).1.isNone=decide (cut b fe ee=[]):=by
    rw[x2];cases e:(expoIn (b.drop fe)).1 with
    |none=>rfl
    |some y=>obtain⟨n,z⟩:=y;cases n <;> rfl
   rw[hx,Bool.and_assoc]
  ·rw[if_neg hpk,if_neg hpk,hcd,zh];by_cases hz:1<(c1::d1).length/\cQ (c1::d1) 0=48
   ·rw[if_pos hz,decide_eq_true hz.1,decide_eq_true hz.2];rfl
   ·have:(decide (1<(c1::d1).length)&&decide (cQ (c1::d1) 0=48))=false:=by
     by_cases z1:1<(c1::d1).length
     ·rw[decide_eq_true z1,decide_eq_false (λz2=>hz ⟨z1,z2⟩)];rfl
     ·rw[decide_eq_false z1];rfl
    rw[if_neg hz,this,Bool.not_false,Bool.true_and,x2];cases e:(expoIn (b.drop fe)).1 with
    |none=>rfl
    |some y=>
     obtain⟨neg,ds⟩:=y;obtain⟨c2,d2,e2,hc2⟩:=x5 _ e;dsimp only at e2;subst e2;have hne:cF (some (neg,c2::d2))≠[]:=by cases neg <;> exact List.cons_ne_nil _ _
     rw[if_neg hne,JA hc2 []];dsimp only;have hem:(cut b ee me).isEmpty=decide (cut b ee me=[]):=by cases cut b ee me <;> rfl
     rw[hem];cases plain (c2::d2) <;> cases decide ((c2::d2).length<=5) <;> cases(neg&&(c2::d2)==[48]) <;> cases decide (cut b ee me=[]) <;> rfl
section
open PySem (Str)
def vd(w:By):Str:=⟨(w.map UInt8.toNat).toArray⟩
theorem DU{v w:By}(h:vd v=vd w):v=w:=by
 have h1:(v.map UInt8.toNat)=(w.map UInt8.toNat):=by
  have:=congrArg (λz:Str=>z.cps.toList) h;simpa[vd] using this
 have:∀(v w:By),v.map UInt8.toNat=w.map UInt8.toNat->v=w:=by
  intro v;induction v with
  |nil=>intro w e;cases w with
   |nil=>rfl
   |cons _ _=>simp at e
  |cons a v ih=>intro w e;cases w with
   |nil=>simp at e
   |cons b w=>simp only[List.map_cons,List.cons.injEq] at e;rw[jb.mpr e.1,ih w e.2]
 exact this v w h1
def q_(w:By):Str:=if w.all isSmall=true then vd w else Str.empty
def bL(t:Tok):Str:=
 if t.kind=0 then vd t.bytes else if t.kind=1 then "NAME" else if t.kind=2 then "CODE" else if t.kind=3 then "NUMBER" else if t.kind=4 then "TEXT"
 else if t.bytes=[37] then "percent" else vd t.bytes
noncomputable def JP:List Str:=KEYWORDS.map vd
theorem jn:∀w∈KEYWORDS,w.all isSmall=true/\w≠[]:=by
 have:(KEYWORDS.all λw=>w.all isSmall&&!w.isEmpty)=true:=↑1
 intro w hw;have:=List.all_eq_true.mp this w hw;simp only[Bool.and_eq_true,Bool.not_eq_true'] at this;exact⟨this.1,λe=>by rw[e] at this;exact absurd this.2 ↑0⟩
theorem Ef(w:By):decide (q_ w∈JP)=isKeyword w:=by
 unfold isKeyword;by_cases h:w∈KEYWORDS
 ·have hs:=(jn w h).1;rw[List.contains_iff_mem.mpr h];refine decide_eq_true ?_;unfold q_;rw[if_pos hs];exact List.mem_map.mpr ⟨w,h,rfl⟩
 ·have:KEYWORDS.contains w=false:=by
   cases e:KEYWORDS.contains w with
   |false=>rfl
   |true=>exact absurd (List.contains_iff_mem.mp e) h
  rw[this];refine decide_eq_false λm=>?_;unfold q_ at m;split at m
  ·obtain⟨v,hv,e⟩:=List.mem_map.mp m;exact h (by rw[<-DU e];exact hv)
  ·obtain⟨v,hv,e⟩:=List.mem_map.mp m;have:v=[]:=DU (v:=v) (w:=[]) e;exact(jn v hv).2 this
def Good(t:Tok):Prop:=(t.kind=0/\t.bytes∈KEYWORDS)\/(1<=t.kind/\t.kind<=4)\/(t.kind=5/\t.bytes∈SIGNS)
theorem I_{t:Tok}{s:By}(h:tokenIn p b= .ok (t,s)):Good t:=by
 unfold tokenIn at h;cases b with
 |nil=>cases h
 |cons c r=>
  dsimp only at h;split at h
  ·split at h
   ·rename_i hk;cases h;exact .inl ⟨rfl,List.contains_iff_mem.mp hk⟩
   ·split at h
    ·cases h;exact .inr (.inl ⟨Nat.le_refl _,(by show 1<=4;decide)⟩)
    ·cases h
  split at h
  ·split at h
   ·cases h;exact .inr (.inl ⟨(by show 1<=2;decide),(by show 2<=4;decide)⟩)
   ·cases h
  split at h
  ·split at h
   ·cases h;exact .inr (.inl ⟨(by show 1<=3;decide),(by show 3<=4;decide)⟩)
   ·cases h
  split at h
  ·split at h
   ·cases h
   ·cases h;exact .inr (.inl ⟨(by show 1<=4;decide),(by show 4<=4;decide)⟩)
  ·split at h
   ·rename_i hz;cases h;exact .inr (.inr ⟨rfl,List.mem_of_find?_eq_some hz⟩)
   ·cases h
def jj:List Str:=["(","[","{"]
def gF:List Str:=[")","]","}"]
def oC:List Str:=["-","+","*","/","//","percent","^","==","!=","<","<=",">",">=","->",".","not","or","and","as","of","then","spawn","resume","giving","picture"]
def jB:List Str:=[",","=",":","let","fn","record","account","use","return","raise","say","yield","post","from","match","is","while","for","in","to","with","try","catch"]
def eS(x:Str):Nat:=if x∈jj then 1 else if x∈gF then(if x="}" then 3 else 2) else if x∈oC then 4 else if x∈jB then 5 else 0
def qj(c:Nat)(l:List Nat):List Nat:=match c with
 |1=>0::l
 |2=>(match l.drop 1 with|[]=>[1]|k::r=>(k+1)::r)
 |3=>(match l.drop 1 with|[]=>[0]|_::r=>0::r)
 |4=>(match l with|[]=>[1]|k::r=>(k+1)::r)
 |5=>0::l.drop 1
 |_=>l
def KP(b:By):Nat:=if ADDWORDS.contains b=true then 4 else if RESETWORDS.contains b=true then 5 else 0
def K8(b:By):Nat:=if b=word "("\/b=word "["\/b=word "{" then 1 else if b=word ")"\/b=word "]" then 2 else if b=word "}" then 3 else if ADDING.contains b=true then 4 else if RESETS.contains b=true then 5 else 0
theorem y9{l:List Nat}{t:Tok}(h:t.kind=0):depthStep l t=qj (KP t.bytes) l:=by
 unfold depthStep KP;dsimp only;rw[h,if_neg ↑0,if_pos rfl];by_cases h1:ADDWORDS.contains t.bytes=true
 ·rw[if_pos h1,if_pos h1];rfl
 ·rw[if_neg h1,if_neg h1];by_cases h2:RESETWORDS.contains t.bytes=true
  ·rw[if_pos h2,if_pos h2];rfl
  ·rw[if_neg h2,if_neg h2];rfl
theorem yF{l:List Nat}{t:Tok}(h:t.kind=5):depthStep l t=qj (K8 t.bytes) l:=by
 unfold depthStep K8;dsimp only;rw[h,if_pos rfl];by_cases h1:t.bytes=word "("\/t.bytes=word "["\/t.bytes=word "{"
 ·rw[if_pos h1,if_pos h1];rfl
 rw[if_neg h1,if_neg h1];by_cases h2:t.bytes=word ")"\/t.bytes=word "]"
 ·rw[if_pos h2,if_pos h2];rfl
 rw[if_neg h2,if_neg h2];by_cases h3:t.bytes=word "}"
 ·rw[if_pos h3,if_pos h3];rfl
 rw[if_neg h3,if_neg h3];by_cases h4:ADDING.contains t.bytes=true
 ·rw[if_pos h4,if_pos h4];rfl
 rw[if_neg h4,if_neg h4];by_cases h5:RESETS.contains t.bytes=true
 ·rw[if_pos h5,if_pos h5];rfl
 rw[if_neg h5,if_neg h5];rfl
theorem HA:∀w∈KEYWORDS,eS (vd w)=KP w:=by
 have:(KEYWORDS.all λw=>decide (eS (vd w)=KP w))=true:=↑1
 intro w hw;exact of_decide_eq_true (List.all_eq_true.mp this w hw)
theorem Jc:∀w∈SIGNS,eS (if w=[37] then "percent" else vd w)=K8 w:=by
 have:(SIGNS.all λw=>decide (eS (if w=[37] then "percent" else vd w)=K8 w))=true:=↑1
 intro w hw;exact of_decide_eq_true (List.all_eq_true.mp this w hw)
theorem eU{l:List Nat}{t:Tok}(g:Good t):depthStep l t=qj (eS (bL t)) l:=by
 rcases g with⟨h,hb⟩|⟨h1,h2⟩|⟨h,hb⟩
 ·rw[y9 h,<-HA _ hb];unfold bL;rw[if_pos h]
 ·have hd:depthStep l t=l:=by
   unfold depthStep;dsimp only;rw[if_neg ↑2,if_neg ↑2]
  rw[hd];have:eS (bL t)=0:=by
   unfold bL;rw[if_neg ↑2];have k:t.kind=1\/t.kind=2\/t.kind=3\/t.kind=4:=↑2
   rcases k with k|k|k|k
   ·rw[if_pos k];decide+kernel
   ·rw[if_neg ↑2,if_pos k];decide+kernel
   ·rw[if_neg ↑2,if_neg ↑2,if_pos k];decide+kernel
   ·rw[if_neg ↑2,if_neg ↑2,if_neg ↑2,if_pos k];decide+kernel
  rw[this];rfl
 ·have e:bL t=(if t.bytes=[37] then Str.ofString "percent" else vd t.bytes):=by
   unfold bL;rw[if_neg (by rw[h];decide),if_neg (by rw[h];decide),if_neg (by rw[h];decide),if_neg (by rw[h];decide),if_neg (by rw[h];decide)]
  rw[yF h,e,Jc _ hb]
theorem ON{c:Nat}{l:List Nat}(h:l≠[]):qj c l≠[]:=by
 unfold qj;split
 ·exact List.cons_ne_nil _ _
 ·split <;> exact List.cons_ne_nil _ _
 ·split <;> exact List.cons_ne_nil _ _
 ·split <;> exact List.cons_ne_nil _ _
 ·exact List.cons_ne_nil _ _
 ·exact h
def cW:List Tok->List Nat×Nat
 |ts=>ts.foldl (λx t=>(depthStep x.1 t,max x.2 (depthNow (depthStep x.1 t)))) ([0],0)
theorem iy:∀(ts:List Tok)(l:List Nat)(m:Nat),depthFrom l m ts=(ts.foldl (λx t=>(depthStep x.1 t,max x.2 (depthNow (depthStep x.1 t)))) (l,m)).2
 |[],l,m=>rfl
 |t::r,l,m=>by
  rw[depthFrom,List.foldl_cons];exact iy r _ _
theorem Fd(b:By):depth b=(cW (tokens b).1).2:=iy _ _ _
theorem nh(ts:List Tok)(t:Tok):cW (ts++[t])=(depthStep (cW ts).1 t,max (cW ts).2 (depthNow (depthStep (cW ts).1 t))):=by unfold cW;rw[List.foldl_append];rfl
theorem DE(ts:List Tok)(g:∀t∈ts,Good t):(cW ts).1≠[]:=by
 have:∀(ts:List Tok)(x:List Nat×Nat),x.1≠[]->(∀t∈ts,Good t)->(ts.foldl (λx t=>(depthStep x.1 t,max x.2 (depthNow (depthStep x.1 t)))) x).1≠[]:=by
  intro ts;induction ts with
  |nil=>intro x h _;exact h
  |cons t ts ih=>
   intro x h g;rw[List.foldl_cons];exact ih _ (by dsimp only;rw[eU (g t (by simp))];exact ON h) λu hu=>g u (by simp[hu])
 exact this ts _ (List.cons_ne_nil _ _) g
theorem qH:∀(n:Nat)(p:Nat)(b:By),b.length<=n->∀t∈(Tn p b).1,Good t:=by
 intro n;induction n with
 |zero=>
  intro p b hb t ht;have:b=[]:=List.eq_nil_of_length_eq_zero ↑2;subst this;rw[gB] at ht;simp at ht
 |succ n ih=>
  intro p b hb t ht;cases b with
  |nil=>rw[gB] at ht;simp at ht
  |cons c r=>
   simp only[List.length_cons] at hb;cases h1:isBlank c with
   |true=>rw[iC h1] at ht;exact ih _ r ↑2 t ht
   |false=>
    by_cases h2:c=35
    ·subst h2;rw[lD,List.takeWhile_cons,if_pos ↑0,List.length_cons,List.drop_succ_cons] at ht;exact ih _ _ (by rw[List.length_drop];omega) t ht
    ·rw[m_ h1 h2] at ht;cases e:tokenIn p (c::r) with
     |error z=>rw[e] at ht;simp at ht
     |ok x=>
      obtain⟨u,s⟩:=x;rw[e] at ht;obtain⟨q1,q2,q3,q4⟩:=ie e;rcases List.mem_cons.mp ht with z|z
      ·rw[z];exact I_ e
      ·exact ih _ s (by rw[q4,List.length_drop,List.length_cons];omega) t z
theorem MN{n:Int}(h:0<=n/\n<=255):((UInt8.ofNat n.toNat).toNat:Int)=n:=by rw[UInt8.toNat_ofNat',Nat.mod_eq_of_lt ↑2];omega
theorem lX:∀(ns:List Int),(∀n∈ns,0<=n/\n<=255)->ns=(WrxthhNeutral.text ns).map λc=>(c.toNat:Int)
 |[],_=>rfl
 |n::ns,h=>by
  show n::ns=((UInt8.ofNat n.toNat).toNat:Int)::(WrxthhNeutral.text ns).map _;rw[MN (h n (by simp)),<-lX ns λm hm=>h m (by simp[hm])]
theorem Ke(hb:b.drop p=c::r)(hc:isSmall c=true):
  tokenIn p (b.drop p)=(if isKeyword (cut b p (aK isWordByte b p))=true then .ok (⟨0,p,aK isWordByte b p,cut b p (aK isWordByte b p)⟩,b.drop (aK isWordByte b p))
   else if aK isWordByte b p - p<=31 then .ok (⟨1,p,aK isWordByte b p,cut b p (aK isWordByte b p)⟩,b.drop (aK isWordByte b p)) else .error (1,p)):=by
 have hw:=qr isWordByte b p;have hl:((b.drop p).takeWhile isWordByte).length=aK isWordByte b p - p:=by unfold aK;omega
 have hd:(b.drop p).drop (aK isWordByte b p - p)=b.drop (aK isWordByte b p):=by rw[List.drop_drop];congr 1;have:=bP isWordByte b p;omega
 have he:p+(aK isWordByte b p - p)=aK isWordByte b p:=by have:=bP isWordByte b p;omega
 rw[hw];rw[hb] at hl hd ⊢;unfold tokenIn;dsimp only;rw[if_pos hc,hl,hd,he];rfl
theorem JN(hb:b.drop p=c::r)(hs:isSmall c=false)(hc:isBig c=true):
  tokenIn p (b.drop p)=(if 2<=aK isCodeByte b p - p/\aK isCodeByte b p - p<=8 then .ok (⟨2,p,aK isCodeByte b p,cut b p (aK isCodeByte b p)⟩,b.drop (aK isCodeByte b p)) else .error (1,p)):=by
 have hw:=qr isCodeByte b p;have hl:((b.drop p).takeWhile isCodeByte).length=aK isCodeByte b p - p:=by unfold aK;omega
 have hd:(b.drop p).drop (aK isCodeByte b p - p)=b.drop (aK isCodeByte b p):=by rw[List.drop_drop];congr 1;have:=bP isCodeByte b p;omega
 have he:p+(aK isCodeByte b p - p)=aK isCodeByte b p:=by have:=bP isCodeByte b p;omega
 have hk:isCode ((b.drop p).takeWhile isCodeByte)=decide (2<=aK isCodeByte b p - p/\aK isCodeByte b p - p<=8):=by
  unfold isCode;rw[FP,hl,hb,List.takeWhile_cons,if_pos (by unfold isCodeByte;rw[hc];rfl)];simp only[List.head?_cons,Option.any_some,hc,Bool.true_and];by_cases h1:2<=aK isCodeByte b p - p
  ·by_cases h2:aK isCodeByte b p - p<=8 <;> simp[h1,h2]
  ·simp[h1]
 rw[hw];rw[hb] at hl hd hk ⊢;unfold tokenIn;dsimp only;rw[if_neg (by rw[hs];decide),if_pos hc,hk,hl,hd,he];simp only[decide_eq_true_eq]
theorem Ft(hb:b.drop p=c::r)(hs:isSmall c=false)(hg:isBig c=false)(hc:isDigit c=true):
  ∃w,tokenIn p (b.drop p)=(if da (cut b p (aK isDigit b p)) (cut b (aK isDigit b p) (aP b (aK isDigit b p)))
   (cut b (aP b (aK isDigit b p)) (aQ b (aP b (aK isDigit b p)))) (cut b (aQ b (aP b (aK isDigit b p))) (aK isMarkByte b (aQ b (aP b (aK isDigit b p)))))=true
   then .ok (⟨3,p,aK isMarkByte b (aQ b (aP b (aK isDigit b p))),w⟩,b.drop (aK isMarkByte b (aQ b (aP b (aK isDigit b p))))) else .error (1,p)):=by
 obtain⟨n1,n2,n3,n4,n5,n6,n7⟩:=N5 hb hc;refine⟨(b.drop p).take ((b.drop p).length - (digitsIn (b.drop p)).2.length),?_⟩;rw[<-n7];have hl:((b.drop p).take ((b.drop p).length - (digitsIn (b.drop p)).2.length)).length=aK isMarkByte b (aQ b (aP b (aK isDigit b p))) - p:=by
  rw[List.length_take,Nat.min_eq_left (Nat.sub_le _ _),n6]
 have he:p+(aK isMarkByte b (aQ b (aP b (aK isDigit b p))) - p)=aK isMarkByte b (aQ b (aP b (aK isDigit b p))):=by
  have:=bP isMarkByte b (aQ b (aP b (aK isDigit b p)));omega
 rw[<-n1];have hgoal:tokenIn p (b.drop p)=(if isNumber ((b.drop p).take ((b.drop p).length - (digitsIn (b.drop p)).2.length))=true then
   .ok (⟨3,p,p+((b.drop p).take ((b.drop p).length - (digitsIn (b.drop p)).2.length)).length,(b.drop p).take ((b.drop p).length - (digitsIn (b.drop p)).2.length)⟩,(digitsIn (b.drop p)).2) else .error (1,p)):=by
  rw[hb];unfold tokenIn;dsimp only;rw[if_neg (by rw[hs];decide),if_neg (by rw[hg];decide),if_pos hc]
 rw[hgoal,hl,he]
theorem J0(hb:b.drop p=34::r):
  tokenIn p (b.drop p)=(match itemsIn 0 (p+1) (b.drop (p+1)) with| .error e=>.error e| .ok x=>.ok (⟨4,p,x.2.1,x.1⟩,x.2.2)):=by
 rw[<-(bH hb).2,hb];unfold tokenIn;dsimp only;rw[if_neg ↑0,if_neg ↑0,if_neg ↑0,if_pos rfl];rfl
theorem AZ(k p:Nat)(c:UInt8)(r:By):itemsIn k p (c::r)=(if c=34 then .ok ([],p+1,r) else if ITEMS<=k then .error (1,p) else if c=92/\r=[] then .error (3,p+1) else
  if c=92 then(match r with
   |34::s=>(itemsIn (k+1) (p+2) s).map λ(x:Bytes×Nat×Bytes)=>(34::x.1,x.2)
   |92::s=>(itemsIn (k+1) (p+2) s).map λ(x:Bytes×Nat×Bytes)=>(92::x.1,x.2)
   |110::s=>(itemsIn (k+1) (p+2) s).map λ(x:Bytes×Nat×Bytes)=>(10::x.1,x.2)
   |_=>.error (1,p))
  else if isSeen c=true then(itemsIn (k+1) (p+1) r).map λ(x:Bytes×Nat×Bytes)=>(c::x.1,x.2) else .error (1,p)):=by
 conv=>lhs;unfold itemsIn
 rfl
def two?(b:By)(p:Nat):Nat:=if cQ b p=92 then 2 else 1
def bp(b:By)(p:Nat):Except Fault Nat:=
 if b.length<p+two? b p then .error (3,b.length)
 else if two? b p=1/\g7 (cQ b p)=false then .error (1,p)
 else if two? b p=2/\¬(cQ b (p+1)=34\/cQ b (p+1)=92\/cQ b (p+1)=110) then .error (1,p)
 else .ok (p+two? b p)
def E2(x:Except Fault (Bytes×Nat×Bytes)):Except Fault (Nat×Bytes):=match x with| .error e=>.error e| .ok y=>.ok y.2
theorem xA(x:Except Fault (Bytes×Nat×Bytes))(a:UInt8):E2 (x.map λ(y:Bytes×Nat×Bytes)=>(a::y.1,y.2))=E2 x:=by cases x <;> rfl
theorem FQ{k:Nat}(h:cQ b p=34):itemsIn k p (b.drop p)= .ok ([],p+1,b.drop (p+1)):=by have e:=(gQ (m:=34) (n:=34) rfl).mp h;rw[bo e,AZ,if_pos rfl]
theorem K7{k:Nat}(h:cQ b p≠34)(hk:1024<=k)(hp:p<b.length):itemsIn k p (b.drop p)= .error (1,p):=by rw[List.drop_eq_getElem_cons hp];have hne:b[p]≠34:=λe=>h ((gQ (m:=34) (n:=34) rfl).mpr (by rw[List.getElem?_eq_getElem hp,e]));rw[AZ,if_neg hne,if_pos (show ITEMS<=k from hk)]
theorem Hw{k:Nat}(h:cQ b p≠34)(hk:k<1024\/b.length<=p)(hp:p<=b.length):
  E2 (itemsIn k p (b.drop p))=(match bp b p with| .error e=>.error e| .ok q=>E2 (itemsIn (k+1) q (b.drop q))):=by
 by_cases hl:p<b.length
 ·have hk':¬ITEMS<=k:=λz=>by
   rcases hk with q|q
   ·exact absurd z (Nat.not_le.mpr q)
   ·omega
  have hc:b[p]?=some b[p]:=List.getElem?_eq_getElem hl;have hd:=bo hc;have hB:=bY hc;generalize b[p]=c at hc hd hB;have hne:c≠34:=λe=>h (by rw[hB,e];rfl);rw[hd,AZ,if_neg hne,if_neg hk'];by_cases h92:c=92
  ·subst h92;have t2:two? b p=2:=by unfold two?;rw[if_pos (by rw[hB];rfl)]
   unfold bp;rw[t2];by_cases hn:b.length<p+2
   ·have hr:b.drop (p+1)=[]:=List.drop_eq_nil_of_le ↑2;rw[if_pos ⟨rfl,hr⟩,if_pos hn];show(Except.error (3,p+1):Except Fault (Nat×Bytes))= .error (3,b.length);rw[show p+1=b.length from ↑2]
   ·have hl1:p+1<b.length:=↑2
    have hc1:b[p+1]?=some b[p+1]:=List.getElem?_eq_getElem hl1;have hd1:=bo hc1;have hB1:=bY hc1;generalize b[p+1]=d at hc1 hd1 hB1;rw[if_neg (show ¬((92:UInt8)=92/\b.drop (p+1)=[]) from λz=>by rw[hd1] at z;cases z.2),if_neg hn,if_neg (show ¬(2=1/\g7 (cQ b p)=false) from λz=>absurd z.1 ↑0),if_pos (show(92:UInt8)=92 from rfl),hd1,hB1];have hd2:∀m:UInt8,∀n:Nat,m.toNat=n->((d.toNat:Int)=(n:Int)↔d=m):=λm n hm=>⟨λz=>jb.mpr ↑2,λz=>by rw[z];omega⟩
    have q34:=hd2 34 34 rfl;have q92:=hd2 92 92 rfl;have q110:=hd2 110 110 rfl;by_cases e1:d=34
    ·subst e1;rw[if_neg (λz=>z.2 (.inl rfl))];exact xA _ _
    by_cases e2:d=92
    ·subst e2;rw[if_neg (λz=>z.2 (.inr (.inl rfl)))];exact xA _ _
    by_cases e3:d=110
    ·subst e3;rw[if_neg (λz=>z.2 (.inr (.inr rfl)))];exact xA _ _
    rw[if_pos ⟨rfl,λz=>by
     rcases z with z|z|z
     ·exact e1 (q34.mp z)
     ·exact e2 (q92.mp z)
     ·exact e3 (q110.mp z)⟩]
    split
    ·rename_i heq;injection heq with z _;exact absurd z e1
    ·rename_i heq;injection heq with z _;exact absurd z e2
    ·rename_i heq;injection heq with z _;exact absurd z e3
    ·rfl
  ·have hbn:¬cQ b p=92:=λz=>h92 (jb.mpr (by rw[hB] at z;have:(92:UInt8).toNat=92:=rfl;omega));have t1:two? b p=1:=by unfold two?;rw[if_neg hbn]
   unfold bp;rw[t1,if_neg (show ¬(c=92/\b.drop (p+1)=[]) from λz=>h92 z.1),if_neg h92,if_neg (show ¬b.length<p+1 by omega),hB,DC];cases hs:isSeen c with
   |true=>
    rw[if_pos rfl,if_neg (show ¬(1=1/\true=false) from λz=>by cases z.2),if_neg (show ¬(1=2/\¬(cQ b (p+1)=34\/cQ b (p+1)=92\/cQ b (p+1)=110)) from λz=>absurd z.1 ↑0)];exact xA _ _
   |false=>
    rw[if_neg (show ¬(false=true) by decide),if_pos (show 1=1/\false=false from⟨rfl,rfl⟩)];rfl
 ·have hp':p=b.length:=↑2
  subst hp';have hB:cQ b b.length= -1:=iB (List.getElem?_eq_none_iff.mpr (Nat.le_refl _));have t1:two? b b.length=1:=by unfold two?;rw[hB,if_neg ↑0]
  unfold bp;rw[t1,List.drop_length,if_pos (Nat.lt_succ_self _)];rfl
theorem BI{q:Nat}(h:bp b p= .ok q):p<q/\q<=b.length:=by
 unfold bp at h;split at h
 ·cases h
 split at h
 ·cases h
 split at h
 ·cases h
 ·cases h;rename_i h1 _ _;have:1<=two? b p:=by unfold two?;split <;> decide
  omega
def Jv:List (Int×Str):=[(11822,".."),(11582,"->"),(15677,"=="),(8509,"!="),(15421,"<="),(15933,">="),(12079,"//")]
def Js:List (Int×Str):=[(40,"("),(41,")"),(91,"["),(93,"]"),(123,"{"),(125,"}"),(44,","),(58,":"),(46,"."),(61,"="),(60,"<"),(62,">"),(43,"+"),(45,"-"),(42,"*"),(47,"/"),(37,"percent"),(94,"^")]
def lk(l:List (Int×Str))(k:Int):Option Str:=(l.find? λkv=>decide (kv.1=k)).map (·.2)
def pairOf(b:By)(p:Nat):Int:=cQ b p*256+max (cQ b (p+1)) 0
theorem kz{l:List (Int×Str)}{k:Int}{x:Str}(h:lk l k=some x):(k,x)∈l:=by unfold lk at h;obtain⟨y,h1,h2⟩:=Option.map_eq_some_iff.mp h;have h3:=List.find?_some h1;have h4:=List.mem_of_find?_eq_some h1;have h5:=of_decide_eq_true h3;obtain⟨y1,y2⟩:=y;dsimp only at h2 h5;rw[<-h2,<-h5];exact h4
theorem Dh{l:List (Int×Str)}{k:Int}(h:lk l k=none):∀x,(k,x)∉l:=by intro x m;unfold lk at h;rw[Option.map_eq_none_iff,List.find?_eq_none] at h;exact h _ m (decide_eq_true rfl)
theorem yM{s:By}:s.isPrefixOf b=true↔s<+:b:=List.isPrefixOf_iff_prefix
theorem BC:∀s∈SIGNS,(∃x y,s=[x,y]/\∃z,((x.toNat:Int)*256+y.toNat,z)∈Jv)\/(∃x,s=[x]/\∃z,((x.toNat:Int),z)∈Js):=by
 have:(SIGNS.all λs=>match s with
  |[x,y]=>(lk Jv ((x.toNat:Int)*256+y.toNat)).isSome
  |[x]=>(lk Js (x.toNat:Int)).isSome
  |_=>false)=true:=↑1
 intro s hs;have:=List.all_eq_true.mp this s hs
 match s,this with
 |[x,y],h=>
  obtain⟨z,hz⟩:=Option.isSome_iff_exists.mp h;exact .inl ⟨x,y,rfl,z,kz hz⟩
 |[x],h=>
  obtain⟨z,hz⟩:=Option.isSome_iff_exists.mp h;exact .inr ⟨x,rfl,z,kz hz⟩
theorem G9:∀kv∈Jv,∃x y:UInt8,kv.1=(x.toNat:Int)*256+y.toNat/\kv.2=vd [x,y]/\[x,y]≠[37]/\∀r:By,(SIGNS.find? λ(s:Bytes)=>s.isPrefixOf (x::y::r))=some [x,y]:=by
 intro kv h;simp only[Jv,List.mem_cons,List.not_mem_nil,or_false] at h;rcases h with rfl|rfl|rfl|rfl|rfl|rfl|rfl
 ·exact⟨46,46,↑0,↑1,↑0,λr=>rfl⟩
 ·exact⟨45,62,↑0,↑1,↑0,λr=>rfl⟩
 ·exact⟨61,61,↑0,↑1,↑0,λr=>rfl⟩
 ·exact⟨33,61,↑0,↑1,↑0,λr=>rfl⟩
 ·exact⟨60,61,↑0,↑1,↑0,λr=>rfl⟩
 ·exact⟨62,61,↑0,↑1,↑0,λr=>rfl⟩
 ·exact⟨47,47,↑0,↑1,↑0,λr=>rfl⟩
theorem FU:∀kv∈Js,∃x:UInt8,kv.1=(x.toNat:Int)/\kv.2=(if([x]:By)=[37] then Str.ofString "percent" else vd [x])/\[x]∈SIGNS:=by
 have:(Js.all λkv=>decide (kv.1=((UInt8.ofNat kv.1.toNat).toNat:Int))&&(decide (kv.2=(if([UInt8.ofNat kv.1.toNat]:By)=[37] then Str.ofString "percent" else vd [UInt8.ofNat kv.1.toNat]))&&SIGNS.contains [UInt8.ofNat kv.1.toNat]))=true:=↑1
 intro kv h;have:=List.all_eq_true.mp this kv h;simp only[Bool.and_eq_true,decide_eq_true_eq] at this;exact⟨_,this.1,this.2.1,List.contains_iff_mem.mp this.2.2⟩
theorem J3(hb:b.drop p=c::r)(hs:isSmall c=false)(hg:isBig c=false)(hd:isDigit c=false)(hq:c≠34):
  (∀x,lk Jv (pairOf b p)=some x->∃t,tokenIn p (b.drop p)= .ok (t,b.drop (p+2))/\t.kind=5/\t.place=p/\t.halt_=p+2/\bL t=x)/\
  (lk Jv (pairOf b p)=none->(∀x,lk Js (cQ b p)=some x->∃t,tokenIn p (b.drop p)= .ok (t,b.drop (p+1))/\t.kind=5/\t.place=p/\t.halt_=p+1/\bL t=x)/\
   (lk Js (cQ b p)=none->tokenIn p (b.drop p)= .error (1,p))):=by
 obtain⟨hc,hr⟩:=bH hb;have hB:=bY hc;have htok:tokenIn p (b.drop p)=(match SIGNS.find? λ(s:Bytes)=>s.isPrefixOf (c::r) with|some s=>.ok (⟨5,p,p+s.length,s⟩,(b.drop p).drop s.length)|none=>.error (1,p)):=by
  rw[hb];unfold tokenIn;dsimp only;rw[if_neg (by rw[hs];decide),if_neg (by rw[hg];decide),if_neg (by rw[hd];decide),if_neg hq];rfl
 have lt256:∀u:UInt8,u.toNat<256:=λu=>UInt8.toNat_lt u;have tail:r=[]/\pairOf b p=(c.toNat:Int)*256\/∃d r',r=d::r'/\pairOf b p=(c.toNat:Int)*256+d.toNat:=by
  cases r with
  |nil=>
   left;refine⟨rfl,?_⟩;unfold pairOf;rw[hB,iB (List.getElem?_eq_none_iff.mpr (by have:=congrArg List.length hr;rw[List.length_drop,List.length_nil] at this;omega)),show max (-1:Int) 0=0 from rfl,Int.add_zero]
  |cons d r'=>
   right;refine⟨d,r',rfl,?_⟩;unfold pairOf;rw[hB,bY (bH hr.symm).1];omega
 have look5:∀(s:By)(t:Tok),t.kind=5->t.bytes=s->bL t=(if s=[37] then Str.ofString "percent" else vd s):=by
  intro s t h e;unfold bL;rw[if_neg (by rw[h];decide),if_neg (by rw[h];decide),if_neg (by rw[h];decide),if_neg (by rw[h];decide),if_neg (by rw[h];decide),e]
 refine⟨λx hx=>?_,λhn=>?_⟩
 ·obtain⟨x1,y1,e1,e2,e3,e4⟩:=G9 _ (kz hx);dsimp only at e1 e2;rcases tail with⟨_,hp⟩|⟨d,r',rfl,hp⟩
  ·have hy:y1.toNat=0:=by rw[hp] at e1;have:=lt256 y1;omega
   have:∀kv∈Jv,kv.1 % 256≠0:=↑0
   exact absurd (by show pairOf b p % 256=0;rw[hp];omega) (this _ (kz hx))
  ·have hx1:x1=c:=jb.mpr (by rw[hp] at e1;have:=lt256 y1;have:=lt256 d;omega);have hy1:y1=d:=jb.mpr (by rw[hp] at e1;have:=lt256 y1;have:=lt256 d;omega);subst hx1;subst hy1;rw[htok,e4 r'];dsimp only;refine⟨_,by rw[List.drop_drop];rfl,rfl,rfl,rfl,?_⟩;rw[look5 _ _ rfl rfl,if_neg e3,e2]
 ·have no2:∀s∈SIGNS,s.isPrefixOf (c::r)=true->∃x,s=[x]/\x=c/\∃z,((x.toNat:Int),z)∈Js:=by
   intro s hsn hp;obtain⟨u,hu⟩:=yM.mp hp;rcases BC s hsn with⟨x,y,rfl,z,hz⟩|⟨x,rfl,z,hz⟩
   ·exfalso;rcases tail with⟨rfl,hp'⟩|⟨d,r',rfl,hp'⟩
    ·cases hu
    ·injection hu with h1 h2;injection h2 with h2 _;subst h1;subst h2;rw[<-hp'] at hz;exact Dh hn z hz
   ·injection hu with h1 _;exact⟨x,rfl,h1,z,hz⟩
  refine⟨λx hx=>?_,λhn1=>?_⟩
  ·obtain⟨x1,e1,e2,e3⟩:=FU _ (kz hx);dsimp only at e1 e2;have hxc:x1=c:=jb.mpr (by rw[hB] at e1;omega);subst hxc;have hfind:(SIGNS.find? λ(s:Bytes)=>s.isPrefixOf (x1::r))=some [x1]:=by
    cases hf:SIGNS.find? λ(s:Bytes)=>s.isPrefixOf (x1::r) with
    |none=>
     rw[List.find?_eq_none] at hf;exact absurd (yM.mpr ⟨r,rfl⟩) (hf _ e3)
    |some s=>
     obtain⟨y,hy,hyc,_⟩:=no2 s (List.mem_of_find?_eq_some hf) (by have z:=List.find?_some hf;exact z);rw[hy,hyc]
   rw[htok,hfind];dsimp only;refine⟨_,by rw[List.drop_drop];rfl,rfl,rfl,rfl,?_⟩;rw[look5 _ _ rfl rfl,e2]
  ·have hfind:(SIGNS.find? λ(s:Bytes)=>s.isPrefixOf (c::r))=none:=by
    rw[List.find?_eq_none];intro s hsn hp;obtain⟨y,_,hyc,z,hz⟩:=no2 s hsn hp;rw[hyc,<-hB] at hz;exact Dh hn1 z hz
   rw[htok,hfind]
end
end TW
namespace RT
open EwTree
section
variable{n:Nat}
theorem eJ{l:List String}{s:St}{k:Nat}(h:oneOf l s=some k):k<l.length:=by unfold oneOf at h;rw[List.findIdx?_eq_some_iff_getElem] at h;exact h.1
theorem Hj:∀a<128,∀k<7,withFlag a k<128/\a<=withFlag a k/\0<withFlag a k:=↑1
def optN(s:St):Option Bytes×St:=match s.toks with
 |[]=>(none,s)
 |t::r=>if t.kind=3 then(some t.bytes,(⟨t.halt_,r⟩:St)) else(none,s)
def pq(s:St):Nat×St:=match oneOf ROUNDS s with
 |some i=>(i+1,s.skip)
 |none=>(0,s)
theorem all_cons{α:Type}{P:α->Prop}{a:α}{l:List α}(h:P a)(k:∀x∈l,P x):∀x∈a::l,P x:=by
 intro y hy;rcases List.mem_cons.mp hy with rfl|hy
 ·exact h
 ·exact k y hy
theorem all_nil{α:Type}{P:α->Prop}:∀x∈([]:List α),P x:=λ_ h=>nomatch h
def Cg(s:St):Option Bytes×St:=match s.toks with
 |[]=>(none,s)
 |t::r=>if t.kind=4 then(some t.bytes,(⟨t.halt_,r⟩:St)) else(none,s)
end
end RT
section
theorem CQ.a{a b c:Nat}(h:a<b)(k:b<=c):a<=c:=Nat.le_trans (Nat.le_of_lt h) k
theorem CQ.b{a b c:Nat}(h:a+1=b)(k:b<=c):a<=c:=Nat.le_trans (Nat.le_of_lt (h▸Nat.lt_succ_self a)) k
theorem CQ.c{a b c:Nat}(h:a<b)(k:b<=c):a<c:=Nat.lt_of_lt_of_le h k
theorem CQ.d{a b c:Nat}(h:a+1=b)(k:b<=c):a<c:=Nat.lt_of_lt_of_le (h▸Nat.lt_succ_self a) k
theorem CQ.e{a b c:Nat}(h:a<=b)(k:b<c):a<c:=Nat.lt_of_le_of_lt h k
theorem CQ.f{a b c:Nat}(h:a<=b)(k:b<=c):a<=c:=Nat.le_trans h k
theorem CQ.g{m x s c f i:Nat}(h:m*s+c<=f+1)(k:x<s)(d:i+1<=c+m):m*x+i<=f:=by
 have:m*x+m<=m*s:=by rw[<-Nat.mul_succ];exact Nat.mul_le_mul_left m k
 omega
theorem CQ.h{m x s c f i:Nat}(h:m*s+c<=f+1)(k:x<=s)(d:i+1<=c):m*x+i<=f:=by have:m*x<=m*s:=Nat.mul_le_mul_left m k;omega
local macro_rules
 |`(tactic|sleep 90)=>`(tactic|first|exact Nat.le_refl _|assumption|(refine CQ.c (by assumption) ?_;sleep 91)|(refine CQ.d (by assumption) ?_;sleep 91)|(refine CQ.e (by assumption) ?_;sleep 90))
 |`(tactic|sleep 91)=>`(tactic|first|exact Nat.le_refl _|assumption|(refine CQ.a (by assumption) ?_;sleep 91)|(refine CQ.b (by assumption) ?_;sleep 91)|(refine CQ.f (by assumption) ?_;sleep 91))
 |`(tactic|sleep 92)=>`(tactic|first|(refine CQ.g (by assumption) ?_ ↑0;sleep 90)|(refine CQ.h (by assumption) ?_ ↑0;sleep 91))
 |`(tactic|omega)=>`(tactic|first|(sleep 90;done)|(sleep 91;done)|(sleep 92;done)|lia|omega (splitMinMax:=true))
namespace MA
open EwTree RT
variable{n:Nat}{l:List Pt}{r:List Sym}{q:List Sym}{f:Fm}{k:Nat}{s:St}{w:String}{G:List Fr}{α:Type}{fu:Nat}
section
inductive Fk where
 |kind(k:Nat)
 |row
 |count
 |set
inductive Fm where
 |kind(k:Nat) (b:St)
 |row(b:St)
 |count(b:St)
 |set(b:St)
def Fk.at:Fk->St->Fm
 | .kind k,b=>.kind k b
 | .row,b=>.row b
 | .count,b=>.count b
 | .set,b=>.set b
def Fm.yJ:Fm->St
 | .kind _ b=>b
 | .row b=>b
 | .count b=>b
 | .set b=>b
def Fm.isSet:Fm->Bool
 | .set _=>true
 |_=>false
inductive Pt where
 |leaf(b:Bytes)
 |bq(f:Fm) (s:St) (l:List Pt)
def st(p:Pt)(b:St):St:=match p with
 | .leaf _=>b
 | .bq f _ _=>f.yJ
def Fm.tk(p:Pt):Fm->Fm
 | .kind k b=>.kind k (st p b)
 | .row b=>.row (st p b)
 | .count b=>.count (st p b)
 | .set b=>.set (st p b)
def Fm.turn(k:Nat):Fm->Fm
 | .kind _ b=>.kind k b
 | .row b=>.kind k b
 | .count b=>.kind k b
 | .set b=>.kind k b
structure Fr where
 form:Fm
 parts:List Pt
inductive Sym where
 |bg(f:Fk)
 |bW(b:Bytes)
 |take
 |turn(k:Nat)
 |fin
 |w(x:Nat)
noncomputable def vj:List (Nat×List Sym):=[(299,[.bg (.kind 144),.w 39,.w 200,.bg .count,.w 1001,.fin,.bg .count,.w 1002,.fin,.fin])]
noncomputable def HL:List (Nat×List Sym):=[(73,[.w 73,.w 200,.w 1001]),(299,[])]
noncomputable def iA:List (Nat×List Sym):=[(204,[]),(299,[.w 1003,.w 1002])]
noncomputable def jm:List (Nat×List Sym):=[(35,[.bg (.kind 128),.w 1004,.fin]),(55,[.bg (.kind 129),.w 55,.w 200,.w 111,.bg .count,.w 1008,.fin,.w 112,.fin]),(0,[.bg (.kind 130),.w 0,.w 200,.w 201,.fin]),(21,[.bg (.kind 131),.w 21,.w 200,.w 1006,.w 107,.bg .count,.w 1008,.fin,.w 108,.w 1011,.w 1017,.fin])]
noncomputable def L9:List (Nat×List Sym):=[(299,[.w 35,.w 200,.w 1005,.w 116,.w 1040])]
noncomputable def o_:List (Nat×List Sym):=[(114,[.w 114,.bW [1],.w 1012]),(299,[.bW [0]])]
noncomputable def kH:List (Nat×List Sym):=[(109,[.w 109,.bg .count,.w 200,.w 1007,.fin,.w 110]),(299,[.bg .count,.fin])]
noncomputable def kN:List (Nat×List Sym):=[(113,[.w 113,.w 200,.w 1007]),(299,[])]
noncomputable def zg:List (Nat×List Sym):=[(200,[.w 1010,.w 1009]),(299,[])]
noncomputable def jh:List (Nat×List Sym):=[(113,[.w 113,.w 1010,.w 1009]),(299,[])]
noncomputable def DR:List (Nat×List Sym):=[(299,[.bg .row,.w 200,.w 114,.w 1012,.fin])]
noncomputable def zl:List (Nat×List Sym):=[(100,[.w 100,.bW [1],.w 1012]),(299,[.bW [0]])]
noncomputable def Jp:List (Nat×List Sym):=[(76,[.bg (.kind 1),.w 76,.fin]),(23,[.bg (.kind 2),.w 23,.fin]),(9,[.bg (.kind 3),.w 9,.fin]),(26,[.bg (.kind 4),.w 26,.fin]),(60,[.bg (.kind 5),.w 60,.fin]),(10,[.bg (.kind 6),.w 10,.fin]),(14,[.bg (.kind 7),.w 14,.fin]),(30,[.bg (.kind 8),.w 30,.fin]),(69,[.bg (.kind 9),.w 69,.fin]),(64,[.bg (.kind 10),.w 64,.fin]),(19,[.bg (.kind 11),.w 19,.fin]),(13,[.bg (.kind 12),.w 13,.fin]),(0,[.bg (.kind 13),.w 0,.fin]),(74,[.bg (.kind 14),.w 74,.fin]),(50,[.bg (.kind 15),.w 50,.w 202,.fin]),(36,[.bg (.kind 16),.w 36,.w 45,.w 1012,.fin]),(16,[.bg (.kind 17),.w 16,.w 1013,.fin]),(21,[.bg (.kind 18),.w 21,.w 107,.bg .count,.w 1014,.fin,.w 108,.w 1011,.fin]),(200,[.bg (.kind 19),.w 200,.w 1016,.fin])]
noncomputable def vD:List (Nat×List Sym):=[(45,[.w 45,.bW [1],.w 1012]),(299,[.bW [0]])]
noncomputable def Cq:List (Nat×List Sym):=[(108,[]),(299,[.w 1012,.w 1015])]
noncomputable def kJ:List (Nat×List Sym):=[(113,[.w 113,.w 1012,.w 1015]),(299,[])]
noncomputable def je:List (Nat×List Sym):=[(115,[.turn 20,.w 115,.w 200]),(299,[])]
noncomputable def Co:List (Nat×List Sym):=[(299,[.bg .count,.w 111,.w 1018,.w 112,.fin])]
noncomputable def lb:List (Nat×List Sym):=[(112,[]),(299,[.w 1019,.w 1018])]
noncomputable def oE:List (Nat×List Sym):=[(35,[.bg (.kind 96),.w 1004,.fin]),(200,[.w 1062,.w 1020]),(19,[.bg (.kind 99),.w 19,.w 116,.w 1040,.fin]),(27,[.bg (.kind 100),.bg .count,.w 1024,.w 1022,.fin]),(75,[.bg (.kind 101),.w 75,.w 1040,.w 1017,.fin]),(22,[.bg (.kind 102),.w 22,.w 200,.w 28,.w 1040,.w 1025,.w 1017,.fin]),(38,[.bg (.kind 103),.w 38,.w 1040,.w 111,.bg .count,.w 1026,.fin,.w 1027,.w 112,.fin]),(57,[.bg (.kind 104),.w 57,.w 1040,.fin]),(34,[.bg (.kind 105),.w 34,.fin]),(5,[.bg (.kind 106),.w 5,.fin]),(43,[.bg (.kind 107),.w 43,.fin]),(77,[.bg (.kind 108),.w 77,.bg .count,.w 1033,.w 1032,.fin,.w 1017,.fin]),(70,[.bg (.kind 109),.w 70,.w 1017,.w 1028,.fin]),(54,[.bg (.kind 110),.w 54,.w 1040,.fin]),(59,[.bg (.kind 111),.w 59,.bg .count,.w 1040,.w 1039,.fin,.fin]),(78,[.bg (.kind 112),.w 78,.w 1040,.w 1030,.fin]),(52,[.bg (.kind 113),.w 52,.w 1040,.w 114,.w 1040,.w 24,.w 1040,.w 1031,.fin])]
noncomputable def DV:List (Nat×List Sym):=[(107,[.w 1059,.w 1021]),(109,[.w 1060,.w 1020]),(115,[.w 1061,.w 1020]),(116,[.bg (.kind 97),.take,.w 116,.w 1040,.fin])]
noncomputable def ic:List (Nat×List Sym):=[(107,[.w 1059,.w 1021]),(109,[.w 1060,.w 1020]),(115,[.w 1061,.w 1020]),(299,[.bg (.kind 98),.take,.fin])]
noncomputable def g6:List (Nat×List Sym):=[(12,[.w 12,.w 1023]),(299,[.fin,.bW [0]])]
noncomputable def jd:List (Nat×List Sym):=[(27,[.w 1024,.w 1022]),(299,[.fin,.bW [1],.w 1017])]
noncomputable def zH:List (Nat×List Sym):=[(299,[.bg .row,.w 27,.w 1040,.w 1017,.fin])]
noncomputable def Q3:List (Nat×List Sym):=[(66,[.w 66,.bW [1],.w 1040]),(299,[.bW [0]])]
noncomputable def DN:List (Nat×List Sym):=[(33,[.bg .row,.w 33,.w 1012,.w 200,.w 1017,.fin,.w 1026]),(299,[])]
noncomputable def HD:List (Nat×List Sym):=[(12,[.w 12,.bW [1],.w 1017]),(299,[.bW [0]])]
noncomputable def kn:List (Nat×List Sym):=[(6,[.w 6,.bW [1],.w 200,.w 1017,.w 1029]),(17,[.bW [0],.w 1029])]
noncomputable def vo:List (Nat×List Sym):=[(17,[.w 17,.bW [1],.w 1017]),(299,[.bW [0]])]
noncomputable def Hb:List (Nat×List Sym):=[(31,[.w 31,.bW [1],.w 200]),(299,[.bW [0]])]
noncomputable def jg:List (Nat×List Sym):=[(203,[.bW [1],.w 203]),(299,[.bW [0]])]
noncomputable def la:List (Nat×List Sym):=[(113,[.w 113,.w 1033,.w 1032]),(299,[])]
noncomputable def FX:List (Nat×List Sym):=[(58,[.bg .row,.w 58,.bW [0],.w 1034,.fin]),(53,[.bg .row,.w 53,.bW [1],.w 202,.fin]),(67,[.bg .row,.w 67,.bW [2],.bg .set,.w 1037,.w 1035,.fin,.fin]),(20,[.bg .row,.w 20,.bW [3],.w 1036,.fin])]
noncomputable def oQ:List (Nat×List Sym):=[(40,[.w 40,.bW [0]]),(11,[.w 11,.bW [1]]),(72,[.w 72,.bW [2]]),(8,[.w 8,.bW [3]])]
noncomputable def ve:List (Nat×List Sym):=[(113,[]),(111,[]),(299,[.w 1037,.w 1035])]
noncomputable def uS:List (Nat×List Sym):=[(28,[.w 28,.bW [0]]),(48,[.w 48,.bW [1]]),(4,[.w 4,.bW [2]])]
noncomputable def Gq:List (Nat×List Sym):=[(32,[.w 32,.bW [0]]),(61,[.w 61,.bW [1]]),(79,[.w 79,.bW [2]]),(49,[.w 49,.bW [3]]),(71,[.w 71,.bW [4]]),(29,[.w 29,.bW [5]]),(63,[.w 63,.bW [6]])]
noncomputable def jl:List (Nat×List Sym):=[(108,[]),(299,[.w 1040,.w 1039])]
noncomputable def fq:List (Nat×List Sym):=[(113,[.w 113,.w 1040,.w 1039]),(299,[])]
noncomputable def lJ:List (Nat×List Sym):=[(27,[.bg (.kind 51),.w 27,.w 1040,.w 65,.w 1040,.w 12,.w 1040,.fin]),(299,[.w 1042,.w 1041])]
noncomputable def u5:List (Nat×List Sym):=[(47,[.bg (.kind 64),.take,.w 47,.w 1042,.fin,.w 1041]),(299,[])]
noncomputable def H_:List (Nat×List Sym):=[(299,[.w 1044,.w 1043])]
noncomputable def qY:List (Nat×List Sym):=[(1,[.bg (.kind 65),.take,.w 1,.w 1044,.fin,.w 1043]),(299,[])]
noncomputable def uH:List (Nat×List Sym):=[(44,[.bg (.kind 47),.w 44,.w 1044,.fin]),(299,[.w 1046,.w 1045])]
noncomputable def s_:List (Nat×List Sym):=[(101,[.bg (.kind 66),.take,.w 101,.w 1046,.fin]),(102,[.bg (.kind 67),.take,.w 102,.w 1046,.fin]),(117,[.bg (.kind 68),.take,.w 117,.w 1046,.fin]),(103,[.bg (.kind 69),.take,.w 103,.w 1046,.fin]),(118,[.bg (.kind 70),.take,.w 118,.w 1046,.fin]),(104,[.bg (.kind 71),.take,.w 104,.w 1046,.fin]),(299,[])]
noncomputable def IQ:List (Nat×List Sym):=[(299,[.w 1050,.w 1047])]
noncomputable def uW:List (Nat×List Sym):=[(2,[.bg (.kind 52),.take,.w 2,.w 1012,.w 1048,.w 1049,.fin,.w 1047]),(299,[])]
noncomputable def yW:List (Nat×List Sym):=[(202,[.bW [1],.w 202]),(299,[.bW [0]])]
noncomputable def tE:List (Nat×List Sym):=[(40,[.w 40,.bW [1]]),(11,[.w 11,.bW [2]]),(72,[.w 72,.bW [3]]),(8,[.w 8,.bW [4]]),(41,[.w 41,.bW [5]]),(42,[.w 42,.bW [6]]),(3,[.w 3,.bW [7]]),(18,[.w 18,.bW [8]]),(299,[.bW [0]])]
noncomputable def LX:List (Nat×List Sym):=[(299,[.w 1052,.w 1051])]
noncomputable def tF:List (Nat×List Sym):=[(119,[.bg (.kind 72),.take,.w 119,.w 1052,.fin,.w 1051]),(120,[.bg (.kind 73),.take,.w 120,.w 1052,.fin,.w 1051]),(299,[])]
noncomputable def vk:List (Nat×List Sym):=[(299,[.w 1054,.w 1053])]
noncomputable def ik:List (Nat×List Sym):=[(121,[.bg (.kind 74),.take,.w 121,.w 1054,.fin,.w 1053]),(122,[.bg (.kind 75),.take,.w 122,.w 1054,.fin,.w 1053]),(105,[.bg (.kind 76),.take,.w 105,.w 1054,.fin,.w 1053]),(123,[.bg (.kind 77),.take,.w 123,.w 1054,.fin,.w 1053]),(299,[])]
noncomputable def zK:List (Nat×List Sym):=[(120,[.bg (.kind 46),.w 120,.w 1054,.fin]),(62,[.bg (.kind 48),.w 62,.w 1057,.fin]),(56,[.bg (.kind 49),.w 56,.w 1057,.w 1055,.fin]),(51,[.bg (.kind 50),.w 51,.w 203,.w 45,.w 1057,.fin]),(299,[.w 1057,.w 1056])]
noncomputable def yR:List (Nat×List Sym):=[(25,[.w 25,.bW [1],.w 1054]),(299,[.bW [0]])]
noncomputable def DF:List (Nat×List Sym):=[(124,[.bg (.kind 78),.take,.w 124,.w 1054,.fin]),(299,[])]
noncomputable def Hx:List (Nat×List Sym):=[(299,[.w 1063,.w 1058])]
noncomputable def oG:List (Nat×List Sym):=[(107,[.w 1059,.w 1058]),(109,[.w 1060,.w 1058]),(115,[.w 1061,.w 1058]),(299,[])]
noncomputable def Gy:List (Nat×List Sym):=[(299,[.bg (.kind 43),.take,.w 107,.bg .count,.w 1038,.fin,.w 108,.fin])]
noncomputable def C6:List (Nat×List Sym):=[(299,[.bg (.kind 44),.take,.w 109,.w 1040,.w 110,.fin])]
noncomputable def y_:List (Nat×List Sym):=[(299,[.bg (.kind 45),.take,.w 115,.w 200,.fin])]
noncomputable def IZ:List (Nat×List Sym):=[(299,[.bg (.kind 37),.w 200,.fin])]
noncomputable def Dd:List (Nat×List Sym):=[(202,[.bg (.kind 32),.w 202,.fin]),(203,[.bg (.kind 33),.w 203,.fin]),(68,[.bg (.kind 34),.w 68,.fin]),(15,[.bg (.kind 35),.w 15,.fin]),(19,[.bg (.kind 36),.w 19,.fin]),(200,[.w 1062]),(201,[.bg (.kind 38),.w 201,.fin]),(46,[.bg (.kind 39),.w 46,.w 107,.bg .set,.w 1064,.fin,.w 108,.fin]),(107,[.bg .row,.w 107,.w 1040,.w 108,.fin]),(109,[.bg (.kind 40),.w 109,.w 1066,.w 110,.fin]),(37,[.bg (.kind 42),.w 37,.w 200,.w 1068,.w 107,.bg .count,.w 1069,.fin,.w 108,.fin])]
noncomputable def DG:List (Nat×List Sym):=[(108,[]),(299,[.w 1037,.w 1065])]
noncomputable def ly:List (Nat×List Sym):=[(113,[.w 113,.w 1037,.w 1065]),(299,[])]
noncomputable def Ao:List (Nat×List Sym):=[(110,[.bg .count,.fin]),(299,[.w 1040,.w 1067])]
noncomputable def ji:List (Nat×List Sym):=[(106,[.turn 41,.w 106,.w 1040]),(299,[.bg .count,.take,.w 1039,.fin])]
noncomputable def Hf:List (Nat×List Sym):=[(115,[.bg .row,.bW [1],.take,.w 115,.w 200,.fin]),(299,[.bg .row,.bW [0],.take,.fin])]
noncomputable def qW:List (Nat×List Sym):=[(200,[.w 1071,.w 1070]),(299,[])]
noncomputable def gZ:List (Nat×List Sym):=[(113,[.w 113,.w 1071,.w 1070]),(299,[])]
noncomputable def uZ:List (Nat×List Sym):=[(299,[.bg .row,.w 200,.w 114,.w 1040,.fin])]
noncomputable def cK:List (List (Nat×List Sym)):=[vj,HL,iA,jm,L9,o_,kH,kN,zg,jh,DR,zl,Jp,vD,Cq,kJ,je,Co,lb,oE,DV,ic,g6,jd,zH,Q3,DN,HD,kn,vo,Hb,jg,la,FX,oQ,ve,uS,Gq,jl,fq,lJ,u5,H_,qY,uH,s_,IQ,uW,yW,tE,LX,tF,vk,ik,zK,yR,DF,Hx,oG,Gy,C6,y_,IZ,Dd,DG,ly,Ao,ji,Hf,qW,gZ,uZ]
def P0{α:Type}:List α->Nat->Option α
 |[],_=>none
 |a::_,0=>some a
 |_::l,i+1=>P0 l i
def aH(g:List (Nat×List Sym))(l:Nat):Option (List Sym):=match g with
 |[]=>none
 |y::r=>if Nat.beq y.1 l=true then some y.2 else aH r l
def row(n l:Nat):Option (List Sym):=if Nat.ble 1000 n=true then(match P0 cK (n - 1000) with
 |none=>none
 |some g=>aH g l) else none
def lV(t:Tok):Nat:=
 if t.kind=0 then(match KEYWORDS.findIdx? λx=>x==t.bytes with
  |some i=>i
  |none=>999)
 else if t.kind=5 then(match SIGNS.findIdx? λx=>x==t.bytes with
  |some i=>100+i
  |none=>999)
 else if t.kind=1 then 200 else if t.kind=2 then 201 else if t.kind=3 then 202 else if t.kind=4 then 203 else 999
def lk(e:Bool)(s:St):Nat:=match s.toks with
 |[]=>if e=true then 205 else 204
 |t::_=>lV t
def lf(t:Tok):List Pt:=if t.kind=0\/t.kind=5 then[] else if t.kind=4 then[.leaf (long t.bytes)] else[.leaf (short t.bytes)]
def eD:List Pt->Nat
 |[]=>0
 | .leaf (b::_)::r=>2 ^ b.toNat ||| eD r
 |_::r=>eD r
def done(f:Fm)(s:St)(l:List Pt):Pt:=match f.isSet with
 |true=>.leaf [UInt8.ofNat (eD l)]
 |false=>.bq f s l
def len(s:St):Nat:=s.toks.length
def iu(l:List Pt):Prop:=∀p∈l,∃k,k<7/\p= .leaf [UInt8.ofNat k]
inductive Out where
 |ok(G:List Fr)
 |fault(e:Fault)
inductive Runs(e:Bool)(z:Fault):Nat->List Sym->St->List Fr->Out->Prop
 |halt(s:St) (G:List Fr):Runs e z 0 [] s G (.ok G)
 |bg{n:Nat} {f:Fk} {K:List Sym} {s:St} {G:List Fr} {o:Out}:Runs e z n K s (⟨f.at s,[]⟩::G) o->Runs e z (n+1) (.bg f::K) s G o
 |bW{n:Nat} {b:Bytes} {K:List Sym} {s:St} {f:Fm} {l:List Pt} {G:List Fr} {o:Out}:Runs e z n K s (⟨f,l++[.leaf b]⟩::G) o->Runs e z (n+1) (.bW b::K) s (⟨f,l⟩::G) o
 |take{n:Nat} {p:Pt} {K:List Sym} {s:St} {f h:Fm} {l r:List Pt} {G:List Fr} {o:Out}:Runs e z n K s (⟨f.tk p,l++[p]⟩::⟨h,r⟩::G) o->Runs e z (n+1) (.take::K) s (⟨f,l⟩::⟨h,r++[p]⟩::G) o
 |turn{n:Nat} {k:Nat} {K:List Sym} {s:St} {f:Fm} {l:List Pt} {G:List Fr} {o:Out}:Runs e z n K s (⟨f.turn k,l⟩::G) o->Runs e z (n+1) (.turn k::K) s (⟨f,l⟩::G) o
 |fin{n:Nat} {K:List Sym} {s:St} {f h:Fm} {l r:List Pt} {G:List Fr} {o:Out}:(f.isSet=true->iu l)->Runs e z n K s (⟨h,r++[done f s l]⟩::G) o->Runs e z (n+1) (.fin::K) s (⟨f,l⟩::⟨h,r⟩::G) o
 |pass{n:Nat} {K:List Sym} {t:Tok} {p:Nat} {ts:List Tok} {f:Fm} {l:List Pt} {G:List Fr} {o:Out}:Runs e z n K ⟨t.halt_,ts⟩ (⟨f,l++lf t⟩::G) o->Runs e z (n+1) (.w (lV t)::K) ⟨p,t::ts⟩ (⟨f,l⟩::G) o
 |go{n:Nat} {x:Nat} {r K:List Sym} {s:St} {G:List Fr} {o:Out}:x≠lk e s->row x (lk e s)=some r->Runs e z n (r++K) s G o->Runs e z (n+(1+r.length)) (.w x::K) s G o
 |Sv{n:Nat} {x:Nat} {r K:List Sym} {s:St} {G:List Fr} {o:Out}:x≠lk e s->row x (lk e s)=none->row x 299=some r->Runs e z n (r++K) s G o->Runs e z (n+(1+r.length)) (.w x::K) s G o
 |no{x:Nat} {K:List Sym} {s:St} {G:List Fr}:x≠lk e s->row x (lk e s)=none->row x 299=none->Runs e z 0 (.w x::K) s G (.fault (bad z s))
def BT:List Int:=[-49,1,1,-81,-87,3,5,1,1,1,-84,3,-24,3,1,1,1,-59,1,-15,-19,7,5,-53,-79,3,1,3,7,3,3,3,1,-49,-30,1,-30,-30,10,1,6,1,2,1,-2,1,-6,1,3,3,-10,1,-14,1,-18,3,1,-22,1,-44,-52,-59,-28,-26,1,1,18,9,9,1,1,-54]
def DT:List Int:=[12,4,17,14,6,4,7,4,10,4,7,4,11,4,14,4,5,7,20,17,20,20,5,13,9,7,9,4,8,4,4,4,4,10,3,6,3,3,39,6,36,9,33,9,30,8,27,11,4,3,24,9,21,9,18,4,8,15,20,17,11,8,5,12,6,4,39,13,10,10,4,7]
def wB:Sym->Int
 | .w x=>if Nat.ble 1000 x=true then BT.getD (x - 1000) 0 else -34
 |_=>1
def wD:Sym->Int
 | .w x=>if Nat.ble 1000 x=true then DT.getD (x - 1000) 0 else 0
 |_=>0
def bs:List Sym->Int
 |[]=>0
 |y::r=>wB y+bs r
def ds:List Sym->Int
 |[]=>0
 |y::r=>if wB y+ds r<=wD y then wD y else wB y+ds r
def F0:List (List (Nat×List Sym))->List Int->List Int->Bool
 |[],_,_=>true
 |_::_,[],_=>false
 |_::_,_,[]=>false
 |g::G,b::B,d::D=>g.all (λy=>decide (1+(y.2.length:Int)+bs y.2<=b)&&decide (1+(y.2.length:Int)+ds y.2<=d))&&F0 G B D
theorem Hc:F0 cK BT DT=true:=↑1
theorem Ng:∀d∈DT,(0:Int)<=d:=↑1
theorem wH:∀(r q:List Sym),bs (r++q)=bs r+bs q
 |[],q=>(Int.zero_add _).symm
 |y::r,q=>by show wB y+bs (r++q)=wB y+bs r+bs q;rw[wH r q,Int.add_assoc]
theorem O0(y:Sym):0<=wD y:=by
 cases y with
 |w x=>
  show 0<=if Nat.ble 1000 x=true then DT.getD (x - 1000) 0 else 0;split
  ·rw[List.getD_eq_getElem?_getD];cases h:DT[x - 1000]? with
   |none=>exact Int.le_refl _
   |some d=>exact Ng d (List.mem_of_getElem? h)
  ·exact Int.le_refl _
 |_=>exact Int.le_refl _
theorem Iw:∀(r:List Sym),0<=ds r
 |[]=>Int.le_refl _
 |y::r=>by
  have:=O0 y;show 0<=if wB y+ds r<=wD y then wD y else wB y+ds r;split <;> omega
theorem kh(y:Sym)(r:List Sym):wD y<=ds (y::r):=by show wD y<=if wB y+ds r<=wD y then wD y else wB y+ds r;split <;> omega
theorem fh(y:Sym)(r:List Sym):wB y+ds r<=ds (y::r):=by show wB y+ds r<=if wB y+ds r<=wD y then wD y else wB y+ds r;split <;> omega
theorem DI:∀(r q:List Sym),ds r<=ds (r++q)
 |[],q=>Iw q
 |y::r,q=>by
  have h:=DI r q;have h1:=kh y (r++q);have h2:=fh y (r++q);show(if wB y+ds r<=wD y then wD y else wB y+ds r)<=ds (y::(r++q));split <;> omega
theorem CU:∀(r q:List Sym),bs r+ds q<=ds (r++q)
 |[],q=>by show 0+ds q<=ds q;omega
 |y::r,q=>by
  have h:=CU r q;have h2:=fh y (r++q);show wB y+bs r+ds q<=ds (y::(r++q));omega
theorem xx:∀(r q:List Sym)(c:Int),ds r<=c->bs r+ds q<=c->ds (r++q)<=c
 |[],q,c,_,h=>by
  have:(0:Int)+ds q<=c:=h;show ds q<=c;omega
 |y::r,q,c,h1,h2=>by
  have a1:=kh y r;have a2:=fh y r;have h2:wB y+bs r+ds q<=c:=h2;have h:=xx r q (c - wB y) ↑2 ↑2;show(if wB y+ds (r++q)<=wD y then wD y else wB y+ds (r++q))<=c;split <;> omega
theorem zz:∀{R:List (List (Nat×List Sym))}{B D:List Int},F0 R B D=true->∀{i:Nat}{g:List (Nat×List Sym)}{y:Nat×List Sym},P0 R i=some g->y∈g->1+(y.2.length:Int)+bs y.2<=B.getD i 0/\1+(y.2.length:Int)+ds y.2<=D.getD i 0
 |[],_,_,_,_,_,_,h,_=>by cases h
 |_::_,[],_,h,_,_,_,_,_=>by cases h
 |_::_,_::_,[],h,_,_,_,_,_=>by cases h
 |g::G,b::B,d::D,h,0,_,y,e,m=>by
  cases e;have h:=(Bool.and_eq_true _ _).mp h;have h1:=List.all_eq_true.mp h.1 y m;have h1:=(Bool.and_eq_true _ _).mp h1;exact⟨of_decide_eq_true h1.1,of_decide_eq_true h1.2⟩
 |g::G,b::B,d::D,h,i+1,_,y,e,m=>zz (R:=G) (B:=B) (D:=D) ((Bool.and_eq_true _ _).mp h).2 (i:=i) e m
theorem u9:∀{g:List (Nat×List Sym)}{l:Nat}{r:List Sym},aH g l=some r->∃y∈g,y.2=r
 |[],_,_,h=>by cases h
 |y::g,l,r,h=>by
  unfold aH at h;split at h
  ·exact⟨y,List.mem_cons_self ..,Option.some.inj h⟩
  ·obtain⟨x,hx,e⟩:=u9 h;exact⟨x,List.mem_cons_of_mem _ hx,e⟩
theorem kD{l:Nat}(h:row n l=some r):1+(r.length:Int)+bs r<=wB (.w n)/\1+(r.length:Int)+ds r<=wD (.w n):=by
 unfold row at h;split at h
 ·rename_i c;split at h
  ·cases h
  ·rename_i g hg;obtain⟨y,hy,rfl⟩:=u9 h;have:=zz Hc hg hy;show _<=(if Nat.ble 1000 n=true then BT.getD (n - 1000) 0 else -34)/\_<=(if Nat.ble 1000 n=true then DT.getD (n - 1000) 0 else 0);rw[if_pos c,if_pos c];exact this
 ·cases h
def Sm(e:Bool)(z:Fault)(r:List Sym)(s:St)(G:List Fr){α:Type}(x:Except Fault α)(Q:α->St->List Fr->Prop):Prop:=match x with
 | .error er=>∃n:Nat,(n:Int)<=35*(len s:Int)+ds r/\∀K,Runs e z n (r++K) s G (.fault er)
 | .ok a=>∃(s':St)(G':List Fr)(n:Nat),(n:Int)+35*(len s':Int)<=35*(len s:Int)+bs r/\Q a s' G'/\∀m K o,Runs e z m K s' G' o->Runs e z (m+n) (r++K) s G o
section
variable{e:Bool}{z:Fault}{α β:Type}{s:St}{G:List Fr}
theorem mN{a:α}{Q:α->St->List Fr->Prop}(h:Q a s G):Sm e z [] s G (.ok a) Q:=⟨s,G,0,by show(0:Int)+_<=_+0;omega,h,λ_ _ _ h=>h⟩
theorem mB{x:Except Fault α}{k:α->Except Fault β}{Q:α->St->List Fr->Prop}{R:β->St->List Fr->Prop}(h:Sm e z r s G x Q)(g:∀a s' G',Q a s' G'->Sm e z q s' G' (k a) R):Sm e z (r++q) s G (x>>=k) R:=by
 cases x with
 |error er=>
  obtain⟨n,hn,h⟩:=h;exact⟨n,Int.le_trans hn (by have:=DI r q;omega),λK=>by rw[List.append_assoc];exact h _⟩
 |ok a=>
  obtain⟨s',G',n,hn,hq,hr⟩:=h;have:=g a s' G' hq;show Sm e z (r++q) s G (k a) R;cases hk:k a with
  |error er=>
   rw[hk] at this;obtain⟨m,hm,h⟩:=this;exact⟨m+n,by have:=CU r q;omega,λK=>by rw[List.append_assoc];exact hr _ _ _ (h K)⟩
  |ok b=>
   rw[hk] at this;obtain⟨s2,G2,m,hm,h2,h3⟩:=this;exact⟨s2,G2,m+n,by have:=wH r q;omega,h2,λj K o ho=>by rw[List.append_assoc,<-Nat.add_assoc];exact hr _ _ _ (h3 j K o ho)⟩
theorem mC{y:Sym}{x:Except Fault α}{k:α->Except Fault β}{Q:α->St->List Fr->Prop}{R:β->St->List Fr->Prop}(h:Sm e z [y] s G x Q)(g:∀a s' G',Q a s' G'->Sm e z q s' G' (k a) R):Sm e z (y::q) s G (x>>=k) R:=mB (r:=[y]) h g
theorem mM{x:Except Fault α}{k:α->β}{Q:α->St->List Fr->Prop}{R:β->St->List Fr->Prop}(h:Sm e z r s G x Q)(g:∀a s' G',Q a s' G'->R (k a) s' G'):Sm e z r s G (x.map k) R:=by
 cases x with
 |error er=>exact h
 |ok a=>
  obtain⟨s',G',n,hn,hq,hr⟩:=h;exact⟨s',G',n,hn,g a s' G' hq,hr⟩
theorem mS{r':List Sym}{s0:St}{G':List Fr}{x:Except Fault α}{Q:α->St->List Fr->Prop}(c:Nat)(h1:(c:Int)+35*(len s0:Int)+bs r'<=35*(len s:Int)+bs r)(h2:(c:Int)+35*(len s0:Int)+ds r'<=35*(len s:Int)+ds r)(st:∀m K o,Runs e z m (r'++K) s0 G' o->Runs e z (m+c) (r++K) s G o)(h:Sm e z r' s0 G' x Q):Sm e z r s G x Q:=by
 cases x with
 |error er=>
  obtain⟨n,hn,h⟩:=h;exact⟨n+c,↑2,λK=>st _ K _ (h K)⟩
 |ok a=>
  obtain⟨s',G',n,hn,hq,hr⟩:=h;exact⟨s',G',n+c,↑2,hq,λm K o ho=>by rw[<-Nat.add_assoc];exact st _ K o (hr m K o ho)⟩
theorem QU{y:Sym}{G':List Fr}{x:Except Fault α}{Q:α->St->List Fr->Prop}(hy:wB y=1)(st:∀m K o,Runs e z m (r++K) s G' o->Runs e z (m+1) (y::(r++K)) s G o)(h:Sm e z r s G' x Q):Sm e z (y::r) s G x Q:=
 mS 1 (by show(1:Int)+_+bs r<=_+(wB y+bs r);omega) (by have:=fh y r;show(1:Int)+_+ds r<=_;omega) st h
theorem bJ{f:Fk}{x:Except Fault α}{Q:α->St->List Fr->Prop}(h:Sm e z r s (⟨f.at s,[]⟩::G) x Q):Sm e z (.bg f::r) s G x Q:=QU rfl (λ_ _ _ h=>.bg h) h
theorem d8{b:Bytes}{x:Except Fault α}{Q:α->St->List Fr->Prop}(h:Sm e z r s (⟨f,l++[.leaf b]⟩::G) x Q):Sm e z (.bW b::r) s (⟨f,l⟩::G) x Q:=QU rfl (λ_ _ _ h=>.bW h) h
theorem A'{p:Pt}{h:Fm}{q:List Pt}{x:Except Fault α}{Q:α->St->List Fr->Prop}(hh:Sm e z r s (⟨f.tk p,l++[p]⟩::⟨h,q⟩::G) x Q):Sm e z (.take::r) s (⟨f,l⟩::⟨h,q++[p]⟩::G) x Q:=QU rfl (λ_ _ _ h=>.take h) hh
theorem Ud{x:Except Fault α}{Q:α->St->List Fr->Prop}(hh:Sm e z r s (⟨f.turn k,l⟩::G) x Q):Sm e z (.turn k::r) s (⟨f,l⟩::G) x Q:=QU rfl (λ_ _ _ h=>.turn h) hh
theorem C5{h:Fm}{q:List Pt}{x:Except Fault α}{Q:α->St->List Fr->Prop}(hs:f.isSet=true->iu l)(hh:Sm e z r s (⟨h,q++[done f s l]⟩::G) x Q):Sm e z (.fin::r) s (⟨f,l⟩::⟨h,q⟩::G) x Q:=QU rfl (λ_ _ _ h=>.fin hs h) hh
theorem LV(e:Bool)(s:St):lk e s<1000:=by
 unfold lk;split
 ·cases e <;> decide
 ·rename_i t _ _;unfold lV;split
  ·split
   ·rename_i i h;have:=(List.findIdx?_eq_some_iff_getElem.mp h).1;have:KEYWORDS.length=80:=↑1
    omega
   ·decide
  split
  ·split
   ·rename_i i h;have:=(List.findIdx?_eq_some_iff_getElem.mp h).1;have:SIGNS.length=25:=↑1
    omega
   ·decide
  split
  ·decide
  split
  ·decide
  split
  ·decide
  split
  ·decide
  ·decide
theorem r_{e:Bool}{s:St}:(299:Nat)≠lk e s:=by
 intro c;have c:=c.symm;unfold lk at c;split at c
 ·cases e <;> cases c
 ·rename_i t _ _;unfold lV at c;split at c
  ·split at c
   ·rename_i i h;have:=(List.findIdx?_eq_some_iff_getElem.mp h).1;have:KEYWORDS.length=80:=↑1
    omega
   ·cases c
  split at c
  ·split at c
   ·rename_i i h;have:=(List.findIdx?_eq_some_iff_getElem.mp h).1;have:SIGNS.length=25:=↑1
    omega
   ·cases c
  split at c
  ·cases c
  split at c
  ·cases c
  split at c
  ·cases c
  split at c <;> cases c
theorem nt(h:1000<=n):n≠lk e s:=λc=>absurd (LV e s) (by rw[<-c];exact Nat.not_lt.mpr h)
theorem mX{l:Nat}{x:Except Fault α}{Q:α->St->List Fr->Prop}(h1:row n l=some r)(hl:lk e s=l)(h0:1000<=n)(h:Sm e z (r++q) s G x Q):Sm e z (.w n::q) s G x Q:=
 mS (1+r.length) (by
  have:=kD h1;have h2:=wH r q;show((1+r.length:Nat):Int)+_+bs (r++q)<=_+(wB (.w n)+bs q)
  omega) (by
  have c:=kD h1;have h2:=kh (.w n) q;have h3:=fh (.w n) q;have h4:=xx r q (ds (.w n::q) - 1 - r.length) ↑2 ↑2;omega) (λm K o h=>.go (nt h0) (by rw[hl];exact h1) (by rw[List.append_assoc] at h;exact h)) h
theorem Pe{x:Except Fault α}{Q:α->St->List Fr->Prop}(h2:row n 299=some r)(h1:row n (lk e s)=none)(h0:1000<=n)(h:Sm e z (r++q) s G x Q):Sm e z (.w n::q) s G x Q:=
 mS (1+r.length) (by
  have:=kD h2;have h3:=wH r q;show((1+r.length:Nat):Int)+_+bs (r++q)<=_+(wB (.w n)+bs q)
  omega) (by
  have c:=kD h2;have h3:=kh (.w n) q;have h4:=fh (.w n) q;have h5:=xx r q (ds (.w n::q) - 1 - r.length) ↑2 ↑2;omega) (λm K o h=>.Sv (nt h0) h1 h2 (by rw[List.append_assoc] at h;exact h)) h
theorem E7{Q:α->St->List Fr->Prop}(h0:n≠lk e s)(h1:row n (lk e s)=none)(h2:row n 299=none):Sm e z (.w n::q) s G (.error (bad z s)) Q:=⟨0,by have:=Iw (.w n::q);omega,λ_=>.no h0 h1 h2⟩
theorem mT{c:Prop}[Decidable c]{x y:Except Fault α}{Q:α->St->List Fr->Prop}(h:c)(k:Sm e z r s G x Q):Sm e z r s G (if c then x else y) Q:=by rw[if_pos h];exact k
theorem mF{c:Prop}[Decidable c]{x y:Except Fault α}{Q:α->St->List Fr->Prop}(h:¬c)(k:Sm e z r s G y Q):Sm e z r s G (if c then x else y) Q:=by rw[if_neg h];exact k
theorem mW{x:Except Fault α}{Q R:α->St->List Fr->Prop}(h:Sm e z r s G x Q)(k:∀a s' G',Q a s' G'->R a s' G'):Sm e z r s G x R:=by
 cases x with
 |error er=>exact h
 |ok a=>
  obtain⟨s',G',n,hn,hq,hr⟩:=h;exact⟨s',G',n,hn,k a s' G' hq,hr⟩
end
theorem az{e:Bool}{i:Nat}(h:(KEYWORDS.findIdx? λx=>x==word w)=some i):s.key w=true↔lk e s=i:=by
 have hi:i<80:=by
  have:=(List.findIdx?_eq_some_iff_getElem.mp h).1;have h2:KEYWORDS.length=80:=↑1
  omega
 obtain⟨p,ts⟩:=s;cases ts with
 |nil=>
  refine⟨λc=>(by cases c),λc=>?_⟩;cases e
  ·have c:204=i:=c;omega
  ·have c:205=i:=c;omega
 |cons t r=>
  show(t.kind==0&&t.bytes==word w)=true↔lV t=i;rw[Bool.and_eq_true,beq_iff_eq,beq_iff_eq];refine⟨λ⟨a,b⟩=>?_,λc=>?_⟩
  ·unfold lV;rw[if_pos a,b,h]
  ·unfold lV at c;split at c
   ·rename_i a;split at c
    ·rename_i j hj;subst c;obtain⟨hj1,hj2,_⟩:=List.findIdx?_eq_some_iff_getElem.mp hj;obtain⟨_,hi2,_⟩:=List.findIdx?_eq_some_iff_getElem.mp h;have e1:KEYWORDS[j]=t.bytes:=by simpa using hj2
     have e2:KEYWORDS[j]=word w:=by simpa using hi2
     exact⟨a,e1.symm.trans e2⟩
    ·omega
   split at c
   ·split at c <;> omega
   split at c
   ·omega
   split at c
   ·omega
   split at c
   ·omega
   split at c <;> omega
theorem a_{e:Bool}{i:Nat}(h:(SIGNS.findIdx? λx=>x==word w)=some i):s.sign w=true↔lk e s=100+i:=by
 have hi:i<25:=by
  have:=(List.findIdx?_eq_some_iff_getElem.mp h).1;have h2:SIGNS.length=25:=↑1
  omega
 obtain⟨p,ts⟩:=s;cases ts with
 |nil=>
  refine⟨λc=>(by cases c),λc=>?_⟩;cases e
  ·have c:204=100+i:=c;omega
  ·have c:205=100+i:=c;omega
 |cons t r=>
  show(t.kind==5&&t.bytes==word w)=true↔lV t=100+i;rw[Bool.and_eq_true,beq_iff_eq,beq_iff_eq];refine⟨λ⟨a,b⟩=>?_,λc=>?_⟩
  ·unfold lV;rw[if_neg (by rw[a];decide),if_pos a,b,h]
  ·unfold lV at c;split at c
   ·split at c
    ·rename_i j hj;have:=(List.findIdx?_eq_some_iff_getElem.mp hj).1;have h2:KEYWORDS.length=80:=↑1
     omega
    ·omega
   split at c
   ·rename_i a;split at c
    ·rename_i j hj;have:j=i:=↑2
     subst this;obtain⟨hj1,hj2,_⟩:=List.findIdx?_eq_some_iff_getElem.mp hj;obtain⟨_,hi2,_⟩:=List.findIdx?_eq_some_iff_getElem.mp h;have e1:SIGNS[j]=t.bytes:=by simpa using hj2
     have e2:SIGNS[j]=word w:=by simpa using hi2
     exact⟨a,e1.symm.trans e2⟩
    ·omega
   split at c
   ·omega
   split at c
   ·omega
   split at c
   ·omega
   split at c <;> omega
section
variable{e:Bool}{s:St}
theorem fg:s.key "account"=true↔lk e s=0:=az ↑1
theorem LR:s.key "and"=true↔lk e s=1:=az ↑1
theorem OV:s.key "as"=true↔lk e s=2:=az ↑1
theorem Br:s.key "away"=true↔lk e s=3:=az ↑1
theorem Cn:s.key "both"=true↔lk e s=4:=az ↑1
theorem yh:s.key "break"=true↔lk e s=5:=az ↑1
theorem xo:s.key "catch"=true↔lk e s=6:=az ↑1
theorem uY:s.key "cut"=true↔lk e s=8:=az ↑1
theorem mO:s.key "decimal"=true↔lk e s=9:=az ↑1
theorem rb:s.key "double"=true↔lk e s=10:=az ↑1
theorem nQ:s.key "down"=true↔lk e s=11:=az ↑1
theorem jw:s.key "else"=true↔lk e s=12:=az ↑1
theorem yg:s.key "error"=true↔lk e s=13:=az ↑1
theorem jG:s.key "extended"=true↔lk e s=14:=az ↑1
theorem wG:s.key "false"=true↔lk e s=15:=az ↑1
theorem ym:s.key "fibre"=true↔lk e s=16:=az ↑1
theorem d9:s.key "finally"=true↔lk e s=17:=az ↑1
theorem AR:s.key "five"=true↔lk e s=18:=az ↑1
theorem eW:s.key "flags"=true↔lk e s=19:=az ↑1
theorem yi:s.key "flush"=true↔lk e s=20:=az ↑1
theorem D8:s.key "fn"=true↔lk e s=21:=az ↑1
theorem Iy:s.key "for"=true↔lk e s=22:=az ↑1
theorem jx:s.key "fraction"=true↔lk e s=23:=az ↑1
theorem OR:s.key "from"=true↔lk e s=24:=az ↑1
theorem tK:s.key "giving"=true↔lk e s=25:=az ↑1
theorem B6:s.key "half"=true↔lk e s=26:=az ↑1
theorem yO:s.key "if"=true↔lk e s=27:=az ↑1
theorem Lj:s.key "in"=true↔lk e s=28:=az ↑1
theorem oa:s.key "inexact"=true↔lk e s=29:=az ↑1
theorem jX:s.key "interval"=true↔lk e s=30:=az ↑1
theorem AG:s.key "into"=true↔lk e s=31:=az ↑1
theorem mU:s.key "invalid"=true↔lk e s=32:=az ↑1
theorem NZ:s.key "is"=true↔lk e s=33:=az ↑1
theorem vM:s.key "leave"=true↔lk e s=34:=az ↑1
theorem z7:s.key "let"=true↔lk e s=35:=az ↑1
theorem Bg:s.key "list"=true↔lk e s=36:=az ↑1
theorem AK:s.key "make"=true↔lk e s=37:=az ↑1
theorem xy:s.key "match"=true↔lk e s=38:=az ↑1
theorem IU:s.key "module"=true↔lk e s=39:=az ↑1
theorem mH:s.key "near"=true↔lk e s=40:=az ↑1
theorem jI:s.key "nearaway"=true↔lk e s=41:=az ↑1
theorem mQ:s.key "nearcut"=true↔lk e s=42:=az ↑1
theorem AU:s.key "next"=true↔lk e s=43:=az ↑1
theorem Gr:s.key "not"=true↔lk e s=44:=az ↑1
theorem Jn:s.key "of"=true↔lk e s=45:=az ↑1
theorem Bs:s.key "only"=true↔lk e s=46:=az ↑1
theorem QE:s.key "or"=true↔lk e s=47:=az ↑1
theorem Hk:s.key "out"=true↔lk e s=48:=az ↑1
theorem jO:s.key "overflow"=true↔lk e s=49:=az ↑1
theorem tp:s.key "packed"=true↔lk e s=50:=az ↑1
theorem nP:s.key "picture"=true↔lk e s=51:=az ↑1
theorem A1:s.key "post"=true↔lk e s=52:=az ↑1
theorem hZ:s.key "precision"=true↔lk e s=53:=az ↑1
theorem xD:s.key "raise"=true↔lk e s=54:=az ↑1
theorem r9:s.key "record"=true↔lk e s=55:=az ↑1
theorem sv:s.key "resume"=true↔lk e s=56:=az ↑1
theorem qB:s.key "return"=true↔lk e s=57:=az ↑1
theorem jD:s.key "rounding"=true↔lk e s=58:=az ↑1
theorem II:s.key "say"=true↔lk e s=59:=az ↑1
theorem qI:s.key "single"=true↔lk e s=60:=az ↑1
theorem xq:s.key "small"=true↔lk e s=61:=az ↑1
theorem xn:s.key "spawn"=true↔lk e s=62:=az ↑1
theorem w8:s.key "stack"=true↔lk e s=63:=az ↑1
theorem A3:s.key "text"=true↔lk e s=64:=az ↑1
theorem MW:s.key "then"=true↔lk e s=65:=az ↑1
theorem Ov:s.key "to"=true↔lk e s=66:=az ↑1
theorem Bh:s.key "trap"=true↔lk e s=67:=az ↑1
theorem Bj:s.key "true"=true↔lk e s=68:=az ↑1
theorem xI:s.key "truth"=true↔lk e s=69:=az ↑1
theorem GA:s.key "try"=true↔lk e s=70:=az ↑1
theorem iT:s.key "underflow"=true↔lk e s=71:=az ↑1
theorem D3:s.key "up"=true↔lk e s=72:=az ↑1
theorem Jo:s.key "use"=true↔lk e s=73:=az ↑1
theorem vW:s.key "value"=true↔lk e s=74:=az ↑1
theorem xV:s.key "while"=true↔lk e s=75:=az ↑1
theorem vK:s.key "whole"=true↔lk e s=76:=az ↑1
theorem Cm:s.key "with"=true↔lk e s=77:=az ↑1
theorem w_:s.key "yield"=true↔lk e s=78:=az ↑1
theorem Bk:s.key "zero"=true↔lk e s=79:=az ↑1
theorem Ed:s.sign "->"=true↔lk e s=100:=a_ (i:=0) ↑1
theorem Qj:s.sign "=="=true↔lk e s=101:=a_ (i:=1) ↑1
theorem Rw:s.sign "!="=true↔lk e s=102:=a_ (i:=2) ↑1
theorem RF:s.sign "<="=true↔lk e s=103:=a_ (i:=3) ↑1
theorem Q5:s.sign ">="=true↔lk e s=104:=a_ (i:=4) ↑1
theorem Q0:s.sign "//"=true↔lk e s=105:=a_ (i:=5) ↑1
theorem Mp:s.sign ".."=true↔lk e s=106:=a_ (i:=6) ↑1
theorem kP:s.sign "("=true↔lk e s=107:=a_ (i:=7) ↑1
theorem hU:s.sign ")"=true↔lk e s=108:=a_ (i:=8) ↑1
theorem nV:s.sign "["=true↔lk e s=109:=a_ (i:=9) ↑1
theorem v_:s.sign "]"=true↔lk e s=110:=a_ (i:=10) ↑1
theorem Gh:s.sign "{"=true↔lk e s=111:=a_ (i:=11) ↑1
theorem E_:s.sign "}"=true↔lk e s=112:=a_ (i:=12) ↑1
theorem eB:s.sign ","=true↔lk e s=113:=a_ (i:=13) ↑1
theorem Fe:s.sign ":"=true↔lk e s=114:=a_ (i:=14) ↑1
theorem mK:s.sign "."=true↔lk e s=115:=a_ (i:=15) ↑1
theorem FH:s.sign "="=true↔lk e s=116:=a_ (i:=16) ↑1
theorem Q6:s.sign "<"=true↔lk e s=117:=a_ (i:=17) ↑1
theorem Rk:s.sign ">"=true↔lk e s=118:=a_ (i:=18) ↑1
theorem QB:s.sign "+"=true↔lk e s=119:=a_ (i:=19) ↑1
theorem Gj:s.sign "-"=true↔lk e s=120:=a_ (i:=20) ↑1
theorem P_:s.sign "*"=true↔lk e s=121:=a_ (i:=21) ↑1
theorem P1:s.sign "/"=true↔lk e s=122:=a_ (i:=22) ↑1
theorem PY:s.sign "%"=true↔lk e s=123:=a_ (i:=23) ↑1
theorem OZ:s.sign "^"=true↔lk e s=124:=a_ (i:=24) ↑1
end
theorem cM{e:Bool}(hk:1<=k/\k<=4):(∃t r,s.toks=t::r/\t.kind=k)↔lk e s=199+k:=by
 obtain⟨p,ts⟩:=s;cases ts with
 |nil=>
  refine⟨λ⟨t,r,h,_⟩=>(by cases h),λc=>?_⟩;cases e
  ·have c:204=199+k:=c;omega
  ·have c:205=199+k:=c;omega
 |cons t r=>
  have hl:KEYWORDS.length=80:=↑1
  have hs:SIGNS.length=25:=↑1
  refine⟨λ⟨t',r',h,h2⟩=>?_,λc=>⟨t,r,rfl,?_⟩⟩
  ·obtain⟨rfl,rfl⟩:=List.cons.inj h;show lV t=_;unfold lV;rw[if_neg ↑2,if_neg ↑2];split
   ·omega
   split
   ·omega
   split
   ·omega
   split <;> omega
  ·have c:lV t=199+k:=c;unfold lV at c;split at c
   ·split at c
    ·rename_i j hj;have:=(List.findIdx?_eq_some_iff_getElem.mp hj).1;omega
    ·omega
   split at c
   ·split at c
    ·rename_i j hj;have:=(List.findIdx?_eq_some_iff_getElem.mp hj).1;omega
    ·omega
   split at c
   ·omega
   split at c
   ·omega
   split at c
   ·omega
   split at c <;> omega
abbrev dA:Nat:=1000
abbrev M7:Nat:=1001
abbrev iS:Nat:=1002
abbrev jk:Nat:=1003
abbrev Q8:Nat:=1004
abbrev zD:Nat:=1005
abbrev ye:Nat:=1006
abbrev lU:Nat:=1007
abbrev sC:Nat:=1008
abbrev ue:Nat:=1009
abbrev J':Nat:=1010
abbrev GQ:Nat:=1011
abbrev jE:Nat:=1012
abbrev Dc:Nat:=1014
abbrev lR:Nat:=1015
abbrev CY:Nat:=1017
abbrev kZ:Nat:=1018
abbrev oS:Nat:=1019
abbrev qh:Nat:=1020
abbrev iG:Nat:=1021
abbrev eL:Nat:=1022
abbrev tR:Nat:=1024
abbrev TU:Nat:=1025
abbrev xr:Nat:=1026
abbrev BG:Nat:=1027
abbrev MV:Nat:=1030
abbrev t6:Nat:=1031
abbrev wq:Nat:=1032
abbrev GF:Nat:=1033
abbrev zZ:Nat:=1034
abbrev EX:Nat:=1035
abbrev D4:Nat:=1036
abbrev BV:Nat:=1037
abbrev fW:Nat:=1038
abbrev bM:Nat:=1039
abbrev cz:Nat:=1040
abbrev uX:Nat:=1041
abbrev HR:Nat:=1042
abbrev Bo:Nat:=1043
abbrev E5:Nat:=1044
abbrev jL:Nat:=1045
abbrev A0:Nat:=1046
abbrev uQ:Nat:=1047
abbrev Hr:Nat:=1048
abbrev B':Nat:=1049
abbrev QI:Nat:=1050
abbrev AM:Nat:=1051
abbrev EZ:Nat:=1052
abbrev rp:Nat:=1053
abbrev Hl:Nat:=1054
abbrev KZ:Nat:=1056
abbrev G6:Nat:=1057
abbrev oA:Nat:=1058
abbrev Mu:Nat:=1059
abbrev Kd:Nat:=1060
abbrev GR:Nat:=1061
abbrev DM:Nat:=1063
abbrev Kl:Nat:=1064
abbrev wz:Nat:=1065
abbrev OX:Nat:=1068
abbrev qK:Nat:=1069
abbrev gY:Nat:=1070
abbrev u7:Nat:=1071
theorem Fb(l:Nat):row 1000 l=aH vj l:=rfl
def zV:=(rfl:row 1000 299=some _)
theorem MM(l:Nat):row 1001 l=aH HL l:=rfl
def A9:=(rfl:row 1001 73=some _)
def HW:=(rfl:row 1001 299=some _)
theorem iQ(l:Nat):row 1002 l=aH iA l:=rfl
def jY:=(rfl:row 1002 204=some _)
def f_:=(rfl:row 1002 299=some _)
theorem um(l:Nat):row 1003 l=aH jm l:=rfl
def kM:=(rfl:row 1003 35=some _)
def iP:=(rfl:row 1003 55=some _)
def hJ:=(rfl:row 1003 0=some _)
def mE:=(rfl:row 1003 21=some _)
theorem Qh(l:Nat):row 1004 l=aH L9 l:=rfl
def KD:=(rfl:row 1004 299=some _)
theorem yA(l:Nat):row 1005 l=aH o_ l:=rfl
def rO:=(rfl:row 1005 114=some _)
def uf:=(rfl:row 1005 299=some _)
theorem wK(l:Nat):row 1006 l=aH kH l:=rfl
def qb:=(rfl:row 1006 109=some _)
def rm:=(rfl:row 1006 299=some _)
theorem xM(l:Nat):row 1007 l=aH kN l:=rfl
def pf:=(rfl:row 1007 113=some _)
def tq:=(rfl:row 1007 299=some _)
theorem zW(l:Nat):row 1008 l=aH zg l:=rfl
def ui:=(rfl:row 1008 200=some _)
def qF:=(rfl:row 1008 299=some _)
theorem uv(l:Nat):row 1009 l=aH jh l:=rfl
def mZ:=(rfl:row 1009 113=some _)
def p7:=(rfl:row 1009 299=some _)
theorem Kx(l:Nat):row 1010 l=aH DR l:=rfl
def EW:=(rfl:row 1010 299=some _)
theorem y4(l:Nat):row 1011 l=aH zl l:=rfl
def o9:=(rfl:row 1011 100=some _)
def rl:=(rfl:row 1011 299=some _)
theorem O2(l:Nat):row 1012 l=aH Jp l:=rfl
def xY:=(rfl:row 1012 76=some _)
def p9:=(rfl:row 1012 23=some _)
def qU:=(rfl:row 1012 9=some _)
def zT:=(rfl:row 1012 26=some _)
def uu:=(rfl:row 1012 60=some _)
def uA:=(rfl:row 1012 10=some _)
def pL:=(rfl:row 1012 14=some _)
def pZ:=(rfl:row 1012 30=some _)
def vV:=(rfl:row 1012 69=some _)
def za:=(rfl:row 1012 64=some _)
def wX:=(rfl:row 1012 19=some _)
def xT:=(rfl:row 1012 13=some _)
def rA:=(rfl:row 1012 0=some _)
def wV:=(rfl:row 1012 74=some _)
def t5:=(rfl:row 1012 50=some _)
def yI:=(rfl:row 1012 36=some _)
def xF:=(rfl:row 1012 16=some _)
def D_:=(rfl:row 1012 21=some _)
def zc:=(rfl:row 1012 200=some _)
theorem Ex(l:Nat):row 1013 l=aH vD l:=rfl
def xj:=(rfl:row 1013 45=some _)
def Aw:=(rfl:row 1013 299=some _)
theorem JT(l:Nat):row 1014 l=aH Cq l:=rfl
def AY:=(rfl:row 1014 108=some _)
def DY:=(rfl:row 1014 299=some _)
theorem xN(l:Nat):row 1015 l=aH kJ l:=rfl
def pX:=(rfl:row 1015 113=some _)
def rS:=(rfl:row 1015 299=some _)
theorem tZ(l:Nat):row 1016 l=aH je l:=rfl
def mR:=(rfl:row 1016 115=some _)
def pM:=(rfl:row 1016 299=some _)
theorem Kp(l:Nat):row 1017 l=aH Co l:=rfl
def Fc:=(rfl:row 1017 299=some _)
theorem vO(l:Nat):row 1018 l=aH lb l:=rfl
def pB:=(rfl:row 1018 112=some _)
def sA:=(rfl:row 1018 299=some _)
theorem zR(l:Nat):row 1019 l=aH oE l:=rfl
def pY:=(rfl:row 1019 35=some _)
def md:=(rfl:row 1019 200=some _)
def kO:=(rfl:row 1019 19=some _)
def tJ:=(rfl:row 1019 27=some _)
def lx:=(rfl:row 1019 75=some _)
def pG:=(rfl:row 1019 22=some _)
def lL:=(rfl:row 1019 38=some _)
def jv:=(rfl:row 1019 57=some _)
def lh:=(rfl:row 1019 34=some _)
def lP:=(rfl:row 1019 5=some _)
def mq:=(rfl:row 1019 43=some _)
def nO:=(rfl:row 1019 77=some _)
def pQ:=(rfl:row 1019 70=some _)
def kI:=(rfl:row 1019 54=some _)
def p8:=(rfl:row 1019 59=some _)
def lK:=(rfl:row 1019 78=some _)
def m8:=(rfl:row 1019 52=some _)
theorem J4(l:Nat):row 1020 l=aH DV l:=rfl
def Bu:=(rfl:row 1020 107=some _)
def B7:=(rfl:row 1020 109=some _)
def B_:=(rfl:row 1020 115=some _)
def BD:=(rfl:row 1020 116=some _)
theorem qN(l:Nat):row 1021 l=aH ic l:=rfl
def lQ:=(rfl:row 1021 107=some _)
def lC:=(rfl:row 1021 109=some _)
def lI:=(rfl:row 1021 115=some _)
def mj:=(rfl:row 1021 299=some _)
theorem pj(l:Nat):row 1022 l=aH g6 l:=rfl
def ij:=(rfl:row 1022 12=some _)
def kS:=(rfl:row 1022 299=some _)
theorem ud(l:Nat):row 1023 l=aH jd l:=rfl
def nL:=(rfl:row 1023 27=some _)
def qc:=(rfl:row 1023 299=some _)
theorem HG(l:Nat):row 1024 l=aH zH l:=rfl
def A7:=(rfl:row 1024 299=some _)
theorem SD(l:Nat):row 1025 l=aH Q3 l:=rfl
def Ky:=(rfl:row 1025 66=some _)
def ME:=(rfl:row 1025 299=some _)
theorem Kj(l:Nat):row 1026 l=aH DN l:=rfl
def BY:=(rfl:row 1026 33=some _)
def Ff:=(rfl:row 1026 299=some _)
theorem Oa(l:Nat):row 1027 l=aH HD l:=rfl
def yL:=(rfl:row 1027 12=some _)
def Ie:=(rfl:row 1027 299=some _)
theorem yr(l:Nat):row 1028 l=aH kn l:=rfl
def jH:=(rfl:row 1028 6=some _)
def ia:=(rfl:row 1028 17=some _)
theorem EV(l:Nat):row 1029 l=aH vo l:=rfl
def fH:=(rfl:row 1029 17=some _)
def yK:=(rfl:row 1029 299=some _)
theorem Nd(l:Nat):row 1030 l=aH Hb l:=rfl
def Ar:=(rfl:row 1030 31=some _)
def Ge:=(rfl:row 1030 299=some _)
theorem t9(l:Nat):row 1031 l=aH jg l:=rfl
def jo:=(rfl:row 1031 203=some _)
def p_:=(rfl:row 1031 299=some _)
theorem vU(l:Nat):row 1032 l=aH la l:=rfl
def pT:=(rfl:row 1032 113=some _)
def qQ:=(rfl:row 1032 299=some _)
theorem OS(l:Nat):row 1033 l=aH FX l:=rfl
def pH:=(rfl:row 1033 58=some _)
def nI:=(rfl:row 1033 53=some _)
def zA:=(rfl:row 1033 67=some _)
def wA:=(rfl:row 1033 20=some _)
theorem ze(l:Nat):row 1034 l=aH oQ l:=rfl
def m5:=(rfl:row 1034 40=some _)
def n8:=(rfl:row 1034 11=some _)
def rR:=(rfl:row 1034 72=some _)
def pd:=(rfl:row 1034 8=some _)
theorem uT(l:Nat):row 1035 l=aH ve l:=rfl
def xG:=(rfl:row 1035 113=some _)
def yp:=(rfl:row 1035 111=some _)
def pb:=(rfl:row 1035 299=some _)
theorem EF(l:Nat):row 1036 l=aH uS l:=rfl
def xE:=(rfl:row 1036 28=some _)
def uo:=(rfl:row 1036 48=some _)
def rN:=(rfl:row 1036 4=some _)
theorem NT(l:Nat):row 1037 l=aH Gq l:=rfl
def rJ:=(rfl:row 1037 32=some _)
def vZ:=(rfl:row 1037 61=some _)
def Aq:=(rfl:row 1037 79=some _)
def pU:=(rfl:row 1037 49=some _)
def nX:=(rfl:row 1037 71=some _)
def sh:=(rfl:row 1037 29=some _)
def wb:=(rfl:row 1037 63=some _)
theorem uD(l:Nat):row 1038 l=aH jl l:=rfl
def l_:=(rfl:row 1038 108=some _)
def pV:=(rfl:row 1038 299=some _)
theorem fj(l:Nat):row 1039 l=aH fq l:=rfl
def d7:=(rfl:row 1039 113=some _)
def eC:=(rfl:row 1039 299=some _)
theorem vP(l:Nat):row 1040 l=aH lJ l:=rfl
def pK:=(rfl:row 1040 27=some _)
def tW:=(rfl:row 1040 299=some _)
theorem ED(l:Nat):row 1041 l=aH u5 l:=rfl
def wk:=(rfl:row 1041 47=some _)
def zX:=(rfl:row 1041 299=some _)
theorem N9(l:Nat):row 1042 l=aH H_ l:=rfl
def G_:=(rfl:row 1042 299=some _)
theorem BZ(l:Nat):row 1043 l=aH qY l:=rfl
def rP:=(rfl:row 1043 1=some _)
def wR:=(rfl:row 1043 299=some _)
theorem E4(l:Nat):row 1044 l=aH uH l:=rfl
def uq:=(rfl:row 1044 44=some _)
def zU:=(rfl:row 1044 299=some _)
theorem BX(l:Nat):row 1045 l=aH s_ l:=rfl
def uj:=(rfl:row 1045 101=some _)
def uw:=(rfl:row 1045 102=some _)
def tY:=(rfl:row 1045 117=some _)
def ua:=(rfl:row 1045 103=some _)
def ub:=(rfl:row 1045 118=some _)
def uB:=(rfl:row 1045 104=some _)
def yo:=(rfl:row 1045 299=some _)
theorem OJ(l:Nat):row 1046 l=aH IQ l:=rfl
def HF:=(rfl:row 1046 299=some _)
theorem E9(l:Nat):row 1047 l=aH uW l:=rfl
def wJ:=(rfl:row 1047 2=some _)
def zO:=(rfl:row 1047 299=some _)
theorem Ja(l:Nat):row 1048 l=aH yW l:=rfl
def pA:=(rfl:row 1048 202=some _)
def Bm:=(rfl:row 1048 299=some _)
theorem AV(l:Nat):row 1049 l=aH tE l:=rfl
def pW:=(rfl:row 1049 40=some _)
def pD:=(rfl:row 1049 11=some _)
def uk:=(rfl:row 1049 72=some _)
def sX:=(rfl:row 1049 8=some _)
def ja:=(rfl:row 1049 41=some _)
def jV:=(rfl:row 1049 42=some _)
def px:=(rfl:row 1049 3=some _)
def pN:=(rfl:row 1049 18=some _)
def xZ:=(rfl:row 1049 299=some _)
theorem P5(l:Nat):row 1050 l=aH LX l:=rfl
def KH:=(rfl:row 1050 299=some _)
theorem AW(l:Nat):row 1051 l=aH tF l:=rfl
def uE:=(rfl:row 1051 119=some _)
def uy:=(rfl:row 1051 120=some _)
def xk:=(rfl:row 1051 299=some _)
theorem EK(l:Nat):row 1052 l=aH vk l:=rfl
def Ax:=(rfl:row 1052 299=some _)
theorem rK(l:Nat):row 1053 l=aH ik l:=rfl
def kL:=(rfl:row 1053 121=some _)
def lj:=(rfl:row 1053 122=some _)
def ko:=(rfl:row 1053 105=some _)
def kY:=(rfl:row 1053 123=some _)
def m9:=(rfl:row 1053 299=some _)
theorem HC(l:Nat):row 1054 l=aH zK l:=rfl
def z8:=(rfl:row 1054 120=some _)
def rZ:=(rfl:row 1054 62=some _)
def pP:=(rfl:row 1054 56=some _)
def my:=(rfl:row 1054 51=some _)
def B5:=(rfl:row 1054 299=some _)
theorem Hd(l:Nat):row 1055 l=aH yR l:=rfl
def ph:=(rfl:row 1055 25=some _)
def Bt:=(rfl:row 1055 299=some _)
theorem Kv(l:Nat):row 1056 l=aH DF l:=rfl
def A6:=(rfl:row 1056 124=some _)
def EO:=(rfl:row 1056 299=some _)
theorem Ob(l:Nat):row 1057 l=aH Hx l:=rfl
def IJ:=(rfl:row 1057 299=some _)
theorem y6(l:Nat):row 1058 l=aH oG l:=rfl
def rX:=(rfl:row 1058 107=some _)
def qL:=(rfl:row 1058 109=some _)
def tH:=(rfl:row 1058 115=some _)
def t_:=(rfl:row 1058 299=some _)
theorem GG(l:Nat):row 1059 l=aH Gy l:=rfl
def zS:=(rfl:row 1059 299=some _)
theorem Du(l:Nat):row 1060 l=aH C6 l:=rfl
def vg:=(rfl:row 1060 299=some _)
theorem Ak(l:Nat):row 1061 l=aH y_ l:=rfl
def tV:=(rfl:row 1061 299=some _)
theorem Jh(l:Nat):row 1062 l=aH IZ l:=rfl
def zx:=(rfl:row 1062 299=some _)
theorem K_(l:Nat):row 1063 l=aH Dd l:=rfl
def qV:=(rfl:row 1063 202=some _)
def yj:=(rfl:row 1063 203=some _)
def vN:=(rfl:row 1063 68=some _)
def uz:=(rfl:row 1063 15=some _)
def t8:=(rfl:row 1063 19=some _)
def vT:=(rfl:row 1063 200=some _)
def wm:=(rfl:row 1063 201=some _)
def xi:=(rfl:row 1063 46=some _)
def AE:=(rfl:row 1063 107=some _)
def Bb:=(rfl:row 1063 109=some _)
def v8:=(rfl:row 1063 37=some _)
theorem Ld(l:Nat):row 1064 l=aH DG l:=rfl
def AO:=(rfl:row 1064 108=some _)
def Fg:=(rfl:row 1064 299=some _)
theorem wI(l:Nat):row 1065 l=aH ly l:=rfl
def pS:=(rfl:row 1065 113=some _)
def rM:=(rfl:row 1065 299=some _)
theorem HJ(l:Nat):row 1066 l=aH Ao l:=rfl
def zL:=(rfl:row 1066 110=some _)
def A4:=(rfl:row 1066 299=some _)
theorem uC(l:Nat):row 1067 l=aH ji l:=rfl
def mL:=(rfl:row 1067 106=some _)
def qd:=(rfl:row 1067 299=some _)
theorem Mt(l:Nat):row 1068 l=aH Hf l:=rfl
def EE:=(rfl:row 1068 115=some _)
def Hi:=(rfl:row 1068 299=some _)
theorem sg(l:Nat):row 1069 l=aH qW l:=rfl
def qa:=(rfl:row 1069 200=some _)
def lq:=(rfl:row 1069 299=some _)
theorem pJ(l:Nat):row 1070 l=aH gZ l:=rfl
def j7:=(rfl:row 1070 113=some _)
def lH:=(rfl:row 1070 299=some _)
theorem Fq(l:Nat):row 1071 l=aH uZ l:=rfl
def Az:=(rfl:row 1071 299=some _)
theorem bD{g:List (Nat×List Sym)}{l:Nat}(k:∀y∈g.map (λy=>y.1),y≠l):aH g l=none:=by
 induction g with
 |nil=>rfl
 |cons y g ih=>
  unfold aH;rw[if_neg (λc=>k y.1 (List.mem_cons_self ..) (Nat.eq_of_beq_eq_true c)),ih λx hx=>k x (List.mem_cons_of_mem _ hx)]
theorem CJ{w l:Nat}(h:w<1000):row w l=none:=if_neg (by
 intro c;have:=Nat.le_of_ble_eq_true c;omega)
variable{e:Bool}{z:Fault}
theorem RY(h:n<1000){Q:α->St->List Fr->Prop}(hn:lk e s≠n):Sm e z (.w n::q) s G (.error (bad z s)) Q:=E7 (λc=>hn c.symm) (CJ h) (CJ h)
theorem R6{t:Tok}{p:Nat}{ts:List Tok}{x:Except Fault α}{Q:α->St->List Fr->Prop}(h1:lV t=n)(hn:n<1000)(h:Sm e z q ⟨t.halt_,ts⟩ (⟨f,l++lf t⟩::G) x Q):Sm e z (.w n::q) ⟨p,t::ts⟩ (⟨f,l⟩::G) x Q:=by
 have hw:wB (.w n)= -34:=by
  show(if Nat.ble 1000 n=true then BT.getD (n - 1000) 0 else -34)= -34;rw[if_neg (λc=>by have:=Nat.le_of_ble_eq_true c;omega)]
 have hl:len ⟨p,t::ts⟩=len ⟨t.halt_,ts⟩+1:=rfl;refine mS (s0:=⟨t.halt_,ts⟩) 1 ?_ ?_ (λm K o ho=>by show Runs e z (m+1) (.w n::(q++K)) _ _ _;rw[<-h1];exact .pass ho) h
 ·show((1:Nat):Int)+_+bs q<=_+(wB (.w n)+bs q)
  rw[hw,hl];omega
 ·have:=fh (.w n) q;rw[hw] at this;rw[hl];omega
theorem Te(hl:s.is k w=true↔lk e s=n)(hn:n<1000)(hk:k=0\/k=5):
  Sm e z [.w n] s (⟨f,l⟩::G) (eat z (s.is k w) s) λa s' G'=>s'=a/\len a+1=len s/\G'=⟨f,l⟩::G:=by
 by_cases c:s.is k w=true
 ·have h1:=hl.mp c;rw[show eat z (s.is k w) s= .ok s.skip from if_pos c];obtain⟨p,ts⟩:=s;cases ts with
  |nil=>cases c
  |cons t r=>
   have hkind:t.kind=k:=by
    have c:(t.kind==k&&t.bytes==word w)=true:=c;rw[Bool.and_eq_true,beq_iff_eq] at c;exact c.1
   have hlf:lf t=[]:=if_pos (by rw[hkind];exact hk);exact R6 h1 hn (mN ⟨rfl,rfl,by rw[hlf,List.append_nil]⟩)
 ·rw[show eat z (s.is k w) s= .error (bad z s) from if_neg c];exact RY hn (λh=>c (hl.mpr h))
theorem bj{x:Except Fault α}{Q:α->St->List Fr->Prop}(c:s.is k w=true)(hl:s.is k w=true↔lk e s=n)(hk:k=0\/k=5)(h:len s.skip+1=len s->Sm e z q s.skip (⟨f,l⟩::G) x Q):Sm e z (.w n::q) s (⟨f,l⟩::G) x Q:=by
 have h1:=hl.mp c;have hn:n<1000:=by rw[<-h1];exact LV e s
 obtain⟨p,ts⟩:=s;cases ts with
 |nil=>cases c
 |cons t r=>
  have hkind:t.kind=k:=by
   have c:(t.kind==k&&t.bytes==word w)=true:=c;rw[Bool.and_eq_true,beq_iff_eq] at c;exact c.1
  have hlf:lf t=[]:=if_pos (by rw[hkind];exact hk);exact R6 h1 hn (by rw[hlf,List.append_nil];exact h rfl)
def BN(k:Nat)(b:Bytes):Bytes:=if k=4 then long b else short b
theorem Ql(hk:1<=k/\k<=4){t:Tok}(c:t.kind=k):lf t=[.leaf (BN k t.bytes)]:=by unfold lf BN;rw[if_neg ↑2,c];split <;> rfl
theorem PX(hk:1<=k/\k<=4):
  Sm e z [.w (199+k)] s (⟨f,l⟩::G) (EwTree.take z k s) λa s' G'=>s'=a.2/\len a.2+1=len s/\G'=⟨f,l++[.leaf (BN k a.1)]⟩::G:=by
 obtain⟨p,ts⟩:=s;cases ts with
 |nil=>exact RY (s:=⟨p,[]⟩) ↑2 (λc=>by obtain⟨t,r,h,_⟩:=(cM hk).mpr c;cases h)
 |cons t r=>
  by_cases c:t.kind=k
  ·rw[show EwTree.take z k ⟨p,t::r⟩= .ok (t.bytes,⟨t.halt_,r⟩) from if_pos c];exact R6 ((cM (e:=e) (s:=⟨p,t::r⟩) hk).mp ⟨t,r,rfl,c⟩) ↑2 (mN ⟨rfl,rfl,by rw[Ql hk c]⟩)
  ·rw[show EwTree.take z k ⟨p,t::r⟩= .error (2,t.place) from if_neg c];exact RY (s:=⟨p,t::r⟩) ↑2 (λh=>by
    obtain⟨t',r',h1,h2⟩:=(cM hk).mpr h;obtain⟨rfl,rfl⟩:=List.cons.inj h1;exact c h2)
end
section
def hb:Fm->Nat->Bytes
 | .kind k _,_=>kind k
 | .row _,_=>[]
 | .count _,n=>count n
 | .set _,_=>[]
def yt(m:Mark):Mark×Bool:=(m,true)
def hk:Fm->St->List (Mark×Bool)->List (Mark×Bool)
 | .kind k b,s,m=>(⟨k,b.here,s.last,m.length+1⟩,decide (len s<len b))::m
 | .row _,_,m=>m
 | .count _,_,m=>m
 | .set _,_,m=>m
mutual
def yb:Pt->Bytes
 | .leaf b=>b
 | .bq f _ l=>hb f l.length++cq l
def cq:List Pt->Bytes
 |[]=>[]
 |p::r=>yb p++cq r
end
mutual
def yk:Pt->List (Mark×Bool)
 | .leaf _=>[]
 | .bq f s l=>hk f s (cI l)
def cI:List Pt->List (Mark×Bool)
 |[]=>[]
 |p::r=>yk p++cI r
end
theorem qE{a:Nat}{b:St}{ps:List Pt}{m:List Mark}(h:cI ps=m.map yt)(hl:len s<len b)(ha:b.here=a):yk (.bq (.kind k b) s ps)=(marked k a s m).map yt:=by show(_,decide (len s<len b))::cI ps=_;rw[h,decide_eq_true hl,List.length_map,ha];rfl
theorem iL:∀(l:List Pt)(p:Pt),cq (l++[p])=cq l++yb p
 |[],p=>by simp only[List.nil_append,cq,List.append_nil]
 |q::l,p=>by simp only[List.cons_append,cq,iL l p,List.append_assoc]
theorem iM:∀(l:List Pt)(p:Pt),cI (l++[p])=cI l++yk p
 |[],p=>by simp only[List.nil_append,cI,List.append_nil]
 |q::l,p=>by simp only[List.cons_append,cI,iM l p,List.append_assoc]
theorem sr:∀(l r:List Pt),cq (l++r)=cq l++cq r
 |[],r=>rfl
 |q::l,r=>by simp only[List.cons_append,cq,sr l r,List.append_assoc]
theorem uP:∀(l r:List Pt),cI (l++r)=cI l++cI r
 |[],r=>rfl
 |q::l,r=>by simp only[List.cons_append,cI,uP l r,List.append_assoc]
section
variable{e:Bool}{z:Fault}{α β:Type}{s:St}{f:Fm}{l:List Pt}{G:List Fr}
def PP(B:α->Bytes)(s:St)(f:Fm)(l:List Pt)(G:List Fr)(a:α×List Mark×St)(s':St)(G':List Fr):Prop:=s'=a.2.2/\len a.2.2<len s/\∃p,G'=⟨f,l++[p]⟩::G/\yb p=B a.1/\yk p=a.2.1.map yt/\∀b,st p b=s
theorem cS{g:St->Except Fault β}{R:β->St->List Fr->Prop}(hl:s.is k w=true↔lk e s=n)(hn:n<1000)(hk:k=0\/k=5)(h:∀s1,len s1+1=len s->Sm e z q s1 (⟨f,l⟩::G) (g s1) R):Sm e z (.w n::q) s (⟨f,l⟩::G) (eat z (s.is k w) s>>=g) R:=
 mC (Te hl hn hk) λa s' G' ⟨h1,h2,h3⟩=>by subst h1 h3;exact h _ h2
theorem cN{g:Bytes×St->Except Fault β}{R:β->St->List Fr->Prop}(hk:1<=k/\k<=4)(h:∀a:Bytes×St,len a.2+1=len s->Sm e z q a.2 (⟨f,l++[.leaf (BN k a.1)]⟩::G) (g a) R):Sm e z (.w (199+k)::q) s (⟨f,l⟩::G) (EwTree.take z k s>>=g) R:=
 mC (PX hk) λa s' G' ⟨h1,h2,h3⟩=>by subst h1 h3;exact h _ h2
theorem cP{y:Sym}{B:α->Bytes}{x:Except Fault (α×List Mark×St)}{g:α×List Mark×St->Except Fault β}{R:β->St->List Fr->Prop}(hx:Sm e z [y] s (⟨f,l⟩::G) x (PP B s f l G))(h:∀(a:α×List Mark×St)(p:Pt),len a.2.2<len s->yb p=B a.1->yk p=a.2.1.map yt->(∀b,st p b=s)->Sm e z q a.2.2 (⟨f,l++[p]⟩::G) (g a) R):Sm e z (y::q) s (⟨f,l⟩::G) (x>>=g) R:=
 mC hx λa s' G' ⟨h1,h2,p,h3,h4,h5,h6⟩=>by subst h1 h3;exact h a p h2 h4 h5 h6
theorem aY{B:α->Bytes}{a:Nat}{b:St}{ps:List Pt}{x:α}{m:List Mark}{s0:St}(hb:kind k++cq ps=B x)(hm:cI ps=m.map yt)(hl:len s<len s0)(h0:b=s0:=by rfl)(ha:s0.here=a:=by rfl):Sm e z [.fin] s (⟨.kind k b,ps⟩::⟨f,l⟩::G) (.ok (x,marked k a s m,s)) (PP B s0 f l G):=
 C5 nofun (mN ⟨rfl,hl,.bq (.kind k b) s ps,rfl,hb,qE hm (by rw[h0];exact hl) (by rw[h0];exact ha),λ_=>h0⟩)
end
variable{e:Bool}{z:Fault}
def Nn(s:St)(ps:List Pt)(f:Fm)(l:List Pt)(G:List Fr)(a:List Srt×List Mark×St)(s':St)(G':List Fr):Prop:=s'=a.2.2/\len a.2.2<len s/\∃qs b h,G'=⟨f,l++[.bq (.count b) h (ps++qs)]⟩::G/\qs.length=a.1.length/\cq qs=srtsBytes a.1/\cI qs=a.2.1.map yt
def Se(e:Bool)(z:Fault)(fu:Nat):Prop:=(∀s f l G,2*len s+1<=fu->Sm e z [.w jE] s (⟨f,l⟩::G) (sortIn z fu s) (PP Srt.bytes s f l G))/\
 (∀s c ps f l G,2*len s+2<=fu->Sm e z [.w jE,.w lR,.fin,.w 108] s (⟨.count c,ps⟩::⟨f,l⟩::G) (sortsIn z fu s) (Nn s ps f l G))
theorem eX{L:List String}(h:oneOf L s=some k)(hw:L[k]?=some w):s.key w=true:=by unfold oneOf at h;obtain⟨h1,h2,_⟩:=List.findIdx?_eq_some_iff_getElem.mp h;rw[List.getElem?_eq_getElem h1] at hw;rw[<-Option.some.inj hw];exact h2
theorem il{L:List String}(h:oneOf L s=none):∀w∈L,¬s.key w=true:=by intro w hw c;have:=List.findIdx?_eq_none_iff.mp h w hw;rw[c] at this;cases this
theorem KJ(h:oneOf BASIC s=some k):Sm e z [.w jE] s (⟨f,l⟩::G) (.ok (.basic (k+1),marked (k+1) s.here s.skip [],s.skip)) (PP Srt.bytes s f l G):=by
 have hk:k<14:=eJ h;have hw:=λw=>eX h (w:=w);clear h
 match k,hk,hw with
 |0,_,hw=>exact have h:=hw "whole" rfl;mX xY (vK.mp h) ↑0 (bJ (bj h vK (.inl rfl) λhl=>aY rfl rfl ↑2))
 |1,_,hw=>exact have h:=hw "fraction" rfl;mX p9 (jx.mp h) ↑0 (bJ (bj h jx (.inl rfl) λhl=>aY rfl rfl ↑2))
 |2,_,hw=>exact have h:=hw "decimal" rfl;mX qU (mO.mp h) ↑0 (bJ (bj h mO (.inl rfl) λhl=>aY rfl rfl ↑2))
 |3,_,hw=>exact have h:=hw "half" rfl;mX zT (B6.mp h) ↑0 (bJ (bj h B6 (.inl rfl) λhl=>aY rfl rfl ↑2))
 |4,_,hw=>exact have h:=hw "single" rfl;mX uu (qI.mp h) ↑0 (bJ (bj h qI (.inl rfl) λhl=>aY rfl rfl ↑2))
 |5,_,hw=>exact have h:=hw "double" rfl;mX uA (rb.mp h) ↑0 (bJ (bj h rb (.inl rfl) λhl=>aY rfl rfl ↑2))
 |6,_,hw=>exact have h:=hw "extended" rfl;mX pL (jG.mp h) ↑0 (bJ (bj h jG (.inl rfl) λhl=>aY rfl rfl ↑2))
 |7,_,hw=>exact have h:=hw "interval" rfl;mX pZ (jX.mp h) ↑0 (bJ (bj h jX (.inl rfl) λhl=>aY rfl rfl ↑2))
 |8,_,hw=>exact have h:=hw "truth" rfl;mX vV (xI.mp h) ↑0 (bJ (bj h xI (.inl rfl) λhl=>aY rfl rfl ↑2))
 |9,_,hw=>exact have h:=hw "text" rfl;mX za (A3.mp h) ↑0 (bJ (bj h A3 (.inl rfl) λhl=>aY rfl rfl ↑2))
 |10,_,hw=>exact have h:=hw "flags" rfl;mX wX (eW.mp h) ↑0 (bJ (bj h eW (.inl rfl) λhl=>aY rfl rfl ↑2))
 |11,_,hw=>exact have h:=hw "error" rfl;mX xT (yg.mp h) ↑0 (bJ (bj h yg (.inl rfl) λhl=>aY rfl rfl ↑2))
 |12,_,hw=>exact have h:=hw "account" rfl;mX rA (fg.mp h) ↑0 (bJ (bj h fg (.inl rfl) λhl=>aY rfl rfl ↑2))
 |13,_,hw=>exact have h:=hw "value" rfl;mX wV (vW.mp h) ↑0 (bJ (bj h vW (.inl rfl) λhl=>aY rfl rfl ↑2))
theorem qy(hk:1<=k/\k<=4)(h:lk e s≠199+k):EwTree.take z k s= .error (bad z s):=by
 obtain⟨p,ts⟩:=s;cases ts with
 |nil=>rfl
 |cons t r=>
  refine if_neg λc=>h ?_;exact(cM hk).mp ⟨t,r,rfl,c⟩
theorem aI{P:α->Prop}{a:α}{l:List α}(h:P a)(k:∀x∈l,P x):∀x∈a::l,P x:=all_cons h k
theorem Mh(i:Se e z fu)(hf:2*len s+2<=fu):
  Sm e z [.bg .count,.w Dc,.fin,.w 108] s (⟨f,l⟩::G) (if s.sign ")"=true then(.ok ([],[],s.skip):Except Fault ((List Srt)×List Mark×St)) else sortsIn z fu s) (Nn s [] f l G):=by
 refine bJ ?_;by_cases c:s.sign ")"=true
 ·exact mT c (mX AY (hU.mp c) ↑0 (C5 nofun (bj c hU (.inr rfl) λhl=>mN ⟨rfl,by dsimp only;omega,[],_,_,rfl,rfl,rfl,rfl⟩)))
 ·exact mF c (Pe DY ((JT _).trans (bD (aI (λh=>c (hU.mpr h.symm)) (aI r_ all_nil)))) ↑0 (i.2 s _ [] f l G hf))
theorem K5(i:Se e z fu)(s:St)(f:Fm)(l:List Pt)(G:List Fr)(hf:2*len s+1<=fu+1):Sm e z [.w jE] s (⟨f,l⟩::G) (sortIn z (fu+1) s) (PP Srt.bytes s f l G):=by
 unfold sortIn;dsimp only;split
 ·rename_i k hk;exact KJ hk
 rename_i hno;have hno:=il hno;by_cases c1:s.key "packed"=true
 ·refine mT c1 (mX t5 (tp.mp c1) ↑0 (bJ (bj c1 tp (.inl rfl) λhl=>cN (k:=3) ↑0 λa ha=>aY ?_ rfl ↑2)));show kind 15++(short a.1++[])=kind 15++short a.1;rw[List.append_nil]
 refine mF c1 ?_;by_cases c2:s.key "list"=true
 ·refine mT c2 (mX yI (Bg.mp c2) ↑0 (bJ (bj c2 Bg (.inl rfl) λhl=>cS Jn ↑0 (.inl rfl) λs1 h1=>cP (i.1 _ _ _ _ ↑2) λa p h2 hb hk zp=>aY ?_ ?_ ↑2)))
  ·show kind 16++(yb p++[])=kind 16++a.1.bytes;rw[List.append_nil,hb]
  ·show yk p++[]=_;rw[List.append_nil,hk]
 refine mF c2 ?_;by_cases c3:s.key "fibre"=true
 ·refine mT c3 (mX xF (ym.mp c3) ↑0 (bJ (bj c3 ym (.inl rfl) λhl=>?_)));by_cases c4:s.skip.key "of"=true
  ·refine mT c4 (mX xj (Jn.mp c4) ↑0 (bj c4 Jn (.inl rfl) λhl2=>d8 (cP (i.1 _ _ _ _ ↑2) λa p h2 hb hk zp=>aY ?_ ?_ ↑2)))
   ·show kind 17++([1]++(yb p++[]))=[17,1]++a.1.bytes;rw[List.append_nil,hb];rfl
   ·show[]++(yk p++[])=_;rw[List.append_nil,hk];rfl
  ·exact mF c4 (Pe Aw ((Ex _).trans (bD (aI (λc=>c4 (Jn.mpr c.symm)) (aI r_ all_nil)))) ↑0 (d8 (aY rfl rfl ↑2)))
 refine mF c3 ?_;by_cases c5:s.key "fn"=true
 ·refine mT c5 (mX D_ (D8.mp c5) ↑0 (bJ (bj c5 D8 (.inl rfl) λhl=>cS kP ↑0 (.inr rfl) λs1 h1=>mB (r:=[.bg .count,.w Dc,.fin,.w 108]) (Mh i ↑2) λa s2 G2 ⟨e1,e2,qs,cb,ch,e3,e4,e5,e6⟩=>?_)));subst e1 e3;by_cases c6:a.2.2.sign "->"=true
  ·refine mT c6 (mX o9 (Ed.mp c6) ↑0 (bj c6 Ed (.inr rfl) λhl2=>d8 (cP (i.1 _ _ _ _ ↑2) λb p h2 hb hk zp=>aY ?_ ?_ ↑2)))
   ·show kind 18++((count qs.length++cq qs)++([1]++(yb p++[])))=kind 18++(count a.1.length++(srtsBytes a.1++(1::b.1.bytes)));rw[List.append_nil,hb,e4,e5,List.append_assoc];rfl
   ·show([]++cI qs)++([]++(yk p++[]))=_;rw[List.append_nil,hk,List.map_append,e6];rfl
  ·refine mF c6 (Pe rl ((y4 _).trans (bD (aI (λc=>c6 (Ed.mpr c.symm)) (aI r_ all_nil)))) ↑0 (d8 (aY ?_ ?_ ↑2)))
   ·show kind 18++((count qs.length++cq qs)++([0]++[]))=kind 18++(count a.1.length++(srtsBytes a.1++[0]));rw[e4,e5,List.append_assoc];rfl
   ·show([]++cI qs)++([]++[])=_;rw[<-e6];simp
 refine mF c5 ?_;by_cases c7:lk e s=200
 ·refine mX zc c7 ↑0 (bJ (cN (k:=1) ↑0 λa ha=>?_));by_cases c8:a.2.sign "."=true
  ·refine mT c8 (mX mR (mK.mp c8) ↑0 (Ud (bj c8 mK (.inr rfl) λhl2=>cN (k:=1) ↑0 λb hb=>aY ?_ rfl ↑2)));show kind 20++(short a.1++(short b.1++[]))=_;rw[List.append_nil];rfl
  ·refine mF c8 (Pe pM ((tZ _).trans (bD (aI (λc=>c8 (mK.mpr c.symm)) (aI r_ all_nil)))) ↑0 (aY ?_ rfl ↑2));show kind 19++(short a.1++[])=_;rw[List.append_nil];rfl
 ·rw[qy (e:=e) (k:=1) ↑0 c7];have hr:row jE (lk e s)=none:=(O2 _).trans (bD (aI (λc=>hno "whole" ↑0 (vK.mpr c.symm)) (aI (λc=>hno "fraction" ↑0 (jx.mpr c.symm)) (aI (λc=>hno "decimal" ↑0 (mO.mpr c.symm)) (aI (λc=>hno "half" ↑0 (B6.mpr c.symm)) (aI (λc=>hno "single" ↑0 (qI.mpr c.symm)) (aI (λc=>hno "double" ↑0 (rb.mpr c.symm)) (aI (λc=>hno "extended" ↑0 (jG.mpr c.symm)) (aI (λc=>hno "interval" ↑0 (jX.mpr c.symm)) (aI (λc=>hno "truth" ↑0 (xI.mpr c.symm)) (aI (λc=>hno "text" ↑0 (A3.mpr c.symm)) (aI (λc=>hno "flags" ↑0 (eW.mpr c.symm)) (aI (λc=>hno "error" ↑0 (yg.mpr c.symm)) (aI (λc=>hno "account" ↑0 (fg.mpr c.symm)) (aI (λc=>hno "value" ↑0 (vW.mpr c.symm)) (aI (λc=>c1 (tp.mpr c.symm)) (aI (λc=>c2 (Bg.mpr c.symm)) (aI (λc=>c3 (ym.mpr c.symm)) (aI (λc=>c5 (D8.mpr c.symm)) (aI (λc=>c7 c.symm) all_nil))))))))))))))))))));exact E7 (nt ↑0) hr rfl
theorem Kc(i:Se e z fu)(s c:St)(ps:List Pt)(f:Fm)(l:List Pt)(G:List Fr)(hf:2*len s+2<=fu+1):Sm e z [.w jE,.w lR,.fin,.w 108] s (⟨.count c,ps⟩::⟨f,l⟩::G) (sortsIn z (fu+1) s) (Nn s ps f l G):=by
 unfold sortsIn;refine cP (i.1 _ _ _ _ ↑2) λa p h2 hb hk zp=>?_;by_cases c:a.2.2.sign ","=true
 ·refine mT c (mX pX (eB.mp c) ↑0 (bj c eB (.inr rfl) λhl=>mB (q:=[]) (i.2 _ _ (ps++[p]) f l G ↑2) λb s2 G2 ⟨e1,e2,qs,cb,ch,e3,e4,e5,e6⟩=>?_));subst e1 e3;refine mN ⟨rfl,by show len b.2.2<len s;omega,p::qs,_,_,by rw[List.append_assoc];rfl,by show qs.length+1=b.1.length+1;rw[e4],?_,?_⟩
  ·show yb p++cq qs=a.1.bytes++srtsBytes b.1;rw[hb,e5]
  ·show yk p++cI qs=_;rw[hk,e6,List.map_append]
 ·refine mF c (Pe rS ((xN _).trans (bD (aI (λh=>c (eB.mpr h.symm)) (aI r_ all_nil)))) ↑0 (C5 nofun (cS hU ↑0 (.inr rfl) λs2 h3=>mN ⟨rfl,by dsimp only;omega,[p],_,_,rfl,rfl,?_,?_⟩)))
  ·show yb p++[]=a.1.bytes++[];rw[hb]
  ·show yk p++[]=_;rw[hk,List.append_nil]
theorem vJ(e:Bool)(z:Fault):∀fu,Se e z fu
 |0=>⟨λs f l G h=>↑2,λs c ps f l G h=>↑2⟩
 |fu+1=>⟨K5 (vJ e z fu),Kc (vJ e z fu)⟩
end
section
variable{e:Bool}{z:Fault}
theorem hW{c:String}(hc:c≠""):∀fu s,exprsIn z c fu s=exprsIn z "" fu s>>=λr=>eat z (r.2.2.sign c) r.2.2>>=λs'=>.ok (r.1,r.2.1,s')
 |0,s=>rfl
 |fu+1,s=>by
  unfold exprsIn;cases h:exprIn z fu 0 s with
  |error er=>rfl
  |ok a=>
   show(if a.2.2.sign ","=true then _ else _)=(if a.2.2.sign ","=true then _ else _)>>=_;by_cases c1:a.2.2.sign ","=true
   ·rw[if_pos c1,if_pos c1,hW hc fu];cases exprsIn z "" fu a.2.2.skip with
    |error er=>rfl
    |ok b=>
     show(eat z (b.2.2.sign c) b.2.2>>=λs'=>Except.ok (b.1,b.2.1,s'))>>=_=eat z (b.2.2.sign c) b.2.2>>=_;cases eat z (b.2.2.sign c) b.2.2 <;> rfl
   ·rw[if_neg c1,if_neg c1,if_neg hc,if_pos rfl];rfl
def PQ{α:Type}(B:α->Bytes)(s0 s:St)(f:Fm)(l:List Pt)(G:List Fr)(a:α×List Mark×St)(s':St)(G':List Fr):Prop:=s'=a.2.2/\len a.2.2<=len s/\∃p,G'=⟨f,l++[p]⟩::G/\yb p=B a.1/\yk p=a.2.1.map yt/\∀b,st p b=s0
def Ub(s:St)(f:Fm)(l:List Pt)(G:List Fr)(a:List Expr×List Mark×St)(s':St)(G':List Fr):Prop:=s'=a.2.2/\len a.2.2<len s/\∃qs,G'=⟨f,l++qs⟩::G/\qs.length=a.1.length/\cq qs=(exprsBytes a.1).flatten/\cI qs=a.2.1.map yt
def Ug(s:St)(f:Fm)(l:List Pt)(G:List Fr)(a:List (Bytes×Expr)×List Mark×St)(s':St)(G':List Fr):Prop:=s'=a.2.2/\len a.2.2<len s/\∃qs c h,G'=⟨f,l++[.bq (.count c) h qs]⟩::G/\qs.length=a.1.length/\cq qs=woven (a.1.map λ(x:Bytes×Expr)=>x.1) (exprsBytes (a.1.map λ(x:Bytes×Expr)=>x.2))/\cI qs=a.2.1.map yt
def NP:Nat->List Sym
 |0=>[.w cz]
 |1=>[.w HR,.w uX]
 |2=>[.w HR]
 |3=>[.w E5]
 |4=>[.w A0,.w jL]
 |5=>[.w A0]
 |6=>[.w QI]
 |7=>[.w EZ]
 |8=>[.w Hl]
 |9=>[.w G6,.w KZ]
 |10=>[.w G6]
 |_=>[.w DM]
def HI:Nat->Nat
 |1=>uX
 |2=>Bo
 |6=>AM
 |_=>rp
structure FA(e:Bool)(z:Fault)(fu:Nat):Prop where
 ex:∀L s f l G,L<=11->24*len s+13<=fu+L->Sm e z (NP L) s (⟨f,l⟩::G) (exprIn z fu L s) (PP Expr.bytes s f l G)
 mo:∀L a x m p s0 s f l G,(L=1\/L=2\/L=6\/L=7)->24*len s+14<=fu->yb p=Expr.bytes x->yk p=m.map yt->(∀b,st p b=s0)->s0.here=a->len s<len s0->Sm e z [.w (HI L)] s (⟨f,l++[p]⟩::G) (moreIn z fu L a x m s) (PQ Expr.bytes s0 s f l G)
 ca:∀a x m p s0 s f l G,24*len s+14<=fu->yb p=Expr.bytes x->yk p=m.map yt->(∀b,st p b=s0)->s0.here=a->len s<len s0->Sm e z [.w uQ] s (⟨f,l++[p]⟩::G) (castIn z fu a x m s) (PQ Expr.bytes s0 s f l G)
 po:∀a x m p s0 s f l G,24*len s+14<=fu->yb p=Expr.bytes x->yk p=m.map yt->(∀b,st p b=s0)->s0.here=a->len s<len s0->Sm e z [.w oA] s (⟨f,l++[p]⟩::G) (postIn z fu a x m s) (PQ Expr.bytes s0 s f l G)
 li:∀s f l G,24*len s+14<=fu->Sm e z [.w cz,.w bM] s (⟨f,l⟩::G) (exprsIn z "" fu s) (Ub s f l G)
 fi:∀s cc ps f l G,24*len s+14<=fu->Sm e z [.w u7,.w gY,.fin,.w 108] s (⟨.count cc,ps⟩::⟨f,l⟩::G) (fieldsIn z fu s) λa s' G'=>s'=a.2.2/\len a.2.2<len s/\∃qs c h,G'=⟨f,l++[.bq (.count c) h (ps++qs)]⟩::G/\qs.length=a.1.length/\cq qs=woven (a.1.map λ(x:Bytes×Expr)=>x.1) (exprsBytes (a.1.map λ(x:Bytes×Expr)=>x.2))/\cI qs=a.2.1.map yt
theorem mD{g:List (Nat×List Sym)}{x:Except Fault α}{Q:α->St->List Fr->Prop}(h2:row n 299=some r)(hg:∀l,row n l=aH g l)(h:∀y∈g.map (λy=>y.1),y≠lk e s)(h0:1000<=n)(k:Sm e z (r++q) s G x Q):Sm e z (.w n::q) s G x Q:=Pe h2 ((hg _).trans (bD h)) h0 k
theorem d1{a:Nat}(h:a≠lk e s):∀y∈[a,299],y≠lk e s:=aI h (aI r_ all_nil)
theorem d0:∀y∈[299],y≠lk e s:=aI r_ all_nil
theorem xl(i:FA e z fu)(s:St)(f:Fm)(l:List Pt)(G:List Fr)(hf:24*len s+14<=fu+1):Sm e z [.w cz,.w bM] s (⟨f,l⟩::G) (exprsIn z "" (fu+1) s) (Ub s f l G):=by
 unfold exprsIn;refine cP (i.ex 0 s f l G ↑0 ↑2) λa p h2 hb hk zp=>?_;by_cases c:a.2.2.sign ","=true
 ·refine mT c (mX d7 (eB.mp c) ↑0 (bj c eB (.inr rfl) λhl=>mB (q:=[]) (i.li a.2.2.skip f (l++[p]) G ↑2) λb s2 G2 ⟨e1,e2,qs,e3,e4,e5,e6⟩=>?_));subst e1 e3;refine mN ⟨rfl,by show len b.2.2<len s;omega,p::qs,by rw[List.append_assoc];rfl,by show qs.length+1=b.1.length+1;rw[e4],?_,?_⟩
  ·show yb p++cq qs=a.1.bytes++(exprsBytes b.1).flatten;rw[hb,e5]
  ·show yk p++cI qs=_;rw[hk,e6,List.map_append]
 ·refine mF c (mT rfl (mD eC fj (d1 λh=>c (eB.mpr h.symm)) ↑0 (mN ⟨rfl,by show len a.2.2<len s;omega,[p],rfl,rfl,?_,?_⟩)))
  ·show yb p++[]=a.1.bytes++[];rw[hb]
  ·show yk p++[]=_;rw[hk,List.append_nil]
theorem xf(i:FA e z fu)(s cc:St)(ps:List Pt)(f:Fm)(l:List Pt)(G:List Fr)(hf:24*len s+14<=fu+1):Sm e z [.w u7,.w gY,.fin,.w 108] s (⟨.count cc,ps⟩::⟨f,l⟩::G) (fieldsIn z (fu+1) s) λa s' G'=>s'=a.2.2/\len a.2.2<len s/\∃qs c h,G'=⟨f,l++[.bq (.count c) h (ps++qs)]⟩::G/\qs.length=a.1.length/\cq qs=woven (a.1.map λ(x:Bytes×Expr)=>x.1) (exprsBytes (a.1.map λ(x:Bytes×Expr)=>x.2))/\cI qs=a.2.1.map yt:=by
 unfold fieldsIn;refine mD Az Fq d0 ↑0 (bJ (cN (k:=1) ↑0 λn hn=>cS Fe ↑0 (.inr rfl) λs1 h1=>cP (i.ex 0 s1 _ _ _ ↑0 ↑2) λa p h2 hb hk zp=>C5 nofun ?_));have e1:yb (done (.row s) a.2.2 ([]++[.leaf (BN 1 n.1)]++[p]))=short n.1++a.1.bytes:=by
  show[]++(short n.1++(yb p++[]))=_;rw[List.append_nil,hb];rfl
 have e2:yk (done (.row s) a.2.2 ([]++[.leaf (BN 1 n.1)]++[p]))=a.2.1.map yt:=by
  show[]++(yk p++[])=_;rw[List.append_nil,hk];rfl
 show Sm e z _ _ (⟨.count cc,ps++[done (.row s) a.2.2 ([]++[.leaf (BN 1 n.1)]++[p])]⟩::_) _ _;generalize done (.row s) a.2.2 ([]++[.leaf (BN 1 n.1)]++[p])=q at e1 e2;by_cases c:a.2.2.sign ","=true
 ·refine mT c (mX j7 (eB.mp c) ↑0 (bj c eB (.inr rfl) λhl=>mB (q:=[]) (i.fi a.2.2.skip cc (ps++[q]) f l G ↑2) λb s2 G2 ⟨f1,f2,qs,cb,ch,f3,f4,f5,f6⟩=>?_));subst f1 f3;refine mN ⟨rfl,by show len b.2.2<len s;omega,q::qs,_,_,by rw[List.append_assoc];rfl,by show qs.length+1=b.1.length+1;rw[f4],?_,?_⟩
  ·show yb q++cq qs=short n.1++(a.1.bytes++woven (b.1.map _) (exprsBytes (b.1.map _)));rw[e1,f5,List.append_assoc]
  ·show yk q++cI qs=_;rw[e2,f6,List.map_append]
 ·refine mF c (mD lH pJ (d1 λh=>c (eB.mpr h.symm)) ↑0 (C5 nofun (cS hU ↑0 (.inr rfl) λs2 h3=>mN ⟨rfl,by show len s2<len s;omega,[q],_,_,rfl,rfl,?_,?_⟩)))
  ·show yb q++[]=short n.1++(a.1.bytes++[]);rw[e1,List.append_nil,List.append_nil]
  ·show yk q++[]=_;rw[e2,List.append_nil]
theorem Ht(i:FA e z fu)(hf:24*len s+14<=fu):Sm e z [.bg .count,.w fW,.fin,.w 108] s (⟨f,l⟩::G) (if s.sign ")"=true then(.ok ([],[],s.skip):Except Fault ((List Expr)×List Mark×St)) else exprsIn z ")" fu s)
  λa s' G'=>s'=a.2.2/\len a.2.2<len s/\∃qs c h,G'=⟨f,l++[.bq (.count c) h qs]⟩::G/\qs.length=a.1.length/\cq qs=(exprsBytes a.1).flatten/\cI qs=a.2.1.map yt:=by
 refine bJ ?_;by_cases c:s.sign ")"=true
 ·exact mT c (mX l_ (hU.mp c) ↑0 (C5 nofun (bj c hU (.inr rfl) λhl=>mN ⟨rfl,by show len s.skip<len s;omega,[],_,_,rfl,rfl,rfl,rfl⟩)))
 ·refine mF c (mD pV uD (d1 λh=>c (hU.mpr h.symm)) ↑0 ?_);rw[hW ↑0];refine mB (r:=[.w cz,.w bM]) (i.li s _ _ _ hf) λa s2 G2 ⟨e1,e2,qs,e3,e4,e5,e6⟩=>?_;subst e1 e3;exact C5 nofun (cS hU ↑0 (.inr rfl) λs3 h3=>mN ⟨rfl,by show len s3<len s;omega,qs,_,_,rfl,e4,e5,e6⟩)
theorem cO{h:Fm}{q:List Pt}{x:Except Fault α}{Q:α->St->List Fr->Prop}(hf:f.isSet=false)(hh:Sm e z r s (⟨h,q++[.bq f s l]⟩::G) x Q):Sm e z (.fin::r) s (⟨f,l⟩::⟨h,q⟩::G) x Q:=C5 (by rw[hf];nofun) (by rw[show done f s l= .bq f s l by unfold done;rw[hf]];exact hh)
theorem uN{B:α->Bytes}{s0:St}(h:len s<len s0):∀(a:α×List Mark×St) s' G',PQ B s0 s f l G a s' G'->PP B s0 f l G a s' G':=λa s' G' ⟨h1,h2,h3⟩=>⟨h1,↑2,h3⟩
theorem z9{B:α->Bytes}{s1 s0:St}(h:len s<=len s1):∀(a:α×List Mark×St) s' G',PQ B s0 s f l G a s' G'->PQ B s0 s1 f l G a s' G':=λa s' G' ⟨h1,h2,h3⟩=>⟨h1,↑2,h3⟩
theorem xp(i:FA e z fu)(a:Nat)(x:Expr)(m:List Mark)(p:Pt)(s0 s:St)(f:Fm)(l:List Pt)(G:List Fr)(hf:24*len s+14<=fu+1)(hb:yb p=Expr.bytes x)(hk:yk p=m.map yt)(hs:∀b,st p b=s0)(ha:s0.here=a)(h0:len s<len s0):Sm e z [.w oA] s (⟨f,l++[p]⟩::G) (postIn z (fu+1) a x m s) (PQ Expr.bytes s0 s f l G):=by
 unfold postIn;by_cases c1:s.sign "("=true
 ·refine mT c1 (mX rX (kP.mp c1) ↑0 (mD zS GG d0 ↑0 (bJ (A' (bj c1 kP (.inr rfl) λhl=>mB (r:=[.bg .count,.w fW,.fin,.w 108]) (Ht i ↑2) λb s2 G2 ⟨e1,e2,qs,cb,ch,e3,e4,e5,e6⟩=>?_)))));subst e1 e3;refine cO rfl (mW (i.po a (.call x b.1) _ _ s0 b.2.2 f l G ↑2 ?_ (qE ?_ (by rw[hs];omega) (by rw[hs];exact ha)) (λ_=>hs _) ha ↑2) (z9 ↑2))
  ·show kind 43++(yb p++((count qs.length++cq qs)++[]))=kind 43++(x.bytes++(count b.1.length++(exprsBytes b.1).flatten));rw[hb,e4,e5,List.append_nil]
  ·show yk p++(cI qs++[])=_;rw[hk,e6,List.append_nil,List.map_append]
 refine mF c1 ?_;by_cases c2:s.sign "["=true
 ·refine mT c2 (mX qL (nV.mp c2) ↑0 (mD vg Du d0 ↑0 (bJ (A' (bj c2 nV (.inr rfl) λhl=>cP (i.ex 0 s.skip _ _ _ ↑0 ↑2) λb q h2 hb2 hk2 zq=>cS v_ ↑0 (.inr rfl) λs3 h3=>cO rfl (mW (i.po a (.index x b.1) _ _ s0 s3 f l G ↑2 ?_ (qE ?_ (by rw[hs];omega) (by rw[hs];exact ha)) (λ_=>hs _) ha ↑2) (z9 ↑2)))))))
  ·show kind 44++(yb p++(yb q++[]))=kind 44++(x.bytes++b.1.bytes);rw[hb,hb2,List.append_nil]
  ·show yk p++(yk q++[])=_;rw[hk,hk2,List.append_nil,List.map_append]
 refine mF c2 ?_;by_cases c3:s.sign "."=true
 ·refine mT c3 (mX tH (mK.mp c3) ↑0 (mD tV Ak d0 ↑0 (bJ (A' (bj c3 mK (.inr rfl) λhl=>cN (k:=1) ↑0 λb h2=>cO rfl (mW (i.po a (.field x b.1) _ _ s0 b.2 f l G ↑2 ?_ (qE ?_ (by rw[hs];omega) (by rw[hs];exact ha)) (λ_=>hs _) ha ↑2) (z9 ↑2)))))))
  ·show kind 45++(yb p++(short b.1++[]))=kind 45++(x.bytes++short b.1);rw[hb,List.append_nil]
  ·show yk p++([]++[])=_;rw[hk];simp
 ·exact mF c3 (mD t_ y6 (aI (λh=>c1 (kP.mpr h.symm)) (aI (λh=>c2 (nV.mpr h.symm)) (d1 λh=>c3 (mK.mpr h.symm)))) ↑0 (mN ⟨rfl,Nat.le_refl _,p,rfl,hb,hk,hs⟩))
theorem DD{L:Nat}{op:Nat}(h:opIn L s=some op):∃b w,(L,b,w,op)∈OPS/\(if b=true then s.key w else s.sign w)=true:=by unfold opIn at h;rw[Option.map_eq_some_iff] at h;obtain⟨⟨L',b,w,op'⟩,h,rfl⟩:=h;have h1:=List.find?_some h;have h2:=List.mem_of_find?_eq_some h;rw[Bool.and_eq_true,beq_iff_eq] at h1;have:L'=L:=h1.1;subst this;exact⟨b,w,h2,h1.2⟩
theorem DB{L:Nat}(h:opIn L s=none){b:Bool}{op:Nat}(hm:(L,b,w,op)∈OPS):¬(if b=true then s.key w else s.sign w)=true:=by unfold opIn at h;rw[Option.map_eq_none_iff] at h;have:=List.find?_eq_none.mp h _ hm;intro c;exact this (by show(L==L&&_)=true;rw[beq_self_eq_true];exact c)
theorem oJ(i:FA e z fu){L a op tok sub:Nat}{x:Expr}{m:List Mark}{p:Pt}{s0:St}(hL:L=1\/L=2\/L=6\/L=7)(hn:HI L=n)(h0:1000<=n)(hr:row n tok=some [.bg (.kind op),.take,.w tok,.w sub,.fin,.w n])(hs:NP (L+1)=[.w sub])(c:s.is k w=true)(hl:s.is k w=true↔lk e s=tok)(hk:k=0\/k=5)(hf:24*len s+14<=fu+1)(hb:yb p=Expr.bytes x)(hm:yk p=m.map yt)(hs0:∀b,st p b=s0)(ha:s0.here=a)(h00:len s<len s0):Sm e z [.w n] s (⟨f,l++[p]⟩::G) (exprIn z fu (L+1) s.skip>>=λr=>moreIn z fu L a (.bin op x r.1) (marked op a r.2.2 (m++r.2.1)) r.2.2) (PQ Expr.bytes s0 s f l G):=by
 refine mX hr (hl.mp c) h0 (bJ (A' (bj c hl hk λhlen=>cP (hs▸i.ex (L+1) s.skip _ _ _ ↑2 ↑2) λb q h2 hb2 hk2 zq=>cO rfl ?_)));rw[<-hn];refine mW (i.mo L a (.bin op x b.1) _ _ s0 b.2.2 f l G hL ↑2 ?_ (qE ?_ (by rw[hs0];omega) (by rw[hs0];exact ha)) (λ_=>hs0 _) ha ↑2) (z9 ↑2)
 ·show kind op++(yb p++(yb q++[]))=kind op++(x.bytes++b.1.bytes);rw[hb,hb2,List.append_nil]
 ·show yk p++(yk q++[])=_;rw[hm,hk2,List.append_nil,List.map_append]
theorem xm(i:FA e z fu)(L a:Nat)(x:Expr)(m:List Mark)(p:Pt)(s0 s:St)(f:Fm)(l:List Pt)(G:List Fr)(hL:L=1\/L=2\/L=6\/L=7)(hf:24*len s+14<=fu+1)(hb:yb p=Expr.bytes x)(hk:yk p=m.map yt)(hs0:∀b,st p b=s0)(ha:s0.here=a)(h00:len s<len s0):Sm e z [.w (HI L)] s (⟨f,l++[p]⟩::G) (moreIn z (fu+1) L a x m s) (PQ Expr.bytes s0 s f l G):=by
 unfold moreIn;have fin:=mN (e:=e) (z:=z) (s:=s) (G:=⟨f,l++[p]⟩::G) (a:=(x,m,s)) (Q:=PQ Expr.bytes s0 s f l G) ⟨rfl,Nat.le_refl _,p,rfl,hb,hk,hs0⟩;cases h:opIn L s with
 |none=>
  have hn:=λb w op hm=>DB h (b:=b) (w:=w) (op:=op) hm;rcases hL with rfl|rfl|rfl|rfl
  ·exact mD zX ED (d1 λc=>hn true "or" 64 ↑0 (QE.mpr c.symm)) ↑0 fin
  ·exact mD wR BZ (d1 λc=>hn true "and" 65 ↑0 (LR.mpr c.symm)) ↑0 fin
  ·exact mD xk AW (aI (λc=>hn false "+" 72 ↑0 (QB.mpr c.symm)) (d1 λc=>hn false "-" 73 ↑0 (Gj.mpr c.symm))) ↑0 fin
  ·exact mD m9 rK (aI (λc=>hn false "*" 74 ↑0 (P_.mpr c.symm)) (aI (λc=>hn false "/" 75 ↑0 (P1.mpr c.symm)) (aI (λc=>hn false "//" 76 ↑0 (Q0.mpr c.symm)) (d1 λc=>hn false "%" 77 ↑0 (PY.mpr c.symm))))) ↑0 fin
 |some op=>
  obtain⟨b,w,hm,ht⟩:=DD h;rcases hL with rfl|rfl|rfl|rfl <;> simp only[OPS,List.mem_cons,List.not_mem_nil,or_false,Prod.mk.injEq] at hm
  ·have e1:b=true/\w="or"/\op=64:=by simpa using hm
   obtain⟨rfl,rfl,rfl⟩:=e1;exact oJ i (.inl rfl) rfl ↑0 wk rfl ht QE (.inl rfl) hf hb hk hs0 ha h00
  ·have e1:b=true/\w="and"/\op=65:=by simpa using hm
   obtain⟨rfl,rfl,rfl⟩:=e1;exact oJ i (.inr (.inl rfl)) rfl ↑0 rP rfl ht LR (.inl rfl) hf hb hk hs0 ha h00
  ·have e1:(b=false/\w="+"/\op=72)\/(b=false/\w="-"/\op=73):=by simpa using hm
   rcases e1 with⟨rfl,rfl,rfl⟩|⟨rfl,rfl,rfl⟩
   ·exact oJ i (.inr (.inr (.inl rfl))) rfl ↑0 uE rfl ht QB (.inr rfl) hf hb hk hs0 ha h00
   ·exact oJ i (.inr (.inr (.inl rfl))) rfl ↑0 uy rfl ht Gj (.inr rfl) hf hb hk hs0 ha h00
  ·have e1:(b=false/\w="*"/\op=74)\/(b=false/\w="/"/\op=75)\/(b=false/\w="//"/\op=76)\/(b=false/\w="%"/\op=77):=by simpa using hm
   rcases e1 with⟨rfl,rfl,rfl⟩|⟨rfl,rfl,rfl⟩|⟨rfl,rfl,rfl⟩|⟨rfl,rfl,rfl⟩
   ·exact oJ i (.inr (.inr (.inr rfl))) rfl ↑0 kL rfl ht P_ (.inr rfl) hf hb hk hs0 ha h00
   ·exact oJ i (.inr (.inr (.inr rfl))) rfl ↑0 lj rfl ht P1 (.inr rfl) hf hb hk hs0 ha h00
   ·exact oJ i (.inr (.inr (.inr rfl))) rfl ↑0 ko rfl ht Q0 (.inr rfl) hf hb hk hs0 ha h00
   ·exact oJ i (.inr (.inr (.inr rfl))) rfl ↑0 kY rfl ht PY (.inr rfl) hf hb hk hs0 ha h00
theorem qe{ps:List Pt}(h:iu ps)(hk:k<7):iu (ps++[.leaf [UInt8.ofNat k]]):=λp hp=>by
 rcases List.mem_append.mp hp with hp|hp
 ·exact h p hp
 ·exact⟨k,hk,List.mem_singleton.mp hp⟩
theorem D7(hk:1<=k/\k<=4){p:Nat}{t:Tok}{r:List Tok}(ht:t.kind=k){x:Except Fault α}{Q:α->St->List Fr->Prop}(h:Sm e z q ⟨t.halt_,r⟩ (⟨f,l++[.leaf (BN k t.bytes)]⟩::G) x Q):Sm e z (.w (199+k)::q) ⟨p,t::r⟩ (⟨f,l⟩::G) x Q:=by exact R6 ((cM (e:=e) (s:=⟨p,t::r⟩) hk).mp ⟨t,r,rfl,ht⟩) ↑2 (by rw[Ql hk ht];exact h)
theorem FY{x:Except Fault α}{Q:α->St->List Fr->Prop}(h:∀ps,len (optN s).2<=len s->cq ps=maybe short (optN s).1->cI ps=[]->Sm e z q (optN s).2 (⟨f,l++ps⟩::G) x Q):Sm e z (.w Hr::q) s (⟨f,l⟩::G) x Q:=by
 by_cases c:lk e s=202
 ·obtain⟨t,r,e1,e2⟩:=(cM (k:=3) ↑0).mpr c;obtain⟨p,ts⟩:=s;have e1:ts=t::r:=e1;subst e1;have eo:optN ⟨p,t::r⟩=(some t.bytes,⟨t.halt_,r⟩):=if_pos e2;rw[eo] at h;refine mX pA c ↑0 (d8 (D7 (k:=3) ↑0 e2 ?_));have:=h [.leaf [1],.leaf (short t.bytes)] (Nat.le_succ _) (by show[1]++(short t.bytes++[])=1::short t.bytes;rw[List.append_nil];rfl) rfl;rw[List.append_assoc];exact this
 ·have eo:optN s=(none,s):=by
   obtain⟨p,ts⟩:=s;cases ts with
   |nil=>rfl
   |cons t r=>exact if_neg λk=>c ((cM (k:=3) ↑0).mp ⟨t,r,rfl,k⟩)
  rw[eo] at h;exact mD Bm Ja (d1 λk=>c k.symm) ↑0 (d8 (h [.leaf [0]] (Nat.le_refl _) rfl rfl))
theorem BR{x:Except Fault α}{Q:α->St->List Fr->Prop}(h:len (pq s).2<=len s->Sm e z q (pq s).2 (⟨f,l++[.leaf (kind (pq s).1)]⟩::G) x Q):Sm e z (.w B'::q) s (⟨f,l⟩::G) x Q:=by
 cases ho:oneOf ROUNDS s with
 |none=>
  have eo:pq s=(0,s):=by unfold pq;rw[ho]
  rw[eo] at h;have hn:=il ho;exact mD xZ AV (aI (λc=>hn "near" ↑0 (mH.mpr c.symm)) (aI (λc=>hn "down" ↑0 (nQ.mpr c.symm)) (aI (λc=>hn "up" ↑0 (D3.mpr c.symm)) (aI (λc=>hn "cut" ↑0 (uY.mpr c.symm)) (aI (λc=>hn "nearaway" ↑0 (jI.mpr c.symm)) (aI (λc=>hn "nearcut" ↑0 (mQ.mpr c.symm)) (aI (λc=>hn "away" ↑0 (Br.mpr c.symm)) (aI (λc=>hn "five" ↑0 (AR.mpr c.symm)) (d0))))))))) ↑0 (d8 (h (Nat.le_refl _)))
 |some k=>
  have eo:pq s=(k+1,s.skip):=by unfold pq;rw[ho]
  rw[eo] at h;have hk:k<8:=eJ ho;have hw:=λw=>eX ho (w:=w);clear ho eo
  match k,hk,hw,h with
  |0,_,hw,h=>exact have c:=hw "near" rfl;mX pW (mH.mp c) ↑0 (bj c mH (.inl rfl) λhl=>d8 (h (by show len s.skip<=_;omega)))
  |1,_,hw,h=>exact have c:=hw "down" rfl;mX pD (nQ.mp c) ↑0 (bj c nQ (.inl rfl) λhl=>d8 (h (by show len s.skip<=_;omega)))
  |2,_,hw,h=>exact have c:=hw "up" rfl;mX uk (D3.mp c) ↑0 (bj c D3 (.inl rfl) λhl=>d8 (h (by show len s.skip<=_;omega)))
  |3,_,hw,h=>exact have c:=hw "cut" rfl;mX sX (uY.mp c) ↑0 (bj c uY (.inl rfl) λhl=>d8 (h (by show len s.skip<=_;omega)))
  |4,_,hw,h=>exact have c:=hw "nearaway" rfl;mX ja (jI.mp c) ↑0 (bj c jI (.inl rfl) λhl=>d8 (h (by show len s.skip<=_;omega)))
  |5,_,hw,h=>exact have c:=hw "nearcut" rfl;mX jV (mQ.mp c) ↑0 (bj c mQ (.inl rfl) λhl=>d8 (h (by show len s.skip<=_;omega)))
  |6,_,hw,h=>exact have c:=hw "away" rfl;mX px (Br.mp c) ↑0 (bj c Br (.inl rfl) λhl=>d8 (h (by show len s.skip<=_;omega)))
  |7,_,hw,h=>exact have c:=hw "five" rfl;mX pN (AR.mp c) ↑0 (bj c AR (.inl rfl) λhl=>d8 (h (by show len s.skip<=_;omega)))
theorem xc(i:FA e z fu)(a:Nat)(x:Expr)(m:List Mark)(p:Pt)(s0 s:St)(f:Fm)(l:List Pt)(G:List Fr)(hf:24*len s+14<=fu+1)(hb:yb p=Expr.bytes x)(hk:yk p=m.map yt)(hs0:∀b,st p b=s0)(ha:s0.here=a)(h00:len s<len s0):Sm e z [.w uQ] s (⟨f,l++[p]⟩::G) (castIn z (fu+1) a x m s) (PQ Expr.bytes s0 s f l G):=by
 unfold castIn;by_cases c:s.key "as"=true
 ·refine mT c (mX wJ (OV.mp c) ↑0 (bJ (A' (bj c OV (.inl rfl) λhl=>cP ((vJ e z fu).1 _ _ _ _ ↑2) λt q h2 hb2 hk2 zq=>FY λps h3 hb3 hk3=>BR λh4=>cO rfl ?_))));refine mW (i.ca a (.as_ x t.1 (optN t.2.2).1 (pq (optN t.2.2).2).1) (marked 52 a (pq (optN t.2.2).2).2 (m++t.2.1)) _ s0 (pq (optN t.2.2).2).2 f l G ↑2 ?_ (qE ?_ (by rw[hs0];omega) (by rw[hs0];exact ha)) (λ_=>hs0 _) ha ↑2) (z9 ↑2)
  ·show kind 52++cq ([]++[p]++[q]++ps++[.leaf (kind (pq (optN t.2.2).2).1)])=_;rw[iL,sr,hb3,iL,iL,hb,hb2];show kind 52++((([]++x.bytes)++t.1.bytes++_)++kind _)=kind 52++(x.bytes++(t.1.bytes++(_++kind _)));rw[List.nil_append,List.append_assoc,List.append_assoc]
  ·show cI ([]++[p]++[q]++ps++[.leaf (kind (pq (optN t.2.2).2).1)])=_;rw[iM,uP,hk3,iM,iM,hk,hk2,List.map_append];show([]++_++_)++[]++[]=_;rw[List.append_nil,List.append_nil,List.nil_append]
 ·exact mF c (mD zO E9 (d1 λh=>c (OV.mpr h.symm)) ↑0 (mN ⟨rfl,Nat.le_refl _,p,rfl,hb,hk,hs0⟩))
theorem iH:∀(ps:List Pt)(b:UInt8),eD (ps++[.leaf [b]])=eD ps ||| 2 ^ b.toNat
 |[],b=>by simp[eD]
 | .leaf []::r,b=>iH r b
 | .leaf (c::_)::r,b=>by
  show 2 ^ c.toNat ||| eD (r++[.leaf [b]])=(2 ^ c.toNat ||| eD r) ||| 2 ^ b.toNat;rw[iH r b,Nat.or_assoc]
 | .bq _ _ _::r,b=>iH r b
theorem GN:∀a<128,∀k<7,withFlag a k=a ||| 2 ^ (UInt8.ofNat k).toNat:=↑1
theorem Bw(ho:oneOf FLAGS s=some k){x:Except Fault α}{Q:α->St->List Fr->Prop}(h:len s.skip+1=len s->Sm e z q s.skip (⟨f,l++[.leaf [UInt8.ofNat k]]⟩::G) x Q):Sm e z (.w BV::q) s (⟨f,l⟩::G) x Q:=by
 have hk:k<7:=eJ ho;have hw:=λw=>eX ho (w:=w);clear ho
 match k,hk,hw,h with
 |0,_,hw,h=>exact have c:=hw "invalid" rfl;mX rJ (mU.mp c) ↑0 (bj c mU (.inl rfl) λhl=>d8 (h hl))
 |1,_,hw,h=>exact have c:=hw "small" rfl;mX vZ (xq.mp c) ↑0 (bj c xq (.inl rfl) λhl=>d8 (h hl))
 |2,_,hw,h=>exact have c:=hw "zero" rfl;mX Aq (Bk.mp c) ↑0 (bj c Bk (.inl rfl) λhl=>d8 (h hl))
 |3,_,hw,h=>exact have c:=hw "overflow" rfl;mX pU (jO.mp c) ↑0 (bj c jO (.inl rfl) λhl=>d8 (h hl))
 |4,_,hw,h=>exact have c:=hw "underflow" rfl;mX nX (iT.mp c) ↑0 (bj c iT (.inl rfl) λhl=>d8 (h hl))
 |5,_,hw,h=>exact have c:=hw "inexact" rfl;mX sh (oa.mp c) ↑0 (bj c oa (.inl rfl) λhl=>d8 (h hl))
 |6,_,hw,h=>exact have c:=hw "stack" rfl;mX wb (w8.mp c) ↑0 (bj c w8 (.inl rfl) λhl=>d8 (h hl))
theorem BQ(ho:oneOf FLAGS s=none){Q:α->St->List Fr->Prop}:Sm e z (.w BV::q) s G (.error (bad z s)) Q:=by have hn:=il ho;exact E7 (nt ↑0) ((NT _).trans (bD (aI (λc=>hn "invalid" ↑0 (mU.mpr c.symm)) (aI (λc=>hn "small" ↑0 (xq.mpr c.symm)) (aI (λc=>hn "zero" ↑0 (Bk.mpr c.symm)) (aI (λc=>hn "overflow" ↑0 (jO.mpr c.symm)) (aI (λc=>hn "underflow" ↑0 (iT.mpr c.symm)) (aI (λc=>hn "inexact" ↑0 (oa.mpr c.symm)) (aI (λc=>hn "stack" ↑0 (w8.mpr c.symm)) (all_nil)))))))))) rfl
theorem F4:∀(fu a:Nat)(s cc:St)(ps:List Pt)(f:Fm)(l:List Pt)(G:List Fr),iu ps->eD ps=a->a<128->len s+1<=fu->Sm e z [.w BV,.w wz,.fin,.w 108] s (⟨.set cc,ps⟩::⟨f,l⟩::G) (onlyIn z fu a s) λr s' G'=>s'=r.2/\len r.2<len s/\G'=⟨f,l++[.leaf (kind r.1)]⟩::G
 |0,a,s,cc,ps,f,l,G,_,_,_,h=>by omega
 |fu+1,a,s,cc,ps,f,l,G,ho0,ha,ha2,hf=>by
  unfold onlyIn;cases ho:oneOf FLAGS s with
  |none=>exact BQ ho
  |some k=>
   have hk:k<7:=eJ ho;have e1:eD (ps++[.leaf [UInt8.ofNat k]])=withFlag a k:=by rw[iH,ha,GN a ha2 k hk]
   refine Bw ho λhl=>?_;by_cases c:s.skip.sign ","=true
   ·exact mT c (mX pS (eB.mp c) ↑0 (bj c eB (.inr rfl) λhl2=>mW (F4 fu (withFlag a k) s.skip.skip cc _ f l G (qe ho0 hk) e1 (Hj a ha2 k hk).1 ↑2) λr s' G' ⟨h1,h2,h3⟩=>⟨h1,↑2,h3⟩))
   ·exact mF c (mD rM wI (d1 λh=>c (eB.mpr h.symm)) ↑0 (C5 (λ_=>qe ho0 hk) (cS hU ↑0 (.inr rfl) λs2 h2=>mN ⟨rfl,by show len s2<len s;omega,by rw[<-e1];rfl⟩)))
theorem MP{n:Bytes×St}{g:Option Bytes×Bytes×St->Except Fault α}{Q:α->St->List Fr->Prop}(h:∀(r:Option Bytes×Bytes×St)(p:Pt),len r.2.2<=len n.2->yb p=maybe short r.1++short r.2.1->yk p=[]->Sm e z q r.2.2 (⟨f,l++[p]⟩::G) (g r) Q):
  Sm e z (.w OX::q) n.2 (⟨f,l++[.leaf (short n.1)]⟩::G) ((if n.2.sign "."=true then(do
    let(k,z)<-EwTree.take z 1 n.2.skip
    return (some n.1,k,z)) else .ok (none,n.1,n.2):Except Fault (Option Bytes×Bytes×St))>>=g) Q:=by
 by_cases c:n.2.sign "."=true
 ·rw[if_pos c];refine mX EE (mK.mp c) ↑0 (bJ (d8 (A' (bj c mK (.inr rfl) λhl=>?_))));have e1:((EwTree.take z 1 n.2.skip>>=λy=>Except.ok (some n.1,y.1,y.2))>>=g)=(EwTree.take z 1 n.2.skip>>=λy=>g (some n.1,y.1,y.2)):=by
   cases EwTree.take z 1 n.2.skip <;> rfl
  show Sm e z _ _ _ ((EwTree.take z 1 n.2.skip>>=λy=>Except.ok (some n.1,y.1,y.2))>>=g) Q;rw[e1];refine cN (k:=1) ↑0 λb hb=>cO rfl (h (some n.1,b.1,b.2) _ (by show len b.2<=_;omega) ?_ rfl);show[]++([1]++(short n.1++(short b.1++[])))=1::short n.1++short b.1;rw[List.append_nil];rfl
 ·rw[if_neg c];refine mD Hi Mt (d1 λh=>c (mK.mpr h.symm)) ↑0 (bJ (d8 (A' (cO rfl (h (none,n.1,n.2) _ (Nat.le_refl _) ?_ rfl)))));show[]++([0]++(short n.1++[]))=[0]++short n.1;rw[List.append_nil];rfl
theorem Jj(i:FA e z fu)(hf:24*len s+14<=fu):Sm e z [.bg .count,.w qK,.fin,.w 108] s (⟨f,l⟩::G) (if s.sign ")"=true then(.ok ([],[],s.skip):Except Fault ((List (Bytes×Expr))×List Mark×St)) else fieldsIn z fu s) (Ug s f l G):=by
 refine bJ ?_;by_cases c:s.sign ")"=true
 ·have hn:lk e s≠200:=by rw[hU.mp c];decide
  exact mT c (mD lq sg (d1 λh=>hn h.symm) ↑0 (C5 nofun (bj c hU (.inr rfl) λhl=>mN ⟨rfl,by show len s.skip<len s;omega,[],_,_,rfl,rfl,rfl,rfl⟩)))
 ·refine mF c ?_;by_cases c2:lk e s=200
  ·exact mX qa c2 ↑0 (mW (i.fi s _ [] f l G hf) λa s' G' ⟨h1,h2,qs,cb,ch,h3,h4⟩=>⟨h1,h2,qs,cb,ch,h3,h4⟩)
  ·obtain⟨fu,rfl⟩:∃k,fu=k+1:=⟨fu - 1,↑2⟩
   unfold fieldsIn;rw[qy (e:=e) (k:=1) ↑0 c2];refine mD lq sg (d1 λh=>c2 h.symm) ↑0 (C5 nofun ?_);exact RY ↑0 (λh=>c (hU.mpr h))
theorem K'(i:FA e z fu)(s:St)(f:Fm)(l:List Pt)(G:List Fr)(hf:24*len s+13<=fu+1+11):Sm e z [.w DM] s (⟨f,l⟩::G) (exprIn z (fu+1) 11 s) (PP Expr.bytes s f l G):=by
 unfold exprIn;refine mF ↑0 (mF ↑0 (mF ↑0 (mF ↑0 (mF ↑0 (mF ↑0 (mF ↑0 (mF ↑0 ?_)))))));obtain⟨p0,ts⟩:=s;cases ts with
 |nil=>exact E7 (s:=⟨p0,[]⟩) (nt ↑0) (by cases e <;> rfl) rfl
 |cons t r=>
  have hz:len ⟨t.halt_,r⟩+1=len ⟨p0,t::r⟩:=rfl;dsimp only;by_cases k3:t.kind=3
  ·refine mT k3 (mX qV ((cM (k:=3) ↑0).mp ⟨t,r,rfl,k3⟩) ↑0 (bJ (D7 (k:=3) ↑0 k3 (aY ?_ rfl ↑2))));show kind 32++(short t.bytes++[])=_;rw[List.append_nil];rfl
  refine mF k3 ?_;by_cases k4:t.kind=4
  ·refine mT k4 (mX yj ((cM (k:=4) ↑0).mp ⟨t,r,rfl,k4⟩) ↑0 (bJ (D7 (k:=4) ↑0 k4 (aY ?_ rfl ↑2))));show kind 33++(long t.bytes++[])=_;rw[List.append_nil];rfl
  refine mF k4 ?_;by_cases k1:t.kind=1
  ·refine mT k1 (mX vT ((cM (k:=1) ↑0).mp ⟨t,r,rfl,k1⟩) ↑0 (mD zx Jh d0 ↑0 (bJ (D7 (k:=1) ↑0 k1 (aY ?_ rfl ↑2)))));show kind 37++(short t.bytes++[])=_;rw[List.append_nil];rfl
  refine mF k1 ?_;by_cases k2:t.kind=2
  ·refine mT k2 (mX wm ((cM (k:=2) ↑0).mp ⟨t,r,rfl,k2⟩) ↑0 (bJ (D7 (k:=2) ↑0 k2 (aY ?_ rfl ↑2))));show kind 38++(short t.bytes++[])=_;rw[List.append_nil];rfl
  refine mF k2 ?_;generalize hs:(⟨p0,t::r⟩:St)=s at*;have hsk:s.skip=⟨t.halt_,r⟩:=by rw[<-hs];rfl
  rw[<-hsk] at hz ⊢;by_cases c1:s.key "true"=true
  ·exact mT c1 (mX vN (Bj.mp c1) ↑0 (bJ (bj c1 Bj (.inl rfl) λhl=>aY rfl rfl ↑2)))
  refine mF c1 ?_;by_cases c2:s.key "false"=true
  ·exact mT c2 (mX uz (wG.mp c2) ↑0 (bJ (bj c2 wG (.inl rfl) λhl=>aY rfl rfl ↑2)))
  refine mF c2 ?_;by_cases c3:s.key "flags"=true
  ·exact mT c3 (mX t8 (eW.mp c3) ↑0 (bJ (bj c3 eW (.inl rfl) λhl=>aY rfl rfl ↑2)))
  refine mF c3 ?_;by_cases c4:s.key "only"=true
  ·refine mT c4 (mX xi (Bs.mp c4) ↑0 (bJ (bj c4 Bs (.inl rfl) λhl=>cS kP ↑0 (.inr rfl) λs1 h1=>mB (r:=[.bg .set,.w Kl,.fin,.w 108]) (Q:=λr s' G'=>s'=r.2/\len r.2<len s1/\G'=⟨.kind 39 s,[]++[.leaf (kind r.1)]⟩::⟨f,l⟩::G) (bJ ?_) λa s2 G2 ⟨e1,e2,e3⟩=>?_)))
   ·by_cases c:s1.sign ")"=true
    ·exact mT c (mX AO (hU.mp c) ↑0 (C5 (λ_=>nofun) (bj c hU (.inr rfl) λhl=>mN ⟨rfl,by show len s1.skip<len s1;omega,rfl⟩)))
    ·exact mF c (mD Fg Ld (d1 λh=>c (hU.mpr h.symm)) ↑0 (F4 fu 0 s1 _ [] _ _ _ nofun rfl ↑0 ↑2))
   ·subst e1 e3;refine aY ?_ rfl ↑2;show kind 39++(kind a.1++[])=_;rw[List.append_nil];rfl
  refine mF c4 ?_;by_cases c5:s.key "make"=true
  ·refine mT c5 (mX v8 (AK.mp c5) ↑0 (bJ (bj c5 AK (.inl rfl) λhl=>cN (k:=1) ↑0 λn hn=>MP λq p h2 hb hk=>cS kP ↑0 (.inr rfl) λs1 h1=>mB (r:=[.bg .count,.w qK,.fin,.w 108]) (Jj i ↑2) λa s2 G2 ⟨e1,e2,qs,cb,ch,e3,e4,e5,e6⟩=>?_)));subst e1 e3;refine aY ?_ ?_ ↑2
   ·show kind 42++(yb p++((count qs.length++cq qs)++[]))=kind 42++(maybe short q.1++(short q.2.1++(count (a.1.map _).length++woven _ _)));rw[hb,e4,e5,List.append_nil,List.length_map,List.append_assoc]
   ·show yk p++(([]++cI qs)++[])=_;rw[hk,e6,List.append_nil];rfl
  refine mF c5 ?_;by_cases c6:s.sign "("=true
  ·refine mT c6 (mX AE (kP.mp c6) ↑0 (bJ (bj c6 kP (.inr rfl) λhl=>cP (i.ex 0 s.skip _ _ _ ↑0 ↑2) λa p h2 hb hk zp=>cS hU ↑0 (.inr rfl) λs1 h1=>cO rfl (mN ⟨rfl,by show len s1<len s;omega,_,rfl,?_,?_,λ_=>rfl⟩))))
   ·show[]++(yb p++[])=_;rw[List.append_nil,hb];rfl
   ·show yk p++[]=_;rw[List.append_nil,hk]
  refine mF c6 ?_;by_cases c7:s.sign "["=true
  ·refine mT c7 (mX Bb (nV.mp c7) ↑0 (bJ (bj c7 nV (.inr rfl) λhl=>?_)));by_cases c8:s.skip.sign "]"=true
   ·exact mT c8 (mX zL (v_.mp c8) ↑0 (bJ (cO rfl (bj c8 v_ (.inr rfl) λhl2=>aY rfl rfl ↑2))))
   refine mF c8 (mD A4 HJ (d1 λh=>c8 (v_.mpr h.symm)) ↑0 (cP (i.ex 0 s.skip _ _ _ ↑0 ↑2) λa p h2 hb hk zp=>?_));by_cases c9:a.2.2.sign ".."=true
   ·refine mT c9 (mX mL (Mp.mp c9) ↑0 (Ud (bj c9 Mp (.inr rfl) λhl2=>cP (i.ex 0 a.2.2.skip _ _ _ ↑0 ↑2) λb q h3 hb2 hk2 zq=>cS v_ ↑0 (.inr rfl) λs1 h1=>aY ?_ ?_ ↑2)))
    ·show kind 41++(yb p++(yb q++[]))=kind 41++(a.1.bytes++b.1.bytes);rw[hb,hb2,List.append_nil]
    ·show yk p++(yk q++[])=_;rw[hk,hk2,List.append_nil,List.map_append]
   refine mF c9 (mD qd uC (d1 λh=>c9 (Mp.mpr h.symm)) ↑0 (bJ (A' ?_)));by_cases c10:a.2.2.sign ","=true
   ·refine mT c10 (mX d7 (eB.mp c10) ↑0 (bj c10 eB (.inr rfl) λhl2=>?_));rw[hW ↑0];have e0:∀k:List Expr×List Mark×St->Except Fault (Expr×List Mark×St),((exprsIn z "" fu a.2.2.skip>>=λr=>eat z (r.2.2.sign "]") r.2.2>>=λs'=>Except.ok (r.1,r.2.1,s'))>>=k)=(exprsIn z "" fu a.2.2.skip>>=λr=>eat z (r.2.2.sign "]") r.2.2>>=λs'=>k (r.1,r.2.1,s')):=by
     intro k;cases exprsIn z "" fu a.2.2.skip with
     |error er=>rfl
     |ok b=>
      show(eat z (b.2.2.sign "]") b.2.2>>=λs'=>Except.ok (b.1,b.2.1,s'))>>=k=_;show _=(eat z (b.2.2.sign "]") b.2.2>>=λs'=>k (b.1,b.2.1,s'))
      cases eat z (b.2.2.sign "]") b.2.2 <;> rfl
    rw[e0];refine mB (r:=[.w cz,.w bM]) (i.li a.2.2.skip _ _ _ ↑2) λb s2 G2 ⟨e1,e2,qs,e3,e4,e5,e6⟩=>?_;subst e1 e3;refine cO rfl (cS v_ ↑0 (.inr rfl) λs3 h3=>aY ?_ ?_ ↑2)
    ·show kind 40++((count ([]++[p]++qs).length++cq ([]++[p]++qs))++[])=kind 40++(count (b.1.length+1)++(a.1.bytes++(exprsBytes b.1).flatten));rw[sr,e5,iL,hb,List.append_nil,List.length_append,e4];show kind 40++(count (1+b.1.length)++_)=_;rw[Nat.add_comm];rfl
    ·show cI ([]++[p]++qs)++[]=_;rw[uP,e6,iM,hk,List.append_nil,List.map_append];rfl
   ·refine mF c10 (mD eC fj (d1 λh=>c10 (eB.mpr h.symm)) ↑0 (cO rfl (cS v_ ↑0 (.inr rfl) λs3 h3=>aY ?_ ?_ ↑2)))
    ·show kind 40++((count 1++(yb p++[]))++[])=kind 40++(count 1++(a.1.bytes++[]));rw[hb,List.append_nil,List.append_nil]
    ·show(yk p++[])++[]=_;rw[hk,List.append_nil,List.append_nil]
  refine mF c7 ?_;have hbad:bad z s=(2,t.place):=by rw[<-hs];rfl
  rw[<-hbad];have nk:∀k,1<=k/\k<=4->t.kind≠k->199+k≠lk e s:=by
   intro k hk ht c;obtain⟨t',r',h1,h2⟩:=(cM hk).mpr c.symm;rw[<-hs] at h1;obtain⟨rfl,rfl⟩:=List.cons.inj h1;exact ht h2
  exact E7 (nt ↑0) ((K_ _).trans (bD (aI (nk 3 ↑0 k3) (aI (nk 4 ↑0 k4) (aI (λc=>c1 (Bj.mpr c.symm)) (aI (λc=>c2 (wG.mpr c.symm)) (aI (λc=>c3 (eW.mpr c.symm)) (aI (nk 1 ↑0 k1) (aI (nk 2 ↑0 k2) (aI (λc=>c4 (Bs.mpr c.symm)) (aI (λc=>c6 (kP.mpr c.symm)) (aI (λc=>c7 (nV.mpr c.symm)) (aI (λc=>c5 (AK.mpr c.symm)) all_nil))))))))))))) rfl
theorem u6(i:FA e z fu){a op tok:Nat}{x:Expr}{m:List Mark}{p:Pt}{s0:St}(hr:row jL tok=some [.bg (.kind op),.take,.w tok,.w A0,.fin])(c:s.is k w=true)(hl:s.is k w=true↔lk e s=tok)(hk:k=0\/k=5)(h0:len s<len s0)(hf:24*len s0+13<=fu+1+4)(hb:yb p=Expr.bytes x)(hm:yk p=m.map yt)(hs0:∀b,st p b=s0)(ha:s0.here=a):Sm e z [.w jL] s (⟨f,l++[p]⟩::G) (exprIn z fu 5 s.skip>>=λr=>.ok (.bin op x r.1,marked op a r.2.2 (m++r.2.1),r.2.2)) (PP Expr.bytes s0 f l G):=by
 refine mX hr (hl.mp c) ↑0 (bJ (A' (bj c hl hk λhlen=>cP (i.ex 5 s.skip _ _ _ ↑2 ↑2) λb q h2 hb2 hk2 zq=>aY ?_ ?_ ↑2 (hs0 _) ha)))
 ·show kind op++(yb p++(yb q++[]))=kind op++(x.bytes++b.1.bytes);rw[hb,hb2,List.append_nil]
 ·show yk p++(yk q++[])=_;rw[hm,hk2,List.append_nil,List.map_append]
theorem xe(i:FA e z fu)(L:Nat)(s:St)(f:Fm)(l:List Pt)(G:List Fr)(hL:L<=11)(hf:24*len s+13<=fu+1+L):Sm e z (NP L) s (⟨f,l⟩::G) (exprIn z (fu+1) L s) (PP Expr.bytes s f l G):=by
 match L,hL,hf with
 |11,_,hf=>exact K' i s f l G hf
 |0,_,hf=>
  unfold exprIn;refine mT rfl ?_;by_cases c:s.key "if"=true
  ·refine mT c (mX pK (yO.mp c) ↑0 (bJ (bj c yO (.inl rfl) λhl=>cP (i.ex 0 s.skip _ _ _ ↑0 ↑2) λa p h1 hb1 hk1 zp=>cS MW ↑0 (.inl rfl) λs2 h2=>cP (i.ex 0 s2 _ _ _ ↑0 ↑2) λb q h3 hb2 hk2 zq=>cS jw ↑0 (.inl rfl) λs4 h4=>cP (i.ex 0 s4 _ _ _ ↑0 ↑2) λd o h5 hb3 hk3 zo=>aY ?_ ?_ ↑2)))
   ·show kind 51++(yb p++(yb q++(yb o++[])))=kind 51++(a.1.bytes++(b.1.bytes++d.1.bytes));rw[hb1,hb2,hb3,List.append_nil]
   ·show yk p++(yk q++(yk o++[]))=_;rw[hk1,hk2,hk3,List.append_nil,List.map_append,List.map_append]
  ·exact mF c (mD tW vP (d1 λh=>c (yO.mpr h.symm)) ↑0 (i.ex 1 s f l G ↑0 ↑2))
 |1,_,hf=>
  unfold exprIn;exact mF ↑0 (mT ↑0 (cP (i.ex 2 s f l G ↑0 ↑2) λa p h hb hk zp=>mW (i.mo 1 _ a.1 _ p s a.2.2 f l G (.inl rfl) ↑2 hb hk zp rfl h) (uN h)))
 |2,_,hf=>
  unfold exprIn;exact mF ↑0 (mT ↑0 (mD G_ N9 d0 ↑0 (cP (i.ex 3 s f l G ↑0 ↑2) λa p h hb hk zp=>mW (i.mo 2 _ a.1 _ p s a.2.2 f l G (.inr (.inl rfl)) ↑2 hb hk zp rfl h) (uN h))))
 |3,_,hf=>
  unfold exprIn;refine mF ↑0 (mF ↑0 (mT rfl ?_));by_cases c:s.key "not"=true
  ·refine mT c (mX uq (Gr.mp c) ↑0 (bJ (bj c Gr (.inl rfl) λhl=>cP (i.ex 3 s.skip _ _ _ ↑0 ↑2) λa p h1 hb1 hk1 zp=>aY ?_ ?_ ↑2)))
   ·show kind 47++(yb p++[])=kind 47++a.1.bytes;rw[hb1,List.append_nil]
   ·show yk p++[]=_;rw[hk1,List.append_nil]
  ·exact mF c (mD zU E4 (d1 λh=>c (Gr.mpr h.symm)) ↑0 (i.ex 4 s f l G ↑0 ↑2))
 |4,_,hf=>
  unfold exprIn;refine mF ↑0 (mF ↑0 (mF ↑0 (mT rfl (cP (i.ex 5 s f l G ↑0 ↑2) λa p h1 hb1 hk1 zp=>?_))));dsimp only;cases h:opIn 4 a.2.2 with
  |none=>
   have hn:=λw op hm=>DB h (b:=false) (w:=w) (op:=op) hm;exact mD yo BX (aI (λc=>hn "==" 66 ↑0 (Qj.mpr c.symm)) (aI (λc=>hn "!=" 67 ↑0 (Rw.mpr c.symm)) (aI (λc=>hn "<" 68 ↑0 (Q6.mpr c.symm)) (aI (λc=>hn "<=" 69 ↑0 (RF.mpr c.symm)) (aI (λc=>hn ">" 70 ↑0 (Rk.mpr c.symm)) (d1 λc=>hn ">=" 71 ↑0 (Q5.mpr c.symm))))))) ↑0 (mN ⟨rfl,h1,p,rfl,hb1,hk1,zp⟩)
  |some op=>
   obtain⟨b,w,hm,ht⟩:=DD h;simp only[OPS,List.mem_cons,List.not_mem_nil,or_false,Prod.mk.injEq] at hm;have e1:(b=false/\w="=="/\op=66)\/(b=false/\w="!="/\op=67)\/(b=false/\w="<"/\op=68)\/(b=false/\w="<="/\op=69)\/(b=false/\w=">"/\op=70)\/(b=false/\w=">="/\op=71):=by simpa using hm
   rcases e1 with⟨rfl,rfl,rfl⟩|⟨rfl,rfl,rfl⟩|⟨rfl,rfl,rfl⟩|⟨rfl,rfl,rfl⟩|⟨rfl,rfl,rfl⟩|⟨rfl,rfl,rfl⟩
   ·exact u6 i uj ht Qj (.inr rfl) h1 hf hb1 hk1 zp rfl
   ·exact u6 i uw ht Rw (.inr rfl) h1 hf hb1 hk1 zp rfl
   ·exact u6 i tY ht Q6 (.inr rfl) h1 hf hb1 hk1 zp rfl
   ·exact u6 i ua ht RF (.inr rfl) h1 hf hb1 hk1 zp rfl
   ·exact u6 i ub ht Rk (.inr rfl) h1 hf hb1 hk1 zp rfl
   ·exact u6 i uB ht Q5 (.inr rfl) h1 hf hb1 hk1 zp rfl
 |5,_,hf=>
  unfold exprIn;exact mF ↑0 (mF ↑0 (mF ↑0 (mF ↑0 (mT rfl (mD HF OJ d0 ↑0 (cP (i.ex 6 s f l G ↑0 ↑2) λa p h hb hk zp=>mW (i.ca _ a.1 _ p s a.2.2 f l G ↑2 hb hk zp rfl h) (uN h)))))))
 |6,_,hf=>
  unfold exprIn;exact mF ↑0 (mT ↑0 (mD KH P5 d0 ↑0 (cP (i.ex 7 s f l G ↑0 ↑2) λa p h hb hk zp=>mW (i.mo 6 _ a.1 _ p s a.2.2 f l G (.inr (.inr (.inl rfl))) ↑2 hb hk zp rfl h) (uN h))))
 |7,_,hf=>
  unfold exprIn;exact mF ↑0 (mT ↑0 (mD Ax EK d0 ↑0 (cP (i.ex 8 s f l G ↑0 ↑2) λa p h hb hk zp=>mW (i.mo 7 _ a.1 _ p s a.2.2 f l G (.inr (.inr (.inr rfl))) ↑2 hb hk zp rfl h) (uN h))))
 |8,_,hf=>
  unfold exprIn;refine mF ↑0 (mF ↑0 (mF ↑0 (mF ↑0 (mF ↑0 (mT rfl ?_)))));by_cases c1:s.sign "-"=true
  ·refine mT c1 (mX z8 (Gj.mp c1) ↑0 (bJ (bj c1 Gj (.inr rfl) λhl=>cP (i.ex 8 s.skip _ _ _ ↑0 ↑2) λa p h1 hb1 hk1 zp=>aY ?_ ?_ ↑2)))
   ·show kind 46++(yb p++[])=kind 46++a.1.bytes;rw[hb1,List.append_nil]
   ·show yk p++[]=_;rw[hk1,List.append_nil]
  refine mF c1 ?_;by_cases c2:s.key "spawn"=true
  ·refine mT c2 (mX rZ (xn.mp c2) ↑0 (bJ (bj c2 xn (.inl rfl) λhl=>cP (i.ex 10 s.skip _ _ _ ↑0 ↑2) λa p h1 hb1 hk1 zp=>aY ?_ ?_ ↑2)))
   ·show kind 48++(yb p++[])=kind 48++a.1.bytes;rw[hb1,List.append_nil]
   ·show yk p++[]=_;rw[hk1,List.append_nil]
  refine mF c2 ?_;by_cases c3:s.key "resume"=true
  ·refine mT c3 (mX pP (sv.mp c3) ↑0 (bJ (bj c3 sv (.inl rfl) λhl=>cP (i.ex 10 s.skip _ _ _ ↑0 ↑2) λa p h1 hb1 hk1 zp=>?_)));by_cases c4:a.2.2.key "giving"=true
   ·refine mT c4 (mX ph (tK.mp c4) ↑0 (bj c4 tK (.inl rfl) λhl2=>d8 (cP (i.ex 8 a.2.2.skip _ _ _ ↑0 ↑2) λb q h3 hb2 hk2 zq=>aY ?_ ?_ ↑2)))
    ·show kind 49++(yb p++([1]++(yb q++[])))=kind 49++(a.1.bytes++(1::b.1.bytes));rw[hb1,hb2,List.append_nil];rfl
    ·show yk p++([]++(yk q++[]))=_;rw[hk1,hk2,List.append_nil,List.map_append];rfl
   ·refine mF c4 (mD Bt Hd (d1 λh=>c4 (tK.mpr h.symm)) ↑0 (d8 (aY ?_ ?_ ↑2)))
    ·show kind 49++(yb p++([0]++[]))=kind 49++(a.1.bytes++[0]);rw[hb1];rfl
    ·show yk p++([]++[])=_;rw[hk1];simp
  refine mF c3 ?_;by_cases c5:s.key "picture"=true
  ·refine mT c5 (mX my (nP.mp c5) ↑0 (bJ (bj c5 nP (.inl rfl) λhl=>cN (k:=4) ↑0 λt ht=>cS Jn ↑0 (.inl rfl) λs2 h2=>cP (i.ex 10 s2 _ _ _ ↑0 ↑2) λa p h1 hb1 hk1 zp=>aY ?_ ?_ ↑2)))
   ·show kind 50++(long t.1++(yb p++[]))=kind 50++(long t.1++a.1.bytes);rw[hb1,List.append_nil]
   ·show[]++(yk p++[])=_;rw[hk1,List.append_nil];rfl
  ·exact mF c5 (mD B5 HC (aI (λh=>c1 (Gj.mpr h.symm)) (aI (λh=>c2 (xn.mpr h.symm)) (aI (λh=>c3 (sv.mpr h.symm)) (d1 λh=>c5 (nP.mpr h.symm))))) ↑0 (i.ex 9 s f l G ↑0 ↑2))
 |9,_,hf=>
  unfold exprIn;refine mF ↑0 (mF ↑0 (mF ↑0 (mF ↑0 (mF ↑0 (mF ↑0 (mT rfl (cP (i.ex 10 s f l G ↑0 ↑2) λa p h1 hb1 hk1 zp=>?_)))))));by_cases c:a.2.2.sign "^"=true
  ·refine mT c (mX A6 (OZ.mp c) ↑0 (bJ (A' (bj c OZ (.inr rfl) λhl=>cP (i.ex 8 a.2.2.skip _ _ _ ↑0 ↑2) λb q h2 hb2 hk2 zq=>aY ?_ ?_ ↑2 (zp _)))))
   ·show kind 78++(yb p++(yb q++[]))=kind 78++(a.1.bytes++b.1.bytes);rw[hb1,hb2,List.append_nil]
   ·show yk p++(yk q++[])=_;rw[hk1,hk2,List.append_nil,List.map_append]
  ·exact mF c (mD EO Kv (d1 λh=>c (OZ.mpr h.symm)) ↑0 (mN ⟨rfl,h1,p,rfl,hb1,hk1,zp⟩))
 |10,_,hf=>
  unfold exprIn;exact mF ↑0 (mF ↑0 (mF ↑0 (mF ↑0 (mF ↑0 (mF ↑0 (mF ↑0 (mT rfl (mD IJ Ob d0 ↑0 (cP (i.ex 11 s f l G ↑0 ↑2) λa p h hb hk zp=>mW (i.po _ a.1 _ p s a.2.2 f l G ↑2 hb hk zp rfl h) (uN h))))))))))
theorem wF(e:Bool)(z:Fault):∀fu,FA e z fu
 |0=>⟨λL s f l G hL h=>↑2,λ_ _ _ _ _ _ s _ _ _ _ h=>↑2,λ_ _ _ _ _ s _ _ _ h=>↑2,λ_ _ _ _ _ s _ _ _ h=>↑2,λs _ _ _ h=>↑2,λs _ _ _ _ _ h=>↑2⟩
 |fu+1=>let i:=wF e z fu;⟨xe i,xm i,xc i,xp i,xl i,xf i⟩
theorem ba{β γ:Type}(x:Except Fault α)(f:α->Except Fault β)(g:β->Except Fault γ):((x>>=f)>>=g)=(x>>=λa=>f a>>=g):=by cases x <;> rfl
theorem bi{β:Type}{c:Prop}[Decidable c](x y:Except Fault α)(g:α->Except Fault β):((if c then x else y)>>=g)=if c then x>>=g else y>>=g:=by split <;> rfl
theorem Bp(h:24*len s+13<=fu):Sm e z [.w cz] s (⟨f,l⟩::G) (exprIn z fu 0 s) (PP Expr.bytes s f l G):=(wF e z fu).ex 0 s f l G ↑0 h
theorem JJ(h:2*len s+1<=fu):Sm e z [.w jE] s (⟨f,l⟩::G) (sortIn z fu s) (PP Srt.bytes s f l G):=(vJ e z fu).1 s f l G h
def PA{α:Type}(B:α->Bytes)(s:St)(f:Fm)(l:List Pt)(G:List Fr)(a:α×List Mark×St)(s':St)(G':List Fr):Prop:=s'=a.2.2/\len a.2.2<=len s/\∃ps,G'=⟨f,l++ps⟩::G/\cq ps=B a.1/\cI ps=a.2.1.map yt
theorem cA{β:Type}{y:Sym}{B:α->Bytes}{x:Except Fault (α×List Mark×St)}{g:α×List Mark×St->Except Fault β}{R:β->St->List Fr->Prop}(hx:Sm e z [y] s (⟨f,l⟩::G) x (PA B s f l G))(h:∀(a:α×List Mark×St)(ps:List Pt),len a.2.2<=len s->cq ps=B a.1->cI ps=a.2.1.map yt->Sm e z q a.2.2 (⟨f,l++ps⟩::G) (g a) R):Sm e z (y::q) s (⟨f,l⟩::G) (x>>=g) R:=
 mC hx λa s' G' ⟨h1,h2,p,h3,h4,h5⟩=>by subst h1 h3;exact h a p h2 h4 h5
theorem Rj(h:2*len s<=fu):Sm e z [.w zD] s (⟨f,l⟩::G) (maySort z fu s) (PA (maybe Srt.bytes) s f l G):=by
 unfold maySort;by_cases c:s.sign ":"=true
 ·refine mT c (mX rO (Fe.mp c) ↑0 (bj c Fe (.inr rfl) λhl=>d8 (mM (JJ ↑2) λa s' G' ⟨h1,h2,p,h3,h4,h5,_⟩=>?_)));refine⟨h1,by show len a.2.2<=len s;omega,[.leaf [1],p],by rw[h3,List.append_assoc];rfl,?_,?_⟩
  ·show[1]++(yb p++[])=1::a.1.bytes;rw[h4,List.append_nil];rfl
  ·show[]++(yk p++[])=_;rw[h5,List.append_nil];rfl
 ·exact mF c (mD uf yA (d1 λh=>c (Fe.mpr h.symm)) ↑0 (d8 (mN ⟨rfl,Nat.le_refl _,[.leaf [0]],rfl,rfl,rfl⟩)))
theorem Mc(c:s.key "let"=true){B:α->Bytes}{mk:Bytes->Option Srt->Expr->α}(hB:∀n t x,B (mk n t x)=kind k++(short n++(maybe Srt.bytes t++x.bytes)))(hf:24*len s+13<=fu+24):
  Sm e z [.bg (.kind k),.w Q8,.fin] s (⟨f,l⟩::G) (letIn z fu s.skip>>=λr=>.ok (mk r.1.1 r.1.2.1 r.1.2.2,marked k s.here r.2.2 r.2.1,r.2.2)) (PP B s f l G):=by
 refine bJ (mD KD Qh d0 ↑0 (bj c z7 (.inl rfl) λhl=>?_));unfold letIn;rw[ba];refine cN (k:=1) ↑0 λn hn=>?_;rw[ba];refine cA (Rj ↑2) λt ps h1 hb1 hk1=>?_;rw[ba];refine cS FH ↑0 (.inr rfl) λs2 h2=>?_;rw[ba];refine cP (Bp ↑2) λx p h3 hb3 hk3 zp=>aY ?_ ?_ ↑2
 ·show kind k++cq ([]++[.leaf (short n.1)]++ps++[p])=B (mk n.1 t.1 x.1);rw[hB,iL,sr,hb1,hb3];show kind k++(((short n.1++[])++_)++_)=_;rw[List.append_nil,List.append_assoc]
 ·show cI ([]++[.leaf (short n.1)]++ps++[p])=_;rw[iM,uP,hk1,hk3,List.map_append];rfl
theorem QZ{g:Nat->Except Fault α}{Q:α->St->List Fr->Prop}(h:∀k,len s.skip+1=len s->Sm e z q s.skip (⟨f,l++[.leaf (kind k)]⟩::G) (g k) Q):
  Sm e z (.w zZ::q) s (⟨f,l⟩::G) (match oneOf (ROUNDS.take 4) s with|some k=>g k|none=>.error (bad z s)) Q:=by
 cases ho:oneOf (ROUNDS.take 4) s with
 |none=>
  have hn:=il ho;exact E7 (nt ↑0) ((ze _).trans (bD (aI (λc=>hn "near" ↑0 (mH.mpr c.symm)) (aI (λc=>hn "down" ↑0 (nQ.mpr c.symm)) (aI (λc=>hn "up" ↑0 (D3.mpr c.symm)) (aI (λc=>hn "cut" ↑0 (uY.mpr c.symm)) (all_nil))))))) rfl
 |some k=>
  have hk:k<4:=eJ ho;have hw:=λw=>eX ho (w:=w);clear ho
  match k,hk,hw with
  |0,_,hw=>exact have c:=hw "near" rfl;mX m5 (mH.mp c) ↑0 (bj c mH (.inl rfl) λhl=>d8 (h 0 hl))
  |1,_,hw=>exact have c:=hw "down" rfl;mX n8 (nQ.mp c) ↑0 (bj c nQ (.inl rfl) λhl=>d8 (h 1 hl))
  |2,_,hw=>exact have c:=hw "up" rfl;mX rR (D3.mp c) ↑0 (bj c D3 (.inl rfl) λhl=>d8 (h 2 hl))
  |3,_,hw=>exact have c:=hw "cut" rfl;mX pd (uY.mp c) ↑0 (bj c uY (.inl rfl) λhl=>d8 (h 3 hl))
theorem KG{g:Nat->Except Fault α}{Q:α->St->List Fr->Prop}(h:∀k,len s.skip+1=len s->Sm e z q s.skip (⟨f,l++[.leaf (kind k)]⟩::G) (g k) Q):
  Sm e z (.w D4::q) s (⟨f,l⟩::G) (match oneOf ["in","out","both"] s with|some k=>g k|none=>.error (bad z s)) Q:=by
 cases ho:oneOf ["in","out","both"] s with
 |none=>
  have hn:=il ho;exact E7 (nt ↑0) ((EF _).trans (bD (aI (λc=>hn "in" ↑0 (Lj.mpr c.symm)) (aI (λc=>hn "out" ↑0 (Hk.mpr c.symm)) (aI (λc=>hn "both" ↑0 (Cn.mpr c.symm)) (all_nil)))))) rfl
 |some k=>
  have hk:k<3:=eJ ho;have hw:=λw=>eX ho (w:=w);clear ho
  match k,hk,hw with
  |0,_,hw=>exact have c:=hw "in" rfl;mX xE (Lj.mp c) ↑0 (bj c Lj (.inl rfl) λhl=>d8 (h 0 hl))
  |1,_,hw=>exact have c:=hw "out" rfl;mX uo (Hk.mp c) ↑0 (bj c Hk (.inl rfl) λhl=>d8 (h 1 hl))
  |2,_,hw=>exact have c:=hw "both" rfl;mX rN (Cn.mp c) ↑0 (bj c Cn (.inl rfl) λhl=>d8 (h 2 hl))
theorem HS:∀(fu a:Nat)(s cc:St)(ps:List Pt)(f:Fm)(l:List Pt)(G:List Fr){α:Type}{q:List Sym}{g:Nat×St->Except Fault α}{Q:α->St->List Fr->Prop},iu ps->eD ps=a->a<128->len s+1<=fu->(∀r:Nat×St,¬r.2.sign ","=true->¬r.2.sign "{"=true->g r= .error (bad z r.2))->
  (∀r:Nat×St,len r.2<=len s->Sm e z q r.2 (⟨f,l++[.leaf (kind r.1)]⟩::G) (g r) Q)->Sm e z (.w EX::.fin::q) s (⟨.set cc,ps⟩::⟨f,l⟩::G) (g (trapIn fu a s)) Q
 |0,a,s,cc,ps,f,l,G,_,_,_,_,_,_,_,h,_,_=>by omega
 |fu+1,a,s,cc,ps,f,l,G,_,_,g,_,ho0,ha,ha2,hf,hg,h=>by
  unfold trapIn;cases ho:oneOf FLAGS s with
  |some k=>
   have hk:k<7:=eJ ho;have e1:eD (ps++[.leaf [UInt8.ofNat k]])=withFlag a k:=by rw[iH,ha,GN a ha2 k hk]
   have hw:∃w,s.key w=true/\w∈FLAGS:=⟨FLAGS[k],eX ho (List.getElem?_eq_getElem hk),List.getElem_mem hk⟩
   have n1:(113:Nat)≠lk e s/\(111:Nat)≠lk e s:=by
    obtain⟨w,hw,hm⟩:=hw;have hlt:lk e s<100:=by
     obtain⟨i,hi⟩:=Option.isSome_iff_exists.mp ((by decide+kernel:∀w∈FLAGS,(KEYWORDS.findIdx? λx=>x==word w).isSome=true) w hm);have h1:=(az (e:=e) (s:=s) hi).mp hw;have h2:=(List.findIdx?_eq_some_iff_getElem.mp hi).1;have h3:KEYWORDS.length=80:=↑1
     omega
    omega
   refine mD pb uT (aI n1.1 (d1 n1.2)) ↑0 (Bw ho λhl=>?_);exact HS fu (withFlag a k) s.skip cc _ f l G (qe ho0 hk) e1 (Hj a ha2 k hk).1 ↑2 hg λr hr=>h r ↑2
  |none=>
   have hset:done (.set cc) s ps= .leaf (kind a):=by rw[<-ha];rfl
   by_cases c1:s.sign ","=true
   ·exact mX xG (eB.mp c1) ↑0 (C5 (λ_=>ho0) (by rw[hset];exact h (a,s) (Nat.le_refl _)))
   by_cases c2:s.sign "{"=true
   ·exact mX yp (Gh.mp c2) ↑0 (C5 (λ_=>ho0) (by rw[hset];exact h (a,s) (Nat.le_refl _)))
   ·refine mD pb uT (aI (λh=>c1 (eB.mpr h.symm)) (d1 λh=>c2 (Gh.mpr h.symm))) ↑0 ?_;show Sm e z _ s _ (g (a,s)) _;rw[hg (a,s) c1 c2];exact BQ ho
theorem OG{g:Mode×St->Except Fault α}{Q:α->St->List Fr->Prop}(hf:len s+1<=fu)(hg:∀r:Mode×St,¬r.2.sign ","=true->¬r.2.sign "{"=true->g r= .error (bad z r.2))(h:∀(a:Mode×St)(p:Pt),len a.2<len s->yb p=a.1.bytes->yk p=[]->Sm e z q a.2 (⟨f,l++[p]⟩::G) (g a) Q):Sm e z (.w GF::q) s (⟨f,l⟩::G) (modeIn z fu s>>=g) Q:=by
 unfold modeIn;by_cases c1:s.key "rounding"=true
 ·rw[if_pos c1];refine mX pH (jD.mp c1) ↑0 (bJ (bj c1 jD (.inl rfl) λhl=>d8 ?_));have:=QZ (e:=e) (z:=z) (s:=s.skip) (f:=.row s) (l:=[]++[.leaf [0]]) (G:=⟨f,l⟩::G) (q:=.fin::q) (g:=λk=>g (.rounding k,s.skip.skip)) (Q:=Q) λk hl2=>cO rfl (h (.rounding k,s.skip.skip) _ (by show len s.skip.skip<len s;omega) (by show[]++([0]++(kind k++[]))=_;rw[List.append_nil];rfl) rfl);cases ho:oneOf (ROUNDS.take 4) s.skip with
  |none=>rw[ho] at this;exact this
  |some k=>rw[ho] at this;exact this
 rw[if_neg c1];by_cases c2:s.key "precision"=true
 ·rw[if_pos c2];refine mX nI (hZ.mp c2) ↑0 (bJ (bj c2 hZ (.inl rfl) λhl=>d8 ?_));have e1:((EwTree.take z 3 s.skip).map (λ(x:Bytes×St)=>(Mode.precision x.1,x.2))>>=g)=(EwTree.take z 3 s.skip>>=λx=>g (.precision x.1,x.2)):=by cases EwTree.take z 3 s.skip <;> rfl
  rw[e1];exact cN (k:=3) ↑0 λa ha=>cO rfl (h (.precision a.1,a.2) _ (by show len a.2<len s;omega) (by show[]++([1]++(short a.1++[]))=_;rw[List.append_nil];rfl) rfl)
 rw[if_neg c2];by_cases c3:s.key "trap"=true
 ·rw[if_pos c3];refine mX zA (Bh.mp c3) ↑0 (bJ (bj c3 Bh (.inl rfl) λhl=>d8 (bJ ?_)));obtain⟨fu,rfl⟩:∃k,fu=k+1:=⟨fu - 1,↑2⟩
  cases ho:oneOf FLAGS s.skip with
  |none=>exact BQ ho
  |some k=>
   have hk:k<7:=eJ ho;show Sm e z _ _ _ (g (.trap (trapIn (fu+1) 0 s.skip).1,(trapIn (fu+1) 0 s.skip).2)) Q;have e1:trapIn (fu+1) 0 s.skip=trapIn fu (withFlag 0 k) s.skip.skip:=by
    conv=>lhs;unfold trapIn
    rw[ho]
   rw[e1];refine Bw ho λhl2=>?_;refine HS (g:=λr=>g (.trap r.1,r.2)) fu (withFlag 0 k) s.skip.skip _ _ (.row s) _ _ (qe (ps:=[]) nofun hk) (by rw[iH,GN 0 ↑0 k hk];rfl) (Hj 0 ↑0 k hk).1 ↑2 (λr h1 h2=>hg (.trap r.1,r.2) h1 h2) λr hr=>?_;exact cO rfl (h (.trap r.1,r.2) _ (by show len r.2<len s;omega) (by show[]++([2]++(kind r.1++[]))=_;rw[List.append_nil];rfl) rfl)
 rw[if_neg c3];by_cases c4:s.key "flush"=true
 ·rw[if_pos c4];refine mX wA (yi.mp c4) ↑0 (bJ (bj c4 yi (.inl rfl) λhl=>d8 ?_));have:=KG (e:=e) (z:=z) (s:=s.skip) (f:=.row s) (l:=[]++[.leaf [3]]) (G:=⟨f,l⟩::G) (q:=.fin::q) (g:=λk=>g (.flush k,s.skip.skip)) (Q:=Q) λk hl2=>cO rfl (h (.flush k,s.skip.skip) _ (by show len s.skip.skip<len s;omega) (by show[]++([3]++(kind k++[]))=_;rw[List.append_nil];rfl) rfl);cases ho:oneOf ["in","out","both"] s.skip with
  |none=>rw[ho] at this;exact this
  |some k=>rw[ho] at this;exact this
 rw[if_neg c4];exact E7 (nt ↑0) ((OS _).trans (bD (aI (λh=>c1 (jD.mpr h.symm)) (aI (λh=>c2 (hZ.mpr h.symm)) (aI (λh=>c3 (Bh.mpr h.symm)) (aI (λh=>c4 (yi.mpr h.symm)) all_nil)))))) rfl
theorem C9:∀(fu:Nat)(s:St)(f:Fm)(l:List Pt)(G:List Fr){α:Type}{q:List Sym}{g:List Mode×St->Except Fault α}{Q:α->St->List Fr->Prop},len s+2<=fu->(∀r:List Mode×St,¬r.2.sign "{"=true->g r= .error (bad z r.2))->
  (∀(a:List Mode×St)(ps:List Pt),len a.2<len s->ps.length=a.1.length->cq ps=a.1.flatMap Mode.bytes->cI ps=[]->Sm e z q a.2 (⟨f,l++ps⟩::G) (g a) Q)->Sm e z (.w GF::.w wq::q) s (⟨f,l⟩::G) (modesIn z fu s>>=g) Q
 |0,s,f,l,G,_,_,_,_,h,_,_=>by omega
 |fu+1,s,f,l,G,_,q,g,Q,hf,hg,h=>by
  unfold modesIn;rw[ba];refine OG ↑2 (λr h1 h2=>?_) λa p ha hb hk=>?_
  ·dsimp only;rw[bi,if_neg h1];exact hg ([r.1],r.2) h2
  ·dsimp only;rw[bi];by_cases c:a.2.sign ","=true
   ·rw[if_pos c];refine mX pT (eB.mp c) ↑0 (bj c eB (.inr rfl) λhl=>?_);rw[ba];refine C9 fu a.2.skip f (l++[p]) G ↑2 (λr h2=>hg (a.1::r.1,r.2) h2) λb ps h3 h4 h5 h6=>?_;have:=h (a.1::b.1,b.2) (p::ps) (by show len b.2<len s;omega) (by show ps.length+1=b.1.length+1;rw[h4]) (by show yb p++cq ps=a.1.bytes++b.1.flatMap Mode.bytes;rw[hb,h5]) (by show yk p++cI ps=[];rw[hk,h6];rfl);rw[List.append_assoc];exact this
   ·rw[if_neg c];refine mD qQ vU (d1 λh=>c (eB.mpr h.symm)) ↑0 ?_;exact h ([a.1],a.2) [p] ha rfl (by show yb p++[]=a.1.bytes++[];rw[hb]) (by show yk p++[]=[];rw[hk];rfl)
def Mm(z:Fault)(fu a:Nat)(r:Expr×List Mark×St):Except Fault (Stmt×List Mark×St):=if endsCall r.1=true then .ok (.call r.1,marked 98 a r.2.2 r.2.1,r.2.2) else eat z (r.2.2.sign "=") r.2.2>>=λs=>exprIn z fu 0 s>>=λy=>.ok (.assign r.1 y.1,marked 97 a y.2.2 (r.2.1++y.2.1),y.2.2)
def BL(x:Expr):Nat:=if endsCall x=true then iG else qh
theorem qu{fv:Nat}:∀(fu a:Nat)(x:Expr)(m:List Mark)(p:Pt)(s s0:St)(f:Fm)(l:List Pt)(G:List Fr),len s<len s0->24*len s+14<=fu->24*len s+14<=fv->yb p=Expr.bytes x->yk p=m.map yt->(∀b,st p b=s0)->s0.here=a->Sm e z [.w (BL x)] s (⟨f,l++[p]⟩::G) (postIn z fu a x m s>>=Mm z fv a) (PP Stmt.bytes s0 f l G)
 |0,_,_,_,_,_,_,_,_,_,_,h,_,_,_,_,_=>by omega
 |fu+1,a,x,m,p,s,s0,f,l,G,h0,hf,hv,hb,hk,hs,ha=>by
  have i:=wF e z fu;unfold postIn;rw[bi];have ne1:∀y:Expr,endsCall y=false->BL y=qh:=λy h=>if_neg (by rw[h];decide);by_cases c1:s.sign "("=true
  ·rw[if_pos c1];have hr:row (BL x) 107=some [.w Mu,.w iG]:=by
    unfold BL;split
    ·exact lQ
    ·exact Bu
   have h1000:1000<=BL x:=by unfold BL;split <;> decide
   refine mX hr (kP.mp c1) h1000 (mD zS GG d0 ↑0 (bJ (A' (bj c1 kP (.inr rfl) λhl=>?_))));rw[ba];refine mB (r:=[.bg .count,.w fW,.fin,.w 108]) (Ht i ↑2) λb s2 G2 ⟨e1,e2,qs,cb,ch,e3,e4,e5,e6⟩=>?_;subst e1 e3;refine cO rfl (qu fu a (.call x b.1) _ _ b.2.2 s0 f l G ↑2 ↑2 ↑2 ?_ (qE ?_ (by rw[hs];omega) (by rw[hs];exact ha)) (λ_=>hs _) ha)
   ·show kind 43++(yb p++((count qs.length++cq qs)++[]))=kind 43++(x.bytes++(count b.1.length++(exprsBytes b.1).flatten));rw[hb,e4,e5,List.append_nil]
   ·show yk p++(([]++cI qs)++[])=_;rw[hk,e6,List.append_nil,List.map_append];rfl
  rw[if_neg c1,bi];by_cases c2:s.sign "["=true
  ·rw[if_pos c2];have hr:row (BL x) 109=some [.w Kd,.w qh]:=by
    unfold BL;split
    ·exact lC
    ·exact B7
   have h1000:1000<=BL x:=by unfold BL;split <;> decide
   refine mX hr (nV.mp c2) h1000 (mD vg Du d0 ↑0 (bJ (A' (bj c2 nV (.inr rfl) λhl=>?_))));rw[ba];refine cP (Bp ↑2) λb q h2 hb2 hk2 zq=>?_;rw[ba];refine cS v_ ↑0 (.inr rfl) λs3 h3=>cO rfl (qu fu a (.index x b.1) _ _ s3 s0 f l G ↑2 ↑2 ↑2 ?_ (qE ?_ (by rw[hs];omega) (by rw[hs];exact ha)) (λ_=>hs _) ha)
   ·show kind 44++(yb p++(yb q++[]))=kind 44++(x.bytes++b.1.bytes);rw[hb,hb2,List.append_nil]
   ·show yk p++(yk q++[])=_;rw[hk,hk2,List.append_nil,List.map_append]
  rw[if_neg c2,bi];by_cases c3:s.sign "."=true
  ·rw[if_pos c3];have hr:row (BL x) 115=some [.w GR,.w qh]:=by
    unfold BL;split
    ·exact lI
    ·exact B_
   have h1000:1000<=BL x:=by unfold BL;split <;> decide
   refine mX hr (mK.mp c3) h1000 (mD tV Ak d0 ↑0 (bJ (A' (bj c3 mK (.inr rfl) λhl=>?_))));rw[ba];refine cN (k:=1) ↑0 λb h2=>cO rfl (qu fu a (.field x b.1) _ _ b.2 s0 f l G ↑2 ↑2 ↑2 ?_ (qE ?_ (by rw[hs];omega) (by rw[hs];exact ha)) (λ_=>hs _) ha)
   ·show kind 45++(yb p++(short b.1++[]))=kind 45++(x.bytes++short b.1);rw[hb,List.append_nil]
   ·show yk p++([]++[])=_;rw[hk];simp
  rw[if_neg c3];show Sm e z _ _ _ (Mm z fv a (x,m,s)) _;unfold Mm BL;dsimp only;by_cases c4:endsCall x=true
  ·rw[if_pos c4,if_pos c4];refine mD mj qN (aI (λh=>c1 (kP.mpr h.symm)) (aI (λh=>c2 (nV.mpr h.symm)) (d1 λh=>c3 (mK.mpr h.symm)))) ↑0 (bJ (A' (aY ?_ ?_ h0 (hs _) ha)))
   ·show kind 98++(yb p++[])=kind 98++x.bytes;rw[hb,List.append_nil]
   ·show yk p++[]=_;rw[hk,List.append_nil]
  ·rw[if_neg c4,if_neg c4];by_cases c5:s.sign "="=true
   ·refine mX BD (FH.mp c5) ↑0 (bJ (A' (cS FH ↑0 (.inr rfl) λs1 h1=>cP (Bp ↑2) λy q h2 hb2 hk2 zq=>aY ?_ ?_ ↑2 (hs _) ha)))
    ·show kind 97++(yb p++(yb q++[]))=kind 97++(x.bytes++y.1.bytes);rw[hb,hb2,List.append_nil]
    ·show yk p++(yk q++[])=_;rw[hk,hk2,List.append_nil,List.map_append]
   ·rw[show eat z (s.sign "=") s= .error (bad z s) from if_neg c5];exact E7 (nt ↑0) ((J4 _).trans (bD (aI (λh=>c1 (kP.mpr h.symm)) (aI (λh=>c2 (nV.mpr h.symm)) (aI (λh=>c3 (mK.mpr h.symm)) (aI (λh=>c5 (FH.mpr h.symm)) all_nil)))))) rfl
def bb(b:Block):Bytes:=count b.length++b.bytes
structure Pd(e:Bool)(z:Fault)(fu:Nat):Prop where
 t:∀s f l G,24*len s+14<=fu->Sm e z [.w oS] s (⟨f,l⟩::G) (stmtIn z fu s) (PP Stmt.bytes s f l G)
 b:∀s f l G,24*len s+14<=fu->Sm e z [.w CY] s (⟨f,l⟩::G) (blockIn z fu s) (PP bb s f l G)
 l:∀s cc ps G,24*len s+15<=fu->Sm e z [.w kZ,.w 112] s (⟨.count cc,ps⟩::G) (stmtsIn z fu s) λa s' G'=>s'=a.2.2/\len a.2.2<len s/\∃qs,G'=⟨.count cc,ps++qs⟩::G/\qs.length=a.1.length/\cq qs=a.1.bytes/\cI qs=a.2.1.map yt
 r:∀s cc ps f l G,s.key "if"=true->24*len s+14<=fu+24->Sm e z [.w tR,.w eL] s (⟨.count cc,ps⟩::⟨f,l⟩::G) (branchesIn z fu s.skip) λa s' G'=>s'=a.2.2/\len a.2.2<len s/\∃qs rs cb ch,G'=⟨f,l++[.bq (.count cb) ch (ps++qs)]++rs⟩::G/\qs.length=a.1.length/\cq qs++cq rs=a.1.bytes/\cI qs++cI rs=a.2.1.map yt
 c:∀s cc ps f l G,24*len s+14<=fu->Sm e z [.w xr,.fin,.w BG,.w 112] s (⟨.count cc,ps⟩::⟨f,l⟩::G) (casesIn z fu s) λa s' G'=>s'=a.2.2/\len a.2.2<len s/\∃qs rs cb ch,G'=⟨f,l++[.bq (.count cb) ch (ps++qs)]++rs⟩::G/\qs.length=a.1.length/\cq qs++cq rs=a.1.bytes/\cI qs++cI rs=a.2.1.map yt
theorem tb(i:Pd e z fu)(s:St)(f:Fm)(l:List Pt)(G:List Fr)(hf:24*len s+14<=fu+1):Sm e z [.w CY] s (⟨f,l⟩::G) (blockIn z (fu+1) s) (PP bb s f l G):=by
 unfold blockIn;refine mD Fc Kp d0 ↑0 (bJ (cS Gh ↑0 (.inr rfl) λs1 h1=>?_));have h:=i.l s1 s [] (⟨f,l⟩::G) ↑2;have:=mB (q:=[.fin]) (k:=λr=>.ok r) (R:=PP bb s f l G) h λa s2 G2 ⟨e1,e2,qs,e3,e4,e5,e6⟩=>by
  subst e1 e3;refine cO rfl (mN ⟨rfl,by show len a.2.2<len s;omega,_,rfl,?_,?_,λ_=>rfl⟩)
  ·show count ([]++qs).length++cq ([]++qs)=count a.1.length++a.1.bytes;rw[List.nil_append,e4,e5]
  ·show cI ([]++qs)=_;rw[List.nil_append,e6]
 have e0:(stmtsIn z fu s1>>=λr=>Except.ok r)=stmtsIn z fu s1:=by cases stmtsIn z fu s1 <;> rfl
 rw[e0] at this;exact this
theorem tl(i:Pd e z fu)(s cc:St)(ps:List Pt)(G:List Fr)(hf:24*len s+15<=fu+1):Sm e z [.w kZ,.w 112] s (⟨.count cc,ps⟩::G) (stmtsIn z (fu+1) s) λa s' G'=>s'=a.2.2/\len a.2.2<len s/\∃qs,G'=⟨.count cc,ps++qs⟩::G/\qs.length=a.1.length/\cq qs=a.1.bytes/\cI qs=a.2.1.map yt:=by
 unfold stmtsIn;by_cases c:s.sign "}"=true
 ·exact mT c (mX pB (E_.mp c) ↑0 (bj c E_ (.inr rfl) λhl=>mN ⟨rfl,by show len s.skip<len s;omega,[],by rw[List.append_nil],rfl,rfl,rfl⟩))
 ·refine mF c (mD sA vO (d1 λh=>c (E_.mpr h.symm)) ↑0 (cP (i.t s _ _ _ ↑2) λa p h1 hb hk zp=>mB (q:=[]) (i.l a.2.2 cc (ps++[p]) G ↑2) λb s2 G2 ⟨e1,e2,qs,e3,e4,e5,e6⟩=>?_));subst e1 e3;refine mN ⟨rfl,by show len b.2.2<len s;omega,p::qs,by rw[List.append_assoc];rfl,by show qs.length+1=b.1.length+1;rw[e4],?_,?_⟩
  ·show yb p++cq qs=a.1.bytes++b.1.bytes;rw[hb,e5]
  ·show yk p++cI qs=_;rw[hk,e6,List.map_append]
theorem tr(i:Pd e z fu)(s cc:St)(ps:List Pt)(f:Fm)(l:List Pt)(G:List Fr)(c:s.key "if"=true)(hf:24*len s+14<=fu+1+24):Sm e z [.w tR,.w eL] s (⟨.count cc,ps⟩::⟨f,l⟩::G) (branchesIn z (fu+1) s.skip) λa s' G'=>s'=a.2.2/\len a.2.2<len s/\∃qs rs cb ch,G'=⟨f,l++[.bq (.count cb) ch (ps++qs)]++rs⟩::G/\qs.length=a.1.length/\cq qs++cq rs=a.1.bytes/\cI qs++cI rs=a.2.1.map yt:=by
 unfold branchesIn;refine mD A7 HG d0 ↑0 (bJ (bj c yO (.inl rfl) λhl=>cP (Bp ↑2) λx p h1 hb1 hk1 zp=>cP (i.b _ _ _ _ ↑2) λb q h2 hb2 hk2 zq=>cO rfl ?_));have r1:yb (.bq (Fk.row.at s) b.2.2 ([]++[p]++[q]))=x.1.bytes++(count b.1.length++b.1.bytes):=by
  show[]++(yb p++(yb q++[]))=_;rw[hb1,hb2,List.append_nil];rfl
 have r2:yk (.bq (Fk.row.at s) b.2.2 ([]++[p]++[q]))=(x.2.1++b.2.1).map yt:=by
  show yk p++(yk q++[])=_;rw[hk1,hk2,List.append_nil,List.map_append]
 generalize (Pt.bq (Fk.row.at s) b.2.2 ([]++[p]++[q]))=w at r1 r2;by_cases c1:b.2.2.key "else"=true
 ·refine mT c1 (mX ij (jw.mp c1) ↑0 (bj c1 jw (.inl rfl) λhl1=>?_));by_cases c2:b.2.2.skip.key "if"=true
  ·refine mT c2 (mX nL (yO.mp c2) ↑0 (mB (q:=[]) (i.r b.2.2.skip cc (ps++[w]) f l G c2 ↑2) λd s2 G2 ⟨e1,e2,qs,rs,cb,ch,e3,e4,e5,e6⟩=>?_));subst e1 e3;refine mN ⟨rfl,by show len d.2.2<len s;omega,w::qs,rs,_,_,by rw[List.append_assoc ps];rfl,by show qs.length+1=d.1.length+1;rw[e4],?_,?_⟩
   ·show(yb w++cq qs)++cq rs=x.1.bytes++(count b.1.length++(b.1.bytes++d.1.bytes));rw[r1,List.append_assoc,e5,List.append_assoc,List.append_assoc]
   ·show(yk w++cI qs)++cI rs=_;rw[r2,List.append_assoc,e6];show _=(x.2.1++(b.2.1++d.2.1)).map yt;rw[<-List.append_assoc,<-List.map_append]
  ·refine mF c2 (mD qc ud (d1 λh=>c2 (yO.mpr h.symm)) ↑0 (cO rfl (d8 (cP (i.b _ _ _ _ ↑2) λd o h3 hb3 hk3 zo=>mN ⟨rfl,by show len d.2.2<len s;omega,[w],[.leaf [1],o],_,_,by rw[List.append_assoc];rfl,rfl,?_,?_⟩))))
   ·show(yb w++[])++([1]++(yb o++[]))=x.1.bytes++(count b.1.length++(b.1.bytes++(1::(count d.1.length++d.1.bytes))));rw[r1,hb3,List.append_nil,List.append_nil,List.append_assoc,List.append_assoc];rfl
   ·show(yk w++[])++([]++(yk o++[]))=_;rw[r2,hk3,List.append_nil,List.append_nil,List.nil_append,<-List.map_append,List.append_assoc]
 ·refine mF c1 (mD kS pj (d1 λh=>c1 (jw.mpr h.symm)) ↑0 (cO rfl (d8 (mN ⟨rfl,by show len b.2.2<len s;omega,[w],[.leaf [0]],_,_,rfl,rfl,?_,?_⟩))))
  ·show(yb w++[])++([0]++[])=x.1.bytes++(count b.1.length++(b.1.bytes++[0]));rw[r1,List.append_nil,List.append_assoc,List.append_assoc];rfl
  ·show(yk w++[])++([]++[])=_;rw[r2];simp
theorem tc(i:Pd e z fu)(s cc:St)(ps:List Pt)(f:Fm)(l:List Pt)(G:List Fr)(hf:24*len s+14<=fu+1):Sm e z [.w xr,.fin,.w BG,.w 112] s (⟨.count cc,ps⟩::⟨f,l⟩::G) (casesIn z (fu+1) s) λa s' G'=>s'=a.2.2/\len a.2.2<len s/\∃qs rs cb ch,G'=⟨f,l++[.bq (.count cb) ch (ps++qs)]++rs⟩::G/\qs.length=a.1.length/\cq qs++cq rs=a.1.bytes/\cI qs++cI rs=a.2.1.map yt:=by
 unfold casesIn;by_cases c1:s.key "is"=true
 ·refine mT c1 (mX BY (NZ.mp c1) ↑0 (bJ (bj c1 NZ (.inl rfl) λhl=>cP (JJ ↑2) λt p h1 hb1 hk1 zp=>cN (k:=1) ↑0 λn hn=>cP (i.b _ _ _ _ ↑2) λb q h2 hb2 hk2 zq=>cO rfl ?_)));have r1:yb (.bq (Fk.row.at s) b.2.2 ([]++[p]++[.leaf (BN 1 n.1)]++[q]))=t.1.bytes++(short n.1++(count b.1.length++b.1.bytes)):=by
   show[]++(yb p++(short n.1++(yb q++[])))=_;rw[hb1,hb2,List.append_nil];rfl
  have r2:yk (.bq (Fk.row.at s) b.2.2 ([]++[p]++[.leaf (BN 1 n.1)]++[q]))=(t.2.1++b.2.1).map yt:=by
   show yk p++([]++(yk q++[]))=_;rw[hk1,hk2,List.append_nil,List.map_append];rfl
  generalize (Pt.bq (Fk.row.at s) b.2.2 ([]++[p]++[.leaf (BN 1 n.1)]++[q]))=w at r1 r2;refine mB (q:=[]) (i.c b.2.2 cc (ps++[w]) f l G ↑2) λd s2 G2 ⟨e1,e2,qs,rs,cb,ch,e3,e4,e5,e6⟩=>?_;subst e1 e3;refine mN ⟨rfl,by show len d.2.2<len s;omega,w::qs,rs,_,_,by rw[List.append_assoc ps];rfl,by show qs.length+1=d.1.length+1;rw[e4],?_,?_⟩
  ·show(yb w++cq qs)++cq rs=t.1.bytes++(short n.1++(count b.1.length++(b.1.bytes++d.1.bytes)));rw[r1,List.append_assoc,e5,List.append_assoc,List.append_assoc,List.append_assoc]
  ·show(yk w++cI qs)++cI rs=_;rw[r2,List.append_assoc,e6];show _=(t.2.1++(b.2.1++d.2.1)).map yt;rw[<-List.append_assoc,<-List.map_append]
 refine mF c1 (mD Ff Kj (d1 λh=>c1 (NZ.mpr h.symm)) ↑0 (cO rfl ?_));by_cases c2:s.key "else"=true
 ·refine mT c2 (mX yL (jw.mp c2) ↑0 (bj c2 jw (.inl rfl) λhl=>d8 (cP (i.b _ _ _ _ ↑2) λb q h2 hb2 hk2 zq=>cS E_ ↑0 (.inr rfl) λs3 h3=>mN ⟨rfl,by show len s3<len s;omega,[],[.leaf [1],q],_,_,by rw[List.append_nil,List.append_assoc];rfl,rfl,?_,?_⟩)))
  ·show[]++([1]++(yb q++[]))=1::(count b.1.length++b.1.bytes);rw[hb2,List.append_nil];rfl
  ·show[]++([]++(yk q++[]))=_;rw[hk2,List.append_nil];rfl
 ·exact mF c2 (mD Ie Oa (d1 λh=>c2 (jw.mpr h.symm)) ↑0 (d8 (cS E_ ↑0 (.inr rfl) λs3 h3=>mN ⟨rfl,by show len s3<len s;omega,[],[.leaf [0]],_,_,by rw[List.append_nil],rfl,rfl,rfl⟩)))
theorem TX(h:24*len s<=fu):Sm e z [.w TU] s (⟨f,l⟩::G) (if s.key "to"=true then(exprIn z fu 0 s.skip).map λ(z:Expr×List Mark×St)=>(some z.1,z.2) else .ok (none,[],s):Except Fault ((Option Expr)×List Mark×St)) (PA (maybe Expr.bytes) s f l G):=by
 by_cases c:s.key "to"=true
 ·refine mT c (mX Ky (Ov.mp c) ↑0 (bj c Ov (.inl rfl) λhl=>d8 (mM (Bp ↑2) λa s' G' ⟨h1,h2,p,h3,h4,h5,_⟩=>?_)));refine⟨h1,by show len a.2.2<=len s;omega,[.leaf [1],p],by rw[h3,List.append_assoc];rfl,?_,?_⟩
  ·show[1]++(yb p++[])=1::a.1.bytes;rw[h4,List.append_nil];rfl
  ·show[]++(yk p++[])=_;rw[h5,List.append_nil];rfl
 ·exact mF c (mD ME SD (d1 λh=>c (Ov.mpr h.symm)) ↑0 (d8 (mN ⟨rfl,Nat.le_refl _,[.leaf [0]],rfl,rfl,rfl⟩)))
theorem NV{g:Option Bytes×St->Except Fault α}{Q:α->St->List Fr->Prop}(h:∀(a:Option Bytes×St)(ps:List Pt),len a.2<=len s->cq ps=maybe short a.1->cI ps=[]->Sm e z q a.2 (⟨f,l++ps⟩::G) (g a) Q):
  Sm e z (.w MV::q) s (⟨f,l⟩::G) ((if s.key "into"=true then(EwTree.take z 1 s.skip).map λ(x:Bytes×St)=>(some x.1,x.2) else .ok (none,s):Except Fault (Option Bytes×St))>>=g) Q:=by
 by_cases c:s.key "into"=true
 ·rw[if_pos c];have e1:((EwTree.take z 1 s.skip).map (λ(x:Bytes×St)=>(some x.1,x.2))>>=g)=(EwTree.take z 1 s.skip>>=λx=>g (some x.1,x.2)):=by cases EwTree.take z 1 s.skip <;> rfl
  rw[e1];refine mX Ar (AG.mp c) ↑0 (bj c AG (.inl rfl) λhl=>d8 (cN (k:=1) ↑0 λa ha=>?_));have:=h (some a.1,a.2) [.leaf [1],.leaf (short a.1)] (by show len a.2<=len s;omega) (by show[1]++(short a.1++[])=_;rw[List.append_nil];rfl) rfl;rw[List.append_assoc];exact this
 ·rw[if_neg c];exact mD Ge Nd (d1 λh=>c (AG.mpr h.symm)) ↑0 (d8 (h (none,s) [.leaf [0]] (Nat.le_refl _) rfl rfl))
theorem JH{x:Except Fault α}{Q:α->St->List Fr->Prop}(h:∀ps,len (Cg s).2<=len s->cq ps=maybe long (Cg s).1->cI ps=[]->Sm e z q (Cg s).2 (⟨f,l++ps⟩::G) x Q):Sm e z (.w t6::q) s (⟨f,l⟩::G) x Q:=by
 by_cases c:lk e s=203
 ·obtain⟨t,r,e1,e2⟩:=(cM (k:=4) ↑0).mpr c;obtain⟨p,ts⟩:=s;have e1:ts=t::r:=e1;subst e1;have eo:Cg ⟨p,t::r⟩=(some t.bytes,⟨t.halt_,r⟩):=if_pos e2;rw[eo] at h;refine mX jo c ↑0 (d8 (D7 (k:=4) ↑0 e2 ?_));have:=h [.leaf [1],.leaf (long t.bytes)] (Nat.le_succ _) (by show[1]++(long t.bytes++[])=1::long t.bytes;rw[List.append_nil];rfl) rfl;rw[List.append_assoc];exact this
 ·have eo:Cg s=(none,s):=by
   obtain⟨p,ts⟩:=s;cases ts with
   |nil=>rfl
   |cons t r=>exact if_neg λk=>c ((cM (k:=4) ↑0).mp ⟨t,r,rfl,k⟩)
  rw[eo] at h;exact mD p_ t9 (d1 λk=>c k.symm) ↑0 (d8 (h [.leaf [0]] (Nat.le_refl _) rfl rfl))
theorem tt(i:Pd e z fu)(s:St)(f:Fm)(l:List Pt)(G:List Fr)(hf:24*len s+14<=fu+1):Sm e z [.w oS] s (⟨f,l⟩::G) (stmtIn z (fu+1) s) (PP Stmt.bytes s f l G):=by
 unfold stmtIn;by_cases c1:s.key "let"=true
 ·exact mT c1 (mX pY (z7.mp c1) ↑0 (Mc c1 (B:=Stmt.bytes) (mk:=λn t x=>Stmt.let_ n t x) (λn t x=>rfl) ↑2))
 refine mF c1 ?_;by_cases c2:s.key "flags"=true
 ·refine mT c2 (mX kO (eW.mp c2) ↑0 (bJ (bj c2 eW (.inl rfl) λhl=>cS FH ↑0 (.inr rfl) λs1 h1=>cP (Bp ↑2) λa p h2 hb hk zp=>aY ?_ ?_ ↑2)))
  ·show kind 99++(yb p++[])=kind 99++a.1.bytes;rw[hb,List.append_nil]
  ·show yk p++[]=_;rw[hk,List.append_nil]
 refine mF c2 ?_;by_cases c3:s.key "if"=true
 ·refine mT c3 (mX tJ (yO.mp c3) ↑0 (bJ (bJ (mB (r:=[.w tR,.w eL]) (i.r s _ [] _ _ _ c3 ↑2) λa s2 G2 ⟨e1,e2,qs,rs,cb,ch,e3,e4,e5,e6⟩=>?_))));subst e1 e3;refine aY ?_ ?_ ↑2
  ·show kind 100++((count ([]++qs).length++cq ([]++qs))++cq rs)=kind 100++(count a.1.length++a.1.bytes);rw[List.nil_append,e4,List.append_assoc,e5]
  ·show cI ([]++qs)++cI rs=_;rw[List.nil_append,e6]
 refine mF c3 ?_;by_cases c4:s.key "while"=true
 ·refine mT c4 (mX lx (xV.mp c4) ↑0 (bJ (bj c4 xV (.inl rfl) λhl=>cP (Bp ↑2) λa p h2 hb hk zp=>cP (i.b _ _ _ _ ↑2) λb q h3 hb2 hk2 zq=>aY ?_ ?_ ↑2)))
  ·show kind 101++(yb p++(yb q++[]))=kind 101++(a.1.bytes++(count b.1.length++b.1.bytes));rw[hb,hb2,List.append_nil];rfl
  ·show yk p++(yk q++[])=_;rw[hk,hk2,List.append_nil,List.map_append]
 refine mF c4 ?_;by_cases c5:s.key "for"=true
 ·refine mT c5 (mX pG (Iy.mp c5) ↑0 (bJ (bj c5 Iy (.inl rfl) λhl=>cN (k:=1) ↑0 λn hn=>cS Lj ↑0 (.inl rfl) λs1 h1=>cP (Bp ↑2) λa p h2 hb hk zp=>cA (TX ↑2) λt ps h3 hb3 hk3=>cP (i.b _ _ _ _ ↑2) λb q h4 hb2 hk2 zq=>aY ?_ ?_ ↑2)))
  ·show kind 102++cq ([]++[.leaf (short n.1)]++[p]++ps++[q])=kind 102++(short n.1++(a.1.bytes++(maybe Expr.bytes t.1++(count b.1.length++b.1.bytes))));rw[iL,sr,iL,hb,hb2,hb3];show kind 102++((((short n.1++[])++_)++_)++_)=_;rw[List.append_nil,List.append_assoc,List.append_assoc];rfl
  ·show cI ([]++[.leaf (short n.1)]++[p]++ps++[q])=_;rw[iM,uP,iM,hk,hk2,hk3,List.map_append,List.map_append];show(([]++_)++_)++_=_;rw[List.nil_append,List.append_assoc]
 refine mF c5 ?_;by_cases c6:s.key "match"=true
 ·refine mT c6 (mX lL (xy.mp c6) ↑0 (bJ (bj c6 xy (.inl rfl) λhl=>cP (Bp ↑2) λa p h2 hb hk zp=>cS Gh ↑0 (.inr rfl) λs1 h1=>bJ (mB (r:=[.w xr,.fin,.w BG,.w 112]) (i.c s1 _ [] _ _ _ ↑2) λb s2 G2 ⟨e1,e2,qs,rs,cb,ch,e3,e4,e5,e6⟩=>?_))));subst e1 e3;refine aY ?_ ?_ ↑2
  ·show kind 103++(yb p++((count ([]++qs).length++cq ([]++qs))++cq rs))=kind 103++(a.1.bytes++(count b.1.length++b.1.bytes));rw[List.nil_append,e4,List.append_assoc,e5,hb]
  ·show yk p++(([]++cI ([]++qs))++cI rs)=_;rw[List.nil_append,List.nil_append,e6,hk,List.map_append]
 refine mF c6 ?_;by_cases c7:s.key "return"=true
 ·refine mT c7 (mX jv (qB.mp c7) ↑0 (bJ (bj c7 qB (.inl rfl) λhl=>cP (Bp ↑2) λa p h2 hb hk zp=>aY ?_ ?_ ↑2)))
  ·show kind 104++(yb p++[])=kind 104++a.1.bytes;rw[hb,List.append_nil]
  ·show yk p++[]=_;rw[hk,List.append_nil]
 refine mF c7 ?_;by_cases c8:s.key "leave"=true
 ·exact mT c8 (mX lh (vM.mp c8) ↑0 (bJ (bj c8 vM (.inl rfl) λhl=>aY rfl rfl ↑2)))
 refine mF c8 ?_;by_cases c9:s.key "break"=true
 ·exact mT c9 (mX lP (yh.mp c9) ↑0 (bJ (bj c9 yh (.inl rfl) λhl=>aY rfl rfl ↑2)))
 refine mF c9 ?_;by_cases c10:s.key "next"=true
 ·exact mT c10 (mX mq (AU.mp c10) ↑0 (bJ (bj c10 AU (.inl rfl) λhl=>aY rfl rfl ↑2)))
 refine mF c10 ?_;by_cases c11:s.key "with"=true
 ·refine mT c11 (mX nO (Cm.mp c11) ↑0 (bJ (bj c11 Cm (.inl rfl) λhl=>bJ (C9 fu s.skip _ _ _ ↑2 (λr h=>?_) λa ps h1 h2 hb hk=>cO rfl (cP (i.b _ _ _ _ ↑2) λb q h3 hb2 hk2 zq=>aY ?_ ?_ ↑2)))))
  ·obtain⟨fu,rfl⟩:∃k,fu=k+1:=⟨fu - 1,↑2⟩
   dsimp only;unfold blockIn;rw[show eat z (r.2.sign "{") r.2= .error (bad z r.2) from if_neg h];rfl
  ·show kind 108++((count ([]++ps).length++cq ([]++ps))++(yb q++[]))=kind 108++(count a.1.length++(a.1.flatMap Mode.bytes++(count b.1.length++b.1.bytes)));rw[List.nil_append,h2,hb,hb2,List.append_nil,List.append_assoc];rfl
  ·show([]++cI ([]++ps))++(yk q++[])=_;rw[List.nil_append,List.nil_append,hk,hk2,List.append_nil];rfl
 refine mF c11 ?_;by_cases c12:s.key "try"=true
 ·refine mT c12 (mX pQ (GA.mp c12) ↑0 (bJ (bj c12 GA (.inl rfl) λhl=>cP (i.b _ _ _ _ ↑2) λa p h2 hb hk zp=>?_)));by_cases d1':a.2.2.key "catch"=true
  ·refine mT d1' (mX jH (xo.mp d1') ↑0 (bj d1' xo (.inl rfl) λhl2=>d8 (cN (k:=1) ↑0 λn hn=>cP (i.b _ _ _ _ ↑2) λb q h3 hb2 hk2 zq=>?_)));by_cases d2':b.2.2.key "finally"=true
   ·refine mT d2' (mX fH (d9.mp d2') ↑0 (bj d2' d9 (.inl rfl) λhl3=>d8 (cP (i.b _ _ _ _ ↑2) λd o h4 hb4 hk4 zo=>aY ?_ ?_ ↑2)))
    ·show kind 109++(yb p++([1]++(short n.1++(yb q++([1]++(yb o++[]))))))=kind 109++(count a.1.length++(a.1.bytes++(1::(short n.1++(count b.1.length++(b.1.bytes++(1::(count d.1.length++d.1.bytes))))))));rw[hb,hb2,hb4,List.append_nil];unfold bb;simp only[List.append_assoc,List.cons_append,List.nil_append]
    ·show yk p++([]++([]++(yk q++([]++(yk o++[])))))=_;rw[hk,hk2,hk4,List.append_nil,List.map_append,List.map_append];rfl
   ·refine mF d2' (mD yK EV (d1 λh=>d2' (d9.mpr h.symm)) ↑0 (d8 (aY ?_ ?_ ↑2)))
    ·show kind 109++(yb p++([1]++(short n.1++(yb q++([0]++[])))))=kind 109++(count a.1.length++(a.1.bytes++(1::(short n.1++(count b.1.length++(b.1.bytes++[0]))))));rw[hb,hb2];unfold bb;simp only[List.append_assoc,List.cons_append,List.nil_append]
    ·show yk p++([]++([]++(yk q++([]++[]))))=_;rw[hk,hk2,List.map_append];simp
  ·refine mF d1' ?_;by_cases d3':a.2.2.key "finally"=true
   ·refine mX ia (d9.mp d3') ↑0 (d8 (mX fH (d9.mp d3') ↑0 (cS d9 ↑0 (.inl rfl) λs1 h1=>d8 (cP (i.b _ _ _ _ ↑2) λb q h3 hb2 hk2 zq=>aY ?_ ?_ ↑2))))
    ·show kind 109++(yb p++([0]++([1]++(yb q++[]))))=kind 109++(count a.1.length++(a.1.bytes++(0::1::(count b.1.length++b.1.bytes))));rw[hb,hb2,List.append_nil];unfold bb;simp only[List.append_assoc,List.cons_append,List.nil_append]
    ·show yk p++([]++([]++(yk q++[])))=_;rw[hk,hk2,List.append_nil,List.map_append];rfl
   ·rw[show eat z (a.2.2.key "finally") a.2.2= .error (bad z a.2.2) from if_neg d3'];exact E7 (nt ↑0) ((yr _).trans (bD (aI (λh=>d1' (xo.mpr h.symm)) (aI (λh=>d3' (d9.mpr h.symm)) all_nil)))) rfl
 refine mF c12 ?_;by_cases c13:s.key "raise"=true
 ·refine mT c13 (mX kI (xD.mp c13) ↑0 (bJ (bj c13 xD (.inl rfl) λhl=>cP (Bp ↑2) λa p h2 hb hk zp=>aY ?_ ?_ ↑2)))
  ·show kind 110++(yb p++[])=kind 110++a.1.bytes;rw[hb,List.append_nil]
  ·show yk p++[]=_;rw[hk,List.append_nil]
 refine mF c13 ?_;by_cases c14:s.key "say"=true
 ·refine mT c14 (mX p8 (II.mp c14) ↑0 (bJ (bj c14 II (.inl rfl) λhl=>bJ (mB (r:=[.w cz,.w bM]) ((wF e z fu).li s.skip _ _ _ ↑2) λa s2 G2 ⟨e1,e2,qs,e3,e4,e5,e6⟩=>?_))));subst e1 e3;refine cO rfl (aY ?_ ?_ ↑2)
  ·show kind 111++((count ([]++qs).length++cq ([]++qs))++[])=kind 111++(count a.1.length++(exprsBytes a.1).flatten);rw[List.nil_append,e4,e5,List.append_nil]
  ·show([]++cI ([]++qs))++[]=_;rw[List.nil_append,List.nil_append,e6,List.append_nil]
 refine mF c14 ?_;by_cases c15:s.key "yield"=true
 ·refine mT c15 (mX lK (w_.mp c15) ↑0 (bJ (bj c15 w_ (.inl rfl) λhl=>cP (Bp ↑2) λa p h2 hb hk zp=>NV λn ps h3 hb3 hk3=>aY ?_ ?_ ↑2)))
  ·show kind 112++(yb p++cq ps)=kind 112++(a.1.bytes++maybe short n.1);rw[hb,hb3]
  ·show yk p++cI ps=_;rw[hk,hk3,List.append_nil]
 refine mF c15 ?_;by_cases c16:s.key "post"=true
 ·refine mT c16 (mX m8 (A1.mp c16) ↑0 (bJ (bj c16 A1 (.inl rfl) λhl=>cP (Bp ↑2) λa p h1 hb1 hk1 zp=>cS Fe ↑0 (.inr rfl) λs2 h2=>cP (Bp ↑2) λb q h3 hb2 hk2 zq=>cS OR ↑0 (.inl rfl) λs4 h4=>cP (Bp ↑2) λd o h5 hb3 hk3 zo=>JH λps h6 hb4 hk4=>?_)));refine aY (x:=Stmt.post a.1 b.1 d.1 (Cg d.2.2).1) (m:=a.2.1++(b.2.1++d.2.1)) ?_ ?_ ↑2
  ·show kind 113++(yb p++(yb q++(yb o++cq ps)))=kind 113++(a.1.bytes++(b.1.bytes++(d.1.bytes++maybe long (Cg d.2.2).1)));rw[hb1,hb2,hb3,hb4]
  ·show yk p++(yk q++(yk o++cI ps))=_;rw[hk1,hk2,hk3,hk4,List.append_nil,List.map_append,List.map_append]
 refine mF c16 ?_;by_cases c17:lk e s=200
 ·refine mX md c17 ↑0 (mD zx Jh d0 ↑0 (bJ (cN (k:=1) ↑0 λn hn=>cO rfl ?_)));exact qu (fv:=fu) fu s.here (.name n.1) (marked 37 s.here n.2 []) _ n.2 s f l G ↑2 ↑2 ↑2 (by show kind 37++(short n.1++[])=_;rw[List.append_nil];rfl) (qE rfl (by show len n.2<len s;omega) rfl) (λ_=>rfl) rfl
 ·rw[qy (e:=e) (k:=1) ↑0 c17];exact E7 (nt ↑0) ((zR _).trans (bD (aI (λh=>c1 (z7.mpr h.symm)) (aI (λh=>c17 h.symm) (aI (λh=>c2 (eW.mpr h.symm)) (aI (λh=>c3 (yO.mpr h.symm)) (aI (λh=>c4 (xV.mpr h.symm)) (aI (λh=>c5 (Iy.mpr h.symm)) (aI (λh=>c6 (xy.mpr h.symm)) (aI (λh=>c7 (qB.mpr h.symm)) (aI (λh=>c8 (vM.mpr h.symm)) (aI (λh=>c9 (yh.mpr h.symm)) (aI (λh=>c10 (AU.mpr h.symm)) (aI (λh=>c11 (Cm.mpr h.symm)) (aI (λh=>c12 (GA.mpr h.symm)) (aI (λh=>c13 (xD.mpr h.symm)) (aI (λh=>c14 (II.mpr h.symm)) (aI (λh=>c15 (w_.mpr h.symm)) (aI (λh=>c16 (A1.mpr h.symm)) all_nil))))))))))))))))))) rfl
theorem FN(e:Bool)(z:Fault):∀fu,Pd e z fu
 |0=>⟨λs _ _ _ h=>↑2,λs _ _ _ h=>↑2,λs _ _ _ h=>↑2,λs cc ps f l G c h=>by
   obtain⟨p,ts⟩:=s;cases ts with
   |nil=>cases c
   |cons t r=>
    have:1<=len ⟨p,t::r⟩:=Nat.succ_pos _;omega,λs _ _ _ _ _ h=>↑2⟩
 |fu+1=>let i:=FN e z fu;⟨tt i,tb i,tl i,tr i,tc i⟩
def T6(s:St)(ps:List Pt)(f:Fm)(l:List Pt)(G:List Fr)(a:List (Bytes×Srt)×List Mark×St)(s':St)(G':List Fr):Prop:=s'=a.2.2/\len a.2.2<len s/\∃qs cb ch,G'=⟨f,l++[.bq (.count cb) ch (ps++qs)]⟩::G/\qs.length=a.1.length/\cq qs=(a.1.flatMap λ(x:Bytes×Srt)=>short x.1++x.2.bytes)/\cI qs=a.2.1.map yt
theorem Cy{c:String}(hc:∀s:St,s.sign c=true↔lk e s=n)(hn:n<1000):∀(fu:Nat)(s cc:St)(ps:List Pt)(f:Fm)(l:List Pt)(G:List Fr),2*len s+2<=fu->Sm e z [.w J',.w ue,.fin,.w n] s (⟨.count cc,ps⟩::⟨f,l⟩::G) (partsIn z c fu s) (T6 s ps f l G)
 |0,s,_,_,_,_,_,h=>by omega
 |fu+1,s,cc,ps,f,l,G,hf=>by
  unfold partsIn;refine mD EW Kx d0 ↑0 (bJ (cN (k:=1) ↑0 λm hm=>cS Fe ↑0 (.inr rfl) λs1 h1=>cP (JJ ↑2) λa p h2 hb hk zp=>cO rfl ?_));have e1:yb (.bq (Fk.row.at s) a.2.2 ([]++[.leaf (BN 1 m.1)]++[p]))=short m.1++a.1.bytes:=by
   show[]++(short m.1++(yb p++[]))=_;rw[List.append_nil,hb];rfl
  have e2:yk (.bq (Fk.row.at s) a.2.2 ([]++[.leaf (BN 1 m.1)]++[p]))=a.2.1.map yt:=by
   show[]++(yk p++[])=_;rw[List.append_nil,hk];rfl
  generalize (Pt.bq (Fk.row.at s) a.2.2 ([]++[.leaf (BN 1 m.1)]++[p]))=q at e1 e2;by_cases c1:a.2.2.sign ","=true
  ·refine mT c1 (mX mZ (eB.mp c1) ↑0 (bj c1 eB (.inr rfl) λhl=>mB (q:=[]) (Cy hc hn fu a.2.2.skip cc (ps++[q]) f l G ↑2) λb s2 G2 ⟨f1,f2,qs,cb,ch,f3,f4,f5,f6⟩=>?_));subst f1 f3;refine mN ⟨rfl,by show len b.2.2<len s;omega,q::qs,_,_,by rw[List.append_assoc];rfl,by show qs.length+1=b.1.length+1;rw[f4],?_,?_⟩
   ·show yb q++cq qs=(short m.1++a.1.bytes)++_;rw[e1,f5];rfl
   ·show yk q++cI qs=_;rw[e2,f6,List.map_append]
  ·refine mF c1 (mD p7 uv (d1 λh=>c1 (eB.mpr h.symm)) ↑0 (cO rfl (cS (k:=5) (hc _) hn (.inr rfl) λs2 h3=>mN ⟨rfl,by show len s2<len s;omega,[q],_,_,rfl,rfl,?_,?_⟩)))
   ·show yb q++[]=(short m.1++a.1.bytes)++[];rw[e1]
   ·show yk q++[]=_;rw[e2,List.append_nil]
theorem zC{c:String}(hc:∀s:St,s.sign c=true↔lk e s=n)(hn:n<1000)(hn2:n≠200)(hf:2*len s+2<=fu):Sm e z [.bg .count,.w sC,.fin,.w n] s (⟨f,l⟩::G) (if s.sign c=true then(.ok ([],[],s.skip):Except Fault ((List (Bytes×Srt))×List Mark×St)) else partsIn z c fu s) (T6 s [] f l G):=by
 refine bJ ?_;by_cases c1:s.sign c=true
 ·have hn3:lk e s≠200:=by rw[(hc s).mp c1];exact hn2
  exact mT c1 (mD qF zW (d1 λh=>hn3 h.symm) ↑0 (cO rfl (bj (k:=5) c1 (hc s) (.inr rfl) λhl=>mN ⟨rfl,by show len s.skip<len s;omega,[],_,_,rfl,rfl,rfl,rfl⟩)))
 ·refine mF c1 ?_;by_cases c2:lk e s=200
  ·exact mX ui c2 ↑0 (Cy hc hn fu s _ [] f l G hf)
  ·obtain⟨fu,rfl⟩:∃k,fu=k+1:=⟨fu - 1,↑2⟩
   unfold partsIn;rw[qy (e:=e) (k:=1) ↑0 c2];refine mD qF zW (d1 λh=>c2 h.symm) ↑0 (cO rfl ?_);exact RY hn (λh=>c1 ((hc s).mpr h))
theorem DW:∀(fu:Nat)(s cc:St)(ps:List Pt)(f:Fm)(l:List Pt)(G:List Fr),len s+1<=fu->Sm e z [.w 200,.w lU,.fin,.w 110] s (⟨.count cc,ps⟩::⟨f,l⟩::G) (namesIn z "]" fu s) λa s' G'=>s'=a.2/\len a.2<len s/\∃qs cb ch,G'=⟨f,l++[.bq (.count cb) ch (ps++qs)]⟩::G/\qs.length=a.1.length/\cq qs=a.1.flatMap short/\cI qs=[]
 |0,s,_,_,_,_,_,h=>by omega
 |fu+1,s,cc,ps,f,l,G,hf=>by
  unfold namesIn;refine cN (k:=1) ↑0 λm hm=>?_;by_cases c1:m.2.sign ","=true
  ·refine mT c1 (mX pf (eB.mp c1) ↑0 (bj c1 eB (.inr rfl) λhl=>mB (q:=[]) (DW fu m.2.skip _ _ f l G ↑2) λb s2 G2 ⟨f1,f2,qs,cb,ch,f3,f4,f5,f6⟩=>?_));subst f1 f3;refine mN ⟨rfl,by show len b.2<len s;omega,.leaf (short m.1)::qs,_,_,by rw[List.append_assoc];rfl,by show qs.length+1=b.1.length+1;rw[f4],?_,?_⟩
   ·show short m.1++cq qs=short m.1++_;rw[f5];rfl
   ·show[]++cI qs=_;rw[f6];rfl
  ·exact mF c1 (mD tq xM (d1 λh=>c1 (eB.mpr h.symm)) ↑0 (cO rfl (cS v_ ↑0 (.inr rfl) λs2 h3=>mN ⟨rfl,by show len s2<len s;omega,[.leaf (short m.1)],_,_,rfl,rfl,rfl,rfl⟩)))
theorem Ic{g:List Bytes×St->Except Fault α}{Q:α->St->List Fr->Prop}(hf:len s<=fu)(h:∀(a:List Bytes×St)(p:Pt),len a.2<=len s->yb p=count a.1.length++a.1.flatMap short->yk p=[]->Sm e z q a.2 (⟨f,l++[p]⟩::G) (g a) Q):
  Sm e z (.w ye::q) s (⟨f,l⟩::G) ((if s.sign "["=true then namesIn z "]" fu s.skip else .ok ([],s))>>=g) Q:=by
 by_cases c:s.sign "["=true
 ·rw[if_pos c];refine mX qb (nV.mp c) ↑0 (bj c nV (.inr rfl) λhl=>bJ (mB (r:=[.w 200,.w lU,.fin,.w 110]) (DW fu s.skip _ [] f l G ↑2) λa s2 G2 ⟨f1,f2,qs,cb,ch,f3,f4,f5,f6⟩=>?_));subst f1 f3;exact h a _ ↑2 (by show count ([]++qs).length++cq ([]++qs)=_;rw[List.nil_append,f4,f5]) (by show cI ([]++qs)=[];rw[List.nil_append,f6])
 ·rw[if_neg c];exact mD rm wK (d1 λh=>c (nV.mpr h.symm)) ↑0 (bJ (cO rfl (h ([],s) _ (Nat.le_refl _) rfl rfl)))
theorem RD(h:2*len s<=fu):Sm e z [.w GQ] s (⟨f,l⟩::G) (if s.sign "->"=true then(sortIn z fu s.skip).map λ(z:Srt×List Mark×St)=>(some z.1,z.2) else .ok (none,[],s):Except Fault ((Option Srt)×List Mark×St)) (PA (maybe Srt.bytes) s f l G):=by
 by_cases c:s.sign "->"=true
 ·refine mT c (mX o9 (Ed.mp c) ↑0 (bj c Ed (.inr rfl) λhl=>d8 (mM (JJ ↑2) λa s' G' ⟨h1,h2,p,h3,h4,h5,_⟩=>?_)));refine⟨h1,by show len a.2.2<=len s;omega,[.leaf [1],p],by rw[h3,List.append_assoc];rfl,?_,?_⟩
  ·show[1]++(yb p++[])=1::a.1.bytes;rw[h4,List.append_nil];rfl
  ·show[]++(yk p++[])=_;rw[h5,List.append_nil];rfl
 ·exact mF c (mD rl y4 (d1 λh=>c (Ed.mpr h.symm)) ↑0 (d8 (mN ⟨rfl,Nat.le_refl _,[.leaf [0]],rfl,rfl,rfl⟩)))
theorem Oi(hf:24*len s+14<=fu):Sm e z [.w jk] s (⟨f,l⟩::G) (declIn z fu s) (PP Decl.bytes s f l G):=by
 unfold declIn;by_cases c1:s.key "let"=true
 ·exact mT c1 (mX kM (z7.mp c1) ↑0 (Mc c1 (B:=Decl.bytes) (mk:=λn t x=>Decl.let_ n t x) (λn t x=>rfl) ↑2))
 refine mF c1 ?_;by_cases c2:s.key "record"=true
 ·refine mT c2 (mX iP (r9.mp c2) ↑0 (bJ (bj c2 r9 (.inl rfl) λhl=>cN (k:=1) ↑0 λn hn=>cS Gh ↑0 (.inr rfl) λs1 h1=>mB (r:=[.bg .count,.w sC,.fin,.w 112]) (zC (λs=>E_) ↑0 ↑0 ↑2) λa s2 G2 ⟨f1,f2,qs,cb,ch,f3,f4,f5,f6⟩=>?_)));subst f1 f3;refine aY ?_ ?_ ↑2
  ·show kind 129++(short n.1++((count ([]++qs).length++cq ([]++qs))++[]))=kind 129++(short n.1++(count a.1.length++_));rw[List.nil_append,f4,f5,List.append_nil]
  ·show[]++(([]++cI ([]++qs))++[])=_;rw[List.nil_append,List.nil_append,List.nil_append,f6,List.append_nil]
 refine mF c2 ?_;by_cases c3:s.key "account"=true
 ·refine mT c3 (mX hJ (fg.mp c3) ↑0 (bJ (bj c3 fg (.inl rfl) λhl=>cN (k:=1) ↑0 λn hn=>cN (k:=2) ↑0 λd hd=>aY ?_ rfl ↑2)));show kind 130++(short n.1++(short d.1++[]))=_;rw[List.append_nil];rfl
 refine mF c3 ?_;by_cases c4:s.key "fn"=true
 ·refine mT c4 (mX mE (D8.mp c4) ↑0 (bJ (bj c4 D8 (.inl rfl) λhl=>cN (k:=1) ↑0 λn hn=>Ic ↑2 λns p h1 hb1 hk1=>cS kP ↑0 (.inr rfl) λs1 h2=>mB (r:=[.bg .count,.w sC,.fin,.w 108]) (zC (λs=>hU) ↑0 ↑0 ↑2) λa s2 G2 ⟨f1,f2,qs,cb,ch,f3,f4,f5,f6⟩=>?_)));subst f1 f3;refine cA (RD ↑2) λt ps h3 hb3 hk3=>cP ((FN e z fu).b _ _ _ _ ↑2) λb q h4 hb4 hk4 zq=>aY ?_ ?_ ↑2
  ·show kind 131++cq ([]++[.leaf (short n.1)]++[p]++[.bq (.count cb) ch ([]++qs)]++ps++[q])=kind 131++(short n.1++(count ns.1.length++(ns.1.flatMap short++((count a.1.length++_)++(maybe Srt.bytes t.1++(count b.1.length++b.1.bytes))))));rw[iL,sr,iL,iL,hb1,hb3,hb4];show kind 131++(((((short n.1++[])++_)++(count ([]++qs).length++cq ([]++qs)))++_)++_)=_;rw[List.nil_append,f4,f5,List.append_nil];unfold bb;simp only[List.append_assoc]
  ·show cI ([]++[.leaf (short n.1)]++[p]++[.bq (.count cb) ch ([]++qs)]++ps++[q])=_;rw[iM,uP,iM,iM,hk1,hk3,hk4,List.map_append,List.map_append];show((([]++[])++([]++cI ([]++qs)))++_)++_=_;rw[List.nil_append,List.nil_append,List.nil_append,List.nil_append,f6,List.append_assoc]
 refine mF c4 ?_;exact E7 (nt ↑0) ((um _).trans (bD (aI (λh=>c1 (z7.mpr h.symm)) (aI (λh=>c2 (r9.mpr h.symm)) (aI (λh=>c3 (fg.mpr h.symm)) (aI (λh=>c4 (D8.mpr h.symm)) all_nil)))))) rfl
theorem OD:lk e s=204->s.toks=[]/\e=false:=by
 intro c;obtain⟨p,ts⟩:=s;cases ts with
 |nil=>
  cases e
  ·exact⟨rfl,rfl⟩
  ·cases c
 |cons t r=>
  have c:lV t=204:=c;have hl:KEYWORDS.length=80:=↑1
  have hs:SIGNS.length=25:=↑1
  unfold lV at c;split at c
  ·split at c
   ·rename_i j hj;have:=(List.findIdx?_eq_some_iff_getElem.mp hj).1;omega
   ·cases c
  split at c
  ·split at c
   ·rename_i j hj;have:=(List.findIdx?_eq_some_iff_getElem.mp hj).1;omega
   ·cases c
  split at c
  ·cases c
  split at c
  ·cases c
  split at c
  ·cases c
  split at c <;> cases c
theorem DA:∀(g:Nat)(s cc:St)(ps:List Pt)(G:List Fr){α:Type}{q:List Sym}{k:List Decl×List Mark×St->Except Fault α}{Q:α->St->List Fr->Prop},24*len s+14<=fu->len s<g->(e=true->∀r,k r= .error z)->
  (e=false->∀(a:List Decl×List Mark×St)(qs:List Pt),len a.2.2<=len s->qs.length=a.1.length->cq qs=a.1.flatMap Decl.bytes->cI qs=a.2.1.map yt->Sm e z q a.2.2 (⟨.count cc,ps++qs⟩::G) (k a) Q)->Sm e z (.w iS::q) s (⟨.count cc,ps⟩::G) (declsIn z fu g s>>=k) Q
 |0,s,_,_,_,_,_,_,_,_,h,_,_=>by omega
 |g+1,s,cc,ps,G,_,q,k,Q,hf,hg,hk,h=>by
  by_cases c:s.toks=[]
  ·have e0:declsIn z fu (g+1) s= .ok ([],[],s):=by
    obtain⟨p,ts⟩:=s;have c:ts=[]:=c;subst c;rfl
   rw[e0];show Sm e z _ _ _ (k ([],[],s)) Q;cases e with
   |false=>
    have hl:lk false s=204:=by unfold lk;rw[c];rfl
    have:=h rfl ([],[],s) [] (Nat.le_refl _) rfl rfl rfl;rw[List.append_nil] at this;exact mX jY hl ↑0 this
   |true=>
    have hl:lk true s=205:=by unfold lk;rw[c];rfl
    rw[hk rfl];have hb:bad z s=z:=by unfold bad;rw[c]
    refine mD f_ iQ (d1 (by rw[hl];decide)) ↑0 ?_;have:=E7 (e:=true) (z:=z) (s:=s) (G:=⟨.count cc,ps⟩::G) (n:=jk) (q:=[.w iS]++q) (Q:=Q) (nt ↑0) (by rw[hl];rfl) rfl;rw[hb] at this;exact this
  ·have e0:declsIn z fu (g+1) s=declIn z fu s>>=λr=>declsIn z fu g r.2.2>>=λr2=>.ok (r.1::r2.1,r.2.1++r2.2.1,r2.2.2):=by
    obtain⟨p,ts⟩:=s;cases ts with
    |nil=>exact absurd rfl c
    |cons t r=>rfl
   rw[e0,ba];refine mD f_ iQ (d1 λh=>c (OD h.symm).1) ↑0 (cP (Oi hf) λa p h1 hb hk1 zp=>?_);rw[ba];refine DA g a.2.2 cc (ps++[p]) G ↑2 ↑2 (λhe r=>hk he _) λhe b qs h9 h2 h3 h4=>?_;have:=h he (a.1::b.1,a.2.1++b.2.1,b.2.2) (p::qs) (by show len b.2.2<=len s;omega) (by show qs.length+1=b.1.length+1;rw[h2]) (by show yb p++cq qs=a.1.bytes++b.1.flatMap Decl.bytes;rw[hb,h3]) (by show yk p++cI qs=_;rw[hk1,h4,List.map_append]);rw[List.append_assoc];exact this
theorem HE:∀(fu:Nat)(s cc:St)(ps:List Pt)(G:List Fr),len s<fu->Sm e z [.w M7] s (⟨.count cc,ps⟩::G) (usesIn z fu s) λa s' G'=>s'=a.2/\len a.2<=len s/\∃qs,G'=⟨.count cc,ps++qs⟩::G/\qs.length=a.1.length/\cq qs=a.1.flatMap short/\cI qs=[]
 |0,s,_,_,_,h=>by omega
 |fu+1,s,cc,ps,G,hf=>by
  unfold usesIn;by_cases c:s.key "use"=true
  ·refine mT c (mX A9 (Jo.mp c) ↑0 (bj c Jo (.inl rfl) λhl=>cN (k:=1) ↑0 λn hn=>mB (q:=[]) (HE fu n.2 _ _ G ↑2) λb s2 G2 ⟨f1,f2,qs,f3,f4,f5,f6⟩=>?_));subst f1 f3;refine mN ⟨rfl,by show len b.2<=len s;omega,.leaf (short n.1)::qs,by rw[List.append_assoc];rfl,by show qs.length+1=b.1.length+1;rw[f4],?_,?_⟩
   ·show short n.1++cq qs=short n.1++_;rw[f5];rfl
   ·show[]++cI qs=_;rw[f6];rfl
  ·exact mF c (mD HW MM (d1 λh=>c (Jo.mpr h.symm)) ↑0 (mN ⟨rfl,Nat.le_refl _,[],by rw[List.append_nil],rfl,rfl,rfl⟩))
theorem Nh(b:Bytes):Sm (tokens b).2.isSome ((tokens b).2.getD (3,b.length)) [.w dA] ⟨0,(tokens b).1⟩ [⟨.row ⟨0,(tokens b).1⟩,[]⟩] (EwTree.read b) λa _ G'=>∃p,G'=[⟨.row ⟨0,(tokens b).1⟩,[p]⟩]/\yb p=a.1.bytes/\yk p=a.2.map yt:=by
 unfold EwTree.read;generalize hx:tokens b=x;dsimp only;have hl:len ⟨0,x.1⟩=x.1.length:=rfl;refine mD zV Fb d0 ↑0 (bJ (cS IU ↑0 (.inl rfl) λs1 h1=>cN (k:=1) ↑0 λn h2=>bJ (mC (HE _ _ _ [] _ ↑2) λu s2 G2 ⟨f1,f2,qs,f3,f4,f5,f6⟩=>?_)));subst f1 f3;refine cO rfl (bJ (DA _ u.2 _ [] _ ↑2 ↑2 (λhe r=>?_) λhe a rs h9 h3 h4 h5=>cO rfl ?_))
 ·cases hx2:x.2 with
  |none=>rw[hx2] at he;cases he
  |some er=>rfl
 ·cases hx2:x.2 with
  |some er=>rw[hx2] at he;cases he
  |none=>
   refine cO rfl (mN ⟨_,rfl,?_,qE ?_ (by show len a.2.2<len ⟨0,x.1⟩;omega) rfl⟩)
   ·show kind 144++(short n.1++((count ([]++qs).length++cq ([]++qs))++((count ([]++rs).length++cq ([]++rs))++[])))=kind 144++(short n.1++(count u.1.length++(u.1.flatMap short++(count a.1.length++a.1.flatMap Decl.bytes))));rw[List.nil_append,List.nil_append,f4,f5,h3,h4,List.append_nil,List.append_assoc]
   ·show[]++(cI ([]++qs)++(cI ([]++rs)++[]))=_;simp only[List.nil_append,List.append_nil,f6,h5]
end
section
open PySem (Str)
local macro_rules
 |`(tactic|omega)=>`(tactic|first|lia|omega (splitMinMax:=true))
noncomputable def Mr:List Str:=[⟨#[60,112,114,111,103,114,97,109,62]⟩,⟨#[60,117,115,101,115,62]⟩,⟨#[60,100,101,99,108,97,114,97,116,105,111,110,115,62]⟩,⟨#[60,100,101,99,108,97,114,97,116,105,111,110,62]⟩,⟨#[60,108,101,116,62]⟩,⟨#[60,116,111,108,100,32,115,111,114,116,62]⟩,⟨#[60,115,111,114,116,32,110,97,109,101,115,62]⟩,⟨#[60,109,111,114,101,32,110,97,109,101,115,62]⟩,⟨#[60,102,105,101,108,100,115,62]⟩,⟨#[60,109,111,114,101,32,102,105,101,108,100,115,62]⟩,⟨#[60,102,105,101,108,100,62]⟩,⟨#[60,114,101,115,117,108,116,62]⟩,⟨#[60,115,111,114,116,62]⟩,⟨#[60,111,102,32,115,111,114,116,62]⟩,⟨#[60,115,111,114,116,115,62]⟩,⟨#[60,109,111,114,101,32,115,111,114,116,115,62]⟩,⟨#[60,111,102,32,97,32,109,111,100,117,108,101,62]⟩,⟨#[60,98,108,111,99,107,62]⟩,⟨#[60,115,116,97,116,101,109,101,110,116,115,62]⟩,⟨#[60,115,116,97,116,101,109,101,110,116,62]⟩]
noncomputable def Le:List Str:=[⟨#[60,99,104,97,105,110,62]⟩,⟨#[60,99,97,108,108,101,100,32,99,104,97,105,110,62]⟩,⟨#[60,109,111,114,101,32,98,114,97,110,99,104,101,115,62]⟩,⟨#[60,98,101,104,105,110,100,32,101,108,115,101,62]⟩,⟨#[60,98,114,97,110,99,104,62]⟩,⟨#[60,116,111,62]⟩,⟨#[60,99,97,115,101,115,62]⟩,⟨#[60,101,108,115,101,62]⟩,⟨#[60,98,101,104,105,110,100,32,116,114,121,62]⟩,⟨#[60,102,105,110,97,108,108,121,62]⟩,⟨#[60,105,110,116,111,62]⟩,⟨#[60,112,111,115,116,101,100,32,116,101,120,116,62]⟩,⟨#[60,109,111,114,101,32,109,111,100,101,115,62]⟩,⟨#[60,109,111,100,101,62]⟩,⟨#[60,100,105,114,101,99,116,105,111,110,62]⟩,⟨#[60,116,114,97,112,112,101,100,62]⟩,⟨#[60,102,108,117,115,104,101,100,62]⟩,⟨#[60,102,108,97,103,62]⟩,⟨#[60,101,120,112,114,101,115,115,105,111,110,115,62]⟩,⟨#[60,109,111,114,101,32,101,120,112,114,101,115,115,105,111,110,115,62]⟩]
noncomputable def Ll:List Str:=[⟨#[60,101,120,112,114,101,115,115,105,111,110,62]⟩,⟨#[60,109,111,114,101,32,111,114,62]⟩,⟨#[60,98,111,116,104,62]⟩,⟨#[60,109,111,114,101,32,97,110,100,62]⟩,⟨#[60,110,101,103,97,116,101,100,62]⟩,⟨#[60,99,111,109,112,97,114,101,100,62]⟩,⟨#[60,99,97,115,116,62]⟩,⟨#[60,109,111,114,101,32,97,115,62]⟩,⟨#[60,100,105,103,105,116,115,62]⟩,⟨#[60,114,111,117,110,100,105,110,103,62]⟩,⟨#[60,115,117,109,62]⟩,⟨#[60,109,111,114,101,32,115,117,109,62]⟩,⟨#[60,112,114,111,100,117,99,116,62]⟩,⟨#[60,109,111,114,101,32,112,114,111,100,117,99,116,62]⟩,⟨#[60,115,105,103,110,101,100,62]⟩,⟨#[60,103,105,118,105,110,103,62]⟩,⟨#[60,112,111,119,101,114,62]⟩,⟨#[60,112,111,115,116,62]⟩,⟨#[60,109,111,114,101,32,112,111,115,116,62]⟩,⟨#[60,99,97,108,108,62]⟩]
noncomputable def JU:List Str:=[⟨#[60,105,110,100,101,120,62]⟩,⟨#[60,109,101,109,98,101,114,62]⟩,⟨#[60,110,97,109,101,62]⟩,⟨#[60,102,105,114,115,116,62]⟩,⟨#[60,102,108,97,103,115,62]⟩,⟨#[60,109,111,114,101,32,102,108,97,103,115,62]⟩,⟨#[60,108,105,115,116,101,100,62]⟩,⟨#[60,109,111,114,101,32,108,105,115,116,101,100,62]⟩,⟨#[60,109,97,100,101,62]⟩,⟨#[60,115,101,116,116,105,110,103,115,62]⟩,⟨#[60,109,111,114,101,32,115,101,116,116,105,110,103,115,62]⟩,⟨#[60,115,101,116,116,105,110,103,62]⟩]
noncomputable def Rq:List Str:=Mr++Le++Ll++JU
def sgn(b:Bytes):Str:=if b=[37] then⟨#[112,101,114,99,101,110,116]⟩ else TW.vd b
noncomputable def UD:List Str:=[⟨#[78,65,77,69]⟩,⟨#[67,79,68,69]⟩,⟨#[78,85,77,66,69,82]⟩,⟨#[84,69,88,84]⟩,⟨#[69,78,68]⟩,⟨#[70,65,85,76,84]⟩]
def nm(n:Nat):Str:=if n<100 then(KEYWORDS.map TW.vd).getD n ⟨#[]⟩ else if n<200 then(SIGNS.map sgn).getD (n - 100) ⟨#[]⟩ else if n<1000 then UD.getD (n - 200) ⟨#[]⟩ else Rq.getD (n - 1000) ⟨#[]⟩
def enc(s:Str):Nat:=s.cps.toList.foldl (λa c=>a*256+c) 1
noncomputable def VC:List Nat:=List.range 80++(List.range 25).map (λi=>100+i)++(List.range 6).map (λi=>200+i)++[299]++(List.range 72).map (λi=>1000+i)
def v9:List Nat->Bool
 |[]=>true
 |a::l=>l.all (λb=>!(Nat.beq a b))&&v9 l
theorem mV:∀{l:List Nat},v9 l=true->l.Nodup
 |[],_=>List.nodup_nil
 |a::l,h=>by
  have h:=(Bool.and_eq_true _ _).mp h;refine List.nodup_cons.mpr ⟨λm=>?_,mV h.2⟩;have:=List.all_eq_true.mp h.1 a m;rw[Nat.beq_refl] at this;cases this
theorem Ij:v9 (VC.map λn=>enc (nm n))=true:=↑1
theorem lN{f:α->Nat}:∀{l:List α},(l.map f).Nodup->∀a∈l,∀b∈l,f a=f b->a=b
 |[],_,_,h,_,_,_=>by cases h
 |x::l,hn,a,ha,b,hb,e=>by
  rw[List.map_cons,List.nodup_cons] at hn;rcases List.mem_cons.mp ha with h1|ha
  ·rcases List.mem_cons.mp hb with h2|hb
   ·rw[h1,h2]
   ·rw[h1] at e;exact absurd (List.mem_map.mpr ⟨b,hb,e.symm⟩) hn.1
  ·rcases List.mem_cons.mp hb with h2|hb
   ·rw[h2] at e;exact absurd (List.mem_map.mpr ⟨a,ha,e⟩) hn.1
   ·exact lN hn.2 a ha b hb e
theorem xg{a b:Nat}(ha:a∈VC)(hb:b∈VC)(h:nm a=nm b):a=b:=lN (mV Ij) a ha b hb (congrArg enc h)
def flat(i:Nat):List (List (Nat×List Sym))->List ((Nat×Nat)×List Sym)
 |[]=>[]
 |g::G=>g.map (λy=>((i,y.1),y.2))++flat (i+1) G
noncomputable def FT:List ((Nat×Nat)×List Sym):=flat 1000 cK
def cZ:List ((Nat×Nat)×List Sym)->Nat->Nat->Option (List Sym)
 |[],_,_=>none
 |p::r,x,l=>if p.1.1=x/\p.1.2=l then some p.2 else cZ r x l
theorem va:∀(a b:List ((Nat×Nat)×List Sym))(x l:Nat),cZ (a++b) x l=(cZ a x l).or (cZ b x l)
 |[],b,x,l=>rfl
 |p::a,b,x,l=>by
  show(if p.1.1=x/\p.1.2=l then some p.2 else cZ (a++b) x l)=(if p.1.1=x/\p.1.2=l then some p.2 else cZ a x l).or (cZ b x l);split
  ·rfl
  ·exact va a b x l
theorem uV:∀(g:List (Nat×List Sym))(i x l:Nat),cZ (g.map λy=>((i,y.1),y.2)) x l=if i=x then aH g l else none
 |[],i,x,l=>by split <;> rfl
 |y::g,i,x,l=>by
  show(if i=x/\y.1=l then some y.2 else cZ (g.map λy=>((i,y.1),y.2)) x l)=if i=x then(if Nat.beq y.1 l=true then some y.2 else aH g l) else none;rw[uV g i x l];by_cases h:i=x
  ·rw[if_pos h,if_pos h];by_cases h2:y.1=l
   ·rw[if_pos ⟨h,h2⟩,if_pos (by rw[h2];exact Nat.beq_refl l)]
   ·rw[if_neg λc=>h2 c.2,if_neg λc=>h2 (Nat.eq_of_beq_eq_true c)]
  ·rw[if_neg λc=>h c.1,if_neg h,if_neg h]
theorem qD:∀(G:List (List (Nat×List Sym)))(i x l:Nat),cZ (flat i G) x l=if i<=x then(P0 G (x - i)).bind (λg=>aH g l) else none
 |[],i,x,l=>by show none=_;split <;> rfl
 |g::G,i,x,l=>by
  show cZ (g.map (λy=>((i,y.1),y.2))++flat (i+1) G) x l=_;rw[va,uV,qD G (i+1) x l];by_cases h:i=x
  ·subst h;rw[if_pos rfl,if_neg ↑2,if_pos (Nat.le_refl _),Nat.sub_self];show(aH g l).or none=aH g l;cases aH g l <;> rfl
  ·rw[if_neg h];by_cases h2:i<=x
   ·rw[if_pos h2,if_pos ↑2,show x - i=(x - (i+1))+1 by omega];rfl
   ·rw[if_neg h2,if_neg ↑2];rfl
theorem Au(x l:Nat):cZ FT x l=row x l:=by
 unfold FT row;rw[qD];by_cases h:1000<=x
 ·rw[if_pos h,if_pos (Nat.ble_eq_true_of_le h)];cases P0 cK (x - 1000) <;> rfl
 ·rw[if_neg h,if_neg λc=>h (Nat.le_of_ble_eq_true c)]
def k8(n:Nat):Bool:=Nat.blt n 80||(Nat.ble 100 n&&Nat.blt n 125)||(Nat.ble 200 n&&Nat.blt n 206)||Nat.beq n 299||(Nat.ble 1000 n&&Nat.blt n (1000+72))
theorem cx(h:k8 n=true):n∈VC:=by
 unfold k8 at h;simp only[Bool.or_eq_true,Bool.and_eq_true] at h;unfold VC;simp only[List.mem_append,List.mem_map,List.mem_range,List.mem_singleton];rcases h with(((h|h)|h)|h)|h
 ·exact .inl (.inl (.inl (.inl (by have:=Nat.le_of_ble_eq_true h;omega))))
 ·have h1:=Nat.le_of_ble_eq_true h.1;have h2:n+1<=125:=Nat.le_of_ble_eq_true h.2;exact .inl (.inl (.inl (.inr ⟨n - 100,↑2,↑2⟩)))
 ·have h1:=Nat.le_of_ble_eq_true h.1;have h2:n+1<=206:=Nat.le_of_ble_eq_true h.2;exact .inl (.inl (.inr ⟨n - 200,↑2,↑2⟩))
 ·exact .inl (.inr (Nat.eq_of_beq_eq_true h))
 ·have h1:=Nat.le_of_ble_eq_true h.1;have h2:n+1<=1000+72:=Nat.le_of_ble_eq_true h.2;exact .inr ⟨n - 1000,↑2,↑2⟩
def RH:Sym->Bool
 | .w x=>k8 x
 |_=>true
theorem RU:(FT.all λp=>k8 p.1.1&&k8 p.1.2&&p.2.all RH)=true:=↑1
theorem KI:v9 (FT.map λp=>p.1.1*4096+p.1.2)=true:=↑1
theorem Gm{t:Tok}(g:TW.Good t):lV t∈VC/\nm (lV t)=TW.bL t:=by
 rcases g with⟨h0,hm⟩|⟨h1,h4⟩|⟨h5,hm⟩
 ·obtain⟨i,hi⟩:∃i,(KEYWORDS.findIdx? λx=>x==t.bytes)=some i:=by
   cases h:KEYWORDS.findIdx? λx=>x==t.bytes with
   |some i=>exact⟨i,rfl⟩
   |none=>
    have:=List.findIdx?_eq_none_iff.mp h t.bytes hm;simp at this
  obtain⟨hl,hb,_⟩:=List.findIdx?_eq_some_iff_getElem.mp hi;have hb:KEYWORDS[i]=t.bytes:=by simpa using hb
  have h80:KEYWORDS.length=80:=↑1
  have e:lV t=i:=by unfold lV;rw[if_pos h0,hi]
  rw[e];refine⟨cx (by unfold k8;simp;omega),?_⟩;unfold nm TW.bL;rw[if_pos ↑2,if_pos h0,List.getD_eq_getElem?_getD,List.getElem?_map,List.getElem?_eq_getElem hl,hb];rfl
 ·have e:lV t=199+t.kind:=by
   unfold lV;rw[if_neg ↑2,if_neg ↑2];split
   ·omega
   split
   ·omega
   split
   ·omega
   split <;> omega
  rw[e];unfold TW.bL;have:t.kind=1\/t.kind=2\/t.kind=3\/t.kind=4:=↑2
  rcases this with h|h|h|h
  ·rw[h];exact⟨cx ↑0,(by decide+kernel:nm 200=Str.ofString "NAME")⟩
  ·rw[h];exact⟨cx ↑0,(by decide+kernel:nm 201=Str.ofString "CODE")⟩
  ·rw[h];exact⟨cx ↑0,(by decide+kernel:nm 202=Str.ofString "NUMBER")⟩
  ·rw[h];exact⟨cx ↑0,(by decide+kernel:nm 203=Str.ofString "TEXT")⟩
 ·obtain⟨i,hi⟩:∃i,(SIGNS.findIdx? λx=>x==t.bytes)=some i:=by
   cases h:SIGNS.findIdx? λx=>x==t.bytes with
   |some i=>exact⟨i,rfl⟩
   |none=>
    have:=List.findIdx?_eq_none_iff.mp h t.bytes hm;simp at this
  obtain⟨hl,hb,_⟩:=List.findIdx?_eq_some_iff_getElem.mp hi;have hb:SIGNS[i]=t.bytes:=by simpa using hb
  have h25:SIGNS.length=25:=↑1
  have e:lV t=100+i:=by unfold lV;rw[if_neg ↑2,if_pos h5,hi]
  rw[e];refine⟨cx (by unfold k8;simp;omega),?_⟩;unfold nm TW.bL;rw[if_neg ↑2,if_pos ↑2,if_neg ↑2,if_neg ↑2,if_neg ↑2,if_neg ↑2,if_neg ↑2,List.getD_eq_getElem?_getD,List.getElem?_map,show 100+i - 100=i by omega,List.getElem?_eq_getElem hl,hb];show sgn t.bytes=_;unfold sgn;split
  ·decide+kernel
  ·rfl
end
end MA
namespace MA
open EwTree RT TW
inductive CA:Bytes->Bytes->Prop
 |nil:CA [] []
 |S4{c:UInt8} {y x:Bytes}:CA y x->CA (92::c::y) ((if c=110 then 10 else c)::x)
 |one{c:UInt8} {y x:Bytes}:c≠92->CA y x->CA (c::y) (c::x)
theorem iV:∀(m k p:Nat)(b:Bytes)(x:Bytes×Nat×Bytes),b.length<=m->k<=1024->itemsIn k p b= .ok x->∃y,b=y++34::x.2.2/\x.2.1=p+y.length+1/\CA y x.1/\x.1.length+k<=1024
 |0,k,p,b,x,hb,hk,h=>by
  have:b=[]:=List.eq_nil_of_length_eq_zero ↑2;subst this;unfold itemsIn at h;cases h
 |m+1,k,p,b,x,hb,hk,h=>by
  cases b with
  |nil=>unfold itemsIn at h;cases h
  |cons c r=>
   have hb:r.length<=m:=by simpa using hb
   unfold itemsIn at h;split at h
   ·rename_i hc;cases h;exact⟨[],by rw[hc];rfl,rfl,.nil,by show 0+k<=1024;omega⟩
   split at h
   ·cases h
   rename_i hc1 hk1;have hk1:k<1024:=Nat.lt_of_not_le hk1;split at h
   ·cases h
   split at h
   ·rename_i hc2 hc;have two:∀(a d:UInt8)(s:Bytes),r=d::s->(if d=110 then 10 else d)=a->((itemsIn (k+1) (p+2) s).map λ(x:Bytes×Nat×Bytes)=>(a::x.1,x.2))= .ok x->∃y,c::r=y++34::x.2.2/\x.2.1=p+y.length+1/\CA y x.1/\x.1.length+k<=1024:=by
     intro a d s er ea hx;cases q:itemsIn (k+1) (p+2) s with
     |error e=>rw[q] at hx;cases hx
     |ok w=>
      rw[q] at hx;cases hx;obtain⟨y,h1,h2,h3,h4⟩:=iV m (k+1) (p+2) s w (by rw[er] at hb;simp at hb;omega) ↑2 q;refine⟨92::d::y,by rw[hc,er,h1];rfl,by show w.2.1=_;rw[h2];simp only[List.length_cons];omega,?_,by show w.1.length+1+k<=1024;omega⟩;rw[<-ea];exact .S4 h3
    split at h
    ·exact two 34 34 _ rfl ↑0 h
    ·exact two 92 92 _ rfl ↑0 h
    ·exact two 10 110 _ rfl ↑0 h
    ·cases h
   ·rename_i hc;split at h
    ·cases q:itemsIn (k+1) (p+1) r with
     |error e=>rw[q] at h;cases h
     |ok w=>
      rw[q] at h;cases h;obtain⟨y,h1,h2,h3,h4⟩:=iV m (k+1) (p+1) r w hb ↑2 q;exact⟨c::y,by rw[h1];rfl,by show w.2.1=_;rw[h2];simp only[List.length_cons];omega,.one hc h3,by show w.1.length+1+k<=1024;omega⟩
    ·cases h
structure OA(b:Bytes)(t:Tok):Prop where
 lo:t.place<t.halt_
 hi:t.halt_<=b.length
 raw:1<=t.kind->t.kind<=3->t.bytes=(b.drop t.place).take (t.halt_ - t.place)/\t.bytes.length<256
 txt:t.kind=4->CA ((b.drop (t.place+1)).take (t.halt_ - 1 - (t.place+1))) t.bytes/\t.bytes.length<=1024/\t.place+1<=t.halt_ - 1
theorem Bv{w:Bytes}(h:isNumber w=true):w.length<256:=by unfold isNumber at h;have h:=(Bool.and_eq_true _ _).mp h;have h:=(Bool.and_eq_true _ _).mp h.2;have:w.length<=255:=of_decide_eq_true h.1;omega
theorem IB{w:Bytes}(h:isCode w=true):w.length<256:=by unfold isCode at h;have h:=(Bool.and_eq_true _ _).mp h;have h:=(Bool.and_eq_true _ _).mp h.2;have h:=(Bool.and_eq_true _ _).mp h.2;have:w.length<=8:=of_decide_eq_true h.2;omega
theorem eA(f:UInt8->Bool):∀(b:Bytes),b.take (b.takeWhile f).length=b.takeWhile f
 |[]=>rfl
 |c::b=>by
  rw[List.takeWhile_cons];split
  ·rw[List.length_cons,List.take_succ_cons,eA f b]
  ·rfl
theorem EG{p:Nat}{b:Bytes}{t:Tok}{s:Bytes}(h:tokenIn p b= .ok (t,s)):(1<=t.kind->t.kind<=3->t.bytes=b.take (t.halt_ - p)/\t.bytes.length<256)/\
  (t.kind=4->CA ((b.drop 1).take (t.halt_ - 1 - (p+1))) t.bytes/\t.bytes.length<=1024/\p+1<=t.halt_ - 1):=by
 unfold tokenIn at h;cases b with
 |nil=>cases h
 |cons c r=>
  dsimp only at h;split at h
  ·split at h
   ·cases h;exact⟨λh=>absurd (show 1<=0 from h) ↑0,λh=>absurd (show 0=4 from h) ↑0⟩
   ·split at h
    ·rename_i hl;cases h;refine⟨λ_ _=>⟨?_,?_⟩,λh=>absurd (show 1=4 from h) ↑0⟩
     ·show _=List.take (p+((c::r).takeWhile isWordByte).length - p) (c::r);rw[Nat.add_sub_cancel_left,eA]
     ·have:((c::r).takeWhile isWordByte).length<=31:=hl;show((c::r).takeWhile isWordByte).length<256;omega
    ·cases h
  split at h
  ·split at h
   ·rename_i hl;cases h;refine⟨λ_ _=>⟨?_,IB hl⟩,λh=>absurd (show 2=4 from h) ↑0⟩;show _=List.take (p+((c::r).takeWhile isCodeByte).length - p) (c::r);rw[Nat.add_sub_cancel_left,eA]
   ·cases h
  split at h
  ·split at h
   ·rename_i hl;cases h;refine⟨λ_ _=>⟨?_,Bv hl⟩,λh=>absurd (show 3=4 from h) ↑0⟩;show _=List.take (p+(List.take _ (c::r)).length - p) (c::r);rw[Nat.add_sub_cancel_left,List.length_take];exact List.take_eq_take_iff.mpr ↑2
   ·cases h
  split at h
  ·cases q:itemsIn 0 (p+1) r with
   |error e=>rw[q] at h;cases h
   |ok x=>
    rw[q] at h;cases h;obtain⟨y,h1,h2,h3,h4⟩:=iV r.length 0 (p+1) r x (Nat.le_refl _) ↑0 q;refine⟨λ_ h=>absurd (show 4<=3 from h) ↑0,λ_=>⟨?_,h4,?_⟩⟩
    ·show CA (List.take (x.2.1 - 1 - (p+1)) r) x.1;rw[h2,show p+1+y.length+1 - 1 - (p+1)=y.length by omega,h1,List.take_left];exact h3
    ·show p+1<=x.2.1 - 1;omega
  ·split at h
   ·cases h;exact⟨λ_ h=>absurd (show 5<=3 from h) ↑0,λh=>absurd (show 5=4 from h) ↑0⟩
   ·cases h
theorem NS:∀(n p:Nat)(b:Bytes),b.length<=n->∀t∈(Tn p b).1,∃i s,i<=b.length/\tokenIn (p+i) (b.drop i)= .ok (t,s):=by
 intro n;induction n with
 |zero=>
  intro p b hb;have:b=[]:=List.eq_nil_of_length_eq_zero ↑2;subst this;rw[gB];intro t h;cases h
 |succ n ih=>
  intro p b hb t ht;cases b with
  |nil=>rw[gB] at ht;cases ht
  |cons c r=>
   simp only[List.length_cons] at hb;cases h1:isBlank c with
   |true=>
    rw[iC h1] at ht;obtain⟨i,s,hi,e⟩:=ih (p+1) r ↑2 t ht;exact⟨i+1,s,by simp only[List.length_cons];omega,by rw[List.drop_succ_cons,<-e];congr 1;omega⟩
   |false=>
    by_cases h2:c=35
    ·subst h2;rw[lD,List.takeWhile_cons,if_pos ↑0,List.length_cons,List.drop_succ_cons] at ht;obtain⟨i,s,hi,e⟩:=ih (p+((r.takeWhile isSeen).length+1)) (r.drop (r.takeWhile isSeen).length) (by rw[List.length_drop];omega) t ht;have hl:(r.takeWhile isSeen).length<=r.length:=by have:=df isSeen r;omega
     rw[List.length_drop] at hi;refine⟨i+((r.takeWhile isSeen).length+1),s,by simp only[List.length_cons];omega,?_⟩;rw[List.drop_drop] at e;rw[show i+((r.takeWhile isSeen).length+1)=((r.takeWhile isSeen).length+i)+1 by omega,List.drop_succ_cons,<-e];congr 1;omega
    ·rw[m_ h1 h2] at ht;cases e:tokenIn p (c::r) with
     |error z=>rw[e] at ht;cases ht
     |ok x=>
      obtain⟨u,s⟩:=x;obtain⟨q1,q2,q3,q4⟩:=ie e;rw[e] at ht;rcases List.mem_cons.mp ht with rfl|ht
      ·exact⟨0,s,Nat.zero_le _,e⟩
      ·have hs:s.length<=r.length:=by rw[q4,List.length_drop,List.length_cons];omega
       obtain⟨i,s',hi,e'⟩:=ih u.halt_ s ↑2 t ht;simp only[List.length_cons] at q3;have hsl:s.length=r.length+1 - (u.halt_ - p):=by rw[q4,List.length_drop,List.length_cons]
       refine⟨(u.halt_ - p)+i,s',by simp only[List.length_cons];omega,?_⟩;rw[<-List.drop_drop,<-q4,<-e'];congr 1;omega
theorem Td(b:Bytes):∀t∈(Tn 0 b).1,OA b t:=by
 intro t ht;obtain⟨i,s,hi,e⟩:=NS b.length 0 b (Nat.le_refl _) t ht;rw[Nat.zero_add] at e;obtain⟨q1,q2,q3,q4⟩:=ie e;obtain⟨r1,r2⟩:=EG e;rw[List.length_drop] at q3;refine⟨↑2,↑2,λh1 h2=>?_,λh=>?_⟩
 ·rw[q1];exact r1 h1 h2
 ·obtain⟨a1,a2,a3⟩:=r2 h;rw[q1];refine⟨?_,a2,a3⟩;rw[<-List.drop_drop];exact a1
mutual
def Jy:Pt->Nat
 | .leaf b=>b.length+1
 | .bq _ _ l=>5+d5 l
def d5:List Pt->Nat
 |[]=>0
 |p::r=>Jy p+d5 r
end
theorem ir:∀l r:List Pt,d5 (l++r)=d5 l+d5 r
 |[],r=>(Nat.zero_add _).symm
 |p::l,r=>by show Jy p+d5 (l++r)=Jy p+d5 l+d5 r;rw[ir l r,Nat.add_assoc]
def gw:List Fr->Nat
 |[]=>0
 |fr::G=>5+d5 fr.parts+gw G
def sw:List Tok->Nat
 |[]=>0
 |t::r=>t.bytes.length+3+sw r
def M3:Sym->Bool
 | .bW b=>Nat.ble b.length 1
 |_=>true
theorem TQ:(FT.all λp=>p.2.all M3)=true:=↑1
theorem vb:∀{L:List ((Nat×Nat)×List Sym)}{x l:Nat}{r:List Sym},cZ L x l=some r->∃p∈L,p.2=r
 |[],_,_,_,h=>by cases h
 |p::L,x,l,r,h=>by
  unfold cZ at h;split at h
  ·exact⟨p,List.mem_cons_self ..,Option.some.inj h⟩
  ·obtain⟨q,hq,e⟩:=vb h;exact⟨q,List.mem_cons_of_mem _ hq,e⟩
theorem LN{x l:Nat}{r:List Sym}(h:row x l=some r):∀y∈r,M3 y=true:=by rw[<-Au] at h;obtain⟨p,hp,rfl⟩:=vb h;exact List.all_eq_true.mp (List.all_eq_true.mp TQ p hp)
theorem S3(t:Tok):d5 (lf t)<=t.bytes.length+3:=by
 unfold lf;split
 ·exact Nat.zero_le _
 ·split
  ·show(t.bytes.length+1+1)+1+0<=_;omega
  ·show(t.bytes.length+1)+1+0<=_;omega
theorem Mz{e:Bool}{z:Fault}{n:Nat}{K:List Sym}{s:St}{G:List Fr}{o:Out}(h:Runs e z n K s G o):(∀y∈K,M3 y=true)->∀G',o= .ok G'->gw G'<=gw G+5*n+sw s.toks:=by
 induction h with
 |halt s G=>intro _ G' e;cases e;omega
 |@bg n f K s G o _ ih=>
  intro hk G' e;have:=ih (λy hy=>hk y (List.mem_cons_of_mem _ hy)) G' e;have e1:gw (⟨f.at s,[]⟩::G)=5+0+gw G:=rfl;omega
 |@bW n b K s f l G o _ ih=>
  intro hk G' e;have h1:=ih (λy hy=>hk y (List.mem_cons_of_mem _ hy)) G' e;have h2:b.length<=1:=Nat.le_of_ble_eq_true (hk (.bW b) (List.mem_cons_self ..));have e1:gw (⟨f,l++[.leaf b]⟩::G)=5+d5 (l++[.leaf b])+gw G:=rfl;have e2:gw (⟨f,l⟩::G)=5+d5 l+gw G:=rfl;have e3:d5 [Pt.leaf b]=b.length+1+0:=rfl;rw[ir] at e1;omega
 |@take n p K s f h l r G o _ ih=>
  intro hk G' e;have h1:=ih (λy hy=>hk y (List.mem_cons_of_mem _ hy)) G' e;have e1:gw (⟨f.tk p,l++[p]⟩::⟨h,r⟩::G)=5+d5 (l++[p])+(5+d5 r+gw G):=rfl;have e2:gw (⟨f,l⟩::⟨h,r++[p]⟩::G)=5+d5 l+(5+d5 (r++[p])+gw G):=rfl;rw[ir] at e1 e2;omega
 |@turn n k K s f l G o _ ih=>
  intro hk G' e;have h1:=ih (λy hy=>hk y (List.mem_cons_of_mem _ hy)) G' e;have e1:gw (⟨f.turn k,l⟩::G)=gw (⟨f,l⟩::G):=rfl;omega
 |@fin n K s f h l r G o _ _ ih=>
  intro hk G' e;have h1:=ih (λy hy=>hk y (List.mem_cons_of_mem _ hy)) G' e;have e1:gw (⟨h,r++[done f s l]⟩::G)=5+d5 (r++[done f s l])+gw G:=rfl;have e2:gw (⟨f,l⟩::⟨h,r⟩::G)=5+d5 l+(5+d5 r+gw G):=rfl;have e3:d5 [done f s l]<=5+d5 l:=by
   unfold done;split
   ·show 1+1+0<=_;omega
   ·show 5+d5 l+0<=_;omega
  rw[ir] at e1;omega
 |@pass n K t p ts f l G o _ ih=>
  intro hk G' e;have h1:=ih (λy hy=>hk y (List.mem_cons_of_mem _ hy)) G' e;have e1:gw (⟨f,l++lf t⟩::G)=5+d5 (l++lf t)+gw G:=rfl;have e2:gw (⟨f,l⟩::G)=5+d5 l+gw G:=rfl;have e3:sw (t::ts)=t.bytes.length+3+sw ts:=rfl;have h2:=S3 t;rw[ir] at e1;dsimp only at h1 ⊢;omega
 |@go n x r K s G o _ h2 _ ih=>
  intro hk G' e;have h1:=ih (λy hy=>(List.mem_append.mp hy).elim (λz=>LN h2 y z) λz=>hk y (List.mem_cons_of_mem _ z)) G' e;omega
 |@Sv n x r K s G o _ _ h2 _ ih=>
  intro hk G' e;have h1:=ih (λy hy=>(List.mem_append.mp hy).elim (λz=>LN h2 y z) λz=>hk y (List.mem_cons_of_mem _ z)) G' e;omega
 |no _ _ _=>intro _ G' e;cases e
theorem Lh{y x:Bytes}(h:CA y x):x.length<=y.length:=by
 induction h with
 |nil=>exact Nat.le_refl _
 |S4 _ ih=>simp only[List.length_cons];omega
 |one _ _ ih=>simp only[List.length_cons];omega
theorem Gg{p:Nat}{b:Bytes}{t:Tok}{s:Bytes}(h:tokenIn p b= .ok (t,s)):t.bytes.length<=t.halt_ - p:=by
 unfold tokenIn at h;cases b with
 |nil=>cases h
 |cons c r=>
  dsimp only at h;split at h
  ·split at h
   ·cases h;dsimp only;omega
   ·split at h
    ·cases h;dsimp only;omega
    ·cases h
  split at h
  ·split at h
   ·cases h;dsimp only;omega
   ·cases h
  split at h
  ·split at h
   ·cases h;dsimp only;omega
   ·cases h
  split at h
  ·cases q:itemsIn 0 (p+1) r with
   |error e=>rw[q] at h;cases h
   |ok x=>
    rw[q] at h;cases h;obtain⟨y,h1,h2,h3,h4⟩:=iV r.length 0 (p+1) r x (Nat.le_refl _) ↑0 q;have:=Lh h3;show x.1.length<=x.2.1 - p;omega
  ·split at h
   ·cases h;dsimp only;omega
   ·cases h
theorem Qv:∀(n:Nat)(p:Nat)(b:Bytes),b.length<=n->sw (Tn p b).1<=4*b.length:=by
 intro n;induction n with
 |zero=>
  intro p b hb;have:b=[]:=List.eq_nil_of_length_eq_zero ↑2;subst this;rw[gB];exact Nat.le_refl _
 |succ n ih=>
  intro p b hb;cases b with
  |nil=>rw[gB];exact Nat.le_refl _
  |cons c r=>
   simp only[List.length_cons] at hb ⊢;cases h1:isBlank c with
   |true=>rw[iC h1];have:=ih (p+1) r ↑2;omega
   |false=>
    by_cases h2:c=35
    ·subst h2;rw[lD,List.takeWhile_cons,if_pos ↑0,List.length_cons,List.drop_succ_cons];have:=ih (p+((r.takeWhile isSeen).length+1)) (r.drop (r.takeWhile isSeen).length) (by rw[List.length_drop];omega);rw[List.length_drop] at this;omega
    ·rw[m_ h1 h2];cases e:tokenIn p (c::r) with
     |error z=>exact Nat.zero_le _
     |ok x=>
      obtain⟨u,s⟩:=x;obtain⟨q1,q2,q3,q4⟩:=ie e;have h3:=Gg e;simp only[List.length_cons] at q3;have hs:s.length=r.length+1 - (u.halt_ - p):=by rw[q4,List.length_drop,List.length_cons]
      have:=ih u.halt_ s ↑2;show u.bytes.length+3+sw (Tn u.halt_ s).1<=_;omega
theorem machine{b:Bytes}(hl:(Tn 0 b).1.length<=65536)(hw:sw (Tn 0 b).1<=4*65536):
  (∀er,EwTree.read b= .error er->∃n,n<=2400000/\Runs (Tn 0 b).2.isSome ((Tn 0 b).2.getD (3,b.length)) n [.w dA] ⟨0,(Tn 0 b).1⟩ [⟨.row ⟨0,(Tn 0 b).1⟩,[]⟩] (.fault er))/\
  ∀a,EwTree.read b= .ok a->∃n p,n<=2400000/\Runs (Tn 0 b).2.isSome ((Tn 0 b).2.getD (3,b.length)) n [.w dA] ⟨0,(Tn 0 b).1⟩ [⟨.row ⟨0,(Tn 0 b).1⟩,[]⟩] (.ok [⟨.row ⟨0,(Tn 0 b).1⟩,[p]⟩])/\yb p=a.1.bytes/\yk p=a.2.map yt/\Jy p<=15900000:=by
 have h:=Nh b;rw[Ea] at h;have hb:bs [.w dA]<=100/\ds [.w dA]<=100:=↑1
 have hlen:len ⟨0,(Tn 0 b).1⟩=(Tn 0 b).1.length:=rfl;refine⟨λer e=>?_,λa e=>?_⟩
 ·rw[e] at h;obtain⟨n,hn,hr⟩:=h;exact⟨n,↑2,hr []⟩
 ·rw[e] at h;obtain⟨s',G',n,hn,⟨p,rfl,h1,h2⟩,hr⟩:=h;have hrun:=hr 0 [] _ (.halt s' _);rw[Nat.zero_add] at hrun;have hn':n<=2400000:=↑2
  refine⟨n,p,hn',hrun,h1,h2,?_⟩;have:=Mz hrun (λy hy=>by rw[List.mem_singleton.mp hy];rfl) _ rfl;have e1:gw [⟨.row ⟨0,(Tn 0 b).1⟩,[p]⟩]=5+(Jy p+0)+0:=rfl;have e2:gw [⟨.row ⟨0,(Tn 0 b).1⟩,[]⟩]=5+0+0:=rfl;dsimp only at this;omega
end MA
end
local macro_rules
 |`(tactic|omega)=>`(tactic|first|lia|omega (splitMinMax:=true))
namespace L2
open PySem PySem.Spec PyProof.Rows
def eP(H:Hp)(n:Nat)(fl:Value)(h:Heap)(e:Addr):Prop:=
 ∃(oe:Obj)(vs:Array Value)(T:Addr)(oT:Obj)(ts:Array Value),h.get? e=some oe/\oe.data= .fields vs/\vs[1]?=some (.ref T)/\n<=T/\H T=none/\T≠e/\h.get? T=some oT/\oT.data= .fields ts/\ts[3]?=some fl
def M0(h:Heap)(e:Addr):Prop:=∃(oe:Obj)(vs:Array Value),h.get? e=some oe/\oe.data= .fields vs/\vs[1]?=some .none
def Dm(H:Hp)(n:Nat)(L:Addr)(h:Heap)(e:Addr):Prop:=M0 h e\/eP H n .none h e\/eP H n (rawInt L) h e
structure Flew(H:Hp)(n:Nat)(fs:List Addr)(e:Addr)(h h':Heap):Prop where
 keep:∀b o,h.get? b=some o->b∉fs->b≠e->(b<n\/H b≠none\/∀ts,o.data≠.fields ts)->h'.get? b=some o
 slot:∀b o,h.get? b=some o->b∈fs->∃sl,h'.get? b=some {o with slots:=sl}
 exc:∀o,h.get? e=some o->∃vs,h'.get? e=some {o with data:=.fields vs}
 there:∀b o,h.get? b=some o->∃o',h'.get? b=some o'
theorem Flew.refl{H:Hp}{n:Nat}{fs:List Addr}{e:Addr}{h:Heap}{oe:Obj}{vs:Array Value}(he:h.get? e=some oe)(hd:oe.data= .fields vs):Flew H n fs e h h:=
 ⟨λ_ _ q _ _ _=>q,λ_ o q _=>⟨o.slots,q⟩,λo q=>by
  rw[he] at q;cases q;exact⟨vs,by rw[he];obtain⟨_,_,_,_⟩:=oe;cases hd;rfl⟩,λ_ o q=>⟨o,q⟩⟩
theorem Flew.trans{H:Hp}{n:Nat}{fs:List Addr}{e:Addr}{h h1 h2:Heap}(a:Flew H n fs e h h1)(b:Flew H n fs e h1 h2):Flew H n fs e h h2 where
 keep:=λc o q hc he hk=>b.keep c o (a.keep c o q hc he hk) hc he hk
 slot:=λc o q hc=>by
  obtain⟨s1,e1⟩:=a.slot c o q hc;obtain⟨s2,e2⟩:=b.slot c _ e1 hc;exact⟨s2,e2⟩
 exc:=λo q=>by
  obtain⟨v1,e1⟩:=a.exc o q;obtain⟨v2,e2⟩:=b.exc _ e1;exact⟨v2,e2⟩
 there:=λc o q=>by
  obtain⟨o1,e1⟩:=a.there c o q;exact b.there c o1 e1
theorem ig{o:Obj}{vs:Array Value}(hd:o.data= .fields vs):o={o with data:=.fields vs}:=by obtain⟨_,_,_,_⟩:=o;cases hd;rfl
section
variable{M:Model}{A:Around}{E:Value->Shared->Prop}{s:Shared}{H:Hp}{n:Nat}{fs:List Addr}{e:Addr}{Q:Unit->Shared->Prop}
theorem vS{h:Heap}{a:Addr}{o:Obj}{vs:Array Value}(f:Array Value->Array Value)(ho:h.get? a=some o)(hd:o.data= .fields vs):(h.update a (Obj.mapFields f)).get? a=some {o with data:=.fields (f vs)}:=by have z:=Heap.get?_update_self (Obj.mapFields f) ho (Obj.isFreed_of_fields (Obj.data_mapFields hd f));rw[z];obtain⟨oc,od,odt,osl⟩:=o;cases hd;rfl
theorem x8{fl fl':Value}(hx:eP H n fl s.heap e)(hQ:∀h',eP H n fl' h' e->Flew H n fs e s.heap h'->Q () {s with heap:=h'})(hfs:∀T oT ts,s.heap.get? T=some oT->oT.data= .fields ts->T∉fs)(f:Option Addr)(hf:(f.elim Value.none λg=>rawInt g)=fl'):wpAny M A (setFlight (.ref e) f) Q E s:=by
 obtain⟨oe,vs,T,oT,ts,he,hd,h1,hn,hT0,hTe,hT,hdT,h3⟩:=hx;have hsz:3<ts.size:=(Array.getElem?_eq_some_iff.mp h3).1;unfold setFlight;refine wpAny_bind (wpAny_field he hd h1 ?_);rw[if_pos (show(Value.ref T != Value.none)=true from by simp)];refine wpAny_setField hT hdT hsz ?_;rw[hf];have hT':=vS (λa=>a.setIfInBounds 3 fl') hT hdT;have other:∀b,b≠T->(s.heap.update T (Obj.mapFields λa=>a.setIfInBounds 3 fl')).get? b=s.heap.get? b:=λb hb=>Heap.get?_update_other _ _ (Ne.symm hb);refine hQ _ ⟨oe,vs,T,_,_,(other e (Ne.symm hTe)).trans he,hd,h1,hn,hT0,hTe,hT',rfl,?_⟩ ⟨λb o q hb hbe hk=>?_,λb o q hb=>?_,λo q=>?_,λb o q=>?_⟩
 ·rw[Array.getElem?_setIfInBounds_self_of_lt hsz]
 ·refine(other b λz=>?_).trans q;subst z;rw[hT] at q;cases q;rcases hk with k|k|k
  ·exact absurd k (Nat.not_lt.mpr hn)
  ·exact k hT0
  ·exact k ts hdT
 ·refine⟨o.slots,(other b λz=>?_).trans q⟩;subst z;rw[hT] at q;cases q;exact hfs b oT ts hT hdT hb
 ·rw[he] at q;cases q;exact⟨vs,by rw[other e (Ne.symm hTe),he,<-ig hd]⟩
 ·by_cases z:b=T
  ·subst z;exact⟨_,hT'⟩
  ·exact⟨o,(other b z).trans q⟩
end
section
variable{M:Model}{A:Around}{E:Value->Shared->Prop}{s:Shared}{H:Hp}{n:Nat}{e:Addr}{Q:Unit->Shared->Prop}{base:Heap}{env:Env}{outer:List Env}{L:Addr}
theorem vB{h:Heap}{l:List Env}(hl:h.FunFrames base l){T:Addr}{oT:Obj}{ts:Array Value}(hT:h.get? T=some oT)(hd:oT.data= .fields ts):T∉k7 l:=λhm=>by
 obtain⟨_,o,ho,hnf⟩:=hl.mem hm;rw[hT] at ho;cases ho;exact hnf ts hd
theorem vy{oe:Obj}{vs:Array Value}{head:Value}{had:Bool}(hfr:A.frames=some (env::outer))(hl:s.heap.FunFrames base (env::outer))(hf:env.frame=some L)(he:s.heap.get? e=some oe)(hd:oe.data= .fields vs)(h1:1<vs.size)(hn:n<=s.heap.objs.size)(hH:∀b,s.heap.objs.size<=b->H b=none)(hQ:∀h',eP H n (rawInt L) h' e->Flew H n (k7 (env::outer)) e s.heap h'->Q () {s with heap:=h'}):
  wpAny M A (do let a<-frameOf env;let pl<-entryPlaceOf L had;let b<-EntryCells.newEntry head a .none (rawInt L) .none pl;setField (.ref e) 1 b) Q E s:=by
 have hef:e∉k7 (env::outer):=vB hl he hd;refine wpAny_bind (wpAny_frameOf_fun hfr hl hf λg1 hs=>?_);refine wpAny_bind (wpAny_entryPlaceOf λpl hpl=>?_);unfold EntryCells.newEntry newFields;refine wpAny_bind (wpAny_newObj_type ?_ (hpl.sizeOk5 _ _ _ _ _));have e1:g1.get? e=some oe:=(hs.2.1 e hef).trans he;generalize hob:({cls:=Value.type "traceback",dict:=none,data:=Data.fields ([head,Value.ref L,Value.none,rawInt L,Value.none]++(if pl.isEmpty then List.replicate 6 Value.none else pl)).toArray}:Obj)=ob;have hobd:∃ts:Array Value,ob.data= .fields ts/\ts[3]?=some (rawInt L):=by
  rw[<-hob];refine⟨_,rfl,?_⟩;simp
 obtain⟨ts,hts,h3⟩:=hobd;have e2:(g1.push ob).get? e=some oe:=Heap.get?_push_of_some _ e1;refine wpAny_setField e2 hd h1 ?_;have hsz:g1.objs.size=s.heap.objs.size:=hs.1;have hTe:g1.objs.size≠e:=Nat.ne_of_gt (Heap.lt_size e1);have hT:((g1.push ob).update e (Obj.mapFields λa=>a.setIfInBounds 1 (Value.ref g1.objs.size))).get? g1.objs.size=some ob:=
  (Heap.get?_update_other _ _ (Ne.symm hTe)).trans (Heap.get?_push_at rfl (by rw[Obj.isFreed_of_fields hts]))
 have he':=vS (λa=>a.setIfInBounds 1 (Value.ref g1.objs.size)) e2 hd;have keep:∀b o,b≠e->g1.get? b=some o->((g1.push ob).update e (Obj.mapFields λa=>a.setIfInBounds 1 (Value.ref g1.objs.size))).get? b=some o:=λb o hbe q=>
  (Heap.get?_update_other _ _ (Ne.symm hbe)).trans (Heap.get?_push_of_some _ q)
 refine hQ _ ⟨_,_,g1.objs.size,ob,ts,he',rfl,by rw[Array.getElem?_setIfInBounds_self_of_lt h1],↑2,hH _ ↑2,hTe,hT,hts,h3⟩ ⟨λb o q hb hbe _=>keep b o hbe ((hs.2.1 b hb).trans q),λb o q hb=>?_,λo q=>?_,λb o q=>?_⟩
 ·obtain⟨sl,z⟩:=hs.2.2 b o q;exact⟨sl,keep b _ (λz=>hef (z▸hb)) z⟩
 ·rw[he] at q;cases q;exact⟨_,he'⟩
 ·by_cases z:b=e
  ·subst z;exact⟨_,he'⟩
  ·obtain⟨sl,q2⟩:=hs.2.2 b o q;exact⟨_,keep b _ z q2⟩
theorem yV(hfr:A.frames=some (env::outer))(hl:s.heap.FunFrames base (env::outer))(hf:env.frame=some L)(hx:Dm H n L s.heap e)(hn:n<=s.heap.objs.size)(hH:∀b,s.heap.objs.size<=b->H b=none)(hQ:∀h',eP H n (rawInt L) h' e->Flew H n (k7 (env::outer)) e s.heap h'->Q () {s with heap:=h'}):wpAny M A (noteFrame (.ref e) env) Q E s:=by
 unfold noteFrame;simp only[hf];rcases hx with⟨oe,vs,he,hd,h1⟩|hx|hx
 ·refine wpAny_bind (wpAny_field he hd h1 ?_);rw[if_neg ↑0];exact vy hfr hl hf he hd (Array.getElem?_eq_some_iff.mp h1).1 hn hH hQ
 ·obtain⟨oe,vs,T,oT,ts,he,hd,h1,hnT,hT0,hTe,hT,hdT,h3⟩:=hx;refine wpAny_bind (wpAny_field he hd h1 ?_);rw[if_pos (show(Value.ref T != Value.none)=true from by simp)];refine wpAny_bind (wpAny_field hT hdT h3 ?_);rw[if_neg (show ¬((Value.none==rawInt L)=true) from by simp[rawInt])];refine wpAny_bind (wpAny_setField hT hdT (Array.getElem?_eq_some_iff.mp h3).1 ?_);have hT':=vS (λa=>a.setIfInBounds 3 Value.none) hT hdT;have other:∀b,b≠T->(s.heap.update T (Obj.mapFields λa=>a.setIfInBounds 3 Value.none)).get? b=s.heap.get? b:=λb hb=>Heap.get?_update_other _ _ (Ne.symm hb);have hTf:T∉k7 (env::outer):=vB hl hT hdT;have fw:Flew H n (k7 (env::outer)) e s.heap (s.heap.update T (Obj.mapFields λa=>a.setIfInBounds 3 Value.none)):=by
   refine⟨λb o q hb hbe hk=>?_,λb o q hb=>?_,λo q=>?_,λb o q=>?_⟩
   ·refine(other b λz=>?_).trans q;subst z;rw[hT] at q;cases q;rcases hk with k|k|k
    ·exact absurd k (Nat.not_lt.mpr hnT)
    ·exact k hT0
    ·exact k ts hdT
   ·exact⟨o.slots,(other b λz=>hTf (z▸hb)).trans q⟩
   ·rw[he] at q;cases q;exact⟨vs,by rw[other e (Ne.symm hTe),he,<-ig hd]⟩
   ·by_cases z:b=T
    ·subst z;exact⟨_,hT'⟩
    ·exact⟨o,(other b z).trans q⟩
  refine vy hfr (hl.of_keeps λb o q hnf=>⟨o,(other b λz=>?_).trans q,rfl⟩) hf ((other e (Ne.symm hTe)).trans he) hd (Array.getElem?_eq_some_iff.mp h1).1 (by rw[Heap.size_after_update];exact hn)
   (λb hb=>hH b (by rw[Heap.size_after_update] at hb;exact hb)) λh' a b=>hQ h' a (fw.trans b)
  subst z;rw[hT] at q;cases q;exact hnf ts hdT
 ·obtain⟨oe,vs,T,oT,ts,he,hd,h1,hnT,hT0,hTe,hT,hdT,h3⟩:=id hx;refine wpAny_bind (wpAny_field he hd h1 ?_);rw[if_pos (show(Value.ref T != Value.none)=true from by simp)];refine wpAny_bind (wpAny_field hT hdT h3 ?_);rw[if_pos (show(rawInt L==rawInt L)=true from by first|(simp;done)|exact beq_self_eq_true _)];exact wpAny_pure (hQ s.heap hx (Flew.refl he hd))
theorem eP.IF{fl:Value}{h h':Heap}{fs:List Addr}(hl:h.FunFrames base (env::outer))(fw:Flew H n (k7 (env::outer)) e h h'):∀T oT ts,h'.get? T=some oT->oT.data= .fields ts->T∉k7 (env::outer):=λT oT ts hT hd hm=>by
 obtain⟨_,o,ho,hnf⟩:=hl.mem hm;obtain⟨sl,q⟩:=fw.slot T o ho hm;rw[hT] at q;cases q;exact hnf ts hd
theorem Av(hfr:A.frames=some (env::outer))(hl:s.heap.FunFrames base (env::outer))(hf:env.frame=some L)(hx:Dm H n L s.heap e)(hn:n<=s.heap.objs.size)(hH:∀b,s.heap.objs.size<=b->H b=none)(hQ:∀h',eP H n .none h' e->Flew H n (k7 (env::outer)) e s.heap h'->Q () {s with heap:=h'}):wpAny M A (noteFrame (.ref e) env) (λ_ s2=>wpAny M A (setFlight (.ref e) none) Q E s2) E s:=by refine yV hfr hl hf hx hn hH λh1 a1 f1=>?_;refine x8 (s:={s with heap:=h1}) (fs:=k7 (env::outer)) a1 (λh2 a2 f2=>hQ h2 a2 (f1.trans f2)) (eP.IF (fl:=.none) (fs:=[]) hl f1) none rfl
theorem Ep(hfr:A.frames=some (env::outer))(hl:s.heap.FunFrames base (env::outer))(hf:env.frame=some L)(hx:Dm H n L s.heap e)(hn:n<=s.heap.objs.size)(hH:∀b,s.heap.objs.size<=b->H b=none)(hQ:∀h',eP H n .none h' e->Flew H n (k7 (env::outer)) e s.heap h'->Q () {s with heap:=h'}):wpAny M A (leaving env (.ref e)) Q E s:=wpAny_bind (Av hfr hl hf hx hn hH hQ)
end
end L2
namespace XM
open PySem PySem.W
section
open Sem (wp)
structure Line(B:String)(bm:List Value):Prop where
 b:bm.contains (.type B)=true
 base:bm.contains (.type "BaseException")=true
 attr:bm.contains (.type "AttributeError")=false
 name:bm.contains (.type "NameError")=false
section
variable{prog:Program}{w:World}{A:Around}{E:Value->Shared->Prop}{h:Heap}{g:Array GenState}{d:Drawn}{t:Nat}{os:OsState}
variable{nm q:Str}{C N:Addr}{bs bm bmB:List Value}{hdct:Bool}{sn:List Str}{sub:List Value}{ab:Bool}{col:Option Bool}{dd:Option Addr}{k0 k1 k2 k3 k5:Option Value}{B newId initId:String}
theorem Ei{M:Model}(F:ExcBaseFacts B newId initId bmB)(l:Line B bm){rest:List Value}{Q:Unit->Shared->Prop}(hC:h.get? C=some (excClassObj nm q C N bs bm hdct sn sub ab col dd k0 k1 k2 k3 k5 newId))(z:Q () ⟨h,g,d,t,os⟩):wpAny M A (checkBuiltinCall newId ⟨.ref C::rest,[]⟩) Q E ⟨h,g,d,t,os⟩:=by
 have c1:(Value.ref C::bm).contains (.type B)=true:=by
  rw[List.contains_cons,l.b,Bool.or_true]
 have c2:=F.noStar;simp only[checkBuiltinCall,F.newKind,F.newSplit,F.newRow];repeat (first
  |refine wpAny_loadPart_at hC ?_
  |(refine wpAny_isSubtype_exc hC ?_;rw[c1])
  |refine wpAny_staticBase_exc hC ?_
  |refine wpAny_madeBy_exc hC ?_
  |simp only[bne_self_eq_false,Bool.false_eq_true,if_false]
  |wp_step)
 exact z
theorem Ik{R:Result->Shared->Prop}(F:ExcBaseFacts B newId initId bmB)(l:Line B bm){rest:List Value}(hC:h.get? C=some (excClassObj nm q C N bs bm hdct sn sub ab col dd k0 k1 k2 k3 k5 newId))(z:R (.ok (.ret (.ref (h.objs.size+1))))
   ⟨(h.push {cls:=.type "tuple",data:=.seq rest.toArray}).push {cls:=.ref C,data:=.fields #[.ref h.objs.size,.none,.none,.none,.bool false,.none]},g,d,t,os⟩)(hz:rest.length<=sizeLine):codeAny (model prog w) A (.builtin newId ⟨.ref C::rest,[]⟩) R ⟨h,g,d,t,os⟩:=by
 have c0:=F.ends;have c1:(Value.ref C::bm).contains (.type B)=true:=by
  rw[List.contains_cons,l.b,Bool.or_true]
 have c2:(Value.ref C::bm).contains (.type "AttributeError")=false:=by
  rw[List.contains_cons,l.attr];rfl
 have c3:(Value.ref C::bm).contains (.type "NameError")=false:=by
  rw[List.contains_cons,l.name];rfl
 refine codeAny_builtinAt F.entry ?_;unfold Builtin.«BaseException.__new__»;refine wpAt_bind ?_;show wpAt _ _ _ (stack>>=_) _ _ _;refine wpAt_bind (wpAt_stack λp below=>wpAt_of_wpAny ?_)
 wp_walk
 refine wpAt_of_wpAny ?_;rw[F.owner];repeat (first
  |with_reducible refine wpAny_madeHere_exc F.canon hC ?_
  |with_reducible refine wpAny_loadPart_at hC ?_
  |(with_reducible refine wpAny_isSubtype_exc hC ?_;first|rw[c1]|rw[c2]|rw[c3])
  |wp_step)
 show R _ _;rw[Heap.size_push];exact z
theorem QK(F:ExcBaseFacts B newId initId bmB)(l:Line B bm){rest:List Value}{fI:Addr}{oI:Obj}{Q:Fin->Shared->Prop}(hC:h.get? C=some (excClassObj nm q C N bs bm hdct sn sub ab col dd k0 k1 k2 k3 k5 newId))(hi:Looks (model prog w) h (typeLookup (.ref C) "__init__") (some (.ref fI)))(hfI:h.get? fI=some oI)(hfc:oI.cls= .type "function")(hz:rest.length<=sizeLine)(z:wpAny (model prog w) A (call (.ref fI) (.ref (h.objs.size+1)::rest)) (λr s'=>r= .none/\Q (.done (.ret (.ref (h.objs.size+1)))) s') E
   ⟨(h.push {cls:=.type "tuple",data:=.seq rest.toArray}).push {cls:=.ref C,data:=.fields #[.ref h.objs.size,.none,.none,.none,.bool false,.none]},g,d,t,os⟩):
  wpAny (model prog w) A (Builtin.«type.__call__» ⟨.ref C::rest,[]⟩) Q E ⟨h,g,d,t,os⟩:=by
 repeat (first
  |with_reducible refine wpAny_loadPart_at hC ?_
  |with_reducible refine wpAny_madeBy_exc hC ?_
  |wp_step)
 refine codeAny_call_builtin_code (Code.quiet_builtin _ F.quiet) (Ei F l hC ?_);refine Ik F l hC ?_ hz;show wpAny _ _ _ _ _ _;have kp:∀b o,h.get? b=some o->((h.push {cls:=.type "tuple",data:=.seq rest.toArray}).push {cls:=.ref C,data:=.fields #[.ref h.objs.size,.none,.none,.none,.bool false,.none]}).get? b=some o:=λb o e=>
  Heap.get?_push_of_some _ (Heap.get?_push_of_some _ e)
 have hget:((h.push {cls:=.type "tuple",data:=.seq rest.toArray}).push {cls:=.ref C,data:=.fields #[.ref h.objs.size,.none,.none,.none,.bool false,.none]}).get? (h.objs.size+1)=
   some {cls:=.ref C,data:=.fields #[.ref h.objs.size,.none,.none,.none,.bool false,.none]}:=by heap_get
 have hC1:=kp _ _ hC;have cC:(Value.ref C::bm).contains (.ref C)=true:=by simp
 unfold isInstance;repeat (first
  |with_reducible refine wpAny_loadPart_at hget ?_
  |(with_reducible refine wpAny_isSubtype_exc hC1 ?_;rw[cC])
  |wp_step)
 show wpAny _ _ (typeLookup (.ref C) _) _ _ _;refine hi _ _ _ _ kp ?_;refine wpAny_holding (wpAny_bind ?_);unfold bindSpecial;refine wpAny_bind (wpAny_typeOf (T:="function") ⟨_,kp _ _ hfI,hfc⟩ ?_);rw[if_pos ↑0];refine wpAny_pure (wpAny_bind (wpAny_mono z (λr s' hr=>?_) λ_ _ x=>x));obtain⟨rfl,hQ⟩:=hr
 wp_walk
 exact hQ
theorem made(F:ExcBaseFacts B newId initId bmB)(l:Line B bm){rest:List Value}{fI:Addr}{oI:Obj}{Q:Value->Shared->Prop}(hC:h.get? C=some (excClassObj nm q C N bs bm hdct sn sub ab col dd k0 k1 k2 k3 k5 newId))(hi:Looks (model prog w) h (typeLookup (.ref C) "__init__") (some (.ref fI)))(hfI:h.get? fI=some oI)(hfc:oI.cls= .type "function")(hz:rest.length<=sizeLine)(z:wpAny (model prog w) (A.under (.builtin "type.__call__" ⟨.ref C::rest,[]⟩)) (call (.ref fI) (.ref (h.objs.size+1)::rest)) (λr s'=>r= .none/\Q (.ref (h.objs.size+1)) s') E
   ⟨(h.push {cls:=.type "tuple",data:=.seq rest.toArray}).push {cls:=.ref C,data:=.fields #[.ref h.objs.size,.none,.none,.none,.bool false,.none]},g,d,t,os⟩):
  wpAny (model prog w) A (call (.ref C) rest) Q E ⟨h,g,d,t,os⟩:=by
 have f1:=tc_lookup;have f2:=tc_bind (.ref C);have f3:(⟨h,g,d,t,os⟩:Shared).TypeIs (.ref C) "type":=⟨_,hC,rfl⟩
 refine wpAny_call (codeAny_of_tree ?_);show wpAny _ _ (callAny (.ref C) _) _ _ _;repeat (any_goals (first
  |assumption
  |with_reducible refine wpAny_loadPart_at hC ?_
  |wp_step))
 refine⟨rfl,?_⟩;exact codeAny_call_builtin_at (Code.quiet_builtin _ ↑1) entry_typeCall (wpAny_check_type_call_sub hC (QK F l hC hi hfI hfc hz z))
theorem raises{M:Model}{s:Shared}{env:Env}{x:Sem Value}{Q:Flow->Shared->Prop}(hbase:bm.contains (.type "BaseException")=true)(hh:A.handled=none)(z:wpAny M A x (λv s₁=>∃(e:Addr)(oe:Obj)(vs:Array Value),v= .ref e/\s₁.heap.get? C=some (excClassObj nm q C N bs bm hdct sn sub ab col dd k0 k1 k2 k3 k5 newId)/\
   s₁.heap.get? e=some oe/\oe.cls= .ref C/\oe.data= .fields vs/\vs[1]?=some .none/\E (.ref e) s₁) E s):wpAny M A (raiseStmt env (some x) none) Q E s:=by
 have cB:(Value.ref C::bm).contains (.type "BaseException")=true:=by
  rw[List.contains_cons,hbase,Bool.or_true]
 unfold raiseStmt;refine wpAny_bind (wpAny_mono z (λv s₁ h₁=>?_) λ_ _ x=>x);obtain⟨e,oe,vs,rfl,hC,he,hcl,hd,h1,hE⟩:=h₁;obtain⟨oc,od,odt,osl⟩:=oe;cases hcl;cases hd;obtain⟨hp,g,d,tk,os⟩:=s₁;repeat (first
  |with_reducible refine wpAny_loadPart_at he ?_
  |with_reducible refine wpAny_loadPart_at hC ?_
  |(with_reducible refine wpAny_isSubtype_exc hC ?_;rw[cB])
  |with_reducible refine wpAny_field he rfl h1 ?_
  |wp_step)
 exact wpAny_raiseNew_none hh hE
end
end
section
open Builtin Builtin.ObjectAttr
def dW:List Value->Bool
 |[]=>false
 |v::r=>(match v with| .ref _=>dW r|_=>false)||decide (v::r=[.type "Exception",.type "BaseException",.type "object"])
theorem lB{v:Value}{r:List Value}(e:dW (v::r)=true):(∃c,v= .ref c/\dW r=true)\/v::r=[.type "Exception",.type "BaseException",.type "object"]:=by
 unfold dW at e;rw[Bool.or_eq_true] at e;rcases e with e|e
 ·cases v <;> first|exact .inl ⟨_,rfl,e⟩|cases e
 ·exact .inr (of_decide_eq_true e)
theorem km(self:Value):∀(l:List Value),dW l=true->refuseLoop self "__setattr__" l=pure ()
 |[],e=>by cases e
 |v::r,e=>by
  rcases lB e with⟨c,rfl,e'⟩|e'
  ·rw[refuseLoop_ref];exact km self r e'
  ·rw[e'];exact PySem.F.store_Exception.passes self
theorem oB:∀(l:List Value),dW l=true->l.contains (.type "object")=true
 |[],e=>by cases e
 |v::r,e=>by
  rcases lB e with⟨c,rfl,e'⟩|e'
  ·rw[List.contains_cons,oB r e',Bool.or_true]
  ·rw[e'];decide+kernel
theorem oV{prog:Program}{w:World}{A:Around}{K:Frag}{s:Shared}{x C:Addr}{R:Result->Shared->Prop}{obj:Obj}{dobj:Option Obj}{field:Str}{tok:Tok}{val:Value}{cd:ClassData}(KX:K.In s.heap)(J:InstAt s.heap x obj C dobj)(cls:clsIn K C=some cd)(line:dW cd.mro=true)(free:takerIn K C field=some none)(go:∀had,wpAny (model prog w) A.in1 (storeInOwnDict (.ref x) (.ref C) (.str field tok) field val had) (λfin s'=>match fin with| .done f=>R (.ok f) s'| .again c'=>c'.quiet=true/\codeAny (model prog w) A c' R s') (λe s'=>R (.error e) s') s):
  codeAny (model prog w) A (.call (.builtin "object.__setattr__") ⟨[.ref x,.str field tok,val],[]⟩) R s:=by
 have facts:=PySem.F.store_Exception;have full:cd.mro.isEmpty=false:=by
  cases q:cd.mro with
  |nil=>rw[q] at line;cases line
  |cons _ _=>rfl
 have isObj:Looks (model prog w) s.heap (isInstance (.ref x) (.type "object")) true:=by
  refine J.type.andThen (looks_mroIn KX ?_);unfold mroIn;rw[cls,Option.bind_some,if_neg (by rw[full];decide),oB _ line]
 refine codeAny_call_builtin facts.slot.plain facts.entry ?_;refine @check_slot (model prog w) _ _ s "object.__setattr__" "object" "__setattr__" (.ref x) [.str field tok,val] [] _ facts.kind facts.split isObj (facts.args (.ref x) (.str field tok) val) ?_;obtain⟨attr,found,taken⟩:=Option.bind_eq_some_iff.mp free;have lmro:Looks (model prog w) s.heap (mroOf (.ref C)) cd.mro:=(looks_clsIn KX cls).andThen .now;have ltak:Looks (model prog w) s.heap (storeTaker? attr) none:=by
  cases attr with
  |none=>exact .now
  |some v=>
   obtain⟨b,hb,hbn⟩:=Option.map_eq_some_iff.mp taken;refine(looks_takesIn KX hb).andThen ?_;cases b
   ·exact .now
   ·cases hbn
 rw[osa_eq,refuse_eq];refine wpAny_bind (wpAny_bind (J.type.here (wpAny_bind (lmro.here ?_))));rw[km (.ref x) _ line];exact wpAny_pure (wpAny_bind (J.type.here (wpAny_bind ((looks_findIn KX found).here (wpAny_bind (ltak.here (go _)))))))
section
variable{prog:Program}{w:World}{A:Around}{E:Value->Shared->Prop}{s:Shared}{K:Frag}{x dx C:Addr}{mA:Str->Option Value}{name:Str}{v:Value}{vs:Array Value}{sl:Array (Option Value)}
theorem EA{Q:Unit->Shared->Prop}(X:K.In s.heap)(hx:s.heap.get? x=some ⟨.ref C,none,.fields vs,sl⟩)(hs:findIn K (.ref C) "__setattr__"=some (some (.builtin "object.__setattr__"))){cd0:ClassData}(hp0:clsIn K C=some cd0)(hp:dW cd0.mro=true)(ht:takerIn K C name=some none)(hh:hasDictIn K C=true)(z:∀h',h'.Ns1 s.heap.objs.size (λy=>if y=name then some v else none)->h'.get? x=some ⟨.ref C,some s.heap.objs.size,.fields vs,sl⟩->(∀b o,b≠x->s.heap.get? b=some o->h'.get? b=some o)->Q () {s with heap:=h',toks:=s.toks+2}):
  wpAny (model prog w) A (setAttr (.ref x) name v) Q E s:=by
 have J:PySem.W.InstAt s.heap x ⟨.ref C,none,.fields vs,sl⟩ C none:=⟨hx,rfl,rfl,trivial⟩
 refine PySem.W.set_plain X J hs (oV (s:={s with toks:=s.toks+1}) X J hp0 hp ht λb=>?_);obtain⟨cd,hc,hd'⟩:=PySem.W.any_some hh;refine wpAny_bind (wpAny_pure (wpAny_bind (wpAny_bind (wpAny_loadPart hx (wpAny_bind (PySem.W.Looks.here (s:={s with toks:=s.toks+1}) (PySem.W.looks_clsIn X hc) ?_))))));rw[hd'];have hx1:(s.heap.push {cls:=.type "dict",data:=.dict #[]}).get? x=some ⟨.ref C,none,.fields vs,sl⟩:=Heap.get?_push_of_some _ hx;have hxs:x≠s.heap.objs.size:=Nat.ne_of_lt (Heap.lt_size hx);show wpAny _ _ (do
  let d<-alloc {cls:=.type "dict",data:=.dict #[]}
  update x λo=>{o with dict:=some d}
  dictMade (.ref C) x d) _ _ _
 refine wpAny_bind (wpAny_alloc' (wpAny_bind (wpAny_update' hx1 ?_)));refine wpAny_pure (a:=some s.heap.objs.size) (wpAny_bind (wpAny_pure (wpAny_bind ?_)));have gx:((s.heap.push {cls:=.type "dict",data:=.dict #[]}).update x λo=>{o with dict:=some s.heap.objs.size}).get? x=some ⟨.ref C,some s.heap.objs.size,.fields vs,sl⟩:=Heap.get?_update_self _ hx1 rfl;have gd:((s.heap.push {cls:=.type "dict",data:=.dict #[]}).update x λo=>{o with dict:=some s.heap.objs.size}).get? s.heap.objs.size=some {cls:=.type "dict",data:=.dict #[]}:=
  (Heap.get?_update_other _ _ hxs).trans (Heap.get?_push_at rfl rfl)
 have nd:((s.heap.push {cls:=.type "dict",data:=.dict #[]}).update x λo=>{o with dict:=some s.heap.objs.size}).Ns s.heap.objs.size (λ_=>none):=
  ⟨_,#[],_,gd,rfl,λe he=>absurd he (by simp),λ_=>rfl⟩
 refine wpAny_nsSet1 (s:={s with heap:=_,toks:=s.toks+1}) (Heap.Ns1.of_empty nd) λh' hn2 hs2=>?_;obtain⟨oD,esD,epD,hoD,hdD,hcD⟩:=hn2.count (PySem.Within.cons name v PySem.Within.nil);refine wpAny_bind (wpAny_lookBehind hoD (by rw[hdD];exact pastItsLine_dict (Nat.le_trans hcD (by rw[List.length_cons,List.length_nil,sizeLine_eq];omega))) ?_);refine wpAny_pure (z _ hn2 ((hs2.2 x hxs).trans gx) λb o hb e=>?_);exact(hs2.2 b (Nat.ne_of_lt (Heap.lt_size e))).trans ((Heap.get?_update_other _ _ (Ne.symm hb)).trans (Heap.get?_push_of_some _ e))
theorem Hq{ns:List Str}{Q:Unit->Shared->Prop}(X:K.In s.heap)(hx:s.heap.get? x=some ⟨.ref C,some dx,.fields vs,sl⟩)(hn:s.heap.Ns1 dx mA)(hne:dx≠x)(hs:findIn K (.ref C) "__setattr__"=some (some (.builtin "object.__setattr__"))){cd0:ClassData}(hp0:clsIn K C=some cd0)(hp:dW cd0.mro=true)(ht:takerIn K C name=some none)(hh:hasDictIn K C=true)(hw:PySem.Within mA ns)(hsz:ns.length<=sizeLine)(z:∀h',h'.Ns1 dx (λy=>if y=name then some v else mA y)->Heap.SameBut dx s.heap h'->Q () {s with heap:=h',toks:=s.toks+2}):
  wpAny (model prog w) A (setAttr (.ref x) name v) Q E s:=by
 have J:∃od,PySem.W.InstAt s.heap x ⟨.ref C,some dx,.fields vs,sl⟩ C (some od):=by
  obtain⟨o,_,_,ho,_⟩:=hn;exact⟨o,hx,rfl,rfl,ho⟩
 obtain⟨od,J⟩:=J;refine PySem.W.set_plain X J hs (oV (s:={s with toks:=s.toks+1}) X J hp0 hp ht λb=>?_);obtain⟨cd,hc,hd'⟩:=PySem.W.any_some hh;refine wpAny_bind (wpAny_pure (wpAny_bind (wpAny_bind (wpAny_loadPart hx (wpAny_bind (PySem.W.Looks.here (s:={s with toks:=s.toks+1}) (PySem.W.looks_clsIn X hc) ?_))))));rw[hd'];refine wpAny_pure (a:=some dx) (wpAny_bind (wpAny_pure (wpAny_bind ?_)));refine wpAny_nsSet1 (s:={s with toks:=s.toks+1}) hn λh' hn2 hs2=>?_;obtain⟨oD,esD,epD,hoD,hdD,hcD⟩:=hn2.count (PySem.Within.cons name v hw);refine wpAny_bind (wpAny_lookBehind hoD (by rw[hdD];exact pastItsLine_dict (Nat.le_trans hcD (by rw[List.length_cons];omega))) ?_);exact wpAny_pure (z _ hn2 hs2)
theorem JK{expr:Bool}{ox:Obj}{od:Option Obj}{Q:Value->Shared->Prop}(X:K.In s.heap)(I:PySem.W.InstAt s.heap x ox C od)(hga:findIn K (.ref C) "__getattribute__"=some (some (.builtin "BaseException.__getattribute__")))(hgt:findIn K (.ref C) "__getattr__"=some none)(hsub:mroIn K C (.type "BaseException")=some true)(hf:findObj K C od name=some (.value v))(hv:handedIn v=true)(z:Q v {s with toks:=s.toks+1}):
  wpAny (model prog w) A (getAttr (.ref x) name expr) Q E s:=by
 obtain⟨hp,g,d,t,os⟩:=s;have L0:=I.type (M:=model prog w);have L1:=looks_findIn (M:=model prog w) X hga;have L2:=looks_findIn (M:=model prog w) X hgt;have L3:=looks_find (M:=model prog w) X I hf;have L4:Looks (model prog w) hp (isInstance (.ref x) (.type "BaseException")) true:=L0.andThen (looks_mroIn X hsub);unfold getAttr getAttrBy;refine wpAny_bind (wpAny_mkText (wpAny_holding (wpAny_bind (L0.at (wpAny_bind (L1.at ?_))))));have ne:(onTheHeap (Value.ref C)&&Value.builtin "BaseException.__getattribute__"==Value.builtin "object.__getattribute__")=false:=by
  rw[show(Value.builtin "BaseException.__getattribute__"==Value.builtin "object.__getattribute__")=false from ↑1,Bool.and_false]
 show wpAny _ _ (if(onTheHeap (Value.ref C)&&Value.builtin "BaseException.__getattribute__"==Value.builtin "object.__getattribute__")=true then _ else getAttrByItsOwn _ _ _ _ _ _) _ _ _;rw[ne,if_neg ↑0];unfold getAttrByItsOwn;refine wpAny_bind (L2.at (wpAny_bind (wpAny_attempt (wpAny_holding ?_))));unfold callGetattribute;rw[show(expr&&onTheHeap (Value.builtin "BaseException.__getattribute__"))=false from Bool.and_false _,if_neg ↑0];unfold boundAndCalled;rw[PySem.F.excAttr_ValueError.ga.bind];refine wpAny_bind (wpAny_pure ?_);show wpAny _ _ (call (.builtin "BaseException.__getattribute__") [.ref x,.str name t]) _ _ _;refine wpAny_call (codeAny_call_builtin PySem.F.excAttr_ValueError.ga.plain PySem.F.entry_bexc_ga ?_);refine @check_slot (model prog w) _ _ ⟨hp,g,d,t+1,os⟩ "BaseException.__getattribute__" "BaseException" "__getattribute__" (.ref x) [.str name t] [] _ ↑1 ↑1 L4 (PySem.F.args_bexc_ga (.ref x) (.str name t)) ?_;unfold Builtin.«object.__getattribute__»;refine wpAny_bind (wpAny_pure ?_);refine wpAny_bind (wpAny_pure ?_);refine wpAny_bind (L0.at (wpAny_bind (L3.at ?_)));refine wpAny_pure ?_;show wpAny _ _ (handedOut v) _ _ _;rw[handedOut_of hv];exact wpAny_pure z
end
end
end XM
namespace L2
open PySem PySem.Spec PyProof.Rows
def j8(e C:Addr)(dx:Option Addr):HO:=.ext λh=>∃(vs:Array Value)(sl:Array (Option Value)),h.get? e=some ⟨.ref C,dx,.fields vs,sl⟩
def eR(e C:Addr)(dx:Option Addr):HO:=.ext λh=>∃(vs:Array Value)(sl:Array (Option Value)),h.get? e=some ⟨.ref C,dx,.fields vs,sl⟩/\vs[1]?=some .none
def xB(d:Addr)(fs:List (Str×V)):HO:=.ext λh=>∃mA,h.Ns1 d mA/\(∀f,d6 (fs.lookup f) (mA f))/\PySem.Within mA (fs.map (·.1))/\fs.length<=1000
section
variable{P:Program}{w:World}{H:Hp}{h:Heap}{e C d:Addr}{dx:Option Addr}{vs:Array Value}{sl:Array (Option Value)}{fs:List (Str×V)}{mA:Str->Option Value}
theorem Dz(q:h.get? e=some ⟨.ref C,dx,.fields vs,sl⟩):bK P w H h e (j8 e C dx):=
 ⟨⟨vs,sl,q⟩,⟨_,q⟩,λ_ _ ⟨vs,sl,z⟩ k=>⟨vs,sl,k _ z⟩⟩
theorem Di(q:h.get? e=some ⟨.ref C,dx,.fields vs,sl⟩)(q1:vs[1]?=some .none):bK P w H h e (eR e C dx):=
 ⟨⟨vs,sl,q,q1⟩,⟨_,q⟩,λ_ _ ⟨vs,sl,z,z1⟩ k=>⟨vs,sl,k _ z,z1⟩⟩
theorem FV(n:h.Ns1 d mA)(r:∀f,d6 (fs.lookup f) (mA f))(wi:PySem.Within mA (fs.map (·.1)))(l:fs.length<=1000):bK P w H h d (xB d fs):=
 ⟨⟨mA,n,r,wi,l⟩,let⟨o,_,_,q,_⟩:=n;⟨o,q⟩,λ_ _ ⟨mA,n,r⟩ k=>⟨mA,n.at k,r⟩⟩
theorem rq(aZ:gy P w H h)(q:H e=some (j8 e C dx)):∃vs sl,h.get? e=some ⟨.ref C,dx,.fields vs,sl⟩:=(aZ e _ q).1
theorem qG(aZ:gy P w H h)(q:H e=some (eR e C dx)):∃vs sl,h.get? e=some ⟨.ref C,dx,.fields vs,sl⟩/\vs[1]?=some .none:=(aZ e _ q).1
theorem C4(aZ:gy P w H h)(q:H d=some (xB d fs)):∃mA,h.Ns1 d mA/\(∀f,d6 (fs.lookup f) (mA f))/\PySem.Within mA (fs.map (·.1))/\fs.length<=1000:=(aZ d _ q).1
end
def DS(H:Hp)(e:Addr):Prop:=∃C dx,H e=some (j8 e C dx)
section
variable{X:Cx}{σ:St}{H:Hp}{s:Shared}{e:Addr}{h':Heap}
theorem Inv.flew(I:Inv X [] σ H s)(hpn:X.pn=[])(he:DS H e)(fw:Flew H X.oq.heap.objs.size (k7 X.stack) e s.heap h'):Inv X [] σ H {s with heap:=h'}:=by
 obtain⟨C,dx,he⟩:=he;obtain⟨vs,sl,hge⟩:=rq I.aZ he
 let isR:Addr->Bool:=λb=>match s.heap.get? b with|some o=>(match o.data with| .fields _=>true|_=>false)|none=>false
 let ch:List Addr:=(List.range s.heap.objs.size).filter λb=>decide (X.oq.heap.objs.size<=b)&&((H b).isNone&&isR b)
 have mem:∀b∈ch,X.oq.heap.objs.size<=b/\H b=none/\∃o ts,s.heap.get? b=some o/\o.data= .fields ts:=λb hb=>by
  have q:=(List.mem_filter.mp hb).2;simp only[Bool.and_eq_true,decide_eq_true_eq,Option.isNone_iff_eq_none] at q;refine⟨q.1,q.2.1,?_⟩;have z:isR b=true:=q.2.2;dsimp only[isR] at z;split at z
  ·rename_i o ho;split at z
   ·rename_i ts hd;exact⟨o,ts,ho,hd⟩
   ·cases z
  ·cases z
 have nmem:∀b o,s.heap.get? b=some o->b∉ch->H b=none->b<X.oq.heap.objs.size\/H b≠none\/∀ts,o.data≠.fields ts:=λb o q hb n=>by
  by_cases h1:X.oq.heap.objs.size<=b
  ·right;right;intro ts hd;apply hb;refine List.mem_filter.mpr ⟨List.mem_range.mpr (Heap.lt_size q),?_⟩;have z:isR b=true:=by dsimp only[isR];rw[q];dsimp only;rw[hd]
   rw[decide_eq_true h1,n,z];rfl
  ·exact .inl (Nat.lt_of_not_le h1)
 have ne:∀b,H b=none->b≠e:=λb n z=>by rw[z,he] at n;cases n
 have inS:∀b,b∈X.fs->b∈k7 X.stack:=λb hb=>by
  rcases I.ok.N4 with z|⟨z,hf⟩
  ·rw[z];exact hb
  ·rw[z];unfold k7;rw[List.filterMap_cons,hf];exact List.mem_cons_of_mem _ hb
 obtain⟨m0,⟨oL,esL,epL,hoL,hdL,rL⟩,_⟩:=id I.loc;have dictL:∀ts,oL.data≠.fields ts:=λts z=>by rw[hdL] at z;cases z
 have locK:∃sl,h'.get? X.env.locals=some {oL with slots:=sl}:=by
  by_cases hb:X.env.locals∈k7 X.stack
  ·exact fw.slot _ _ hoL hb
  ·exact⟨oL.slots,fw.keep _ _ hoL hb (ne _ I.free) (.inr (.inr dictL))⟩
 refine I.step (g':=s.gens) (d':=s.drawn) (t':=s.toks) (ch:=ch) (λb hb=>?_) (λb o h1 h2 h3 q n=>?_) (λb o h1 h2 h3 q n=>fw.slot b o q (inS b h2)) (λ_ _ _ _ n=>n) (λb o _ q=>fw.there b o q)
  (λ_ _ q=>q) (λ_ _ _ q=>q) (λb ps q=>⟨#[],by rw[q];simp⟩) (λm hm=>?_) (λb u q=>?_) I.bare
 ·obtain⟨h1,h2,o,ts,h3,h4⟩:=mem b hb;refine⟨.inr h1,λz=>?_,λx c hc z=>?_,λp hp=>?_⟩
  ·subst z;rw[hoL] at h3;cases h3;exact dictL ts h4
  ·subst z;obtain⟨v,o',q1,q2⟩:=I.cell x c hc;rw[h3] at q1;cases q1;rw[h4] at q2;cases q2
  ·rw[hpn] at hp;exact absurd hp (by simp)
 ·refine fw.keep b o q (λhb=>?_) (ne b n) (nmem b o q h3 n);rcases List.mem_cons.mp (I.yu b hb) with z|z
  ·exact h1 z
  ·exact h2 z
 ·obtain⟨o',es',ep',ho',r'⟩:=hm;rw[hoL] at ho';cases ho';obtain⟨sl,z⟩:=locK;exact⟨_,es',ep',z,r'⟩
 ·have tr:∀c v,H c=some v->c≠e->∀o,s.heap.get? c=some o->h'.get? c=some o:=λc v hc hce o ho=>fw.keep c o ho (λhb=>by rw[I.wa c hb] at hc;cases hc) hce (.inr (.inl (by rw[hc];exact λz=>by cases z)));by_cases hbe:b=e
  ·subst hbe;rw[he] at q;cases q;obtain⟨vs',z⟩:=fw.exc _ hge;exact Dz z
  ·refine(I.aZ b u q).zj (λc v hc r=>?_) (λ_ r=>r) λ_ _ r=>r;rcases hc with z|z
   ·rw[z] at r ⊢;exact tr b u q hbe _ r
   ·refine tr c _ z (λy=>?_) _ r;rw[y,he] at z;cases z
end
def MC(X:Cx)(R:St->Addr->Hp->Prop):Value->Shared->Prop:=λv s'=>∃(e:Addr)(σ:St)(H:Hp),v= .ref e/\Inv X [] σ H s'/\Dm H X.oq.heap.objs.size X.env.locals s'.heap e/\DS H e/\R σ e H
abbrev xw(X:Cx)(R:St->Addr->Hp->Prop):Cx:=X.ki (MC X R)
def iZ(P:Program)(w:World):yz:=λouter H s E v s'=>∃(e:Addr)(H':Hp),v= .ref e/\s'.os=s.os/\AllBare s'.gens/\Un (k7 outer) [] H H' s.heap s'.heap/\gy P w H' s'.heap/\
 eP H' s.heap.objs.size .none s'.heap e/\DS H' e/\E (.ref e) none H'
structure Top(X:Cx):Prop where
 st:X.stack=X.env::X.outer
 fr:X.env.frame=some X.env.locals
 pn:X.pn=[]
section
variable{X:Cx}{R:St->Addr->Hp->Prop}
theorem eP.mono{H:Hp}{n m:Nat}{fl:Value}{h:Heap}{e:Addr}(x:eP H n fl h e)(k:m<=n):eP H m fl h e:=by obtain⟨oe,vs,T,oT,ts,a,b,c,d,r⟩:=x;exact⟨oe,vs,T,oT,ts,a,b,c,Nat.le_trans k d,r⟩
theorem w9(T:Top X):PassesOwn (model X.prog X.w) X.A X.env (MC X R):=by
 rintro v s' ⟨e,σ,H,rfl,I,fl,he,r⟩;have hl:s'.heap.FunFrames X.base (X.env::X.outer):=by have:=I.stack;rw[T.st] at this;exact this
 refine yV (by rw[I.ok.frames,T.st]) hl T.fr fl I.sz (λb hb=>I.aZ.fresh hb) λh1 a1 f1=>?_;have I1:=I.flew T.pn he (by rw[T.st];exact f1);obtain⟨oe,vs,Tb,oT,ts,q1,q2,q3,q4⟩:=id a1;show wpAny _ _ (do
  if(<-field (.ref e) 1)==.none then unsupported "frame.own-activation:exception-without-traceback"
  setFlight (.ref e) X.env.frame) _ _ _
 refine wpAny_bind (wpAny_field (s:={s' with heap:=h1}) q1 q2 q3 ?_);rw[if_neg (show ¬((Value.ref Tb==Value.none)=true) from by simp),T.fr];refine x8 (s:={s' with heap:=h1}) (fs:=k7 (X.env::X.outer)) a1 (λh2 a2 f2=>?_) (eP.IF (fl:=.none) (fs:=[]) hl f1) (some X.env.locals) rfl;have I2:=Inv.flew (s:={s' with heap:=h1}) I1 T.pn he (by rw[T.st];exact f2);exact⟨e,σ,H,rfl,I2,.inr (.inr a2),he,r⟩
theorem wg{E:XK}{UI:List (Addr×Obj)}{σ:St}{H:Hp}{s s':Shared}{v:Value}(I:Inv X UI σ H s)(hq:iZ X.prog X.w X.stack H s E v s')(hE:∀e H',E (.ref e) none H'->R σ e H'):MC X R v s':=by obtain⟨e,H',rfl,os,bare,un,aZ,fl,he,z⟩:=hq;have I1:=I.Mb os un aZ bare (ch:=[]) (λb z=>absurd z (by simp));exact⟨e,σ,H',rfl,I1.ql (pins':=[]) (λp hp=>absurd hp (by simp)),.inr (.inl (fl.mono I.sz)),he,hE e H' z⟩
theorem vA{E:XK}(hE:∀σ e H',E (.ref e) none H'->R σ e H'):Passes (iZ X.prog X.w) (xw X R) E:=λUI σ H s v s' I hq=>wg I.dM hq (hE σ)
end
section
variable{P:Program}{w:World}{K:Frag}{mg:Str->Option Value}{base:Heap}
theorem Fl{N:List Str}{qual:Str}{scope:Scope}{f:Addr}{cd:Value}{A:Around}{outer:List Env}{s:Shared}{H:Hp}{E:XK}{R:St->Addr->Hp->Prop}{v:Value}{s':Shared}(h:MC (iO (iZ P w) P w K mg base N qual scope f cd A outer s H E) R v s')(hR:∀σ e H',R σ e H'->E (.ref e) none H'):(iO (iZ P w) P w K mg base N qual scope f cd A outer s H E).xe v s':=by
 obtain⟨e,σ,H',rfl,I,fl,he,r⟩:=h;have T:Top (iO (iZ P w) P w K mg base N qual scope f cd A outer s H E):=⟨rfl,rfl,rfl⟩
 refine Ep (base:=base) (L:=s.heap.objs.size) (env:=envOfC qual scope s.heap.objs.size f cd) (outer:=outer) I.ok.frames I.stack rfl fl I.sz (λb hb=>I.aZ.fresh hb) λh1 a1 f1=>?_;have I1:=I.flew T.pn he f1;exact⟨e,H',rfl,I1.os,I1.bare,I1.base,I1.aZ,a1,he,hR σ e H' r⟩
theorem jC.vH{x qual:Str}{st:Stmt}{f:Addr}{fd:FuncData}{N ps:List Str}{k:Nat}{sp:Sp}(F:jC K x qual st f fd)(S:ax N ps (aq st))(len:∀vs H Q E,sp vs H Q E->vs.length=ps.length)(hbody:∀(UJ:Value)(A:Around)(outer:List Env)(s:Shared)(H:Hp)(vs:List V)(Q:VK)(E:XK),bC k (A.deeper (envOfC qual (aq st) s.heap.objs.size f UJ))->sp vs H Q E->
   ∃t,so (xw (iO (iZ P w) P w K mg base N qual (aq st) f UJ A outer s H E) λ_ e H'=>E (.ref e) none H') (bX st) t/\t {nx:=λ_ H'=>Q .bF H',rt:=Q} (start N vs) H):cn P w K mg base (iZ P w) (k+1) f fd ps sp:=by
 obtain⟨oc,od,kV,doc,pm,an,UJ,ct,osl,rfl,lk,hcd⟩:=F.ex;refine LM lk hcd S len λA outer s H vs Q E hr hsp=>?_;obtain⟨t,h,q⟩:=hbody UJ A outer s H vs Q E hr hsp;refine⟨t,λUI s1 σ H1 D I hw=>wpAny_mono (h UI s1 σ H1 D (I.ki _) hw) (λ_ _ z=>z.dM) λv s2 z=>Fl z λ_ _ _ y=>y,q⟩
end
structure tP(K:Frag)(C:Addr):Prop where
 sa:PySem.W.findIn K (.ref C) "__setattr__"=some (some (.builtin "object.__setattr__"))
 po:∃cd,PySem.W.clsIn K C=some cd/\XM.dW cd.mro=true
 hd:PySem.W.hasDictIn K C=true
 ga:PySem.W.findIn K (.ref C) "__getattribute__"=some (some (.builtin "BaseException.__getattribute__"))
 gt:PySem.W.findIn K (.ref C) "__getattr__"=some none
 sub:PySem.W.mroIn K C (.type "BaseException")=some true
structure Ip(K:Frag)(C f:Addr):Prop where
 at_:∃(nm q:Str)(N:Addr)(bs bm:List Value)(hdct:Bool)(sn:List Str)(sub:List Value)(ab:Bool)(col:Option Bool)(dd:Option Addr)(k0 k1 k2 k3 k5:Option Value),
  K.lookup C=some (excClassObj nm q C N bs bm hdct sn sub ab col dd k0 k1 k2 k3 k5 "Exception.__new__")/\XM.Line "Exception" bm
 init:PySem.W.findIn K (.ref C) "__init__"=some (some (.ref f))
 fn:PySem.W.isFn K (.ref f)=true
 kp:PySem.W.keepIn K (.ref C)=true
section
variable{X:Cx}{UI:List (Addr×Obj)}{σ:St}{H:Hp}{s:Shared}{e C d:Addr}{fs:List (Str×V)}{f:Str}{A:Around}{E:Value->Shared->Prop}
theorem Bq{y:V}{u:Value}{Q:Unit->Shared->Prop}(I:Inv X UI σ H s)(he:H e=some (eR e C none))(c:tP X.K C)(n:aE X.K C f)(ry:RelV y u)(h:∀d s',H d=none->Inv X UI σ (upd (upd H d (xB d [(f,y)])) e (eR e C (some d))) s'->Q () s'):wpAny (model X.prog X.w) A (setAttr (.ref e) f u) Q E s:=by
 obtain⟨vs,sl,q,q1⟩:=qG I.aZ he;obtain⟨cd0,cd1,cd2⟩:=c.po;refine XM.EA I.dZ q c.sa cd1 cd2 n.F9 c.hd λh' n1 g1 kp=>?_;have hf:H s.heap.objs.size=none:=I.aZ.fresh (Nat.le_refl _);have hne:e≠s.heap.objs.size:=Nat.ne_of_lt (Heap.lt_size q);refine h s.heap.objs.size _ hf ?_;have u1:Un X.fs [] H (upd H s.heap.objs.size (xB s.heap.objs.size [(f,y)])) s.heap (s.heap):=Un.laid (λ_ _ z=>z) (Nat.le_refl _) hf;have hmu:Pf (upd H s.heap.objs.size (xB s.heap.objs.size [(f,y)]) e):=by rw[ah hne,he];exact True.intro
 have u2:Un X.fs [] (upd H s.heap.objs.size (xB s.heap.objs.size [(f,y)])) (upd (upd H s.heap.objs.size (xB s.heap.objs.size [(f,y)])) e (eR e C (some s.heap.objs.size))) s.heap h':=
  Un.write hmu (.inl rfl) (λb o hb z=>kp b o hb z) ⟨_,g1⟩
 have aZ:gy X.prog X.w (upd (upd H s.heap.objs.size (xB s.heap.objs.size [(f,y)])) e (eR e C (some s.heap.objs.size))) h':=λb o z=>by
  by_cases hb:b=e
  ·subst hb;rw[ag] at z;cases z;exact Di g1 q1
  ·rw[ah hb] at z;by_cases hb2:b=s.heap.objs.size
   ·subst hb2;rw[ag] at z;cases z;refine FV n1 (λg=>?_) (λg hg=>?_) (by simp)
    ·show d6 (List.lookup g [(f,y)]) (if g=f then some u else none);by_cases gf:g=f
     ·subst gf;simp only[List.lookup,beq_self_eq_true,if_true];exact ry
     ·simp only[List.lookup,beq_eq_false_iff_ne.mpr gf,if_neg gf];trivial
    ·by_cases gf:g=f
     ·subst gf;simp
     ·simp[gf] at hg
   ·rw[ah hb2] at z;refine(I.aZ b o z).zj (λc v hc r=>kp c v ?_ r) (λc r=>?_) λc xs r=>?_
    ·rcases hc with y|y
     ·rw[y];exact hb
     ·exact λw'=>by rw[w',he] at y;cases y
    ·rw[ah (dv r he (by intro w';cases w')),ah (au r hf)];exact r
    ·rw[ah (dv r he (by intro w';cases w')),ah (au r hf)];exact r
 exact I.un (t':=s.toks+2) (u1.trans u2) aZ
theorem EL{y:V}{u:Value}{Q:Unit->Shared->Prop}(I:Inv X UI σ H s)(he:H e=some (eR e C (some d)))(hd:H d=some (xB d fs))(c:tP X.K C)(n:aE X.K C f)(hl:fs.length<1000)(ry:RelV y u)(h:∀s',Inv X UI σ (upd H d (xB d (aW f y fs))) s'->Q () s'):wpAny (model X.prog X.w) A (setAttr (.ref e) f u) Q E s:=by
 obtain⟨vs,sl,q,q1⟩:=qG I.aZ he;obtain⟨mA,n1,r,wi,_⟩:=C4 I.aZ hd;have hz:(fs.map (·.1)).length<=sizeLine:=by rw[List.length_map,sizeLine_eq];omega
 have hne:d≠e:=λz=>by
  subst z;obtain⟨o,_,_,ho,hdt,_⟩:=id n1;rw[q] at ho;cases ho;cases hdt
 obtain⟨cd0,cd1,cd2⟩:=c.po;refine XM.Hq I.dZ q n1 hne c.sa cd1 cd2 n.F9 c.hd wi hz λh' n2 sb=>h _ ?_;have hdo:∃o,h'.get? d=some o:=let⟨o,_,_,e',_⟩:=n2;⟨o,e'⟩;refine I.write (x:=d) (e:=d) (by rw[hd];exact True.intro) (.inl rfl) (λb q hb z=>(sb.2 b hb).trans z) hdo ?_;refine FV n2 (λg=>?_) (λg hg=>?_) (by have:=aF f y fs;omega)
 ·show d6 ((aW f y fs).lookup g) (if g=f then some u else mA g);rw[aA];by_cases q:g=f
  ·rw[if_pos q,if_pos q];exact ry
  ·rw[if_neg q,if_neg q];exact r g
 ·by_cases q:g=f
  ·rw[q];exact(f7 f y fs).1
  ·refine(f7 f y fs).2 g (wi g λz=>hg ?_);show(if g=f then some u else mA g)=none;rw[if_neg q];exact z
theorem SQ{b:Bool}{v:V}{Q:Value->Shared->Prop}(I:Inv X UI σ H s)(he:H e=some (j8 e C (some d)))(hd:H d=some (xB d fs))(c:tP X.K C)(n:aE X.K C f)(l:fs.lookup f=some v)(h:∀u s',Inv X UI σ H s'->RelV v u->Q u s'):wpAny (model X.prog X.w) A (getAttr (.ref e) f b) Q E s:=by
 obtain⟨vs,sl,q⟩:=rq I.aZ he;obtain⟨mA,n1,r,_,_⟩:=C4 I.aZ hd;obtain⟨u,hu,ru⟩:=d6.some_of (v:=v) (o:=mA f) (by rw[<-l];exact r f);obtain⟨od,ho,hl⟩:=vi n1;have J:PySem.W.InstAt s.heap e ⟨.ref C,some d,.fields vs,sl⟩ C (some od):=⟨q,rfl,rfl,ho⟩
 exact XM.JK I.dZ J c.ga c.gt c.sub (PySem.W.findObj_own c.hd n rfl (by rw[hl,hu])) (uR ru) (h u _ (I.tok _) ru)
end
def Q_(K:Frag)(ta tv:TE)(f:Str):TS:=λD σ H=>tv σ H λy H1=>ta σ H1 λx H2=>∃e C,x= .ref e/\tP K C/\aE K C f/\
  ((H2 e=some (eR e C none)/\∀d,H2 d=none->D.nx σ (upd (upd H2 d (xB d [(f,y)])) e (eR e C (some d))))\/
   ∃d fs,H2 e=some (eR e C (some d))/\H2 d=some (xB d fs)/\fs.length<1000/\D.nx σ (upd H2 d (xB d (aW f y fs))))
def Cw(K:Frag)(ta:TE)(f:Str):TE:=λσ H Q=>ta σ H λx H1=>∃e C d fs v,x= .ref e/\H1 e=some (j8 e C (some d))/\H1 d=some (xB d fs)/\tP K C/\aE K C f/\fs.lookup f=some v/\Q v H1
section
variable{X:Cx}{o e value:Expr}{f:Str}{pos pos' apos:Pos}{ta tv:TE}
theorem we(ha:PE X o ta)(hv:PE X value tv)(hs:swapsWith value (some (.Attribute o f pos')) pos.line X.env=pure false):PS X (.Assign [.Attribute o f pos'] value pos) (Q_ X.K ta tv f):=by
 intro UI s σ H D I h;refine plainObj_wpAny_Assign_Attribute (br (hv UI s σ H _ I h) λu s1 ⟨y,H1,I1,ry,q⟩=>br (ha UI s1 σ H1 _ I1 q) λov s2 ⟨x,H2,I2,rx,a,C,ex,c,n,q2⟩=>?_) hs;subst ex;obtain rfl:ov=Value.ref a:=rx;rcases q2 with⟨z1,z2⟩|⟨d,fs,z1,z2,z3,z4⟩
 ·exact Bq I2 z1 c n ry λd s3 hd I3=>⟨σ,_,I3,z2 d hd⟩
 ·exact EL I2 z1 z2 c n z3 ry λs3 I3=>⟨σ,_,I3,z4⟩
theorem wO(he:PE X e ta)(hb:attributeBase e f X.env (eval e X.env)=eval e X.env):PE X (.Attribute e f pos) (Cw X.K ta f):=by intro UI s σ H Q I h;refine Dt hb (br (he UI s σ H _ I h) λu s1 ⟨x,H1,I1,rx,a,C,d,fs,v,ex,ea,ed,c,n,l,q⟩=>?_);subst ex;obtain rfl:u=Value.ref a:=rx;exact SQ I1 ea ed c n l λu' s2 I2 ru=>⟨v,H1,I2,ru,q⟩
end
structure F5(K:Frag)(C:Addr)(m:Str)(f:Addr):Prop where
 sp:PySem.W.specialIn K (.ref C) "__getattribute__"=some (some (.builtin "type.__getattribute__"))
 rd:PySem.W.readsIn K C (.type "type")=true
 at_:PySem.W.findCls K (.ref C) (.type "type") m=some (.val (.ref f))
 kp:PySem.W.keepIn K (.ref f)=true
section
variable{X:Cx}{CX:yz}{k:Nat}{f C:Addr}{fd:FuncData}{ps:List Str}{sp:Sp}{dvs:List V}{ds:List Value}{E:XK}{x m:Str}{p pos apos:Pos}{e o:Expr}{es:List Expr}{ta:TE}{t:TA}
theorem vR{pl:Sem Bool}(hg:Gl X x)(hm:X.mg x=some (.ref C))(c:F5 X.K C m f)(F:cn X.prog X.w X.K X.mg X.base CX k f fd ps sp)(hr:bC k X.A)(hb:Binds X.K fd ps ds)(hd:Vals dvs ds)(hx:Passes CX X E)(ha:PA X (e::es) t)(hdb:(x==("__debug__":Str))=false:=by decide)(hst:starEach (e::es) X.env=(false,eval e X.env)::starEach es X.env:=by rfl)(hpl:(backTo pos (starEach es X.env)).any (·.1)=false:=by rfl)(ht:eval (.Call (.Attribute (.Name x p) m apos) (e::es) [] pos) X.env=(do
   let ov<-eval (.Name x p) X.env
   standAt apos.atName
   let(f,first)<-holding [ov] (getMethod ov m pl)
   callWith pos f first (backTo pos (starEach (e::es) X.env)) (backToKw pos (keywordEach [] X.env))):=by rfl):
  PE X (.Call (.Attribute (.Name x p) m apos) (e::es) [] pos) (iK sp dvs E t):=by
 intro UI s σ H Q I h;refine PySem.W.methodCall_KW (pl:=pl) (dD I hg hm ?_ hdb) ht;refine PySem.W.method_cls I.dZ c.sp (PySem.W.cls_value I.dZ c.rd c.at_ rfl ?_);have I1:=I.tok (s.toks+1);refine PySem.W.callWith_K (first:=[]) (h₀:=X.base) I.ok.mod.EJ c.kp (br (ha pos UI _ σ H _ I1 h) λus s2 ⟨vs,H2,I2,r,q2⟩=>⟨I2.dZ,?_⟩) hst hpl;exact m7 (us:=us) (vs:=vs) F hr hb hd hx I2 r q2
def xa(C:Addr)(sp:Sp)(dvs:List V)(E:XK)(t:TA):TE:=λσ H Q=>t σ H λvs H1=>vs.length<=1000/\∀e,H1 e=none->sp (.ref e::(vs++dvs)) (upd H1 e (eR e C none)) (λv H2=>v= .bF/\Q (.ref e) H2) E
theorem vn{UI:List (Addr×Obj)}{σ:St}{H:Hp}{s:Shared}{Q:VK}{us:List Value}{vs:List V}(M:Ip X.K C f)(F:cn X.prog X.w X.K X.mg X.base CX k f fd ps sp)(hr:bC (k+1) X.A)(hb:Binds X.K fd ps ds)(hd:Vals dvs ds)(hx:Passes CX X E)(I:Inv X UI σ H s)(r:Vals vs us)(hl:vs.length<=1000)(h:∀e,H e=none->sp (.ref e::(vs++dvs)) (upd H e (eR e C none)) (λv H2=>v= .bF/\Q (.ref e) H2) E):wpAny (model X.prog X.w) X.A (call (.ref C) us) (EP X UI σ Q) X.xe s:=by
 have hq:=h (s.heap.objs.size+1) (I.aZ.fresh (Nat.le_succ _));obtain⟨nm,q,N,bs,bm,hdct,sn,sub,ab,col,dd,k0,k1,k2,k3,k5,hC,ln⟩:=M.at_;obtain⟨oI,hoI,hoc⟩:∃oI,X.K.lookup f=some oI/\oI.cls= .type "function":=by
  have z:=beq_iff_eq.mp M.fn;obtain⟨o,ho,z⟩:=Option.map_eq_some_iff.mp z;exact⟨o,ho,z⟩
 have hu:us.length<=sizeLine:=by rw[<-r.length,sizeLine_eq];omega
 have g1:((s.heap.push {cls:=.type "tuple",data:=.seq us.toArray}).push {cls:=.ref C,data:=.fields #[.ref s.heap.objs.size,.none,.none,.none,.bool false,.none]}).get? (s.heap.objs.size+1)=
   some ⟨.ref C,none,.fields #[.ref s.heap.objs.size,.none,.none,.none,.bool false,.none],#[]⟩:=by
  have:=Heap.get?_push_size (s.heap.push {cls:=.type "tuple",data:=.seq us.toArray}) (o:={cls:=.ref C,data:=.fields #[.ref s.heap.objs.size,.none,.none,.none,.bool false,.none]}) rfl
  rwa [Heap.size_push] at this
 have I2:Inv X UI σ (upd H (s.heap.objs.size+1) (eR (s.heap.objs.size+1) C none)) {s with heap:=(s.heap.push {cls:=.type "tuple",data:=.seq us.toArray}).push {cls:=.ref C,data:=.fields #[.ref s.heap.objs.size,.none,.none,.none,.bool false,.none]}}:=
  I.laid (t':=s.toks) (λb u z=>Heap.get?_push_of_some _ (Heap.get?_push_of_some _ z)) (Nat.le_succ _) (Di g1 rfl)
 have r2:Vals (V.ref (s.heap.objs.size+1)::(vs++dvs)) (Value.ref (s.heap.objs.size+1)::(us++ds)):=.cons rfl (r.append hd);have hl2:(Value.ref (s.heap.objs.size+1)::us++ds).length=ps.length:=by
  have e:=r2.length;rw[F.len _ _ _ _ hq] at e;exact e.symm
 obtain⟨hh,g,d,t,os⟩:=s;refine XM.made PySem.F.excBase_Exception ln (I.dZ _ _ hC) (PySem.W.looks_findIn I.dZ M.init) (I.dZ _ _ hoI) hoc hu ?_;refine wpAny_call (codeAny_mono (F.run _ X.stack _ _ ⟨Value.ref (hh.objs.size+1)::us,[]⟩ (Value.ref (hh.objs.size+1)::(us++ds)) _ _ E (hr.make C us [])
  (I2.EB.make C us []) (hb _ (Value.ref (hh.objs.size+1)::us) I2.dZ hl2) r2 hq) λr s' hq'=>?_)
 cases r with
 |error e=>exact hx UI σ _ _ e s' I2 hq'
 |ok fl=>
  cases fl with
  |ret u=>
   obtain⟨v,H',I3,rv,ev,q3⟩:=I2.after hq';subst ev;exact⟨rv,⟨V.ref (hh.objs.size+1),H',I3,rfl,q3⟩⟩
  |next=>exact False.elim hq'
  |brk=>exact False.elim hq'
  |cont=>exact False.elim hq'
theorem Gw(M:Ip X.K C f)(F:cn X.prog X.w X.K X.mg X.base CX k f fd ps sp)(hr:bC (k+1) X.A)(hg:Gl X x)(hm:X.mg x=some (.ref C))(hb:Binds X.K fd ps ds)(hd:Vals dvs ds)(hx:Passes CX X E)(ha:PA X (e::es) t)(hdb:(x==("__debug__":Str))=false:=by decide)(he:starEach (e::es) X.env=(false,eval e X.env)::starEach es X.env:=by rfl)(hpl:(backTo pos (starEach es X.env)).any (·.1)=false:=by rfl):
  PE X (.Call (.Name x p) (e::es) [] pos) (xa C sp dvs E t):=by
 intro UI s σ H Q I h;refine wpAny_Call_Name_kw (dD I hg hm ?_ hdb);refine PySem.W.callWith_K (h₀:=X.base) I.ok.mod.EJ M.kp (br (ha pos UI s σ H _ I h) λus s1 ⟨vs,H1,I1,r,hl,q⟩=>⟨I1.dZ,?_⟩) he hpl;exact vn M F hr hb hd hx I1 r hl q
theorem EH(M:Ip X.K C f)(F:cn X.prog X.w X.K X.mg X.base CX k f fd ps sp)(hr:bC (k+1) X.A)(hg:Gl X x)(hm:X.mg x=some (.ref C))(hb:Binds X.K fd ps ds)(hd:Vals dvs ds)(hx:Passes CX X E)(hdb:(x==("__debug__":Str))=false:=by decide):PE X (.Call (.Name x p) [] [] pos) (xa C sp dvs E d4):=by intro UI s σ H Q I h;refine wpAny_Call_Name_kw (dD I hg hm ?_ hdb);exact PySem.W.callWith_K0 I.dZ M.kp (vn (us:=[]) M F hr hb hd hx I .nil h.1 h.2)
end
def N'(K:Frag)(R:St->Addr->Hp->Prop)(te:TE):TS:=λ_ σ H=>te σ H λx H1=>∃e C f dx,x= .ref e/\H1 e=some (eR e C dx)/\Ip K C f/\R σ e (upd H1 e (j8 e C dx))
theorem cj{X:Cx}{R:St->Addr->Hp->Prop}{e:Expr}{te:TE}{pos:Pos}(hh:X.A.handled=none)(he:PE (xw X R) e te):PS (xw X R) (.Raise (some e) none pos) (N' X.K R te):=by
 intro UI s σ H D I h;rw[arm_exec_Raise];refine wpAny_bind (wpAny_standAt ?_);show wpAny _ _ (raiseStmt _ (some (do let v<-eval e X.env;standAt pos;pure v)) none) _ _ _;have key:wpAny (model X.prog X.w) X.A (do let v<-eval e X.env;standAt pos;pure v) (λv s1=>∃(a C:Addr)(f:Addr)(dx:Option Addr)(H1:Hp),v= .ref a/\Inv X UI σ H1 s1/\H1 a=some (eR a C dx)/\Ip X.K C f/\R σ a (upd H1 a (j8 a C dx))) (MC X R) s:=by
  refine wpAny_bind (br (he UI s σ H _ I h) λu s1 ⟨x,H1,I1,rx,a,C,f,dx,ex,h1,h2,h3⟩=>wpAny_bind (wpAny_standAt (wpAny_pure ?_)));subst ex;obtain rfl:u=Value.ref a:=rx;exact⟨a,C,f,dx,H1,rfl,I1.dM,h1,h2,h3⟩
 unfold raiseStmt;refine wpAny_bind (wpAny_mono key (λv s1 z=>?_) λ_ _ z=>z);obtain⟨a,C,f,dx,H1,rfl,I1,h1,M,h3⟩:=z;obtain⟨nm,q,N,bs,bm,hdct,sn,sub,ab,col,dd,k0,k1,k2,k3,k5,hC,ln⟩:=M.at_;obtain⟨vs,sl,hge,hv1⟩:=qG I1.aZ h1;have r0:=XM.raises (M:=model X.prog X.w) (A:=X.A) (E:=MC X R) (s:=s1) (env:=X.env) (x:=pure (.ref a)) (Q:=SP (xw X R) UI D) (C:=C) (nm:=nm) (q:=q) (N:=N) (bs:=bs) (bm:=bm) (hdct:=hdct) (sn:=sn) (sub:=sub) (ab:=ab) (col:=col) (dd:=dd) (k0:=k0) (k1:=k1) (k2:=k2) (k3:=k3) (k5:=k5) (newId:="Exception.__new__") ln.base hh
  (wpAny_pure ⟨a,_,vs,rfl,I1.dZ _ _ hC,hge,rfl,rfl,hv1,?_⟩)
 ·exact r0
 ·have I2:Inv X UI σ (upd H1 a (j8 a C dx)) s1:=I1.write (x:=a) (e:=a) (h':=s1.heap) (t':=s1.toks) (by rw[h1];exact True.intro) (.inl rfl) (λb u _ z=>z) ⟨_,hge⟩ (Dz hge);exact⟨a,σ,_,rfl,I2.ql (pins':=[]) (λp hp=>absurd hp (by simp)),.inl ⟨_,vs,hge,rfl,hv1⟩,⟨C,dx,ag⟩,h3⟩
abbrev sx(X:Cx)(e:Addr):Cx:={X with A:=X.A.mark (some (.ref e)),calm:=false,xe:=λ_ _=>False}
section
variable{X:Cx}{UI:List (Addr×Obj)}{σ:St}{H:Hp}{s:Shared}{e:Addr}
theorem Inv.sx(I:Inv X UI σ H s)(e:Addr):Inv (sx X e) UI σ H s:=
 ⟨⟨I.ok.mod,I.ok.kind,I.ok.glob,I.ok.blt,I.ok.above,I.ok.inj,I.ok.has,I.ok.MG,(λz=>by cases z),I.ok.frames,I.ok.N4,I.ok.Pj,I.ok.bs,I.ok.FC,I.ok.Cb,I.ok.Bl,I.ok.jq,I.ok.Jz⟩,
  I.os,I.bare,I.base,I.loc,I.cell,I.free,I.fz,I.pin,I.aZ,I.len⟩
theorem Inv.Ts(I:Inv (L2.sx X e) UI σ H s)(ok:X.Ok):Inv X UI σ H s:=⟨ok,I.os,I.bare,I.base,I.loc,I.cell,I.free,I.fz,I.pin,I.aZ,I.len⟩
theorem Inv.Qb{m':Str->Option Value}{h':Heap}{t':Nat}(I:Inv X UI σ H s)(hn:h'.Ns X.env.locals m')(hs:Heap.SameBut X.env.locals s.heap h'):Inv X UI (σ.map λ_=>none) H {s with heap:=h',toks:=t'}:=by
 have neL:∀b o,X.oq.heap.get? b=some o->b≠X.env.locals:=λb o q=>Nat.ne_of_lt (Nat.lt_of_lt_of_le (Heap.lt_size q) I.ok.above);refine⟨I.ok,I.os,I.bare,⟨λb o q n hb hx=>(hs.2 b (neL b o q)).trans (I.base.keep b o q n hb hx),λb o q n hb hx=>?_,I.base.free,λb o q hx=>?_,I.base.pz,I.base.nY,I.base.pE⟩,
  ⟨m',hn,λi x v _ e2 _=>?_⟩,λy c q=>?_,I.free,I.fz,λp hp=>?_,λb u q=>?_,by rw[List.length_map];exact I.len⟩
 ·obtain⟨sl,z⟩:=I.base.slot b o q n hb hx;exact⟨sl,(hs.2 b (neL b o q)).trans z⟩
 ·obtain⟨o',z⟩:=I.base.there b o q hx;exact⟨o',(hs.2 b (neL b o q)).trans z⟩
 ·rw[List.getElem?_map] at e2;cases z:σ[i]? with
  |none=>rw[z] at e2;cases e2
  |some y=>rw[z] at e2;cases e2
 ·obtain⟨w',z⟩:=I.cell y c q;exact⟨w',z.sameBut hs (I.LG y c q)⟩
 ·obtain⟨q,n,ne,nf,d⟩:=I.pin p hp;exact⟨(hs.2 p.1 ne).trans q,n,ne,nf,d⟩
 ·refine(I.aZ b u q).zj (λc v hc r=>(hs.2 c λz=>?_).trans r) (λ_ r=>r) λ_ _ r=>r;rcases hc with y|y
  ·rw[<-y,z,I.free] at q;cases q
  ·rw[z,I.free] at y;cases y
end
def Sn(X:Cx)(st:Stmt)(t:TS):Prop:=∀(s:Shared)(σ:St)(H:Hp)(D:Ends),Inv X [] σ H s->t D σ H->wpAny (model X.prog X.w) X.A (exec st X.env) (SP X [] D) X.xe s
def JD(X:Cx)(st:List Stmt)(t:TS):Prop:=∀(s:Shared)(σ:St)(H:Hp)(D:Ends),Inv X [] σ H s->t D σ H->wpAny (model X.prog X.w) X.A (execs st X.env) (SP X [] D) X.xe s
section
variable{X:Cx}{st:Stmt}{rest:List Stmt}{t u:TS}
theorem PS.R'(h:PS X st t):Sn X st t:=λs σ H D I q=>h [] s σ H D I q
theorem so.R'(h:so X rest t):JD X rest t:=λs σ H D I q=>h [] s σ H D I q
theorem mv(h1:Sn X st t)(h2:JD X rest u):JD X (st::rest) (Cd t u):=by
 intro s σ H D I h;refine wpAny_execs_cons (br (h1 s σ H {D with nx:=u D} I h) λf s1 q=>?_);cases f with
 |next=>
  obtain⟨σ',H',I',q⟩:=q;exact h2 s1 σ' H' D I' q
 |ret v=>exact q
 |brk=>exact q
 |cont=>exact q
end
theorem jC.Ua{P:Program}{w:World}{K:Frag}{mg:Str->Option Value}{base:Heap}{x qual:Str}{st:Stmt}{f:Addr}{fd:FuncData}{N ps:List Str}{k:Nat}{sp:Sp}(F:jC K x qual st f fd)(S:ax N ps (aq st))(len:∀vs H Q E,sp vs H Q E->vs.length=ps.length)(hbody:∀(UJ:Value)(A:Around)(outer:List Env)(s:Shared)(H:Hp)(vs:List V)(Q:VK)(E:XK),bC k (A.deeper (envOfC qual (aq st) s.heap.objs.size f UJ))->sp vs H Q E->
   ∃t,JD (iO bh P w K mg base N qual (aq st) f UJ A outer s H E).Md (bX st) t/\t {nx:=λ_ H'=>Q .bF H',rt:=Q} (start N vs) H):cn P w K mg base bh (k+1) f fd ps sp:=by
 obtain⟨oc,od,kV,doc,pm,an,UJ,ct,osl,rfl,lk,hcd⟩:=F.ex;refine⟨len,λA outer s H args us vs Q E hr e0 hb r hsp=>?_⟩;have KX:K.In s.heap:=e0.mod.EJ.keeps λb o e=>(e0.bs b o e).1;have lim:s.heap.NoLimit:=e0.mod.nolimit.keeps λb o e=>(e0.bs b o e).1;refine codeAny_call_function hr.depth (KX _ _ lk) rfl S.co S.gen rfl (PySem.W.codeRec_of KX hcd) (hb _ _ _ _ ?_);refine wpAny_newFunctionEnv_cells S.kind (λ⟨n,v⟩ hy=>?_) λenv he s1 x=>?_
 ·rcases S.par n (List.of_mem_zip hy).1 with q|q
  ·exact .inl q
  ·exact .inr ⟨q,PySem.W.cellsFrom_some _ _ _ (.inl q)⟩
 ·subst he;refine⟨lim.keeps x.toInCall.keep,codeAny_func ?_⟩;obtain⟨t,ht,hq⟩:=hbody UJ A outer s H vs Q E (hr.deeper _) hsp;have I:Inv (iO bh P w K mg base N qual (aq st) f UJ A outer s H E) [] (start N vs) H s1:=mY S hr.hd e0 (len _ _ _ _ hsp) r x;refine wpAny_mono (ht s1 (start N vs) H _ (I.ki _) hq) (λfl s' hs=>?_) λe s' hs=>hs.elim;have fin:∀{σ':St}{H':Hp}{v:V}{u:Value},Inv (iO bh P w K mg base N qual (aq st) f UJ A outer s H E).Md [] σ' H' s'->RelV v u->Q v H'->CE outer P w H s Q u s':=
   λ{σ' H' v u} J rv q=>⟨v,H',J.os,J.bare,J.base,J.aZ,rv,q⟩
  cases fl with
  |ret u=>
   obtain⟨v,σ',H',J,rv,q⟩:=hs;exact fin J rv q
  |next=>
   obtain⟨σ',H',J,q⟩:=hs;exact fin (v:=V.bF) (u:=Value.none) J rfl q
  |brk=>
   obtain⟨_,_,_,q⟩:=hs;exact False.elim q
  |cont=>
   obtain⟨_,_,_,q⟩:=hs;exact False.elim q
def SK(K:Frag)(R:St->Addr->Hp->Prop)(C0:Addr)(i:Nat)(tb ts:TS):TS:=λD σ H=>tb D σ H/\
 ∀e σ' H',DS H' e->R σ' e H'->(∃C dx,H' e=some (j8 e C dx)/\PySem.W.exmOne K (.ref C) (.ref C0)=some true)/\ts {nx:=λ_ _=>False,rt:=D.rt} (σ'.set i (some (.ref e))) H'
theorem DQ{X:Cx}{R:St->Addr->Hp->Prop}{body suite:List Stmt}{b0:Stmt}{x n:Str}{np hpos pos:Pos}{tb ts:TS}{i:Nat}{C0:Addr}(T:Top X)(hb:so (xw X R) body tb)(hs:∀e,so (sx X e) (b0::suite) ts)(hnd:X.N.Nodup)(hi:X.N[i]?=some n)(hl:X.env.scope.names.lookup n=some .local)(hg:Gl X x)(hm:X.mg x=some (.ref C0))(hdb:(x==("__debug__":Str))=false:=by decide):
  Sn X (.Try body [.ExceptHandler (some (.Name x np)) (some n) (b0::suite) hpos] [] [] pos) (SK X.K R C0 i tb ts):=by
 intro s σ H D I h;obtain⟨h1,h2⟩:=h;refine wpAny_Try_except (wpAny_mono (hb [] s σ H D (I.ki _) h1) (λf s1 q=>?_) λv s1 q=>?_)
 ·have q:=SP.dM q;cases f with
  |next=>exact wpAny_execs_nil q
  |ret v=>exact q
  |brk=>exact q
  |cont=>exact q
 ·obtain⟨e,σ',H',rfl,I1,fl,he,r⟩:=q;obtain⟨⟨C,dx,hC,hx⟩,h3⟩:=h2 e σ' H' he r;have hfr:s1.heap.FunFrames X.base (X.env::X.outer):=by have:=I1.stack;rw[T.st] at this;exact this
  refine Av (by rw[I1.ok.frames,T.st]) hfr T.fr fl I1.sz (λb hb=>I1.aZ.fresh hb) λg2 a2 f2=>?_;have I2:=I1.flew T.pn he (by rw[T.st];exact f2);have I3:=I2.sx e;refine wpAny_handleBy_cons (codeAny_handlers_test ?_) (by intro q;cases q);refine dD (X:=L2.sx X e) I3 hg hm ?_ hdb;obtain⟨vs,sl,hge⟩:=rq I2.aZ hC;have LT:PySem.W.Looks (model X.prog X.w) g2 (typeOf (.ref e)) (⟨.ref C,dx,.fields vs,sl⟩:Obj).cls:=(PySem.W.Looks.ld hge).andThen .now;refine PySem.W.Looks.here (s:={s1 with heap:=g2}) (PySem.W.exm_one I2.dZ LT hx) ?_;refine codeAny_handlers_suite_as ?_;refine x8 (s:={s1 with heap:=g2}) (fs:=k7 (X.env::X.outer)) a2 (λg3 a3 f3=>?_) (eP.IF (fl:=.none) (fs:=[]) hfr f2) none rfl;have I4:=(Inv.flew (s:={s1 with heap:=g2}) I2 T.pn he (by rw[T.st];exact f3)).sx e;refine kQ (X:=L2.sx X e) I4 hnd hi (.inl hl) (v:=.ref e) rfl (λs5 I5=>?_) (.inr hl);refine wpAny_mono (hs e [] s5 _ H' _ I5 h3) (λf s6 q6=>?_) (λ_ _ z=>z.elim);cases f with
  |next=>obtain⟨_,_,_,z⟩:=q6;exact z.elim
  |brk=>obtain⟨_,_,_,z⟩:=q6;exact z.elim
  |cont=>obtain⟨_,_,_,z⟩:=q6;exact z.elim
  |ret u=>
   obtain⟨v,σ6,H6,I6,r6,z6⟩:=q6;obtain⟨m6,hn6,_⟩:=id I6.loc;have hp:(X.env.scope.kind==.class||(X.env.scope.kind==.module&&X.env.locals != X.env.globals))=false:=by rw[I.ok.kind];rfl
   refine wpAny_nameGoes hl hn6 hp λh' m' hn' sb=>?_;exact⟨v,_,H6,((I6.Ts I.ok).Qb hn' sb),r6,z6⟩
abbrev ER(R:St->Addr->Hp->Prop)(σ:St):XK:=λv _ H'=>∃e,v= .ref e/\R σ e H'
def M5(sp:Sp)(R:St->Addr->Hp->Prop)(t:TA):TE:=λσ H Q=>t σ H λvs H1=>sp vs H1 Q (ER R σ)
structure Ok(P:Program)(w:World)(K:Frag)(mg:Str->Option Value)(base:Heap)(CX:yz)(k:Nat)(nm:Str)(ps:List Str)(sp:Sp):Prop where
 ex:∃(f:Addr)(fd:FuncData),cn P w K mg base CX k f fd ps sp/\Binds K fd ps []/\mg nm=some (.ref f)/\PySem.W.keepIn K (.ref f)=true
structure Def(K:Frag)(mg:Str->Option Value)(nm:Str)(st:Stmt)(ps:List Str):Prop where
 ex:∃(f:Addr)(fd:FuncData),jC K nm nm st f fd/\Binds K fd ps []/\mg nm=some (.ref f)
section
variable{P:Program}{w:World}{K:Frag}{mg:Str->Option Value}{base:Heap}{CX:yz}{k j:Nat}{nm:Str}{ps:List Str}{sp sp':Sp}{st:Stmt}
theorem Def.ok(d:Def K mg nm st ps)(h:∀f fd,jC K nm nm st f fd->cn P w K mg base CX k f fd ps sp):Ok P w K mg base CX k nm ps sp:=by obtain⟨f,fd,F,b,m⟩:=d.ex;exact⟨f,fd,h f fd F,b,m,F.kp⟩
end
section
variable{X:Cx}{CX:yz}{k:Nat}{ps:List Str}{sp:Sp}{E:XK}{x:Str}{p pos:Pos}{e:Expr}{es:List Expr}{t:TA}{R:St->Addr->Hp->Prop}
theorem rW(o:Ok X.prog X.w X.K X.mg X.base CX k x ps sp)(hr:bC k X.A)(hx:Passes CX X E)(ha:PA X (e::es) t)(hg:Gl X x:=by rfl)(hdb:(x==("__debug__":Str))=false:=by decide)(he:starEach (e::es) X.env=(false,eval e X.env)::starEach es X.env:=by rfl)(hpl:(backTo pos (starEach es X.env)).any (·.1)=false:=by rfl):PE X (.Call (.Name x p) (e::es) [] pos) (iK sp [] E t):=by obtain⟨f,fd,F,b,m,kp⟩:=o.ex;exact JM F hr hg m kp b .nil hx ha hdb he hpl
theorem aM(o:Ok X.prog X.w X.K X.mg X.base bh k x ps sp)(hr:bC k X.A)(ha:PA X (e::es) t)(hg:Gl X x:=by rfl)(hdb:(x==("__debug__":Str))=false:=by decide)(he:starEach (e::es) X.env=(false,eval e X.env)::starEach es X.env:=by rfl)(hpl:(backTo pos (starEach es X.env)).any (·.1)=false:=by rfl):PE X (.Call (.Name x p) (e::es) [] pos) (iK sp [] E0 t):=
 rW o hr g_ ha hg hdb he hpl
theorem jZ(o:Ok X.prog X.w X.K X.mg X.base (iZ X.prog X.w) k x ps sp)(hr:bC k X.A)(ha:PA (xw X R) (e::es) t)(hg:Gl X x:=by rfl)(hdb:(x==("__debug__":Str))=false:=by decide)(he:starEach (e::es) X.env=(false,eval e X.env)::starEach es X.env:=by rfl)(hpl:(backTo pos (starEach es X.env)).any (·.1)=false:=by rfl):PE (xw X R) (.Call (.Name x p) (e::es) [] pos) (M5 sp R t):=by
 intro UI s σ H Q I h;obtain⟨f,fd,F,hb,m,kp⟩:=o.ex;refine wpAny_Call_Name_kw (dD I hg m ?_ hdb);refine PySem.W.callWith_K (h₀:=X.base) I.ok.mod.EJ kp (br (ha pos UI s σ H _ I h) λus s1 ⟨vs,H1,I1,r,q⟩=>⟨I1.dZ,?_⟩) he hpl;have hl:(us++[]).length=ps.length:=by rw[List.append_nil,<-r.length];exact F.len _ _ _ _ q
 have hb':=hb s1 us I1.dZ hl;rw[List.append_nil] at hb';refine wpAny_call (codeAny_mono (F.run X.A X.stack s1 H1 ⟨us,[]⟩ us vs Q (ER R σ) hr I1.EB hb' r q) λr s' hq=>?_);cases r with
 |error v=>exact wg I1.dM hq λe H' ⟨e',z,y⟩=>by cases z;exact y
 |ok fl=>
  cases fl with
  |ret u=>exact I1.after hq
  |next=>exact False.elim hq
  |brk=>exact False.elim hq
  |cont=>exact False.elim hq
def Oq(X:Cx)(i k:Nat)(ps:List Str)(sp:Sp)(t:TA):TE:=λσ H Q=>∃(f:Addr)(fd:FuncData),σ[i]?=some (some (.ref f))/\cn X.prog X.w X.K X.mg X.base bh k f fd ps sp/\Binds X.K fd ps []/\PySem.W.keepIn X.K (.ref f)=true/\t σ H λvs H1=>sp vs H1 Q E0
theorem FE(i:Nat)(hr:bC k X.A)(ha:PA X (e::es) t)(hN:X.N[i]?=some x:=by rfl)(hv:NC X.env.scope x:=by first|exact Or.inl rfl|exact Or.inr (Or.inl rfl)|exact Or.inr (Or.inr rfl))(hdb:(x==("__debug__":Str))=false:=by decide)(hcd:(x==("__classdict__":Str))=false:=by decide)(he:starEach (e::es) X.env=(false,eval e X.env)::starEach es X.env:=by rfl)(hpl:(backTo pos (starEach es X.env)).any (·.1)=false:=by rfl):
  PE X (.Call (.Name x p) (e::es) [] pos) (Oq X i k ps sp t):=by
 rintro UI s σ H Q I ⟨f,fd,hs,F,hb,kp,h⟩;refine wpAny_Call_Name_kw (br (FD (pos:=p) hN hv hdb hcd UI s σ H (λv H1=>v= .ref f/\H1=H) I ⟨_,hs,rfl,rfl⟩) λu s0 ⟨v,H0,I0,ru,ev,eh⟩=>?_);subst ev;subst eh;obtain rfl:u=Value.ref f:=ru;refine PySem.W.callWith_K (h₀:=X.base) I0.ok.mod.EJ kp (br (ha pos UI s0 σ H0 _ I0 h) λus s1 ⟨vs,H1,I1,r,q⟩=>⟨I1.dZ,?_⟩) he hpl;exact m7 (dvs:=[]) (ds:=[]) F hr hb .nil (g_ (X:=X)) I1 r (by rw[List.append_nil];exact q)
end
def oZ(P:Params):List DictEntry->List Str->Prop
 |[],[]=>True
 |e::r,x::l=>(∃t,e.key= .str x t)/\e.hash=PyData.keyHash P x/\oZ P r l
 |_,_=>False
def oM:List DictEntry->List (Int×Str)->Prop
 |[],[]=>True
 |e::r,x::l=>(∃t,e.key= .int x.1 t)/\e.hash=hashInt x.1/\(∃t,e.val= .str x.2 t)/\oM r l
 |_,_=>False
theorem oZ.lit{P:Params}:∀{es:List DictEntry}{l:List Str},oZ P es l->PySem.W.KeysLit P es
 |[],[],_=>True.intro
 |_::_,x::_,⟨⟨t,h1⟩,h2,r⟩=>⟨⟨x,t,h1,h2⟩,r.lit⟩
theorem oZ.find{P:Params}(x:Str):∀{es:List DictEntry}{l:List Str},oZ P es l->(es.find? λd=>Value.isStrOf x d.key).isSome=decide (x∈l)
 |[],[],_=>by simp
 |e::_,y::l,⟨⟨t,h1⟩,_,r⟩=>by
  rw[List.find?_cons,h1];have q:Value.isStrOf x (.str y t)=decide (x=y):=by
   by_cases z:x=y
   ·subst z;simp[Value.isStrOf]
   ·simp[Value.isStrOf,z,Ne.symm z]
  rw[q];by_cases z:x=y
  ·subst z;simp
  ·rw[decide_eq_false z,r.find x];simp[z]
theorem oM.find(k:Int):∀{es:List DictEntry}{l:List (Int×Str)},oM es l->d6 ((TW.lk l k).map V.str) ((es.find? λd=>Value.isInt k d.key).map (·.val))
 |[],[],_=>True.intro
 |e::_,y::l,⟨⟨t,h1⟩,_,⟨t',h2⟩,r⟩=>by
  have ih:=r.find k;unfold TW.lk at ih ⊢;rw[List.find?_cons,List.find?_cons,h1];have q:Value.isInt k (.int y.1 t)=decide (y.1=k):=by
   by_cases z:y.1=k
   ·subst z;simp[Value.isInt]
   ·simp[Value.isInt,z,Ne.symm z]
  rw[q];by_cases z:y.1=k
  ·rw[decide_eq_true z];exact⟨t',h2⟩
  ·rw[decide_eq_false z];exact ih
theorem oM.ok:∀{es:List DictEntry}{l:List (Int×Str)},oM es l->∀e∈es,∃k t,e.key= .int k t/\e.hash=hashInt k
 |[],_,_=>λe m=>by cases m
 |_::_,[],h=>by cases h
 |_::_,y::_,h=>λe m=>by
  obtain⟨⟨t,h1⟩,h2,_,r⟩:=h;cases m with
  |head=>exact⟨y.1,t,h1,h2⟩
  |tail _ m=>exact r.ok _ m
def R8(K:Frag)(P:Params)(a:Addr)(l:List Str):Prop:=∃es n,K.lookup a=some ⟨.type "dict",none,.dict es n,#[]⟩/\oZ P es.toList l/\(a==sysModules)=false
def Sd(K:Frag)(a:Addr)(l:List (Int×Str)):Prop:=∃es n,K.lookup a=some ⟨.type "dict",none,.dict es n,#[]⟩/\oM es.toList l/\(a==sysModules)=false
section
variable{X:Cx}
theorem find_eq{κ:Type}{is:κ->Value->Bool}{es:Array DictEntry}{k:κ}:findBy is es k=(es.toList.find? λd=>is k d.key).map (·.val):=by unfold findBy;rw[<-Array.find?_toList]
inductive Uw(K:Frag)(P:Params)(x y:V)(H:Hp)(Q:VK):Prop
 |mk(z:Str) (a:Addr) (l:List Str) (_:x= .str z) (_:y= .ref a) (_:R8 K P a l) (_:Q (.bl (decide (z∈l))) H)
theorem Bn:i' X (compareOp .In) (Uw X.K X.w.params):=by
 rintro UI s σ H x y v u Q I rx ry ⟨z,a,l,rfl,rfl,⟨es,n,h1,h2,h3⟩,q⟩;obtain⟨t,rfl⟩:=(show ∃t,v=Value.str z t from rx)
 cases(show u=Value.ref a from ry);refine wpAny_in_of (strKind_is X.prog X.w z t) h3 (PySem.W.mapOf_K (prog:=X.prog) I.dZ h1 h2.lit) ?_;rw[find_eq,Option.isSome_map,h2.find z];exact⟨.bl _,H,I.tok _,rfl,q⟩
theorem Qa{a:Addr}{l:List (Int×Str)}{h:Heap}(X0:X.K.In h){es:Array DictEntry}{n:Nat}(h1:X.K.lookup a=some ⟨.type "dict",none,.dict es n,#[]⟩)(h2:oM es.toList l):h.MapOf (PySem.intKind X.prog X.w) a (λk=>findBy Value.isInt es k):=
 ⟨_,es,n,X0 _ _ h1,⟨rfl,rfl,rfl⟩,rfl,λe he=>by
  obtain⟨k,t,e1,e2⟩:=h2.ok e (Array.mem_toList_iff.mpr he);exact⟨k,by rw[e1];exact intKind_is X.prog X.w k t,e2⟩,λ_=>rfl⟩
inductive Ui(K:Frag)(x y:V)(H:Hp)(Q:VK):Prop
 |mk(k:Int) (a:Addr) (l:List (Int×Str)) (_:x= .int k) (_:y= .ref a) (_:Sd K a l) (_:Q (.bl (TW.lk l k).isSome) H)
theorem HU:i' X (compareOp .In) (Ui X.K):=by
 rintro UI s σ H x y v u Q I rx ry ⟨k,a,l,rfl,rfl,⟨es,n,h1,h2,h3⟩,q⟩;obtain⟨t,rfl⟩:=(show ∃t,v=Value.int k t from rx)
 cases(show u=Value.ref a from ry);refine wpAny_in_of (intKind_is X.prog X.w k t) h3 (Qa I.dZ h1 h2) ?_;have z:=h2.find k;rw[find_eq];have e:((es.toList.find? λd=>Value.isInt k d.key).map (·.val)).isSome=(TW.lk l k).isSome:=by
  cases q1:TW.lk l k with
  |none=>rw[q1] at z;rw[d6.none_of z];rfl
  |some x=>rw[q1] at z;obtain⟨u,hu,_⟩:=d6.some_of z;rw[hu];rfl
 rw[e];exact⟨.bl _,H,I.tok _,rfl,q⟩
inductive Uk(K:Frag)(x y:V)(H:Hp)(Q:VK):Prop
 |mk(k:Int) (a:Addr) (l:List (Int×Str)) (z:Str) (_:x= .ref a) (_:y= .int k) (_:Sd K a l) (_:TW.lk l k=some z) (_:Q (.str z) H)
theorem QJ:Pb X (Uk X.K):=by
 rintro value UK UI s σ H x y v u Q I rx ry ⟨k,a,l,z,rfl,rfl,⟨es,n,h1,h2,h3⟩,e,q⟩ hs;cases(show v=Value.ref a from rx);obtain⟨t,rfl⟩:=(show ∃t,u=Value.int k t from ry)
 have r:=h2.find k;rw[e] at r;obtain⟨w',hw,rw'⟩:=d6.some_of r;have hm:=Qa (X:=X) I.dZ h1 h2;exact tail_any hm.typeIs PySem.F.slot_dict_getitem.lookup (wpAny_getItem_of (intKind_is X.prog X.w k t) hm (by rw[find_eq];exact hw) ⟨.str z,H,I.tok _,rw',q⟩) hs
end
def GI(mg:Str->Option Value)(nm:Str)(i:Int):Prop:=∃t,mg nm=some (.int i t)
def GS(mg:Str->Option Value)(nm:Str)(x:Str):Prop:=∃t,mg nm=some (.str x t)
section
variable{X:Cx}{x:Str}{pos:Pos}
theorem cD{i:Int}(g:GI X.mg x i)(hg:Gl X x:=by rfl)(hd:(x==("__debug__":Str))=false:=by decide):PE X (.Name x pos) (tC (.int i)):=by obtain⟨t,e⟩:=g;exact xP hg e ⟨t,rfl⟩ hd
theorem Tg{z:Str}(g:GS X.mg x z)(hg:Gl X x:=by rfl)(hd:(x==("__debug__":Str))=false:=by decide):PE X (.Name x pos) (tC (.str z)):=by obtain⟨t,e⟩:=g;exact xP hg e ⟨t,rfl⟩ hd
theorem fQ{a:Addr}(e:X.mg x=some (.ref a))(hg:Gl X x:=by rfl)(hd:(x==("__debug__":Str))=false:=by decide):PE X (.Name x pos) (tC (.ref a)):=xP hg e rfl hd
end
structure rk(k:Nat)(A:Around):Prop where
 dp:A.depth+3*k+5<recursionLimit
 un:A.units+16*k+200<cLine
theorem bC.h{k:Nat}{A:Around}(r:bC k A):rk k A:=⟨r.dp,r.un⟩
theorem rk.make{k:Nat}{A:Around}(r:rk (k+1) A)(C:Addr)(us:List Value)(kw:List (Str×Value)):rk k (A.under (.builtin "type.__call__" ⟨.ref C::us,kw⟩)):=
 ⟨by have:=r.dp;rw[qA];omega,by have:=r.un;rw[sN];omega⟩
structure Ad(P:Program)(w:World)(K:Frag)(mg:Str->Option Value)(base:Heap)(k:Nat)(f:Addr)(fd:FuncData)(ps:List Str)(sp:Sp):Prop where
 len:∀vs H Q E,sp vs H Q E->vs.length=ps.length
 run:∀(A:Around)(outer:List Env)(s:Shared)(H:Hp)(args:Args)(us:List Value)(vs:List V)(Q:VK)(E:XK),rk k A->wN P w K mg base A outer s H->BindsTo s fd args (ps.zip us)->Vals vs us->sp vs H Q E->
  codeAny (model P w) A (.call (.ref f) args) (CR bh outer P w H s Q E) s
theorem Ad.ok{P:Program}{w:World}{K:Frag}{mg:Str->Option Value}{base:Heap}{k:Nat}{f:Addr}{fd:FuncData}{ps:List Str}{sp:Sp}(F:Ad P w K mg base k f fd ps sp):cn P w K mg base bh k f fd ps sp:=
 ⟨F.len,λA outer s H args us vs Q E hr=>F.run A outer s H args us vs Q E hr.h⟩
def Sy(P:Program)(w:World)(K:Frag)(mg:Str->Option Value)(base:Heap)(N:List Str)(qual:Str)(scope:Scope)(f:Addr)(cd:Value)(A:Around)(outer:List Env)(s:Shared)(H:Hp):Cx:=
 {iO bh P w K mg base N qual scope f cd A outer s H E0 with calm:=false,xe:=λ_ _=>False}
theorem jC.Uj{P:Program}{w:World}{K:Frag}{mg:Str->Option Value}{base:Heap}{x qual:Str}{st:Stmt}{f:Addr}{fd:FuncData}{N ps:List Str}{k:Nat}{sp:Sp}(F:jC K x qual st f fd)(S:ax N ps (aq st))(len:∀vs H Q E,sp vs H Q E->vs.length=ps.length)(hbody:∀(UJ:Value)(A:Around)(outer:List Env)(s:Shared)(H:Hp)(vs:List V)(Q:VK)(E:XK),sp vs H Q E->
   ∃t,so (Sy P w K mg base N qual (aq st) f UJ A outer s H) (bX st) t/\t {nx:=λ_ H'=>Q .bF H',rt:=Q} (start N vs) H):Ad P w K mg base (k+1) f fd ps sp:=by
 obtain⟨oc,od,kV,doc,pm,an,UJ,ct,osl,rfl,lk,hcd⟩:=F.ex;refine⟨len,λA outer s H args us vs Q E hr e0 hb r hsp=>?_⟩;have KX:K.In s.heap:=e0.mod.EJ.keeps λb o e=>(e0.bs b o e).1;have lim:s.heap.NoLimit:=e0.mod.nolimit.keeps λb o e=>(e0.bs b o e).1;refine codeAny_call_function (by have:=hr.dp;omega) (KX _ _ lk) rfl S.co S.gen rfl (PySem.W.codeRec_of KX hcd) (hb _ _ _ _ ?_);refine wpAny_newFunctionEnv_cells S.kind (λ⟨n,v⟩ hy=>?_) λenv he s1 x=>?_
 ·rcases S.par n (List.of_mem_zip hy).1 with q|q
  ·exact .inl q
  ·exact .inr ⟨q,PySem.W.cellsFrom_some _ _ _ (.inl q)⟩
 ·subst he;refine⟨lim.keeps x.toInCall.keep,codeAny_func ?_⟩;obtain⟨t,ht,hq⟩:=hbody UJ A outer s H vs Q E hsp;have e1:wN P w K mg base {A with handled:=none} outer s H:=⟨e0.frames,e0.mod,e0.bs,e0.FC,e0.jq,e0.Jz,e0.aZ,e0.bare⟩
  have I0:Inv (iO bh P w K mg base N qual (aq st) f UJ {A with handled:=none} outer s H E0) [] (start N vs) H s1:=mY S rfl e1 (len _ _ _ _ hsp) r x;have I:Inv (Sy P w K mg base N qual (aq st) f UJ A outer s H) [] (start N vs) H s1:=
   ⟨⟨I0.ok.mod,I0.ok.kind,I0.ok.glob,I0.ok.blt,I0.ok.above,I0.ok.inj,I0.ok.has,I0.ok.MG,(λz=>by cases z),Around.frames_deeper e0.frames,I0.ok.N4,I0.ok.Pj,I0.ok.bs,I0.ok.FC,I0.ok.Cb,I0.ok.Bl,I0.ok.jq,I0.ok.Jz⟩,
    I0.os,I0.bare,I0.base,I0.loc,I0.cell,I0.free,I0.fz,I0.pin,I0.aZ,I0.len⟩
  refine wpAny_mono (ht [] s1 (start N vs) H _ I hq) (λfl s' hs=>?_) λe s' hs=>hs.elim;have fin:∀{σ':St}{H':Hp}{v:V}{u:Value},Inv (Sy P w K mg base N qual (aq st) f UJ A outer s H) [] σ' H' s'->RelV v u->Q v H'->CE outer P w H s Q u s':=
   λ{σ' H' v u} J rv q=>⟨v,H',J.os,J.bare,J.base,J.aZ,rv,q⟩
  cases fl with
  |ret u=>
   obtain⟨v,σ',H',J,rv,q⟩:=hs;exact fin J rv q
  |next=>
   obtain⟨σ',H',J,q⟩:=hs;exact fin (v:=V.bF) (u:=Value.none) J rfl q
  |brk=>
   obtain⟨_,_,_,q⟩:=hs;exact False.elim q
  |cont=>
   obtain⟨_,_,_,q⟩:=hs;exact False.elim q
section
variable{X:Cx}{k:Nat}{f C:Addr}{fd:FuncData}{ps:List Str}{sp:Sp}{x:Str}{p pos:Pos}{e:Expr}{es:List Expr}{t:TA}
theorem Jk(M:Mk X.K C f)(F:Ad X.prog X.w X.K X.mg X.base k f fd ps sp)(hr:rk (k+1) X.A)(hg:Gl X x)(hm:X.mg x=some (.ref C))(hb:Binds X.K fd ps [])(ha:PA X (e::es) t)(hdb:(x==("__debug__":Str))=false:=by decide)(he:starEach (e::es) X.env=(false,eval e X.env)::starEach es X.env:=by rfl)(hpl:(backTo pos (starEach es X.env)).any (·.1)=false:=by rfl):
  PE X (.Call (.Name x p) (e::es) [] pos) (u4 C sp [] E0 t):=by
 intro UI s σ H Q I h;refine wpAny_Call_Name_kw (dD I hg hm ?_ hdb);refine PySem.W.callWith_K (h₀:=X.base) I.ok.mod.EJ M.kp (br (ha pos UI s σ H _ I h) λus s1 ⟨vs,H1,I1,r,q⟩=>⟨I1.dZ,?_⟩) he hpl;have hq:=q (s1.heap.objs.size+1) s1.heap.objs.size (I1.aZ.fresh (Nat.le_succ _)) (I1.aZ.fresh (Nat.le_refl _)) (Nat.ne_of_lt (Nat.lt_succ_self _));rw[List.append_nil] at hq;have I2:=Inv.made (C:=C) I1;have r2:Vals (V.ref (s1.heap.objs.size+1)::vs) (Value.ref (s1.heap.objs.size+1)::us):=.cons rfl r;have hl:(Value.ref (s1.heap.objs.size+1)::us++[]).length=ps.length:=by
  rw[List.append_nil,<-r2.length];exact F.len _ _ _ _ hq
 have hb':=hb {s1 with heap:=(s1.heap.push PySem.W.emptyDict).push (PySem.W.instObj C s1.heap.objs.size)} (Value.ref (s1.heap.objs.size+1)::us) I2.dZ hl;rw[List.append_nil] at hb';refine wpAny_call (zy (f:=f) I1.dZ M.makes M.init (beq_iff_eq.mp M.fn) (codeAny_mono (F.run _ X.stack _ _ ⟨Value.ref (s1.heap.objs.size+1)::us,[]⟩ (Value.ref (s1.heap.objs.size+1)::us) _ _ E0 (hr.make C us [])
  (I2.EB.make C us []) hb' r2 hq) λr s' hq'=>?_))
 cases r with
 |error e=>exact(show False from hq').elim
 |ok fl=>
  cases fl with
  |ret u=>
   obtain⟨v,H',I3,rv,ev,q3⟩:=I2.after hq';subst ev;exact⟨rv,⟨V.ref (s1.heap.objs.size+1),H',I3,rfl,q3⟩⟩
  |next=>exact False.elim hq'
  |brk=>exact False.elim hq'
  |cont=>exact False.elim hq'
end
theorem rV{o:Option (Option V)}{v:V}{Q:VK}{H:Hp}(h:o=some (some v))(q:Q v H):Ro o Q H:=⟨v,h,q⟩
theorem rf{K:Frag}{H:Hp}{m:Str}{a C dx:Addr}{fs:List (Str×V)}{v:V}{Q:VK}(h1:H a=some (.ins C dx fs))(h2:sL K C)(h3:aE K C m)(h4:fs.lookup m=some v)(q:Q v H):Qm K m Q (.ref a) H:=⟨a,C,dx,fs,v,rfl,h1,h2,h3,h4,q⟩
end L2
namespace TG
open PySem
def top(i:Nat):Stmt:=PySem.Challenge.pw_twigtext_s08_same.main.body.getD i (.Pass ⟨0,0,0,0⟩)
end TG
namespace L2
open PySem PySem.Spec PyProof.Rows
def UE(K:Frag)(H:Hp)(x:V)(t:Value):Prop:=nH K H x t\/∃a xs,x= .ref a/\fE K H a xs/\t= .type "tuple"
def cv:V->Value
 | .ty n=>.type n
 | .ref a=>.ref a
 |_=>.none
theorem Ag{α:Type}:∀(l:List α),(List.range l.length).filterMap (λk=>l[k]?)=l
 |[]=>rfl
 |a::l=>by
  rw[List.length_cons,List.range_succ_eq_map,List.filterMap_cons,List.filterMap_map];show a::(List.range l.length).filterMap (λk=>(a::l)[k+1]?)=a::l;have:(λk=>(a::l)[k+1]?)=λk=>l[k]?:=by funext k;simp
  rw[this,Ag l]
theorem rF{α β:Type}{f g:α->Option β}:∀(l:List α),(∀x∈l,f x=g x)->l.filterMap f=l.filterMap g
 |[],_=>rfl
 |a::l,h=>by
  rw[List.filterMap_cons,List.filterMap_cons,h a (List.mem_cons_self ..),rF l λx hx=>h x (List.mem_cons_of_mem _ hx)]
theorem FL{α:Type}(l:List α):((List.range l.length).map λ(k:Nat)=>((l.length:Int) - 1+ -1*(k:Int)).toNat).filterMap (λi=>l[i]?)=l.reverse:=by
 rw[List.filterMap_map];have e:∀(m:Nat),m<=l.length->(List.range m).filterMap ((λi=>l[i]?)∘λ(k:Nat)=>((l.length:Int) - 1+ -1*(k:Int)).toNat)=(List.range m).filterMap (λk=>l.reverse[k]?):=by
  intro m hm;apply rF;intro k hk;have hk:k<m:=List.mem_range.mp hk;show l[((l.length:Int) - 1+ -1*(k:Int)).toNat]?=l.reverse[k]?;rw[List.getElem?_reverse ↑2];congr 1;omega
 rw[e _ (Nat.le_refl _)];have:=Ag l.reverse;rw[List.length_reverse] at this;exact this
section
variable{X:Cx}
inductive Nr(K:Frag)(vs:List V)(H:Hp)(Q:VK):Prop
 |mk(x c:V) (t:Value) (b:Bool) (_:vs=[x,c]) (_:(∃n,c= .ty n)\/∃a,c= .ref a) (_:UE K H x t) (_:PySem.W.kitOne K t (cv c)=some b) (_:Q (.bl b) H)
theorem ky:sj X (.builtin "isinstance") (Nr X.K):=by
 rintro UI s σ H xs us Q I rv ⟨x,c,t,b,rfl,hc,ty,e,q⟩;obtain⟨u,u2,rfl,rx,rc⟩:=vals2 rv;have hu2:u2=cv c:=by
  rcases hc with⟨n,rfl⟩|⟨a,rfl⟩
  ·exact rc
  ·exact rc
 subst hu2;have fin:∀tk,EP X UI σ Q (.bool b) {s with toks:=tk}:=λtk=>⟨.bl b,H,I.tok tk,rfl,q⟩
 rcases ty with ty|⟨a,xs,rfl,hx,rfl⟩
 ·exact Eh I rx ty e fin
 ·cases(show u=Value.ref a from rx);obtain⟨its,r,ht,hz⟩:=I.tuple hx;exact PySem.W.kia_one PySem.W.kitx_tuple I.dZ ht.typeIs e (λz=>nomatch z) fin
end
theorem GC(its:List Value):slicePick its.toArray none none (some (-1))=its.reverse.toArray:=by
 unfold slicePick sliceBounds sliceRange;simp only[Option.getD_some,show ¬((-1:Int)>0) by decide,if_false,List.size_toArray];have hc:(if(its.length:Int) - 1> -1 then((its.length:Int) - 1 - -1 - -1 - 1) / (-(-1)) else 0)=(its.length:Int):=by
  split
  ·simp only[show(-(-1:Int))=1 from rfl,Int.ediv_one];omega
  ·omega
 rw[hc,Int.toNat_natCast];congr 1;have:=FL its;simp only[List.getElem?_toArray];exact this
end L2
namespace HT
open PySem PySem.Spec PyProof.Rows
section
variable{prog:Program}{w:World}{A:Around}{E:Value->Shared->Prop}{s:Shared}
theorem nW{sl:Addr}{vs:Value}{n:Nat}{Q:Int×Int×Nat->Shared->Prop}(hs:s.heap.IsSliceOf sl .none .none vs)(ps:IsPart vs (some (-1)))(h:Q ((n:Int) - 1,-1,n) s):wpAny (model prog w) A (Builtin.Slice.sliceApplied (.ref sl) (pure (n:Int))) Q E s:=by
 obtain⟨os,hos,hcs,hds⟩:=id hs;unfold Builtin.Slice.sliceApplied Builtin.Slice.sliceFields;refine wpAny_bind (wpAny_bind (wpAny_field hos hds (x:=.none) rfl (wpAny_bind (wpAny_field hos hds (x:=.none) rfl (wpAny_bind (wpAny_field hos hds (x:=vs) rfl (wpAny_pure ?_)))))));refine wpAny_bind (jT ps ?_);show wpAny _ _ (if((-1:Int)==0)=true then _ else _) _ _ s;rw[if_neg ↑0];refine wpAny_bind (jT .none (wpAny_bind (jT .none (wpAny_bind (wpAny_pure ?_)))));show wpAny _ _ (pure ((n:Int) - 1,(-1:Int),Builtin.Slice.slicePlaces ((n:Int) - 1) (-1) (-1))) _ _ s;have e:Builtin.Slice.slicePlaces ((n:Int) - 1) (-1) (-1)=n:=by
  unfold Builtin.Slice.slicePlaces;rw[if_neg ↑0];split
  ·simp only[show(-(-1:Int))=1 from rfl,Int.ediv_one];omega
  ·omega
 rw[e];exact wpAny_pure h
theorem lE{t sl:Addr}{items:List Value}{vs:Value}{Q:Value->Shared->Prop}(ht:IsTup s.heap t items.toArray)(hs:s.heap.IsSliceOf sl .none .none vs)(ps:IsPart vs (some (-1)))(h:Q (.ref s.heap.objs.size) {s with heap:=s.heap.push {cls:=.type "tuple",data:=.seq items.reverse.toArray}})(hsz:items.length<=sizeLine):wpAny (model prog w) A (getItem (.ref t) (.ref sl)) Q E s:=by
 have htake:sizeOk (.seq items.reverse.toArray):=by
  show items.reverse.toArray.size<=sizeLine;rw[List.size_toArray,List.length_reverse];exact hsz
 obtain⟨os,hos,hcs,hds⟩:=id hs;have hTs:s.TypeIs (.ref sl) "slice":=⟨os,hos,hcs⟩
 unfold getItem
 try with_reducible refine wpAny_holding ?_
 first|refine wpAny_bind (wpAny_pure ?_)|skip
 refine wpAny_bind (wpAny_sequenceKey ht.typeIs ↑0 ?_);refine wpAny_bind (wpAny_callSpecial?_slot (name:=Str.ofString "__getitem__") ht.typeIs PyProof.Rows.slot_tuple_getitem
  (wpAny_call_entry PyProof.Rows.slot_tuple_getitem ht.typeIs entry_tuple_getitem ?_ (args_tuple_getitem _ _)))
 show wpAny _ _ (Builtin.Tuple.tupleItemsOf (.ref t)>>=_) _ _ s;refine wpAny_bind (tupleItemsOf_ ht ?_);refine wpAny_bind (wpAny_typeOf hTs ?_);rw[if_pos ↑0];refine wpAny_bind (nW hs ps ?_);have hno:¬((((items.toArray.size:Int) - 1)==0&&(-1:Int)==1&&items.toArray.size==items.toArray.size)=true):=by
  intro q;rw[Bool.and_eq_true,Bool.and_eq_true] at q;exact absurd q.1.2 ↑0
 show wpAny _ _ (if(((items.toArray.size:Int) - 1)==0&&(-1:Int)==1&&items.toArray.size==items.toArray.size)=true then _ else _) _ _ s;have hp:((List.range items.toArray.size).filterMap λ(k:Nat)=>items.toArray[(((items.toArray.size:Nat):Int) - 1+(k:Int)* -1).toNat]?).toArray=items.reverse.toArray:=by
  congr 1;have:=L2.FL items;rw[List.filterMap_map] at this;rw[<-this];simp only[List.size_toArray,List.getElem?_toArray];apply L2.rF;intro k _;show items[_]?=items[_]?;congr 2;omega
 rw[if_neg hno,hp];first
  |exact wpAny_bind (m:=Builtin.Tuple.tupleExact _) (wpAny_newObj_type (wpAny_pure ⟨_,rfl,wpAny_pure h⟩) htake)
  |exact wpAny_bind (m:=Builtin.Tuple.tupleExact _) (wpAny_newObj_type (wpAny_bind (wpAny_pure (wpAny_pure ⟨_,rfl,wpAny_pure h⟩))) htake)
  |exact wpAny_bind (wpAny_bind (m:=Builtin.Tuple.tupleExact _) (wpAny_newObj_type (wpAny_pure (wpAny_pure ⟨_,rfl,wpAny_pure h⟩)) htake))
  |exact wpAny_bind (wpAny_bind (m:=Builtin.Tuple.tupleExact _) (wpAny_newObj_type (wpAny_pure ⟨_,rfl,wpAny_pure h⟩) htake))
end
end HT
namespace L2
open PySem PySem.Spec PyProof.Rows
section
variable{X:Cx}{e:Expr}{te:TE}{pos p2 p3 p4:Pos}{j:Nat}
def Sk(K:Frag)(te:TE):TE:=λσ H Q=>te σ H λx H1=>∃a xs,x= .ref a/\((bf K H1 a xs/\∀p,H1 p=none->Q (.ref p) (upd H1 p (.lst xs.reverse)))\/(fE K H1 a xs/\∀p,H1 p=none->Q (.ref p) (upd H1 p (.tup xs.reverse))))
theorem IL(he:PE X e te):PE X (.Subscript e (.Slice none none (some (.UnaryOp .USub (.Constant (.int 1) j p4) p3)) p2) pos) (Sk X.K te):=by
 intro UI s σ H Q I h;refine Subscript_ (br (he UI s σ H _ I h) λv s1 ⟨x,H1,I1,r1,a,xs,ex,q⟩=>?_);subst ex;cases(show v=Value.ref a from r1);refine wpAny_Slice ?_;rw[evalPart_none];refine wpAny_pure (wpAny_pure ?_);refine br (bU (X:=X) (gc eg (aw (X:=X) (i:=1) (j:=j) (pos:=p4))) UI s1 σ H1 (λo H2=>o=some (-1)/\H2=H1) I1 ⟨1,rfl,⟨-1,rfl,rfl,rfl⟩⟩) λvs s3 ⟨o,H2,I3,ps,eo,eH⟩=>?_;subst eo;have I3:Inv X UI σ H1 s3:=eH▸I3;have I4:Inv X UI σ H1 {s3 with heap:=s3.heap.push {cls:=.type "slice",data:=.fields #[.none,.none,vs]}}:=I3.kept (t':=s3.toks) λb ob q=>Heap.get?_push_of_some _ q;have hsl:=Heap.IsSliceOf.new s3.heap .none .none vs;show wpAny (model X.prog X.w) X.A (subscriptTail e (.Slice none none (some (.UnaryOp .USub (.Constant (.int 1) j p4) p3)) p2) (.ref a) (.ref s3.heap.objs.size)) (EP X UI σ Q) X.xe {s3 with heap:=s3.heap.push {cls:=.type "slice",data:=.fields #[.none,.none,vs]}};rcases q with⟨hx,q⟩|⟨hx,q⟩
 ·obtain⟨its,r,ht,hz⟩:=I4.list hx;have hlen:=r.length;refine tail_any (ops:=[.ref a,.ref s3.heap.objs.size]) ht.isList.typeIs slot_list_getitem.lookup ?_ (by with_unfolding_all rfl);refine wpAny_getItem_list_slice ht.isList hsl .none .none ps (by simp) ?_ (by rw[List.size_toArray] <;> omega);rw[GC];refine⟨.ref _,_,I4.laid (t':=s3.toks) (o:=.lst xs.reverse) (λb ob q=>Heap.get?_push_of_some _ q) (Nat.le_refl _) ?_,rfl,q _ (I4.aZ.fresh (Nat.le_refl _))⟩;exact⟨by rw[List.length_reverse];exact hz,_,0,r.reverse,Heap.get?_push_size _ rfl⟩
 ·obtain⟨its,r,ht,hz⟩:=I4.tuple hx;have hlen:=r.length;refine tail_any (ops:=[.ref a,.ref s3.heap.objs.size]) ht.typeIs PyProof.Rows.slot_tuple_getitem.lookup ?_ (by with_unfolding_all rfl);refine HT.lE ht hsl ps ?_ ↑2;refine⟨.ref _,_,I4.laid (t':=s3.toks) (o:=.tup xs.reverse) (λb ob q=>Heap.get?_push_of_some _ q) (Nat.le_refl _) ?_,rfl,q _ (I4.aZ.fresh (Nat.le_refl _))⟩;exact⟨by rw[List.length_reverse];exact hz,_,r.reverse,IsTup.new _ _⟩
theorem n_(l:Addr)(items:Array Value)(n:Nat)(b:Addr)(items2:Array Value)(n2:Nat)(dd:Option Addr)(sl:Array (Option Value))(hs0:¬(!items.isEmpty&&Builtin.List.listTooLong (items.size+items2.size))=true)(hs1:items.size<=sizeLine)(hs2:items.size+items2.size<=sizeLine+1):
  Meets (Builtin.«list.extend» ⟨[.ref l,.ref b],[]⟩) (λ_ R s=>s.heap.get? l=some {cls:=.type "list",dict:=none,data:=.seq items n,slots:=#[]}/\s.heap.get? b=some {cls:=.type "tuple",dict:=dd,data:=.seq items2 n2,slots:=sl}/\R (.ok (.ret Value.none)) {s with heap:=s.heap.update l (Obj.mapSeq λx=>x++items2),toks:=s.toks}):=
 .of_wp λprog w A R s h=>by
  obtain⟨hp,g,d,tk,os⟩:=s;obtain⟨hl,hb,h⟩:=h;have f1:=AutoSeq1.idx_int;have f2:=AutoSeq1.sub_tuple_tuple;have f3:=AutoSeq1.sub_list_list;have f4:=AutoSeq1.sub_tuple_list;have f5:=AutoSeq1.sub_list_tuple;have hz':(items++items2).size<=sizeLine+1:=by rw[Array.size_append];exact hs2
  wp_walk using (wpAny_updateSeq hl rfl (hz:=hs1) (_hz':=hz')),AutoSeq1.wpAny_loadPart' hl,AutoSeq1.wpAny_loadPart' hb;exact ⟨_,rfl,h⟩
def GK(K:Frag):V->List V->Hp->VK->Prop:=λx vs H Q=>∃l b xs zs,x= .ref l/\vs=[.ref b]/\H l=some (.lst xs)/\fE K H b zs/\xs.length+zs.length<=sizeLine/\Q .bF (upd H l (.lst (xs++zs)))
theorem tU:R7 X "list.extend" (GK X.K):=by
 intro UI s σ H x vs v us Q I rx rv h;obtain⟨l,b,xs,zs,rfl,rfl,hH,hB,hz,q⟩:=h;cases rx;obtain⟨u,rfl,ru⟩:=rv.one;cases ru;obtain⟨z,its,n,r,hl,e⟩:=I.Cf hH;obtain⟨its2,r2,ht,hz2⟩:=I.tuple hB;obtain⟨⟨cls2,dd2,data2,sl2⟩,e2,hc2,n2,hd2⟩:=id ht;simp only at hc2 hd2;subst hc2 hd2;have hl2:=r2.length;have hsz:its.toArray.size+its2.toArray.size<=sizeLine:=by rw[List.size_toArray,List.size_toArray];omega
 have hlong:¬(!its.toArray.isEmpty&&Builtin.List.listTooLong (its.toArray.size+its2.toArray.size))=true:=by
  rw[yQ hsz,Bool.and_false];exact Bool.false_ne_true
 refine call_meets F.slot_list_extend ⟨_,e,rfl⟩ F.entry_list_extend (F.args_list_extend_2 _ _)
  (n_ l its.toArray n b its2.toArray n2 dd2 sl2 hlong (by rw[List.size_toArray];omega) ↑2) ⟨e,e2,?_⟩
 refine⟨.bF,_,I.KQ (its':=its++its2) hH e (by simp) (r.append r2) ?_,rfl,q⟩;rw[List.length_append];omega
end
def pO(P:Params):List DictEntry->List (Str×V)->Prop
 |[],[]=>True
 |e::r,x::l=>(∃t,e.key= .str x.1 t)/\e.hash=PyData.keyHash P x.1/\RelV x.2 e.val/\pO P r l
 |_,_=>False
theorem pO.keys{P:Params}:∀{es:List DictEntry}{l:List (Str×V)},pO P es l->oZ P es (l.map (·.1))
 |[],[],_=>True.intro
 |_::_,_::_,⟨h1,h2,_,r⟩=>⟨h1,h2,r.keys⟩
theorem pO.length{P:Params}:∀{es:List DictEntry}{l:List (Str×V)},pO P es l->es.length=l.length
 |[],[],_=>rfl
 |_::_,_::_,⟨_,_,_,r⟩=>congrArg (·+1) r.length
theorem pO.get{P:Params}:∀{es:List DictEntry}{l:List (Str×V)}{i:Nat}{k:Str}{v:V},pO P es l->l[i]?=some (k,v)->∃en t,es[i]?=some en/\en.key= .str k t
 |[],[],_,_,_,_,h=>by simp at h
 |e::_,x::_,0,_,_,⟨⟨t,h1⟩,_,_,_⟩,h=>by
  simp only[List.getElem?_cons_zero,Option.some.injEq] at h;subst h;exact⟨e,t,rfl,h1⟩
 |_::_,_::_,i+1,_,_,⟨_,_,_,r⟩,h=>by
  simp only[List.getElem?_cons_succ] at h ⊢;exact r.get h
def Pk(l:List (Str×V))(k:Str):Option V:=(l.find? λx=>decide (x.1=k)).map (·.2)
theorem pO.find{P:Params}(k:Str):∀{es:List DictEntry}{l:List (Str×V)},pO P es l->d6 (Pk l k) ((es.find? λd=>Value.isStrOf k d.key).map (·.val))
 |[],[],_=>True.intro
 |e::_,y::l,⟨⟨t,h1⟩,_,h2,r⟩=>by
  have ih:=r.find k;unfold Pk at ih ⊢;rw[List.find?_cons,List.find?_cons,h1];have q:Value.isStrOf k (.str y.1 t)=decide (y.1=k):=by
   by_cases z:y.1=k
   ·subst z;simp[Value.isStrOf]
   ·simp[Value.isStrOf,z,Ne.symm z]
  rw[q];by_cases z:y.1=k
  ·rw[decide_eq_true z];exact h2
  ·rw[decide_eq_false z];exact ih
def Pc(K:Frag)(P:Params)(a:Addr)(l:List (Str×V)):Prop:=∃es n,K.lookup a=some ⟨.type "dict",none,.dict es n,#[]⟩/\pO P es.toList l/\(a==sysModules)=false
section
variable{X:Cx}
theorem Tj:Pb X (λx y H Q=>∃k a l v,x= .ref a/\y= .str k/\Pc X.K X.w.params a l/\Pk l k=some v/\Q v H):=by
 rintro value UK UI s σ H x y v u Q I rx ry ⟨k,a,l,z,rfl,rfl,⟨es,n,h1,h2,h3⟩,e,q⟩ hs;cases(show v=Value.ref a from rx);obtain⟨t,rfl⟩:=(show ∃t,u=Value.str k t from ry)
 have r:=h2.find k;rw[e] at r;obtain⟨w',hw,rw'⟩:=d6.some_of r;have hm:=PySem.W.mapOf_K (prog:=X.prog) I.dZ h1 h2.keys.lit;exact tail_any hm.typeIs PySem.F.slot_dict_getitem.lookup (wpAny_getItem_of (strKind_is X.prog X.w k t) hm (by rw[find_eq];exact hw) ⟨z,H,I.tok _,rw',q⟩) hs
def Pl(K:Frag)(P:Params)(d:Addr)(l:List (Str×V)):It:=
 ⟨λi H=>Pc K P d l/\i<l.length,λi H x H'=>H'=H/\∃k v,l[i]?=some (k,v)/\x= .str k,λi H=>Pc K P d l/\l.length<=i⟩
theorem OO{P:Program}{w:World}{K:Frag}{tg:Expr}{d:Addr}{l:List (Str×V)}{es:Array DictEntry}{ep:Nat}(it:Addr)(hk:K.lookup d=some ⟨.type "dict",none,.dict es ep,#[]⟩)(hes:pO w.params es.toList l):Turn P w K tg (Pl K w.params d l) [it] it (λi h=>h.IsKeyIter it d i l.length ep) where
 mem:=by simp
 obj:=λi h st b hb=>by
  have e:b=it:=by simpa using hb
  subst e;obtain⟨oi,e,c,dd⟩:=st;exact⟨oi,e,λv z=>by rw[dd] at z;cases z⟩
 keep:=λi h h' st k=>st.at λoi e=>k it (by simp) oi e
 item:=by
  intro X hP hw hK hc i UI s σ H E I hf st hg;subst hP hw hK;obtain⟨hd,hi⟩:=hg;obtain⟨f0,f1,f2,f3,f4,f5⟩:=hf it (by simp);have hgd:=I.dZ _ _ hk;obtain⟨⟨k,v⟩,hkv⟩:∃p,l[i]?=some p:=⟨l[i],List.getElem?_eq_getElem hi⟩
  obtain⟨en,t,hen,hkey⟩:=hes.get hkv;refine ur st hgd rfl (by rw[<-Array.length_toList];exact hes.length) (by rw[<-Array.getElem?_toList];exact hen) λh' st' sb=>?_;have I1:Inv X UI σ H {s with heap:=h'}:=I.turned (t':=s.toks) (λb ob hb e=>(sb.2 b hb).trans e) f0 f1 f3 f4 f5;obtain⟨oi,e,c,dd⟩:=id st';exact⟨en.key,rfl,CC (s:={s with heap:=h'}) e c dd ↑0 ⟨.str k,H,I1,by rw[hkey];exact⟨t,rfl⟩,⟨rfl,k,v,hkv,rfl⟩,st',λb hb=>(hf b hb).1⟩⟩
 done:=by
  intro X hP hw hK hc i UI s σ H E I hf st hg;subst hP hw hK;obtain⟨hd,hi⟩:=hg;obtain⟨f0,f1,f2,f3,f4,f5⟩:=hf it (by simp);have hgd:=I.dZ _ _ hk;exact xC (I.ok.hd hc) st hgd rfl (by rw[<-Array.length_toList];exact hes.length) hi λh' eb=>⟨rfl,I.turned (t':=s.toks) (λb ob hb e=>eb b ob hb e) f0 f1 f3 f4 f5⟩
 self:=λA i s Q E st h=>wpAny_pyIter_keyiter st h
def UA(K:Frag)(P:Params)(td:TE):TI:=λσ H R=>td σ H λx H1=>∃d l,x= .ref d/\Pc K P d l/\R (Pl K P d l) H1
theorem So{tg e:Expr}{td:TE}(he:PE X e td):PI X tg e (UA X.K X.w.params td):=by intro UI s σ H R I h;refine br (he UI s σ H _ I h) λu s1 ⟨x,H1,I1,rx,d,l,ex,⟨es,n,h1,h2,h3⟩,q⟩=>?_;subst ex;obtain rfl:u=Value.ref d:=rx;have hgd:=I1.dZ _ _ h1;refine Eu h3 hgd ⟨rfl,rfl,rfl⟩ rfl (Mq (tk:=s1.toks) I1 _ (OO _ h1 h2) ⟨_,Heap.get?_push_size _ rfl,rfl,?_⟩ q);rw[<-h2.length,Array.length_toList] <;> rfl
theorem Ri{K:Frag}{P:Params}{a:Addr}{l:List (Str×V)}{g:TG}{tb:TS}{D:Ends}{σ:St}{H:Hp}(hK:Pc K P a l)(Pv:Nat->St->Hp->Prop)(h0:Pv 0 σ H)(hs:∀i k v σ H,l[i]?=some (k,v)->Pv i σ H->g (.str k) σ H λσ2 H2=>tb {D with nx:=Pv (i+1),ct:=Pv (i+1),bk:=D.nx} σ2 H2)(hd:∀σ H,Pv l.length σ H->D.nx σ H):
  ∃W:Nat->Nat->St->Hp->Prop,(∃m,W 0 m σ H)/\∀i m σ H,W i m σ H->
   ((Pl K P a l).stop i H/\D.nx σ H)\/((Pl K P a l).go i H/\∃N:St->Hp->Prop,(∀σ' H',N σ' H'->∃m',m'<m/\W (i+1) m' σ' H')/\∀x H',(Pl K P a l).Lv i H x H'->g x σ H' λσ2 H2=>tb {D with nx:=N,ct:=N,bk:=D.nx} σ2 H2):=by
 refine⟨λi m σ H=>m=l.length - i/\i<=l.length/\Pv i σ H,⟨l.length,by simp,Nat.zero_le _,h0⟩,?_⟩;rintro i m σ H ⟨rfl,hi,p⟩;by_cases hlt:i<l.length
 ·refine .inr ⟨⟨hK,hlt⟩,Pv (i+1),λσ' H' p'=>⟨l.length - (i+1),↑2,rfl,hlt,p'⟩,λx H' y=>?_⟩;obtain⟨rfl,k,v,hkv,rfl⟩:=y;exact hs i k v σ _ hkv p
 ·have e:i=l.length:=↑2
  subst e;exact .inl ⟨⟨hK,Nat.le_refl _⟩,hd σ H p⟩
end
end L2
namespace TG
open PySem PySem.Spec PyProof.Rows L2 TW
variable{P:Program}{w:World}{K:Frag}{mg:Str->Option Value}{base:Heap}
variable{H:Hp}{C:Addr}{ps:List Str}{fd:FuncData}{CT:Addr}{CF:Addr}{CG:Addr}{CW:Addr}
section
open EwTree (isSmall isBig isDigit isSeen isWordByte isCodeByte isMarkByte)
def iv(b:By):List V:=b.map λc=>V.int (c.toNat:Int)
theorem aU(b:By):(iv b).length=b.length:=List.length_map _
theorem N3{b:By}{p:Nat}{c:UInt8}(h:b[p]?=some c):(iv b)[p]?=some (.int c.toNat):=by unfold iv;rw[List.getElem?_map,h];rfl
theorem dE{b:By}{p:Nat}{c:UInt8}(h:b[p]?=some c):vm (iv b) (p:Int)=some (.int c.toNat):=by have hp:p<b.length:=(List.getElem?_eq_some_iff.mp h).1;exact at_of (j:=p) rfl (N3 h)
inductive iW(p:Int->Bool)(vs:List V)(H:Hp)(Q:VK)(E:XK):Prop
 |mk(n:Int) (_:vs=[.int n]) (_:Q (.bl (p n)) H)
theorem gI(p:Int->Bool):∀vs H Q E,iW p vs H Q E->vs.length=(["byte"]:List Str).length:=by rintro vs H Q E ⟨n,rfl,_⟩;rfl
theorem kK{lo hi n:Int}{Q:VK}(k:Q (.bl (decide (lo<=n)&&decide (n<=hi))) H):
  if decide (lo<=n)=true then CO (λi j=>.bl (decide (i<=j))) (.int n) (.int hi) H Q else Q (.bl false) H:=by
 by_cases h:lo<=n
 ·rw[decide_eq_true h] at k ⊢;rw[if_pos rfl];exact⟨n,hi,rfl,rfl,k⟩
 ·rw[decide_eq_false h] at k ⊢;rw[if_neg ↑0];exact k
theorem IH:ax ["byte"] ["byte"] (aq (top 10)):=↑3
theorem Hg(d:Def K mg "is_small" (top 10) ["byte"]):Ok P w K mg base bh 1 "is_small" ["byte"] (iW h_):=d.ok λf fd F=>by
 refine F.ok IH (gI _) (λUJ A outer s H vs Q E hr h=>?_);obtain⟨n,rfl,k⟩:=h;refine⟨_,ai (aC (lM g9 g9 aw (pv 0) aw)),?_⟩;exact⟨_,rfl,_,_,rfl,rfl,_,rfl,kK k⟩
theorem Nf:ax ["byte"] ["byte"] (aq (top 11)):=↑3
theorem OF(d:Def K mg "is_capital" (top 11) ["byte"]):Ok P w K mg base bh 1 "is_capital" ["byte"] (iW ux):=d.ok λf fd F=>by
 refine F.ok Nf (gI _) (λUJ A outer s H vs Q E hr h=>?_);obtain⟨n,rfl,k⟩:=h;refine⟨_,ai (aC (lM g9 g9 aw (pv 0) aw)),?_⟩;exact⟨_,rfl,_,_,rfl,rfl,_,rfl,kK k⟩
theorem FO:ax ["byte"] ["byte"] (aq (top 12)):=↑3
theorem FW(d:Def K mg "is_digit" (top 12) ["byte"]):Ok P w K mg base bh 1 "is_digit" ["byte"] (iW bZ):=d.ok λf fd F=>by
 refine F.ok FO (gI _) (λUJ A outer s H vs Q E hr h=>?_);obtain⟨n,rfl,k⟩:=h;refine⟨_,ai (aC (lM g9 g9 aw (pv 0) aw)),?_⟩;exact⟨_,rfl,_,_,rfl,rfl,_,rfl,kK k⟩
theorem JG:ax ["byte"] ["byte"] (aq (top 13)):=↑3
theorem Kf(d:Def K mg "is_printable" (top 13) ["byte"]):Ok P w K mg base bh 1 "is_printable" ["byte"] (iW g7):=d.ok λf fd F=>by
 refine F.ok JG (gI _) (λUJ A outer s H vs Q E hr h=>?_);obtain⟨n,rfl,k⟩:=h;refine⟨_,ai (aC (lM g9 g9 aw (pv 0) aw)),?_⟩;exact⟨_,rfl,_,_,rfl,rfl,_,rfl,kK k⟩
theorem KR:ax ["byte"] ["byte"] (aq (top 14)):=↑3
theorem K9(d:Def K mg "in_word" (top 14) ["byte"])(o1:Ok P w K mg base bh 1 "is_small" ["byte"] (iW h_))(o2:Ok P w K mg base bh 1 "is_digit" ["byte"] (iW bZ)):
  Ok P w K mg base bh 2 "in_word" ["byte"] (iW g8):=d.ok λf fd F=>by
 refine F.ok KR (gI _) (λUJ A outer s H vs Q E hr h=>?_);obtain⟨n,rfl,k⟩:=h;refine⟨_,ai (aC (zf (aM o1 hr (aa (pv 0) ao)) (zf (aM o2 hr (aa (pv 0) ao)) (gH (dO cG (pv 0) aw (aJ _)))))),?_⟩;refine⟨_,rfl,n,rfl,_,rfl,aT (λh1=>?_) λh1=>?_⟩
 ·have e:g8 n=true:=by unfold g8;rw[h1];rfl
  rw[e] at k;exact k
 ·refine⟨_,rfl,n,rfl,_,rfl,aT (λh2=>?_) λh2=>?_⟩
  ·have e:g8 n=true:=by unfold g8;rw[h2];simp
   rw[e] at k;exact k
  ·refine⟨_,rfl,rfl,?_⟩;have e:g8 n=decide (n=95):=by
    unfold g8;rw[Bool.not_eq_true] at h1 h2;rw[h1,h2];rfl
   rw[e] at k;have e2:decide (V.int n=V.int 95)=decide (n=95):=by
    by_cases z:n=95
    ·subst z;simp
    ·simp[z]
   rw[e2];exact k
theorem J_:ax ["byte"] ["byte"] (aq (top 15)):=↑3
theorem Lf(d:Def K mg "in_code" (top 15) ["byte"])(o1:Ok P w K mg base bh 1 "is_capital" ["byte"] (iW ux))(o2:Ok P w K mg base bh 1 "is_digit" ["byte"] (iW bZ)):
  Ok P w K mg base bh 2 "in_code" ["byte"] (iW oU):=d.ok λf fd F=>by
 refine F.ok J_ (gI _) (λUJ A outer s H vs Q E hr h=>?_);obtain⟨n,rfl,k⟩:=h;refine⟨_,ai (aC (zf (aM o1 hr (aa (pv 0) ao)) (gH (aM o2 hr (aa (pv 0) ao))))),?_⟩;refine⟨_,rfl,n,rfl,_,rfl,aT (λh1=>?_) λh1=>?_⟩
 ·have e:oU n=true:=by unfold oU;rw[h1];rfl
  rw[e] at k;exact k
 ·refine⟨_,rfl,n,rfl,?_⟩;have e:oU n=bZ n:=by
   unfold oU;rw[Bool.not_eq_true] at h1;rw[h1];rfl
  rw[e] at k;exact k
theorem JX:ax ["byte"] ["byte"] (aq (top 16)):=↑3
theorem Lm(d:Def K mg "in_mark" (top 16) ["byte"])(o1:Ok P w K mg base bh 2 "in_word" ["byte"] (iW g8))(o2:Ok P w K mg base bh 1 "is_capital" ["byte"] (iW ux)):
  Ok P w K mg base bh 3 "in_mark" ["byte"] (iW oW):=d.ok λf fd F=>by
 refine F.ok JX (gI _) (λUJ A outer s H vs Q E hr h=>?_);obtain⟨n,rfl,k⟩:=h;refine⟨_,ai (aC (zf (aM o1 hr (aa (pv 0) ao)) (gH (aM o2 (hr.mono ↑0) (aa (pv 0) ao))))),?_⟩;refine⟨_,rfl,n,rfl,_,rfl,aT (λh1=>?_) λh1=>?_⟩
 ·have e:oW n=true:=by unfold oW;rw[h1];rfl
  rw[e] at k;exact k
 ·refine⟨_,rfl,n,rfl,?_⟩;have e:oW n=ux n:=by
   unfold oW;rw[Bool.not_eq_true] at h1;rw[h1];rfl
  rw[e] at k;exact k
theorem bB{X:Cx}{e:Expr}{te:TE}{p pos:Pos}(ln:X.mg "len"=none)(he:PE X e te)(hg:Gl X "len":=by rfl)(hst:starEach [e] X.env=(false,eval e X.env)::starEach [] X.env:=by rfl)(hpl:(backTo pos (starEach [] X.env)).any (·.1)=false:=by rfl):
  PE X (.Call (.Name "len" p) [e] [] pos) (LA (yU X.K) (bV te d4)):=
 eK (e:=e) (es:=[]) (pos:=pos) x_ hg ln PySem.boot_len (aa he ao hst) ↑0 ↑0 hst hpl
theorem P'{j:Nat}{xs:List V}(h:decide ((j:Int)<((xs.length:Nat):Int))=true):j<xs.length:=by have:=of_decide_eq_true h;omega
theorem PH{j:Nat}{xs:List V}(h:¬decide ((j:Int)<((xs.length:Nat):Int))=true):xs.length<=j:=by have:¬((j:Int)<((xs.length:Nat):Int)):=λz=>h (decide_eq_true z);omega
inductive hX(K:Frag)(vs:List V)(H:Hp)(Q:VK)(E:XK):Prop
 |mk(a:Addr) (b:By) (p:Nat) (_:vs=[.ref a,.int p]) (_:bf K H a (iv b)) (_:Q (.int (cQ b p)) H)
theorem La:ax ["text","place"] ["text","place"] (aq (top 17)):=↑3
theorem JO(d:Def K mg "byte_at" (top 17) ["text","place"])(ln:mg "len"=none):Ok P w K mg base bh 1 "byte_at" ["text","place"] (hX K):=d.ok λf fd F=>by
 refine F.ok La (by rintro vs H Q E ⟨a,b,p,rfl,_⟩;rfl) (λUJ A outer s H vs Q E hr h=>?_);obtain⟨a,b,p,rfl,hS,k⟩:=h;refine⟨_,aj (aR (aD oP (pv 1) (bB ln (pv 0)) (aJ _)) (ai (aC (bz aX (pv 0) (pv 1) (λ_ _=>rfl)))) aL) (ai (aC (gc eg aw))),?_⟩;refine⟨_,rfl,_,rfl,a,_,rfl,.inl hS,_,_,rfl,rfl,_,rfl,aT (λh1=>?_) λh1=>?_⟩
 ·have hp:p<b.length:=by rw[<-aU];exact P' h1
  have hg:b[p]?=some b[p]:=List.getElem?_eq_getElem hp;refine⟨_,rfl,_,rfl,a,_,_,_,rfl,rfl,hS,dE hg,?_⟩;rw[bY hg] at k;exact k
 ·have hn:b[p]?=none:=List.getElem?_eq_none_iff.mpr (by rw[<-aU];exact PH h1);rw[iB hn] at k;exact⟨_,rfl,k⟩
inductive Fits(P:Program)(w:World)(K:Frag)(mg:Str->Option Value)(base:Heap)(f:Addr)(q:UInt8->Bool):Prop
 |mk(fd:FuncData) (pI:Int->Bool) (_:cn P w K mg base bh 3 f fd ["byte"] (iW pI)) (_:Binds K fd ["byte"] []) (_:PySem.W.keepIn K (.ref f)=true) (_:∀c:UInt8,pI c.toNat=q c)
inductive k_(P:Program)(w:World)(K:Frag)(mg:Str->Option Value)(base:Heap)(vs:List V)(H:Hp)(Q:VK)(E:XK):Prop
 |mk(a:Addr) (b:By) (p:Nat) (f:Addr) (q:UInt8->Bool) (_:vs=[.ref a,.int p,.ref f]) (_:bf K H a (iv b)) (_:p<=b.length) (_:Fits P w K mg base f q) (_:Q (.int (aK q b p)) H)
theorem GJ:ax ["text","place","fits"] ["text","place","fits"] (aq (top 18)):=↑3
theorem MF(d:Def K mg "run_end" (top 18) ["text","place","fits"])(ln:mg "len"=none):Ok P w K mg base bh 4 "run_end" ["text","place","fits"] (k_ P w K mg base):=d.ok λf fd F=>by
 refine F.ok GJ (by rintro vs H Q E ⟨a,b,p,f,q,rfl,_⟩;rfl) (λUJ A outer s H vs Q E hr h=>?_);obtain⟨a,b,p,g,q,rfl,hS,hp,⟨gd,pI,FG,bG,kG,eG⟩,k⟩:=h;refine⟨_,aj (ft PassesOwn.never (nA (aD oP (pv 1) (bB ln (pv 0)) (aJ _))
  (i6 (dq (FE (k:=3) (ps:=["byte"]) (sp:=iW pI) 2 hr (aa (bz aX (pv 0) (pv 1) (λ_ _=>rfl)) ao))))).pt
  (ai (ip (i:=1) GJ.nd rfl (Or.inl rfl) aw gP))) (ai (aC (pv 1))),?_⟩
 refine⟨λm σ H'=>∃j:Nat,m=b.length - j/\σ=[some (.ref a),some (.int j),some (.ref g)]/\H'=H/\j<=b.length/\aK q b j=aK q b p,⟨_,p,rfl,rfl,rfl,hp,rfl⟩,?_⟩;rintro m σ H' ⟨j,rfl,rfl,rfl,hj,e⟩;refine⟨_,rfl,_,rfl,a,_,rfl,.inl hS,_,_,rfl,rfl,_,rfl,aT (λh1=>?_) λh1=>?_⟩
 ·have hjl:j<b.length:=by rw[<-aU];exact P' h1
  have hg:b[j]?=some b[j]:=List.getElem?_eq_getElem hjl;refine⟨g,gd,rfl,FG,bG,kG,_,rfl,_,rfl,a,_,_,_,rfl,rfl,hS,dE hg,_,rfl,_,rfl,aT (λh2=>?_) λh2=>?_⟩
  ·rw[eG] at h2;refine⟨λσ' H2=>σ'=[some (.ref a),some (.int ((j+1:Nat):Int)),some (.ref g)]/\H2=H',λσ' H2 ⟨z1,z2⟩=>⟨b.length - (j+1),↑2,j+1,rfl,z1,z2,↑2,?_⟩,_,rfl,_,_,rfl,rfl,rfl,rfl⟩;rw[<-uO hg h2];exact e
  ·rw[eG,Bool.not_eq_true] at h2;refine⟨_,rfl,?_⟩;rw[<-e,Em hg h2] at k;exact k
 ·have hn:b[j]?=none:=List.getElem?_eq_none_iff.mpr (by rw[<-aU];exact PH h1);refine dQ ⟨_,rfl,?_⟩;rw[<-e,Ih hn] at k;exact k
theorem fits_of{nm:Str}{pI:Int->Bool}{q:UInt8->Bool}{j:Nat}(o:Ok P w K mg base bh j nm ["byte"] (iW pI))(hj:j<=3)(e:∀c:UInt8,pI c.toNat=q c):∃f,mg nm=some (.ref f)/\Fits P w K mg base f q:=by obtain⟨f,fd,F,b,m,kp⟩:=o.ex;exact⟨f,m,fd,pI,F.mono hj,b,kp,e⟩
end
section
open EwTree (depthNow depthStep)
theorem Oc:∀(xs ys:List Int),PyData.eqvAll (xs.map PyData.int) (ys.map PyData.int)=decide (xs=ys)
 |[],[]=>by simp[PyData.eqvAll]
 |[],y::ys=>by simp[PyData.eqvAll]
 |x::xs,[]=>by simp[PyData.eqvAll]
 |x::xs,y::ys=>by
  rw[List.map_cons,List.map_cons,PyData.eqvAll,Oc xs ys];by_cases h:x=y
  ·subst h;simp[PyData.eqv]
  ·simp[PyData.eqv,h]
theorem Rp:∀(xs:List Int),PyData.canLayAll0 (xs.map PyData.int)=true/\PyData.depthAll (xs.map PyData.int)<=1
 |[]=>by simp[PyData.canLayAll0,PyData.depthAll]
 |x::xs=>by
  have ih:=Rp xs;simp only[List.map_cons,PyData.canLayAll0,PyData.depthAll,PyData.canLay0,PyData.depth,ih.1,Bool.and_self,true_and];omega
theorem qx(xs:List Int):SeqAt.shaped (.list (xs.map PyData.int))=true:=by unfold SeqAt.shaped;have h:=Rp xs;rw[show PyData.canLay0 (.list (xs.map PyData.int))=PyData.canLayAll0 (xs.map PyData.int) from by rw[PyData.canLay0],h.1,Bool.true_and];refine decide_eq_true ?_;rw[PyData.depth];omega
theorem QG{K:Frag}:∀(xs:List Int),sZ K H (xs.map V.int) (xs.map PyData.int)
 |[]=>.nil
 |x::xs=>.cons (.int x) (QG xs)
inductive QM(K:Frag)(x y:V)(H:Hp)(Q:VK):Prop
 |mk(a b:Addr) (xs ys:List Int) (_:x= .ref a) (_:y= .ref b) (_:bf K H a (xs.map V.int)) (_:bf K H b (ys.map V.int)) (_:Q (.bl (decide (xs=ys))) H)
inductive Rh(K:Frag)(x y:V)(H:Hp)(Q:VK):Prop
 |mk(a b:Addr) (xs ys:List Int) (_:x= .ref a) (_:y= .ref b) (_:bf K H a (xs.map V.int)) (_:bf K H b (ys.map V.int)) (_:Q (.bl (!decide (xs=ys))) H)
theorem js{X:Cx}(hu:X.A.units+64<cLine):i' X (compareOp .Eq) (QM X.K):=by
 rintro UI s σ H x y v u Q I rx ry ⟨a,b,xs,ys,rfl,rfl,h1,h2,q⟩;refine Ou hu UI s σ H _ _ v u Q I rx ry ⟨_,_,.lst h1 (QG xs),.lst h2 (QG ys),qx xs,qx ys,?_⟩;have e:PyData.eqv (.list (xs.map PyData.int)) (.list (ys.map PyData.int))=decide (xs=ys):=by rw[PyData.eqv];exact Oc xs ys
 rw[e];exact q
theorem IA{X:Cx}(hu:X.A.units+64<cLine):i' X (compareOp .NotEq) (Rh X.K):=by
 rintro UI s σ H x y v u Q I rx ry ⟨a,b,xs,ys,rfl,rfl,h1,h2,q⟩;refine NB hu UI s σ H _ _ v u Q I rx ry ⟨_,_,.lst h1 (QG xs),.lst h2 (QG ys),qx xs,qx ys,?_⟩;have e:PyData.eqv (.list (xs.map PyData.int)) (.list (ys.map PyData.int))=decide (xs=ys):=by rw[PyData.eqv];exact Oc xs ys
 rw[e];exact q
theorem As{X:Cx}:Qr X (Ki X.K):=by
 intro UI s σ H x y v u Q I rx ry h;obtain⟨p,xs,i,z,rfl,rfl,hq,he,q⟩:=h;cases rx;obtain⟨t,rfl⟩:=ry;obtain⟨its,r,pl,hz⟩:=I.list hq;obtain⟨j,h1,h2,h3,h4,h5⟩:=qi he;obtain⟨w',ew,rw'⟩:=r.get h2;have hl:=r.length;have hn:=mG;have fin:EP X UI σ Q w' s:=⟨z,H,I,rw',q⟩
 by_cases h0:0<=i
 ·have hj:i.toNat=j:=by
   rw[seqIndex_of h0 h5] at h1;exact Option.some.inj h1
  exact wpAny_getItem_list pl.isList h0 ↑2 (by rw[hj];simpa using ew) fin
 ·have hj:(i+(its.toArray.size:Int)).toNat=j:=by
   rw[seqIndex_neg ↑2 h4] at h1;rw[List.size_toArray,<-hl];exact Option.some.inj h1
  exact wpAny_getItem_list_neg pl.isList ↑2 (by rw[List.size_toArray] <;> omega) ↑2 (by rw[hj];simpa using ew) fin
theorem wu(x:Str):∀(l:List Str),Dn (.str x) (l.map V.str)=decide (x∈l)
 |[]=>rfl
 |y::l=>by
  have ih:=wu x l;unfold Dn at ih ⊢;rw[List.map_cons,List.any_cons,ih];by_cases h:y=x
  ·subst h;simp[En]
  ·have h':¬x=y:=λz=>h z.symm;simp[En,h,h']
theorem sQ:∀(l:List Str),(l.map V.str).all iw=true
 |[]=>rfl
 |y::l=>by rw[List.map_cons,List.all_cons,sQ l];rfl
def nv(l:List Nat):List V:=l.map λ(n:Nat)=>V.int (n:Int)
theorem gU(k:Nat)(r:List Nat):nv (k::r).reverse=nv r.reverse++[.int k]:=by unfold nv;simp
theorem Lu(l:List Nat):nv l=(l.map λ(n:Nat)=>(n:Int)).map V.int:=by unfold nv;rw[List.map_map];rfl
theorem i9(xs:List V)(v:V):vm (xs++[v]) (-1)=some v:=by
 unfold vm Fv;rw[List.length_append,List.length_singleton,if_neg ↑0,if_pos ↑2];have:((-1:Int)+((xs.length+1:Nat):Int)).toNat=xs.length:=↑2
 rw[this];simp
theorem yl(xs:List V)(v:V):Fv (xs++[v]).length (-1)=some xs.length:=by unfold Fv;rw[List.length_append,List.length_singleton,if_neg ↑0,if_pos ↑2];congr 1;omega
theorem sT(xs:List V)(v u:V):(xs++[v]).set xs.length u=xs++[u]:=by simp
theorem HB(xs:List V)(v:V):(xs++[v])[(xs++[v]).length - 1]?=some v/\(xs++[v]).dropLast=xs:=by simp
def dI(l:List Nat):Int:=(depthNow l:Nat)
theorem kX(k:Nat)(r:List Nat):dI (k::r)=(r.length:Int)+k+(r.foldr (λ(a b:Nat)=>a+b) 0:Nat):=by unfold dI depthNow;simp only[List.length_cons,List.foldr_cons];omega
def Fy(a:Addr)(H H':Hp):Prop:=∀b o,H b=some o->b≠a->H' b=some o
inductive y0(vs:List V)(H:Hp)(Q:VK)(E:XK):Prop
 |mk(a:Addr) (k:Nat) (r:List Nat) (_:vs=[.ref a]) (_:H a=some (.lst (nv (k::r).reverse))) (_:Q (.int (0 - (k:Int))) (upd H a (.lst (nv (0::r).reverse))))
theorem Hy:ax ["numbers","grown"] ["numbers"] (aq (top 8)):=↑3
theorem OP(d:Def K mg "growth_by_clearing" (top 8) ["numbers"]):Ok P w K mg base bh 1 "growth_by_clearing" ["numbers"] y0:=d.ok λf fd F=>by
 refine F.ok Hy (by rintro vs H Q E ⟨a,k,r,rfl,_⟩;rfl) (λUJ A outer s H vs Q E hr h=>?_);obtain⟨a,k,r,rfl,h1,q⟩:=h;rw[gU] at h1 q;refine⟨_,aj (aN (i:=1) Hy.nd rfl (Or.inl rfl) (bA jP aw (bz aX (pv 0) (gc eg aw) (λ_ _=>rfl))))
  (aj (Mf aw (Nm (pv 0) (gc eg aw) set_list)) (ai (aC (pv 1)))),?_⟩
 refine⟨_,rfl,_,rfl,a,_,_,_,rfl,rfl,bf.of h1,i9 _ _,_,_,rfl,rfl,_,rfl,_,rfl,a,_,_,_,rfl,rfl,h1,yl _ _,_,rfl,?_⟩;rw[sT];exact q
inductive Lz(vs:List V)(H:Hp)(Q:VK)(E:XK):Prop
 |mk(a:Addr) (k:Nat) (r:List Nat) (x:Str) (_:vs=[.ref a,.str x]) (_:H a=some (.lst (nv (k::r).reverse))) (_:r.length<1000000) (_:∀H',H' a=some (.lst (nv (qj (if x="}" then 3 else 2) (k::r)).reverse))->Fy a H H'->Q (.int (dI (qj (if x="}" then 3 else 2) (k::r)) - dI (k::r))) H')
theorem A_:ax ["numbers","look","grown"] ["numbers","look"] (aq (top 7)):=↑3
theorem zm(k k2:Nat)(r2:List Nat)(g:Int)(r:List Nat)(hd:(match r with|[]=>[0]|k2::r2=>k2::r2)=k2::r2)(hg:g=(if r=[] then 0 - (k:Int) else 0 - (k:Int) - 1)):
  qj 3 (k::r)=0::r2/\g+(0 - (k2:Int))=dI (0::r2) - dI (k::r)/\qj 2 (k::r)=(k2+1)::r2/\g+1=dI ((k2+1)::r2) - dI (k::r):=by
 cases r with
 |nil=>
  injection hd with h1 h2;subst h1;subst h2;rw[if_pos rfl] at hg;refine⟨rfl,?_,rfl,?_⟩ <;> simp only[kX,List.length_nil,List.foldr_nil] <;> omega
 |cons a b=>
  injection hd with h1 h2;subst h1;subst h2;rw[if_neg (by simp)] at hg;refine⟨rfl,?_,rfl,?_⟩ <;> simp only[kX,List.length_cons,List.foldr_cons] <;> omega
theorem MT(d:Def K mg "growth_by_closing" (top 7) ["numbers","look"])(oc:Ok P w K mg base bh 1 "growth_by_clearing" ["numbers"] y0):Ok P w K mg base bh 2 "growth_by_closing" ["numbers","look"] Lz:=d.ok λf fd F=>by
 refine F.ok A_ (by rintro vs H Q E ⟨a,k,r,x,rfl,_⟩;rfl) (λUJ A outer s H vs Q E hr h=>?_);obtain⟨a,k,r,x,rfl,h1,hlen,q⟩:=h;rw[gU] at h1;have hp:=HB (nv r.reverse) (.int k);refine⟨_,aj (aN (i:=2) A_.nd rfl (Or.inl rfl) (bA jP aw (tT PySem.F.plainAttrs_list PySem.F.slot_list_pop PySem.F.type_list_pop qR (pv 0))))
  (aj (aR (aD (js hr.units) (pv 0) (bx ao) (aJ _))
   (ai (aS (fK PySem.F.plainAttrs_list PySem.F.slot_list_append PySem.F.type_list_append cY (pv 0) (aa aw ao))))
   (ai (ip (i:=2) A_.nd rfl (Or.inl rfl) aw O7)))
  (aj (aR (aD cG (pv 1) bN (aJ _)) (ai (aC (bA cu (pv 2) (aM oc hr (aa (pv 0) ao))))) aL)
  (aj (Ct (pv 0) (gc eg aw) As aw gP set_list)
  (ai (aC (bA cu (pv 2) aw)))))),?_⟩
 refine⟨_,rfl,.inl ⟨rfl,_,bf.of h1⟩,a,_,_,rfl,rfl,h1,hp.1,_,_,rfl,rfl,?_⟩;rw[hp.2];refine⟨_,rfl,Nat.zero_le _,λe he=>?_⟩;have hne:e≠a:=λz=>by rw[z,ag] at he;cases he
 have s1:(upd (upd H a (.lst (nv r.reverse))) e (.lst [])) a=some (.lst (nv r.reverse)):=by rw[ah (Ne.symm hne),ag]
 have he0:H e=none:=by rw[ah hne] at he;exact he
 have go:∀(k2:Nat)(r2:List Nat)(H2:Hp)(g:Int),H2 a=some (.lst (nv (k2::r2).reverse))->Fy a H H2->qj 3 (k::r)=0::r2->g+(0 - (k2:Int))=dI (0::r2) - dI (k::r)->qj 2 (k::r)=(k2+1)::r2->g+1=dI ((k2+1)::r2) - dI (k::r)->
   Cd (Jb (ra (AB R5 (dc 1) (tC (.str "}")))) (pC (AB (CO λi j=>.int (i+j)) (dc 2) (iK y0 [] E0 (bV (dc 0) d4)))) zG)
    (Cd (LL (dc 0) (Uc (rU λi=>.int (-i)) (tC (.int 1))) (tC (.int 1)) (Ki K) (Th λi j=>i+j) L_) (pC (AB (CO λi j=>.int (i+j)) (dc 2) (tC (.int 1)))))
    {nx:=λ_ H'=>Q .bF H',rt:=Q} [some (.ref a),some (.str x),some (.int g)] H2:=by
  intro k2 r2 H2 g hH2 fr e3 d3 e2 d2;refine⟨_,rfl,rfl,_,rfl,aT (λhx=>?_) λhx=>?_⟩
  ·have hx:x="}":=by have:=of_decide_eq_true hx;injection this
   rw[if_pos hx,e3,<-d3] at q;refine⟨_,rfl,_,rfl,a,k2,r2,rfl,hH2,_,_,rfl,rfl,?_⟩;exact q _ ag λb o hb hba=>by rw[ah hba];exact fr b o hb hba
  ·have hx:¬x="}":=λz=>hx (decide_eq_true (by rw[z]));rw[if_neg hx,e2,<-d2] at q;rw[gU] at hH2;refine⟨_,rfl,_,rfl,a,_,_,_,rfl,rfl,bf.of hH2,i9 _ _,_,_,rfl,rfl,a,_,_,_,rfl,rfl,hH2,yl _ _,_,rfl,_,_,rfl,rfl,?_⟩;refine q _ ?_ λb o hb hba=>by rw[ah hba];exact fr b o hb hba
   rw[ag,sT,gU];rfl
 refine⟨a,e,r.reverse.map (λ(n:Nat)=>(n:Int)),[],rfl,rfl,bf.of (by rw[s1,Lu]),bf.of ag,_,rfl,aT (λhx=>?_) λhx=>?_⟩
 ·have hx:=of_decide_eq_true hx;have hr0:r=[]:=by
   have:=congrArg List.length hx;simp at this;exact this
  subst hr0;refine⟨_,rfl,.inl ⟨rfl,_,bf.of s1⟩,a,_,_,rfl,rfl,s1,(by show 0<sizeLine;decide),?_⟩;obtain⟨t1,t2,t3,t4⟩:=zm k 0 [] _ [] rfl rfl;refine go 0 [] _ _ (by rw[ag];rfl) (λb o hb hba=>?_) t1 t2 t3 t4;rw[ah hba,ah (au hb he0),ah hba];exact hb
 ·have hr0:r≠[]:=λz=>hx (decide_eq_true (by rw[z];rfl));obtain⟨k2,r2,rfl⟩:∃k2 r2,r=k2::r2:=by
   cases r with
   |nil=>exact absurd rfl hr0
   |cons x y=>exact⟨x,y,rfl⟩
  refine⟨_,rfl,_,_,rfl,rfl,?_⟩;obtain⟨t1,t2,t3,t4⟩:=zm k k2 r2 _ (k2::r2) rfl rfl;rw[if_neg hr0] at t2 t4;refine go k2 r2 _ _ s1 (λb o hb hba=>?_) t1 t2 t3 t4;rw[ah (au hb he0),ah hba];exact hb
def GT(K:Frag)(mg:Str->Option Value)(nm:Str)(l:List V):Prop:=∃a,mg nm=some (.ref a)/\∀H,fE K H a l
def GD(K:Frag)(P:Params)(mg:Str->Option Value)(nm:Str)(l:List Str):Prop:=∃a,mg nm=some (.ref a)/\R8 K P a l
theorem MU{x:Str}(h:x∈jj):eS x=1:=by unfold eS;rw[if_pos h]
theorem Np{x:Str}(h1:¬x∈jj)(h:x∈gF):eS x=(if x="}" then 3 else 2):=by unfold eS;rw[if_neg h1,if_pos h]
theorem M6{x:Str}(h1:¬x∈jj)(h2:¬x∈gF)(h:x∈oC):eS x=4:=by unfold eS;rw[if_neg h1,if_neg h2,if_pos h]
theorem Nl{x:Str}(h1:¬x∈jj)(h2:¬x∈gF)(h3:¬x∈oC)(h:x∈jB):eS x=5:=by unfold eS;rw[if_neg h1,if_neg h2,if_neg h3,if_pos h]
theorem O3{x:Str}(h1:¬x∈jj)(h2:¬x∈gF)(h3:¬x∈oC)(h:¬x∈jB):eS x=0:=by unfold eS;rw[if_neg h1,if_neg h2,if_neg h3,if_neg h]
inductive Lw(vs:List V)(H:Hp)(Q:VK)(E:XK):Prop
 |mk(a:Addr) (l:List Nat) (x:Str) (_:vs=[.ref a,.str x]) (_:H a=some (.lst (nv l.reverse))) (_:l≠[]) (_:l.length<1000000) (_:∀H',H' a=some (.lst (nv (qj (eS x) l).reverse))->Fy a H H'->Q (.int (dI (qj (eS x) l) - dI l)) H')
theorem OY:ax ["numbers","look"] ["numbers","look"] (aq (top 6)):=↑3
theorem N_(d:Def K mg "growth" (top 6) ["numbers","look"])(g1:GT K mg "OPENING" (jj.map V.str))(g2:GT K mg "CLOSING" (gF.map V.str))(g3:GD K w.params mg "RISING" oC)(g4:GD K w.params mg "CLEARING" jB)(oc:Ok P w K mg base bh 2 "growth_by_closing" ["numbers","look"] Lz)(ol:Ok P w K mg base bh 1 "growth_by_clearing" ["numbers"] y0):Ok P w K mg base bh 3 "growth" ["numbers","look"] Lw:=d.ok λf fd F=>by
 refine F.ok OY (by rintro vs H Q E ⟨a,l,x,rfl,_⟩;rfl) (λUJ A outer s H vs Q E hr h=>?_);obtain⟨a,l,x,rfl,h1,hne,hlen,q⟩:=h;obtain⟨a1,m1,t1⟩:=g1;obtain⟨a2,m2,t2⟩:=g2;obtain⟨a3,m3,t3⟩:=g3;obtain⟨a4,m4,t4⟩:=g4;obtain⟨k,r,rfl⟩:∃k r,l=k::r:=by
  cases l with
  |nil=>exact absurd rfl hne
  |cons x y=>exact⟨x,y,rfl⟩
 have hlr:r.length<1000000:=by simp at hlen;omega
 refine⟨_,aj (aR (aD e_ (pv 1) (fQ m1) (by with_unfolding_all rfl))
   (aj (aS (fK PySem.F.plainAttrs_list PySem.F.slot_list_append PySem.F.type_list_append cY (pv 0) (aa aw ao))) (ai (aC aw))) aL)
  (aj (aR (aD e_ (pv 1) (fQ m2) (by with_unfolding_all rfl)) (ai (aC (aM oc hr (aa (pv 0) (aa (pv 1) ao))))) aL)
  (aj (aR (aD Bn (pv 1) (fQ m3) (by with_unfolding_all rfl)) (aj (Ct (pv 0) (gc eg aw) As aw gP set_list) (ai (aC aw))) aL)
  (aj (aR (aD Bn (pv 1) (fQ m4) (by with_unfolding_all rfl)) (ai (aC (aM ol (hr.mono ↑0) (aa (pv 0) ao)))) aL)
  (ai (aC aw))))),?_⟩
 refine⟨_,rfl,a1,_,rfl,.inr (t1 _),rfl,sQ _,_,rfl,?_⟩;rw[wu];refine aT (λz1=>?_) λz1=>?_
 ·have z1:=of_decide_eq_true (p:=x∈jj) z1;rw[MU z1] at q;refine⟨_,rfl,.inl ⟨rfl,_,bf.of h1⟩,a,_,_,rfl,rfl,h1,?_,?_⟩
  ·unfold nv;rw[List.length_map,List.length_reverse,sizeLine_eq];omega
  ·have e:(1:Int)=dI (qj 1 (k::r)) - dI (k::r):=by
    show(1:Int)=dI (0::k::r) - dI (k::r);simp only[kX,List.length_cons,List.foldr_cons];omega
   rw[<-e] at q;refine q _ ?_ λb o hb hba=>by rw[ah hba];exact hb
   rw[ag];show some (HO.lst (nv (k::r).reverse++[V.int 0]))=some (HO.lst (nv (0::k::r).reverse));rw[gU 0 (k::r)];rfl
 have z1:¬x∈jj:=λz=>z1 (decide_eq_true z);refine⟨_,rfl,a2,_,rfl,.inr (t2 _),rfl,sQ _,_,rfl,?_⟩;rw[wu];refine aT (λz2=>?_) λz2=>?_
 ·have z2:=of_decide_eq_true (p:=x∈gF) z2;rw[Np z1 z2] at q;exact⟨_,rfl,_,rfl,a,k,r,x,rfl,h1,hlr,q⟩
 have z2:¬x∈gF:=λz=>z2 (decide_eq_true z);refine⟨_,rfl,x,a3,oC,rfl,rfl,t3,_,rfl,aT (λz3=>?_) λz3=>?_⟩
 ·have z3:=of_decide_eq_true z3;rw[M6 z1 z2 z3] at q;rw[gU] at h1;refine⟨_,rfl,_,rfl,a,_,_,_,rfl,rfl,bf.of h1,i9 _ _,_,_,rfl,rfl,a,_,_,_,rfl,rfl,h1,yl _ _,?_⟩;have e:(1:Int)=dI (qj 4 (k::r)) - dI (k::r):=by
   show(1:Int)=dI ((k+1)::r) - dI (k::r);simp only[kX];omega
  rw[<-e] at q;refine q _ ?_ λb o hb hba=>by rw[ah hba];exact hb
  rw[ag,sT];show some (HO.lst (nv r.reverse++[V.int ((k:Int)+1)]))=some (HO.lst (nv ((k+1)::r).reverse));rw[gU (k+1) r];rfl
 have z3:¬x∈oC:=λz=>z3 (decide_eq_true z);refine⟨_,rfl,x,a4,jB,rfl,rfl,t4,_,rfl,aT (λz4=>?_) λz4=>?_⟩
 ·have z4:=of_decide_eq_true z4;rw[Nl z1 z2 z3 z4] at q;refine⟨_,rfl,a,k,r,rfl,h1,?_⟩;have e:0 - (k:Int)=dI (qj 5 (k::r)) - dI (k::r):=by
   show 0 - (k:Int)=dI (0::r) - dI (k::r);simp only[kX];omega
  rw[<-e] at q;exact q _ ag λb o hb hba=>by rw[ah hba];exact hb
 ·have z4:¬x∈jB:=λz=>z4 (decide_eq_true z);rw[O3 z1 z2 z3 z4] at q;show Q (.int 0) _;have e:(0:Int)=dI (qj 0 (k::r)) - dI (k::r):=by
   show(0:Int)=dI (k::r) - dI (k::r);omega
  rw[<-e] at q;exact q _ h1 λb o hb _=>hb
def tf(kd:Int)(lk:Str)(st en:Int):List (Str×V):=aW "end" (.int en) (aW "start" (.int st) (aW "look" (.str lk) (aW "kind" (.int kd) [])))
theorem CP(kd:Int)(lk:Str)(st en:Int):(tf kd lk st en).lookup ("kind":Str)=some (.int kd):=by unfold tf;rw[aA,if_neg ↑1,aA,if_neg ↑1,aA,if_neg ↑1,aA,if_pos rfl]
theorem DK(kd:Int)(lk:Str)(st en:Int):(tf kd lk st en).lookup ("look":Str)=some (.str lk):=by unfold tf;rw[aA,if_neg ↑1,aA,if_neg ↑1,aA,if_pos rfl]
theorem kx(kd:Int)(lk:Str)(st en:Int):(tf kd lk st en).lookup ("start":Str)=some (.int st):=by unfold tf;rw[aA,if_neg ↑1,aA,if_pos rfl]
theorem xK(kd:Int)(lk:Str)(st en:Int):(tf kd lk st en).lookup ("end":Str)=some (.int en):=by unfold tf;rw[aA,if_pos rfl]
def eE(C:Addr)(H:Hp)(r:Addr)(t:EwTree.Tok):Prop:=∃dx,H r=some (.ins C dx (tf t.kind (bL t) t.place t.halt_))
structure yf(K:Frag)(C:Addr):Prop where
 cl:sL K C
 nk:aE K C "kind"
 nl:aE K C "look"
 ns:aE K C "start"
 ne:aE K C "end"
def LW(K:Frag)(C:Addr):Sp:=λvs H Q _=>∃(a:Addr)(rs:List Addr)(ts:List EwTree.Tok),vs=[.ref a]/\bf K H a (rs.map V.ref)/\Paired (λr t=>eE C H r t) rs ts/\(∀t∈ts,Good t)/\ts.length<1000000 - 10/\
 ∀H',aG H H'->Q (.int ((cW ts).2:Nat)) H'
theorem ju:ax ["found","numbers","together","greatest","token"] ["found"] (aq (top 5)):=↑3
theorem take_snoc{α:Type}:∀{l:List α}{i:Nat}{x:α},l[i]?=some x->l.take (i+1)=l.take i++[x]
 |[],i,x,h=>by simp at h
 |a::l,0,x,h=>by
  have e:a=x:=Option.some.inj h;subst e;rfl
 |a::l,i+1,x,h=>by
  have ih:=take_snoc (l:=l) (i:=i) (x:=x) h;show a::l.take (i+1)=a::l.take i++[x];rw[ih];rfl
theorem Ln(c:Nat)(l:List Nat)(h:l≠[]):(qj c l).length<=l.length+1:=by
 unfold qj;split
 ·simp
 ·split
  ·simp
  ·rename_i k r e;have:=congrArg List.length e;simp at this ⊢;omega
 ·split
  ·simp
  ·rename_i k r e;have:=congrArg List.length e;simp at this ⊢;omega
 ·split
  ·simp
  ·simp
 ·simp
 ·omega
theorem yH:∀(n:Nat)(ts:List EwTree.Tok),(∀t∈ts,Good t)->n<=ts.length->(cW (ts.take n)).1.length<=n+1
 |0,ts,_,_=>by rw[List.take_zero];exact Nat.le_refl _
 |n+1,ts,g,h=>by
  have hn:n<ts.length:=↑2
  have e:=take_snoc (List.getElem?_eq_getElem hn);have gn:∀t∈ts.take n,Good t:=λt ht=>g t (List.mem_of_mem_take ht);rw[e,nh,eU (g _ (List.getElem_mem hn))];have:=yH n ts g ↑2;have:=Ln (eS (bL ts[n])) (cW (ts.take n)).1 (DE _ gn);dsimp only;omega
theorem MI(d:Def K mg "depth" (top 5) ["found"])(T:yf K C)(mx:mg "max"=none)(og:Ok P w K mg base bh 3 "growth" ["numbers","look"] Lw):Ok P w K mg base bh 4 "depth" ["found"] (LW K C):=d.ok λf fd F=>by
 refine F.ok ju (by rintro vs H Q E ⟨a,rs,ts,rfl,_⟩;rfl) (λUJ A outer s H vs Q E hr h=>?_);obtain⟨a,rs,ts,rfl,hS,hT,hg,hlen,q⟩:=h;refine⟨_,aj (aN (i:=1) ju.nd rfl (Or.inl rfl) (bx (aa aw ao))) (aj (aN (i:=2) ju.nd rfl (Or.inl rfl) aw) (aj (aN (i:=3) ju.nd rfl (Or.inl rfl) aw)
  (aj (rQ PassesOwn.never rfl (qp (pv 0)) (fN (i:=4) ju.nd rfl (Or.inl rfl))
   (aj (ip (i:=2) ju.nd rfl (Or.inl rfl) (aM og hr (aa (pv 1) (aa (ay (pv 4) rfl) ao))) gP)
   (ai (aN (i:=3) ju.nd rfl (Or.inl rfl) (eK (uG rfl) (by rfl) mx boot_max (aa (pv 3) (aa (pv 2) ao)))))))
  (ai (aC (pv 3)))))),?_⟩
 refine⟨(by show 1<=sizeLine;decide),λnl hnl=>?_⟩;have s0:aG H (upd H nl (.lst [.int 0])):=λb o e=>by rw[ah (au e hnl)];exact e
 have hlr:rs.length=ts.length:=Paired.length hT;refine⟨_,rfl,a,rfl,⟨_,s0.seq hS⟩,Ai (K:=K) (a:=a) (xs:=rs.map V.ref) (λi σ H'=>∃v4:Option V,σ=[some (.ref a),some (.ref nl),some (.int (dI (cW (ts.take i)).1)),some (.int ((cW (ts.take i)).2:Nat)),v4]/\
   H' nl=some (.lst (nv (cW (ts.take i)).1.reverse))/\aG H H')
  ⟨none,rfl,by rw[ag];rfl,s0⟩ (λi σ H' _ ⟨_,_,_,s1⟩=>s1.seq hS) ?_ ?_⟩
 ·rintro i y σ H' hi ⟨v4,rfl,hn,s1⟩;obtain⟨r,hr',rfl⟩:∃r,rs[i]?=some r/\y=V.ref r:=by
   rw[List.getElem?_map] at hi;cases e:rs[i]? with
   |none=>rw[e] at hi;cases hi
   |some z=>rw[e] at hi;exact⟨z,rfl,(Option.some.inj hi).symm⟩
  obtain⟨t,ht,dx,hat⟩:=jr hT hr';have hil:i<ts.length:=(List.getElem?_eq_some_iff.mp ht).1;have gt:Good t:=hg t (List.mem_of_getElem? ht);have gi:∀u∈ts.take i,Good u:=λu hu=>hg u (List.mem_of_mem_take hu);have hne:=DE _ gi;have hln:=yH i ts hg ↑2;refine⟨_,rfl,_,rfl,rV rfl (rf (s1 _ _ hat) T.cl T.nl (DK _ _ _ _) ⟨nl,_,_,rfl,hn,hne,↑2,λH2 h2 fr=>?_⟩)⟩;have e1:(cW (ts.take (i+1))).1=qj (eS (bL t)) (cW (ts.take i)).1:=by rw[take_snoc ht,nh,eU gt]
  have e2:(cW (ts.take (i+1))).2=max (cW (ts.take i)).2 (depthNow (cW (ts.take (i+1))).1):=by
   rw[e1,take_snoc ht,nh,eU gt]
  refine⟨_,_,rfl,rfl,_,rfl,_,rfl,_,_,rfl,?_⟩;refine⟨some (.ref r),?_,by rw[e1];exact h2,λb o hb=>fr b o (s1 b o hb) λz=>by rw[z,hnl] at hb;cases hb⟩;have v2:dI (cW (ts.take i)).1+(dI (qj (eS (bL t)) (cW (ts.take i)).1) - dI (cW (ts.take i)).1)=dI (cW (ts.take (i+1))).1:=by rw[e1];omega
  have v3:(if dI (cW (ts.take i)).1+(dI (qj (eS (bL t)) (cW (ts.take i)).1) - dI (cW (ts.take i)).1)>((cW (ts.take i)).2:Int) then dI (cW (ts.take i)).1+(dI (qj (eS (bL t)) (cW (ts.take i)).1) - dI (cW (ts.take i)).1) else((cW (ts.take i)).2:Int))=(((cW (ts.take (i+1))).2:Nat):Int):=by
   rw[v2,e2];unfold dI;split <;> omega
  rw[v3];show[some (V.ref a),some (V.ref nl),some (V.int (dI (cW (ts.take i)).1+(dI (qj (eS (bL t)) (cW (ts.take i)).1) - dI (cW (ts.take i)).1))),_,_]=_;rw[v2]
 ·rintro σ H' ⟨v4,rfl,_,s1⟩;refine⟨_,rfl,?_⟩;rw[List.length_map,hlr,List.take_length];exact q H' s1
end
section
open EwTree (isSmall isBig isDigit isSeen isWordByte isCodeByte isMarkByte)
theorem bt(a b:Int):decide (V.int a=V.int b)=decide (a=b):=by
 by_cases h:a=b
 ·subst h;simp
 ·simp[h]
theorem el(b:By):iv b=(b.map λ(c:UInt8)=>(c.toNat:Int)).map V.int:=by unfold iv;rw[List.map_map];rfl
theorem rH{b:By}:decide ((b.map λ(c:UInt8)=>(c.toNat:Int))=[])=decide (b=[]):=by cases b <;> simp
theorem qS{b:By}{i j:Nat}(hj:j<=b.length)(hij:i<=j):gT (iv b) (some (i:Int)) (some (j:Int))=iv (cut b i j):=by unfold gT cut iv;rw[HT.kr,HT.kr,List.length_map,Nat.min_eq_left hj,Nat.min_eq_left ↑2,List.map_take,List.map_drop]
theorem DX{b:By}{i:Nat}(hi:i<=b.length):gT (iv b) (some (i:Int)) none=iv (b.drop i):=by unfold gT iv;rw[HT.kr,HT.F7,List.length_map,Nat.min_eq_left hi,List.take_of_length_le (by rw[List.length_drop,List.length_map];omega),List.map_drop]
structure vt(P:Program)(w:World)(K:Frag)(mg:Str->Option Value)(base:Heap)(k:Nat)(nm:Str)(C:Addr)(ps:List Str)(sp:Sp):Prop where
 ex:∃(f:Addr)(fd:FuncData),Mk K C f/\cn P w K mg base bh k f fd ps sp/\Binds K fd ps []/\mg nm=some (.ref C)
structure wx(K:Frag)(mg:Str->Option Value)(nm qual:Str)(st:Stmt)(C:Addr)(ps:List Str):Prop where
 ex:∃(f:Addr)(fd:FuncData),Mk K C f/\jC K "__init__" qual st f fd/\Binds K fd ps []/\mg nm=some (.ref C)
theorem wx.new{P:Program}{w:World}{K:Frag}{mg:Str->Option Value}{base:Heap}{k:Nat}{nm qual:Str}{st:Stmt}{sp:Sp}(d:wx K mg nm qual st C ps)(h:∀f fd,jC K "__init__" qual st f fd->cn P w K mg base bh k f fd ps sp):
  vt P w K mg base k nm C ps sp:=by
 obtain⟨f,fd,M,F,b,m⟩:=d.ex;exact⟨f,fd,M,h f fd F,b,m⟩
theorem eM{X:Cx}{k:Nat}{sp:Sp}{x:Str}{p pos:Pos}{e:Expr}{es:List Expr}{t:TA}(o:vt X.prog X.w X.K X.mg X.base k x C ps sp)(hr:bC (k+1) X.A)(ha:PA X (e::es) t)(hg:Gl X x:=by rfl)(hdb:(x==("__debug__":Str))=false:=by decide)(he:starEach (e::es) X.env=(false,eval e X.env)::starEach es X.env:=by rfl)(hpl:(backTo pos (starEach es X.env)).any (·.1)=false:=by rfl):PE X (.Call (.Name x p) (e::es) [] pos) (u4 C sp [] E0 t):=by obtain⟨f,fd,M,F,b,m⟩:=o.ex;exact K3 M F hr hg m b .nil g_ ha hdb he hpl
abbrev Ir:Stmt:=inClass (top 64) 0
inductive Jr(C:Addr)(vs:List V)(H:Hp)(Q:VK)(E:XK):Prop
 |mk(p dx:Addr) (kd:Int) (lk:Str) (st en:Int) (_:vs=[.ref p,.int kd,.str lk,.int st,.int en]) (_:H p=some (.ins C dx [])) (_:∀H',H' p=some (.ins C dx (tf kd lk st en))->Fy p H H'->Q .bF H')
theorem N7:ax ["self","kind","look","start","end"] ["self","kind","look","start","end"] (aq Ir):=↑3
theorem T_{p:Addr}{o1 o2 o3 o4:HO}:Fy p H (upd (upd (upd (upd H p o1) p o2) p o3) p o4):=λb o hb hp=>by
 rw[ah hp,ah hp,ah hp,ah hp];exact hb
theorem Lb(d:wx K mg "Token" "Token.__init__" Ir C ["self","kind","look","start","end"])(T:yf K C):vt P w K mg base 1 "Token" C ["self","kind","look","start","end"] (Jr C):=d.new λf fd F=>by
 refine F.ok N7 (by rintro vs H Q E ⟨p,dx,kd,lk,st,en,rfl,_⟩;rfl) (λUJ A outer s H vs Q E hr h=>?_);obtain⟨p,dx,kd,lk,st,en,rfl,h1,k⟩:=h;refine⟨_,aj (bE (pv 0) (pv 1) rfl) (aj (bE (pv 0) (pv 2) rfl) (aj (bE (pv 0) (pv 3) rfl) (ai (bE (pv 0) (pv 4) rfl)))),?_⟩;refine⟨_,rfl,_,rfl,p,C,dx,[],rfl,h1,T.cl,T.nk,(by show 0<1000;decide),_,rfl,_,rfl,p,C,dx,_,rfl,ag,T.cl,T.nl,Nat.lt_of_le_of_lt (aF _ _ _) (by show 1<1000;decide),
  _,rfl,_,rfl,p,C,dx,_,rfl,ag,T.cl,T.ns,Nat.lt_of_le_of_lt (aF _ _ _) (Nat.lt_of_le_of_lt (Nat.succ_le_succ (aF _ _ _)) (by show 2<1000;decide)),
  _,rfl,_,rfl,p,C,dx,_,rfl,ag,T.cl,T.ne,Nat.lt_of_le_of_lt (aF _ _ _) (Nat.lt_of_le_of_lt (Nat.succ_le_succ (aF _ _ _)) (Nat.lt_of_le_of_lt (Nat.succ_le_succ (Nat.succ_le_succ (aF _ _ _))) (by show 3<1000;decide))),?_⟩
 exact k _ ag T_
abbrev Ji:Stmt:=inClass (top 29) 0
abbrev IE:Stmt:=inClass (top 29) 1
def nf(d f e m:Addr):List (Str×V):=aW "mark" (.ref m) (aW "exponent" (.ref e) (aW "fraction" (.ref f) (aW "digits" (.ref d) [])))
theorem i7(d f e m:Addr):(nf d f e m).lookup ("digits":Str)=some (.ref d):=by unfold nf;rw[aA,if_neg ↑1,aA,if_neg ↑1,aA,if_neg ↑1,aA,if_pos rfl]
theorem oH(d f e m:Addr):(nf d f e m).lookup ("fraction":Str)=some (.ref f):=by unfold nf;rw[aA,if_neg ↑1,aA,if_neg ↑1,aA,if_pos rfl]
theorem fG(d f e m:Addr):(nf d f e m).lookup ("exponent":Str)=some (.ref e):=by unfold nf;rw[aA,if_neg ↑1,aA,if_pos rfl]
theorem qt(d f e m:Addr):(nf d f e m).lookup ("mark":Str)=some (.ref m):=by unfold nf;rw[aA,if_pos rfl]
theorem CB(d f e m:Addr):(nf d f e m).lookup ("size":Str)=none:=by unfold nf;rw[aA,if_neg ↑1,aA,if_neg ↑1,aA,if_neg ↑1,aA,if_neg ↑1];rfl
structure EU(K:Frag)(C:Addr):Prop where
 cl:sL K C
 nd:aE K C "digits"
 nf:aE K C "fraction"
 ne:aE K C "exponent"
 nm:aE K C "mark"
inductive Bz(C:Addr)(vs:List V)(H:Hp)(Q:VK)(E:XK):Prop
 |mk(p dx d f e m:Addr) (_:vs=[.ref p,.ref d,.ref f,.ref e,.ref m]) (_:H p=some (.ins C dx [])) (_:∀H',H' p=some (.ins C dx (nf d f e m))->Fy p H H'->Q .bF H')
theorem Km:ax ["self","digits","fraction","exponent","mark"] ["self","digits","fraction","exponent","mark"] (aq Ji):=↑3
theorem Kk(d:wx K mg "Numeral" "Numeral.__init__" Ji C ["self","digits","fraction","exponent","mark"])(T:EU K C):vt P w K mg base 1 "Numeral" C ["self","digits","fraction","exponent","mark"] (Bz C):=d.new λf fd F=>by
 refine F.ok Km (by rintro vs H Q E ⟨p,dx,d,f,e,m,rfl,_⟩;rfl) (λUJ A outer s H vs Q E hr h=>?_);obtain⟨p,dx,d,f,e,m,rfl,h1,k⟩:=h;refine⟨_,aj (bE (pv 0) (pv 1) rfl) (aj (bE (pv 0) (pv 2) rfl) (aj (bE (pv 0) (pv 3) rfl) (ai (bE (pv 0) (pv 4) rfl)))),?_⟩;refine⟨_,rfl,_,rfl,p,C,dx,[],rfl,h1,T.cl,T.nd,(by show 0<1000;decide),_,rfl,_,rfl,p,C,dx,_,rfl,ag,T.cl,T.nf,Nat.lt_of_le_of_lt (aF _ _ _) (by show 1<1000;decide),
  _,rfl,_,rfl,p,C,dx,_,rfl,ag,T.cl,T.ne,Nat.lt_of_le_of_lt (aF _ _ _) (Nat.lt_of_le_of_lt (Nat.succ_le_succ (aF _ _ _)) (by show 2<1000;decide)),
  _,rfl,_,rfl,p,C,dx,_,rfl,ag,T.cl,T.nm,Nat.lt_of_le_of_lt (aF _ _ _) (Nat.lt_of_le_of_lt (Nat.succ_le_succ (aF _ _ _)) (Nat.lt_of_le_of_lt (Nat.succ_le_succ (Nat.succ_le_succ (aF _ _ _))) (by show 3<1000;decide))),?_⟩
 exact k _ ag T_
inductive sY(C:Addr)(H:Hp)(r:Addr)(d f e m:By):Prop
 |mk(dx:_) (ad:_) (af:_) (ae:_) (am:_) (_:H r=some (.ins C dx (nf ad af ae am))) (_:H ad=some (.lst (iv d))) (_:H af=some (.lst (iv f))) (_:H ae=some (.lst (iv e))) (_:H am=some (.lst (iv m)))
theorem sY.same{H':Hp}{r:Addr}{d f e m:By}(s:aG H H')(h:sY C H r d f e m):sY C H' r d f e m:=by obtain⟨dx,ad,af,ae,am,h1,h2,h3,h4,h5⟩:=h;exact⟨dx,ad,af,ae,am,s _ _ h1,s _ _ h2,s _ _ h3,s _ _ h4,s _ _ h5⟩
structure i8(P:Program)(w:World)(K:Frag)(mg:Str->Option Value)(base:Heap)(k:Nat)(C:Addr)(m:Str)(ps:List Str)(sp:Sp):Prop where
 ex:∃(f:Addr)(fd:FuncData),Meth K C m f/\cn P w K mg base bh k f fd ps sp/\Binds K fd ps []
structure dj(K:Frag)(C:Addr)(m qual:Str)(st:Stmt)(ps:List Str):Prop where
 ex:∃(f:Addr)(fd:FuncData),Meth K C m f/\jC K m qual st f fd/\Binds K fd ps []
inductive vQ(C:Addr)(vs:List V)(H:Hp)(Q:VK)(E:XK):Prop
 |mk(r:Addr) (d f e m:By) (_:vs=[.ref r]) (_:sY C H r d f e m) (_:Q (.int ((d.length+f.length+e.length+m.length:Nat):Int)) H)
theorem KW:ax ["self"] ["self"] (aq IE):=↑3
theorem KO(d:dj K C "size" "Numeral.size" IE ["self"])(T:EU K C)(ln:mg "len"=none):i8 P w K mg base 1 C "size" ["self"] (vQ C):=by
 obtain⟨f,fd,M,F,b⟩:=d.ex;refine⟨f,fd,M,F.ok KW (by rintro vs H Q E ⟨r,d,f,e,m,rfl,_⟩;rfl) (λUJ A outer s H vs Q E hr h=>?_),b⟩;obtain⟨r,d,f,e,m,rfl,⟨dx,ad,af,ae,am,h1,h2,h3,h4,h5⟩,k⟩:=h;refine⟨_,ai (aC (bA cu (bA cu (bA cu (bB ln (ay (pv 0) rfl)) (bB ln (ay (pv 0) rfl))) (bB ln (ay (pv 0) rfl))) (bB ln (ay (pv 0) rfl)))),?_⟩;refine⟨_,rfl,r,C,dx,_,_,rfl,h1,T.cl,T.nd,i7 _ _ _ _,ad,_,rfl,.inl (bf.of h2),_,rfl,r,C,dx,_,_,rfl,h1,T.cl,T.nf,oH _ _ _ _,af,_,rfl,.inl (bf.of h3),_,_,rfl,rfl,
  _,rfl,r,C,dx,_,_,rfl,h1,T.cl,T.ne,fG _ _ _ _,ae,_,rfl,.inl (bf.of h4),_,_,rfl,rfl,_,rfl,r,C,dx,_,_,rfl,h1,T.cl,T.nm,qt _ _ _ _,am,_,rfl,.inl (bf.of h5),_,_,rfl,rfl,?_⟩
 rw[aU,aU,aU,aU];exact k
inductive KS(K:Frag)(g:By->Nat->Nat)(vs:List V)(H:Hp)(Q:VK)(E:XK):Prop
 |mk(a:Addr) (b:By) (q:Nat) (_:vs=[.ref a,.int q]) (_:bf K H a (iv b)) (_:q<=b.length) (_:Q (.int ((g b q:Nat):Int)) H)
theorem Kg:ax ["text","place"] ["text","place"] (aq (top 31)):=↑3
theorem J1(d:Def K mg "end_of_fraction" (top 31) ["text","place"])(gp:GI mg "POINT" 46)(ob:Ok P w K mg base bh 1 "byte_at" ["text","place"] (hX K))(od:Ok P w K mg base bh 1 "is_digit" ["byte"] (iW bZ))(orn:Ok P w K mg base bh 4 "run_end" ["text","place","fits"] (k_ P w K mg base)):Ok P w K mg base bh 5 "end_of_fraction" ["text","place"] (KS K aP):=d.ok λf fd F=>by
 refine F.ok Kg (by rintro vs H Q E ⟨a,b,q,rfl,_⟩;rfl) (λUJ A outer s H vs Q E hr h=>?_);obtain⟨a,b,q,rfl,hS,hq,k⟩:=h;obtain⟨fdg,mdg,fits⟩:=fits_of od ↑0 fB;refine⟨_,aj (aR (nA (aD cG (aM ob (hr.mono ↑0) (aa (pv 0) (aa (pv 1) ao))) (cD gp) (aJ _))
   (i6 (dq (aM od (hr.mono ↑0) (aa (aM ob (hr.mono ↑0) (aa (pv 0) (aa (bA cu (pv 1) aw) ao))) ao))))).pt
   (ai (aC (aM orn hr (aa (pv 0) (aa (bA cu (pv 1) aw) (aa (fQ mdg) ao)))))) aL) (ai (aC (pv 1))),?_⟩
 refine⟨_,rfl,_,rfl,a,b,q,rfl,hS,rfl,_,rfl,?_⟩;rw[bt];refine aT (λz1=>?_) λz1=>?_
 ·have z1:=of_decide_eq_true z1;refine⟨_,rfl,_,rfl,_,_,rfl,rfl,a,b,q+1,rfl,hS,_,rfl,_,rfl,aT (λz2=>?_) λz2=>?_⟩
  ·have e:aP b q=aK isDigit b (q+1):=by unfold aP;rw[if_pos ⟨z1,z2⟩]
   rw[e] at k;obtain⟨c,hc,_⟩:=dy.mp z2;have:=(List.getElem?_eq_some_iff.mp hc).1;exact⟨_,rfl,_,rfl,_,_,rfl,rfl,a,b,q+1,fdg,isDigit,rfl,hS,↑2,fits,k⟩
  ·have e:aP b q=q:=by unfold aP;rw[if_neg λz=>z2 z.2]
   rw[e] at k;exact⟨_,rfl,k⟩
 ·have z1:¬cQ b q=46:=λz=>z1 (decide_eq_true z);have e:aP b q=q:=by unfold aP;rw[if_neg λz=>z1 z.1]
  rw[e] at k;exact dQ ⟨_,rfl,k⟩
theorem AD:ax ["text","place","digits"] ["text","place"] (aq (top 32)):=↑3
theorem Mw(d:Def K mg "end_of_exponent" (top 32) ["text","place"])(ge:GI mg "SMALL_E" 101)(gm:GI mg "MINUS" 45)(ob:Ok P w K mg base bh 1 "byte_at" ["text","place"] (hX K))(od:Ok P w K mg base bh 1 "is_digit" ["byte"] (iW bZ))(orn:Ok P w K mg base bh 4 "run_end" ["text","place","fits"] (k_ P w K mg base)):Ok P w K mg base bh 5 "end_of_exponent" ["text","place"] (KS K aQ):=d.ok λf fd F=>by
 refine F.ok AD (by rintro vs H Q E ⟨a,b,q,rfl,_⟩;rfl) (λUJ A outer s H vs Q E hr h=>?_);obtain⟨a,b,q,rfl,hS,hq,k⟩:=h;obtain⟨fdg,mdg,fits⟩:=fits_of od ↑0 fB;refine⟨_,aj (aR (aD Ma (aM ob (hr.mono ↑0) (aa (pv 0) (aa (pv 1) ao))) (cD ge) (aJ _)) (ai (aC (pv 1))) aL)
  (aj (aN (i:=2) AD.nd rfl (Or.inl rfl) (bA cu (pv 1) aw))
  (aj (aR (aD cG (aM ob (hr.mono ↑0) (aa (pv 0) (aa (pv 2) ao))) (cD gm) (aJ _)) (ai (ip (i:=2) AD.nd rfl (Or.inl rfl) aw gP)) aL)
  (aj (aR (dq (aM od (hr.mono ↑0) (aa (aM ob (hr.mono ↑0) (aa (pv 0) (aa (pv 2) ao))) ao)))
   (ai (aC (aM orn hr (aa (pv 0) (aa (pv 2) (aa (fQ mdg) ao)))))) aL)
  (ai (aC (pv 1)))))),?_⟩
 refine⟨_,rfl,_,rfl,a,b,q,rfl,hS,rfl,_,rfl,?_⟩;rw[bt];refine aT (λz1=>?_) λz1=>?_
 ·have z1:¬cQ b q=101:=λz=>by rw[decide_eq_true z] at z1;cases z1
  have e:aQ b q=q:=by unfold aQ;rw[if_neg z1]
  rw[e] at k;exact⟨_,rfl,k⟩
 ·have z1:cQ b q=101:=by
   by_cases z:cQ b q=101
   ·exact z
   ·rw[decide_eq_false z] at z1;exact absurd rfl z1
  refine⟨_,rfl,_,_,rfl,rfl,?_⟩;have tail:∀(j:Nat),j=gA b q->Cd (Jb (tB (iK (iW bZ) [] E0 (bV (iK (hX K) [] E0 (bV (dc 0) (bV (dc 2) d4))) d4))) (pC (iK (k_ P w K mg base) [] E0 (bV (dc 0) (bV (dc 2) (bV (tC (.ref fdg)) d4))))) zG) (pC (dc 1))
    {nx:=λ_ H'=>Q .bF H',rt:=Q} [some (.ref a),some (.int (q:Int)),some (.int (j:Int))] H:=by
   intro j hj;refine⟨_,rfl,_,rfl,a,b,j,rfl,hS,_,rfl,_,rfl,aT (λz2=>?_) λz2=>?_⟩
   ·have e:aQ b q=aK isDigit b j:=by unfold aQ;rw[if_pos z1,<-hj,if_pos z2]
    rw[e] at k;obtain⟨c,hc,_⟩:=dy.mp z2;have:=(List.getElem?_eq_some_iff.mp hc).1;exact⟨_,rfl,_,rfl,a,b,j,fdg,isDigit,rfl,hS,↑2,fits,k⟩
   ·have e:aQ b q=q:=by unfold aQ;rw[if_pos z1,<-hj,if_neg z2]
    rw[e] at k;exact⟨_,rfl,k⟩
  refine⟨_,rfl,_,rfl,a,b,q+1,rfl,hS,rfl,_,rfl,?_⟩;rw[bt];refine aT (λz2=>?_) λz2=>?_
  ·have z2:=of_decide_eq_true z2;exact⟨_,rfl,_,_,rfl,rfl,tail (q+2) (by unfold gA;rw[if_pos z2])⟩
  ·have z2:¬cQ b (q+1)=45:=λz=>z2 (decide_eq_true z);exact tail (q+1) (by unfold gA;rw[if_neg z2])
def Es(b:By)(p:Nat):Nat:=aK isDigit b p
def Cv(b:By)(p:Nat):Nat:=aP b (Es b p)
def Jg(b:By)(p:Nat):Nat:=aQ b (Cv b p)
def OW(b:By)(p:Nat):Nat:=aK isMarkByte b (Jg b p)
inductive LC(K:Frag)(C:Addr)(vs:List V)(H:Hp)(Q:VK)(E:XK):Prop
 |mk(a:Addr) (b:By) (p:Nat) (_:vs=[.ref a,.int p]) (_:bf K H a (iv b)) (_:p<=b.length) (_:∀(H':Hp)(r:Addr),aG H H'->sY C H' r (cut b p (Es b p)) (cut b (Es b p) (Cv b p)) (cut b (Cv b p) (Jg b p)) (cut b (Jg b p) (OW b p))->Q (.ref r) H')
theorem tL:ax ["text","place","digits_end","fraction_end","exponent_end","mark_end"] ["text","place"] (aq (top 30)):=↑3
theorem aB{p:Addr}{o:HO}(h:H p=none):aG H (upd H p o):=λb u e=>by rw[ah (au e h)];exact e
theorem Oh(d:Def K mg "numeral_at" (top 30) ["text","place"])(od:Ok P w K mg base bh 1 "is_digit" ["byte"] (iW bZ))(om:Ok P w K mg base bh 3 "in_mark" ["byte"] (iW oW))(orn:Ok P w K mg base bh 4 "run_end" ["text","place","fits"] (k_ P w K mg base))(ofr:Ok P w K mg base bh 5 "end_of_fraction" ["text","place"] (KS K aP))(oex:Ok P w K mg base bh 5 "end_of_exponent" ["text","place"] (KS K aQ))(nw:vt P w K mg base 1 "Numeral" C ["self","digits","fraction","exponent","mark"] (Bz C)):Ok P w K mg base bh 6 "numeral_at" ["text","place"] (LC K C):=d.ok λf fd F=>by
 refine F.ok tL (by rintro vs H Q E ⟨a,b,p,rfl,_⟩;rfl) (λUJ A outer s H vs Q E hr h=>?_);obtain⟨a,b,p,rfl,hS,hp,k⟩:=h;obtain⟨fdg,mdg,fits⟩:=fits_of od ↑0 fB;obtain⟨fmk,mmk,fitm⟩:=fits_of om ↑0 Lc;have l1:Es b p<=b.length:=dN _ hp;have g1:p<=Es b p:=bP _ _ _;obtain⟨_,_,g2,l2⟩:=wL b (Es b p);have l2:=l2 l1;obtain⟨_,_,g3,l3,_⟩:=BW b (Cv b p);have l3:=l3 l2;have l4:OW b p<=b.length:=dN _ l3;have g4:Jg b p<=OW b p:=bP _ _ _;refine⟨_,aj (aN (i:=2) tL.nd rfl (Or.inl rfl) (aM orn (hr.mono ↑0) (aa (pv 0) (aa (pv 1) (aa (fQ mdg) ao)))))
  (aj (aN (i:=3) tL.nd rfl (Or.inl rfl) (aM ofr hr (aa (pv 0) (aa (pv 2) ao))))
  (aj (aN (i:=4) tL.nd rfl (Or.inl rfl) (aM oex hr (aa (pv 0) (aa (pv 3) ao))))
  (aj (aN (i:=5) tL.nd rfl (Or.inl rfl) (aM orn (hr.mono ↑0) (aa (pv 0) (aa (pv 4) (aa (fQ mmk) ao)))))
  (ai (aC (eM nw (hr.mono ↑0) (aa (dP eV (pv 0) (bU (pv 1)) (bU (pv 2))) (aa (dP eV (pv 0) (bU (pv 2)) (bU (pv 3)))
   (aa (dP eV (pv 0) (bU (pv 3)) (bU (pv 4))) (aa (dP eV (pv 0) (bU (pv 4)) (bU (pv 5))) ao)))))))))),?_⟩
 refine⟨_,rfl,_,rfl,a,b,p,fdg,isDigit,rfl,hS,hp,fits,?_⟩;refine⟨_,rfl,_,rfl,a,b,Es b p,rfl,hS,l1,?_⟩;refine⟨_,rfl,_,rfl,a,b,Cv b p,rfl,hS,l2,?_⟩;refine⟨_,rfl,_,rfl,a,b,Jg b p,fmk,isMarkByte,rfl,hS,l3,fitm,?_⟩;refine⟨_,rfl,_,rfl,_,rfl,_,rfl,_,rfl,a,_,rfl,hS,λp1 n1=>?_⟩;have s1:=aB (o:=.lst (gT (iv b) (some (p:Int)) (some (Es b p:Int)))) n1;refine⟨_,rfl,_,rfl,_,rfl,_,rfl,_,rfl,a,_,rfl,s1.seq hS,λp2 n2=>?_⟩;have s2:=aB (o:=.lst (gT (iv b) (some (Es b p:Int)) (some (Cv b p:Int)))) n2;refine⟨_,rfl,_,rfl,_,rfl,_,rfl,_,rfl,a,_,rfl,s2.seq (s1.seq hS),λp3 n3=>?_⟩;have s3:=aB (o:=.lst (gT (iv b) (some (Cv b p:Int)) (some (Jg b p:Int)))) n3;refine⟨_,rfl,_,rfl,_,rfl,_,rfl,_,rfl,a,_,rfl,s3.seq (s2.seq (s1.seq hS)),λp4 n4=>?_⟩;have s4:=aB (o:=.lst (gT (iv b) (some (Jg b p:Int)) (some (OW b p:Int)))) n4;intro x dx nx nd ne;refine⟨x,dx,p1,p2,p3,p4,rfl,ag,λH' h' fr=>⟨rfl,?_⟩⟩;have s5:=aG.made nx nd fr;refine k H' x ((((s1.trans s2).trans s3).trans s4).trans s5) ⟨dx,p1,p2,p3,p4,h',?_,?_,?_,?_⟩
 ·exact s5 _ _ (s4 _ _ (s3 _ _ (s2 _ _ (ag.trans (congrArg (λz=>some (HO.lst z)) (qS l1 g1))))))
 ·exact s5 _ _ (s4 _ _ (s3 _ _ (ag.trans (congrArg (λz=>some (HO.lst z)) (qS l2 g2)))))
 ·exact s5 _ _ (s4 _ _ (ag.trans (congrArg (λz=>some (HO.lst z)) (qS l3 g3))))
 ·exact s5 _ _ (ag.trans (congrArg (λz=>some (HO.lst z)) (qS l4 g4)))
def P4:List Int:=[109,120,100,115,104,105,112]
theorem qw(x:Int):∀(l:List Int),Dn (.int x) (l.map V.int)=decide (x∈l)
 |[]=>rfl
 |y::l=>by
  have ih:=qw x l;unfold Dn at ih ⊢;rw[List.map_cons,List.any_cons,ih];by_cases h:y=x
  ·subst h;simp[En]
  ·have h':¬x=y:=λz=>h z.symm;simp[En,h,h']
theorem yX:∀(l:List Int),(l.map V.int).all iw=true
 |[]=>rfl
 |y::l=>by rw[List.map_cons,List.all_cons,yX l];rfl
theorem Nj(c:UInt8):decide ((c.toNat:Int)∈P4)=MK.contains c:=by
 have h:∀(n:Nat)(m:UInt8),m.toNat=n->(((c.toNat:Int)=(n:Int))↔c=m):=λn m hm=>⟨λz=>jb.mpr ↑2,λz=>by rw[z];omega⟩
 have e:(c.toNat:Int)∈P4↔c∈MK:=by
  unfold P4 MK;simp only[List.mem_cons,List.not_mem_nil,or_false];rw[<-h 109 109 rfl,<-h 120 120 rfl,<-h 100 100 rfl,<-h 115 115 rfl,<-h 104 104 rfl,<-h 105 105 rfl,<-h 112 112 rfl];exact Iff.rfl
 by_cases z:c∈MK
 ·rw[decide_eq_true (e.mpr z),List.contains_iff_mem.mpr z]
 ·rw[decide_eq_false (λy=>z (e.mp y))];cases q:MK.contains c with
  |false=>rfl
  |true=>exact absurd (List.contains_iff_mem.mp q) z
theorem iX{P:Program}{X:Cx}{k:Nat}{m:Str}{sp:Sp}{o:Expr}{ta:TE}{apos pos:Pos}{pl:Sem Bool}(h:i8 X.prog X.w X.K X.mg X.base k C m ps sp)(cl:sL X.K C)(hr:bC k X.A)(he:PE X o ta)(ht:eval (.Call (.Attribute o m apos) [] [] pos) X.env=(do
   let ov<-eval o X.env
   standAt apos.atName
   let(f,first)<-holding [ov] (getMethod ov m pl)
   callWith pos f first (backTo pos (starEach [] X.env)) (backToKw pos (keywordEach [] X.env))):=by rfl):PE X (.Call (.Attribute o m apos) [] [] pos) (zw C m sp [] E0 ta d4):=by
 obtain⟨f,fd,M,F,b⟩:=h.ex;exact HV he cl M F hr b .nil g_ ht
inductive A5(K:Frag)(vs:List V)(H:Hp)(Q:VK)(E:XK):Prop
 |mk(a:Addr) (m:By) (_:vs=[.ref a]) (_:bf K H a (iv m)) (_:∀H',aG H H'->Q (.bl (oY m)) H')
theorem Nv:ax ["mark"] ["mark"] (aq (top 34)):=↑3
theorem OH(d:Def K mg "mark_is_right" (top 34) ["mark"])(gm:GT K mg "MARKS" (P4.map V.int))(ln:mg "len"=none):Ok P w K mg base bh 1 "mark_is_right" ["mark"] (A5 K):=d.ok λf fd F=>by
 refine F.ok Nv (by rintro vs H Q E ⟨a,m,rfl,_⟩;rfl) (λUJ A outer s H vs Q E hr h=>?_);obtain⟨a,m,rfl,hS,k⟩:=h;obtain⟨am,mm,tm⟩:=gm;refine⟨_,ai (aC (zf (dO (js hr.units) (pv 0) (bx ao) (aJ _)) (gH (rT (dO cG (bB ln (pv 0)) aw (aJ _))
  (gH (dO e_ (bz aX (pv 0) aw (λ_ _=>rfl)) (fQ mm) (by with_unfolding_all rfl))))))),?_⟩
 refine⟨_,rfl,Nat.zero_le _,λe he=>?_⟩;have s1:=aB (o:=.lst []) he;refine⟨a,e,_,[],rfl,rfl,by rw[<-el];exact s1.seq hS,bf.of ag,_,rfl,?_⟩;rw[rH];refine aT (λz1=>?_) λz1=>?_
 ·have q:=k _ s1;unfold oY at q;rw[z1] at q;exact q
 ·rw[Bool.not_eq_true] at z1;refine⟨_,rfl,a,_,rfl,.inl (s1.seq hS),rfl,_,rfl,?_⟩;rw[bt,aU];have q:=k _ s1;refine aT (λz2=>?_) λz2=>?_
  ·have z2:=of_decide_eq_true z2;obtain⟨c,rfl⟩:∃c,m=[c]:=by
    match m,z2 with
    |[c],_=>exact⟨c,rfl⟩
    |[],z=>simp at z
    |_::_::_,z=>simp at z;omega
   refine⟨_,rfl,a,_,_,_,rfl,rfl,s1.seq hS,dE (p:=0) (c:=c) rfl,am,_,rfl,.inr (tm _),rfl,yX _,?_⟩;rw[qw,Nj];exact q
  ·have z2:¬m.length=1:=λz=>z2 (decide_eq_true ↑2);unfold oY at q;rw[z1,decide_eq_false z2] at q;exact q
inductive AS(C:Addr)(g:By->By->By->By->Bool)(vs:List V)(H:Hp)(Q:VK)(E:XK):Prop
 |mk(r:Addr) (d f e m:By) (_:vs=[.ref r]) (_:sY C H r d f e m) (_:∀H',aG H H'->Q (.bl (g d f e m)) H')
theorem IW:ax ["numeral","alone"] ["numeral"] (aq (top 35)):=↑3
theorem Mi(d:Def K mg "packed_is_right" (top 35) ["numeral"])(T:EU K C)(g:GI mg "MOST_PACKED_DIGITS" 31)(ln:mg "len"=none):Ok P w K mg base bh 1 "packed_is_right" ["numeral"] (AS C λd f e _=>iU d f e):=d.ok λf fd F=>by
 refine F.ok IW (by rintro vs H Q E ⟨r,d,f,e,m,rfl,_⟩;rfl) (λUJ A outer s H vs Q E hr h=>?_);obtain⟨r,d,f,e,m,rfl,hN,k⟩:=h;obtain⟨dx,ad,af,ae,am,h1,h2,h3,h4,h5⟩:=id hN;refine⟨_,aj (aN (i:=1) IW.nd rfl (Or.inl rfl) (rT (dO (js hr.units) (ay (pv 0) rfl) (bx ao) (aJ _)) (gH (dO (js hr.units) (ay (pv 0) rfl) (bx ao) (aJ _)))))
  (ai (aC (rT (pv 1) (gH (dO g9 (bB ln (ay (pv 0) rfl)) (cD g) (aJ _)))))),?_⟩
 refine rV rfl (rf h1 T.cl T.nf (oH _ _ _ _) ⟨Nat.zero_le _,λe1 he1=>?_⟩);have s1:=aB (o:=.lst []) he1;refine⟨af,e1,_,[],rfl,rfl,bf.of (by rw[<-el];exact s1 _ _ h3),bf.of ag,_,rfl,?_⟩;rw[rH];have fin:∀(c:Bool)(H2:Hp),aG H H2->iU d f e=(c&&decide (d.length<=31))->
   pC (DO (dc 1) (AB (CO λi j=>.bl (decide (i<=j))) (LA (yU K) (bV (Be K (dc 0) "digits") d4)) (tC (.int 31))))
    {nx:=λ_ H'=>Q .bF H',rt:=Q} [some (.ref r),some (.bl c)] H2:=by
  intro c H2 s2 e2;refine⟨_,rfl,_,rfl,aT (λz=>?_) λz=>?_⟩
  ·refine rV rfl (rf (s2 _ _ h1) T.cl T.nd (i7 _ _ _ _) ⟨ad,_,rfl,.inl (bf.of (s2 _ _ h2)),_,_,rfl,rfl,?_⟩);have q:Q (.bl (iU d f e)) H2:=k _ s2;have e3:decide (((iv d).length:Int)<=31)=decide (d.length<=31):=by
    rw[aU];by_cases y:d.length<=31
    ·rw[decide_eq_true y];exact decide_eq_true ↑2
    ·rw[decide_eq_false y];exact decide_eq_false ↑2
   show Q (.bl (decide (((iv d).length:Int)<=31))) _;rw[e3];rw[e2,z,Bool.true_and] at q;exact q
  ·have q:Q (.bl (iU d f e)) H2:=k _ s2;rw[Bool.not_eq_true] at z;rw[e2,z] at q;exact q
 refine aT (λz1=>?_) λz1=>?_
 ·refine rV rfl (rf (s1 _ _ h1) T.cl T.ne (fG _ _ _ _) ⟨Nat.zero_le _,λe2 he2=>?_⟩);have s2:=aB (o:=.lst []) he2;refine⟨ae,e2,_,[],rfl,rfl,bf.of (by rw[<-el];exact s2 _ _ (s1 _ _ h4)),bf.of ag,?_⟩;rw[rH];refine fin _ _ (s1.trans s2) ?_;unfold iU;rw[z1,Bool.true_and]
 ·rw[Bool.not_eq_true] at z1;refine fin _ _ s1 ?_;unfold iU;rw[z1];rfl
inductive x'(K:Frag)(vs:List V)(H:Hp)(Q:VK)(E:XK):Prop
 |mk(a:Addr) (e:By) (_:vs=[.ref a]) (_:bf K H a (iv e)) (_:1<e.length) (_:(∃x,(cH e)[0]?=some x)) (_:∀H',aG H H'->Q (.bl (Fj e)) H')
theorem Bx:ax ["exponent","negative","digits"] ["exponent"] (aq (top 36)):=↑3
theorem NQ(d:Def K mg "exponent_is_right" (top 36) ["exponent"])(gm:GI mg "MINUS" 45)(gz:GI mg "ZERO" 48)(gx:GI mg "MOST_EXPONENT_DIGITS" 5)(ln:mg "len"=none):Ok P w K mg base bh 1 "exponent_is_right" ["exponent"] (x' K):=d.ok λf fd F=>by
 refine F.ok Bx (by rintro vs H Q E ⟨a,e,rfl,_⟩;rfl) (λUJ A outer s H vs Q E hr h=>?_);obtain⟨a,e,rfl,hS,hl,⟨x,hx⟩,k⟩:=h;refine⟨_,aj (aN (i:=1) Bx.nd rfl (Or.inl rfl) (dO cG (bz aX (pv 0) aw (λ_ _=>rfl)) (cD gm) (aJ _)))
  (aj (aN (i:=2) Bx.nd rfl (Or.inl rfl) (lz (dq (pv 1)) (dP eV (pv 0) (bU aw) C2) (dP eV (pv 0) (bU aw) C2)))
  (aj (aR (aD cG (bz aX (pv 2) aw (λ_ _=>rfl)) (cD gz) (aJ _)) (ai (aC (rT (dO cG (bB ln (pv 2)) aw (aJ _)) (gH (Om (pv 1)))))) aL)
  (ai (aC (dO g9 (bB ln (pv 2)) (cD gx) (aJ _)))))),?_⟩
 have g1:e[1]?=some e[1]:=List.getElem?_eq_getElem hl;refine⟨_,rfl,a,_,_,_,rfl,rfl,hS,dE (p:=1) g1,rfl,?_⟩;rw[bt,<-bY g1];have hneg:decide (cQ e 1=45)=isNeg e:=rfl;rw[hneg];have fin:∀(p:Addr),H p=none->Cd (Jb (ra (AB R5 (AB (Ki K) (dc 2) (tC (.int 0))) (tC (.int 48)))) (pC (DO (AB R5 (LA (yU K) (bV (dc 2) d4)) (tC (.int 1))) (L7 (dc 1)))) zG)
   (pC (AB (CO λi j=>.bl (decide (i<=j))) (LA (yU K) (bV (dc 2) d4)) (tC (.int 5))))
   {nx:=λ_ H'=>Q .bF H',rt:=Q} [some (.ref a),some (.bl (isNeg e)),some (.ref p)] (upd H p (.lst (iv (cH e)))):=by
  intro p hp;have s1:=aB (o:=.lst (iv (cH e))) hp;have hD:bf K (upd H p (.lst (iv (cH e)))) p (iv (cH e)):=bf.of ag;have q:=k _ s1;unfold Fj at q;refine⟨_,rfl,p,_,_,_,rfl,rfl,hD,dE (p:=0) hx,rfl,_,rfl,?_⟩;rw[bt,<-bY hx];refine aT (λz1=>?_) λz1=>?_
  ·have z1:=of_decide_eq_true z1;rw[if_pos z1] at q;refine⟨_,rfl,p,_,rfl,.inl hD,rfl,_,rfl,?_⟩;rw[bt,aU];have e1:decide (((cH e).length:Int)=1)=decide ((cH e).length=1):=by
    by_cases y:(cH e).length=1
    ·rw[decide_eq_true y];exact decide_eq_true ↑2
    ·rw[decide_eq_false y];exact decide_eq_false ↑2
   rw[e1];refine aT (λz2=>?_) λz2=>?_
   ·rw[z2,Bool.true_and] at q;exact⟨_,rfl,_,rfl,q⟩
   ·rw[Bool.not_eq_true] at z2;rw[z2] at q;exact q
  ·have z1:¬cQ (cH e) 0=48:=λz=>z1 (decide_eq_true z);rw[if_neg z1] at q;refine⟨_,rfl,p,_,rfl,.inl hD,_,_,rfl,rfl,?_⟩;have e1:decide (((iv (cH e)).length:Int)<=5)=decide ((cH e).length<=5):=by
    rw[aU];by_cases y:(cH e).length<=5
    ·rw[decide_eq_true y];exact decide_eq_true ↑2
    ·rw[decide_eq_false y];exact decide_eq_false ↑2
   show Q (.bl (decide (((iv (cH e)).length:Int)<=5))) _;rw[e1];exact q
 refine⟨_,rfl,_,rfl,aT (λz=>?_) λz=>?_⟩
 ·refine⟨_,rfl,_,rfl,a,_,rfl,hS,λp hp=>?_⟩;have e1:gT (iv e) (some (2:Int)) none=iv (cH e):=by
   unfold cH;rw[if_pos z];exact DX (i:=2) ↑2
  rw[e1];exact fin p hp
 ·refine⟨_,rfl,_,rfl,a,_,rfl,hS,λp hp=>?_⟩;have e1:gT (iv e) (some (1:Int)) none=iv (cH e):=by
   unfold cH;rw[if_neg z];exact DX (i:=1) ↑2
  rw[e1];exact fin p hp
inductive C3(C:Addr)(vs:List V)(H:Hp)(Q:VK)(E:XK):Prop
 |mk(r:Addr) (d f e m:By) (_:vs=[.ref r]) (_:sY C H r d f e m) (_:(e≠[]->1<e.length/\∃x,(cH e)[0]?=some x)) (_:∀H',aG H H'->Q (.bl (da d f e m)) H')
theorem OK:ax ["numeral"] ["numeral"] (aq (top 33)):=↑3
theorem G7{a b:By}(h:(a.map λ(c:UInt8)=>(c.toNat:Int))=b.map λ(c:UInt8)=>(c.toNat:Int)):a=b:=by
 induction a generalizing b with
 |nil=>cases b with
  |nil=>rfl
  |cons _ _=>simp at h
 |cons x a ih=>cases b with
  |nil=>simp at h
  |cons y b=>
   simp only[List.map_cons,List.cons.injEq] at h;rw[jb.mpr (show x.toNat=y.toNat by omega),ih h.2]
theorem My(d:Def K mg "is_right" (top 33) ["numeral"])(T:EU K C)(g1:GI mg "MOST_BYTES_numerals" 255)(g2:GI mg "PACKED" 112)(g3:GI mg "ZERO" 48)(ln:mg "len"=none)(osz:i8 P w K mg base 1 C "size" ["self"] (vQ C))(omk:Ok P w K mg base bh 1 "mark_is_right" ["mark"] (A5 K))(opk:Ok P w K mg base bh 1 "packed_is_right" ["numeral"] (AS C λd f e _=>iU d f e))(oex:Ok P w K mg base bh 1 "exponent_is_right" ["exponent"] (x' K)):Ok P w K mg base bh 2 "is_right" ["numeral"] (C3 C):=d.ok λf fd F=>by
 refine F.ok OK (by rintro vs H Q E ⟨r,d,f,e,m,rfl,_⟩;rfl) (λUJ A outer s H vs Q E hr h=>?_);obtain⟨r,d,f,e,m,rfl,hN,he,k⟩:=h;refine⟨_,aj (aR (L5 (aD oN (iX (P:=P) osz T.cl hr (pv 0)) (cD g1) (aJ _)) (Jm (F_ (dq (aM omk hr (aa (ay (pv 0) rfl) ao)))))).pt (ai (aC Jq)) aL)
  (aj (aR (aD (js hr.units) (ay (pv 0) rfl) (bx (aa (cD g2) ao)) (aJ _)) (ai (aC (aM opk hr (aa (pv 0) ao)))) aL)
  (aj (aR (nA (aD oN (bB ln (ay (pv 0) rfl)) aw (aJ _)) (i6 (aD cG (bz aX (ay (pv 0) rfl) aw (λ_ _=>rfl)) (cD g3) (aJ _)))).pt (ai (aC Jq)) aL)
  (aj (aR (aD (js hr.units) (ay (pv 0) rfl) (bx ao) (aJ _)) (ai (aC Jq)) aL)
  (ai (aC (rT (dO (IA hr.units) (ay (pv 0) rfl) (bx ao) (aJ _)) (gH (aM oex hr (aa (ay (pv 0) rfl) ao))))))))),?_⟩
 obtain⟨dx,ad,af,ae,am,h1,h2,h3,h4,h5⟩:=id hN;refine⟨_,rfl,r,dx,_,rfl,h1,CB _ _ _ _,r,d,f,e,m,rfl,hN,_,_,rfl,rfl,_,rfl,?_⟩;have e0:decide ((255:Int)<((d.length+f.length+e.length+m.length:Nat):Int))=decide (255<d.length+f.length+e.length+m.length):=by
  by_cases y:255<d.length+f.length+e.length+m.length
  ·rw[decide_eq_true y];exact decide_eq_true ↑2
  ·rw[decide_eq_false y];exact decide_eq_false ↑2
 rw[e0];refine aT (λz0=>?_) λz0=>?_
 ·have q:=k H (aG.refl H);have e1:da d f e m=false:=by unfold da;rw[if_pos (of_decide_eq_true z0)]
  rw[e1] at q;exact fV q
 have z0:¬255<d.length+f.length+e.length+m.length:=λz=>z0 (decide_eq_true z);refine rV rfl (rf h1 T.cl T.nm (qt _ _ _ _) ⟨am,m,rfl,bf.of h5,λH1 s1=>⟨_,rfl,?_⟩⟩);refine aT (λz1=>?_) λz1=>?_
 ·have q:=k H1 s1;have e1:da d f e m=false:=by unfold da;rw[if_neg z0,if_pos (by simpa using z1)]
  rw[e1] at q;exact q
 have z1:oY m=true:=by simpa using z1
 refine rV rfl (rf (s1 _ _ h1) T.cl T.nm (qt _ _ _ _) ⟨(by show 1<=sizeLine;decide),λp2 n2=>?_⟩);have s2:=aB (o:=.lst [.int 112]) n2;refine⟨am,p2,_,[112],rfl,rfl,bf.of (by rw[<-el];exact s2 _ _ (s1 _ _ h5)),bf.of ag,_,rfl,?_⟩;have e2:decide ((m.map λ(c:UInt8)=>(c.toNat:Int))=[112])=decide (m=[112]):=by
  by_cases y:m=[112]
  ·subst y;rfl
  ·rw[decide_eq_false y];exact decide_eq_false λz=>y (G7 z)
 rw[e2];have s12:=s1.trans s2;refine aT (λz2=>?_) λz2=>?_
 ·have z2:=of_decide_eq_true z2;refine⟨_,rfl,r,d,f,e,m,rfl,hN.same s12,λH3 s3=>?_⟩;have q:=k H3 (s12.trans s3);have e1:da d f e m=iU d f e:=by unfold da;rw[if_neg z0,if_neg (by rw[z1];decide),if_pos z2]
  rw[e1] at q;exact q
 have z2:¬m=[112]:=λz=>z2 (decide_eq_true z);have rest:∀H3,aG H H3->¬(1<d.length/\cQ d 0=48)->
   Cd (Jb (ra (AB (QM K) (Be K (dc 0) "exponent") (NG d4))) (pC (tC (.bl true))) zG)
    (pC (DO (AB (Rh K) (Be K (dc 0) "mark") (NG d4)) (iK (x' K) [] E0 (bV (Be K (dc 0) "exponent") d4))))
    {nx:=λ_ H'=>Q .bF H',rt:=Q} [some (.ref r)] H3:=by
  intro H3 s3 z3;refine rV rfl (rf (s3 _ _ h1) T.cl T.ne (fG _ _ _ _) ⟨Nat.zero_le _,λp4 n4=>?_⟩);have s4:=aB (o:=.lst []) n4;refine⟨ae,p4,_,[],rfl,rfl,bf.of (by rw[<-el];exact s4 _ _ (s3 _ _ h4)),bf.of ag,_,rfl,?_⟩;rw[rH];have s34:=s3.trans s4;refine aT (λz4=>?_) λz4=>?_
  ·have z4:=of_decide_eq_true z4;have q:=k _ s34;have e1:da d f e m=true:=by unfold da;rw[if_neg z0,if_neg (by rw[z1];decide),if_neg z2,if_neg z3,if_pos z4]
   rw[e1] at q;exact q
  have z4:¬e=[]:=λz=>z4 (decide_eq_true z);have e1:da d f e m=(!decide (m=[])&&Fj e):=by unfold da;rw[if_neg z0,if_neg (by rw[z1];decide),if_neg z2,if_neg z3,if_neg z4]
  refine rV rfl (rf (s34 _ _ h1) T.cl T.nm (qt _ _ _ _) ⟨Nat.zero_le _,λp5 n5=>?_⟩);have s5:=aB (o:=.lst []) n5;refine⟨am,p5,_,[],rfl,rfl,bf.of (by rw[<-el];exact s5 _ _ (s34 _ _ h5)),bf.of ag,_,rfl,?_⟩;rw[rH];have s345:=s34.trans s5;refine aT (λz5=>?_) λz5=>?_
  ·refine rV rfl (rf (s345 _ _ h1) T.cl T.ne (fG _ _ _ _) ⟨ae,e,rfl,bf.of (s345 _ _ h4),(he z4).1,(he z4).2,λH6 s6=>?_⟩);have q:=k H6 (s345.trans s6);rw[e1,z5,Bool.true_and] at q;exact q
  ·have q:=k _ s345;rw[Bool.not_eq_true] at z5;rw[e1,z5] at q;exact q
 refine rV rfl (rf (s12 _ _ h1) T.cl T.nd (i7 _ _ _ _) ⟨ad,_,rfl,.inl (bf.of (s12 _ _ h2)),_,_,rfl,rfl,_,rfl,?_⟩);have e3:decide ((1:Int)<((iv d).length:Int))=decide (1<d.length):=by
  rw[aU];by_cases y:1<d.length
  ·rw[decide_eq_true y];exact decide_eq_true ↑2
  ·rw[decide_eq_false y];exact decide_eq_false ↑2
 rw[e3];refine aT (λz3=>?_) λz3=>?_
 ·have z3:=of_decide_eq_true z3;have hd0:d[0]?=some d[0]:=List.getElem?_eq_getElem ↑2;refine rV rfl (rf (s12 _ _ h1) T.cl T.nd (i7 _ _ _ _) ⟨ad,_,_,_,rfl,rfl,bf.of (s12 _ _ h2),dE (p:=0) hd0,rfl,_,rfl,?_⟩);rw[bt,<-bY hd0];refine aT (λz4=>?_) λz4=>?_
  ·have z4:=of_decide_eq_true z4;have q:=k _ s12;have e1:da d f e m=false:=by unfold da;rw[if_neg z0,if_neg (by rw[z1];decide),if_neg z2,if_pos ⟨z3,z4⟩]
   rw[e1] at q;exact q
  ·exact rest _ s12 λz=>z4 (decide_eq_true z.2)
 ·exact dQ (rest _ s12 λz=>z3 (decide_eq_true z.1))
abbrev oF:Stmt:=inClass (top 38) 0
abbrev Mv:Stmt:=inClass (top 39) 0
abbrev N8:Stmt:=inClass (top 40) 0
abbrev Ib:Stmt:=inClass (top 41) 0
def Nums(H0 H:Hp)(e C:Addr)(ns:List Int):Prop:=∃d l,d≠e/\H0 d=none/\H e=some (eR e C (some d))/\H d=some (xB d [("numbers",.ref l)])/\H l=some (.lst (ns.map V.int))
inductive P6(K:Frag)(vs:List V)(H:Hp)(Q:VK)(E:XK):Prop
 |mk(e C l:Addr) (ns:List Int) (_:vs=[.ref e,.ref l]) (_:H e=some (eR e C none)) (_:tP K C) (_:aE K C "numbers") (_:H l=some (.lst (ns.map V.int))) (_:∀H',Nums H H' e C ns->Fy e H H'->Q .bF H')
theorem OQ:ax ["self","numbers"] ["self","numbers"] (aq oF):=↑3
theorem A8{f:Addr}(F:jC K "__init__" "Refused.__init__" oF f fd):cn P w K mg base bh 1 f fd ["self","numbers"] (P6 K):=by
 refine F.ok OQ (by rintro vs H Q E ⟨e,C,l,ns,rfl,_⟩;rfl) (λUJ A outer s H vs Q E hr h=>?_);obtain⟨e,C,l,ns,rfl,h1,c,n,h2,k⟩:=h;refine⟨_,ai (we (pv 0) (pv 1) rfl),?_⟩;refine⟨_,rfl,_,rfl,e,C,rfl,c,n,.inl ⟨h1,λd hd=>?_⟩⟩;have hle:l≠e:=dv h2 h1 (by intro z;cases z);have hde:d≠e:=λz=>by rw[z,h1] at hd;cases hd
 refine k _ ⟨d,l,hde,hd,ag,?_,?_⟩ λb o hb hbe=>?_
 ·rw[ah hde,ag]
 ·rw[ah hle,ah (au h2 hd)];exact h2
 ·rw[ah hbe,ah (au hb hd)];exact hb
theorem yZ{l d:Addr}{o:HO}(h:upd H l o d=none):H d=none:=by
 by_cases z:d=l
 ·rw[z,ag] at h;cases h
 ·rw[ah z] at h;exact h
theorem Nums.low{H':Hp}{l e:Addr}{o:HO}{ns:List Int}(h:Nums (upd H l o) H' e C ns):Nums H H' e C ns:=by obtain⟨d,l',a,b,r⟩:=h;exact⟨d,l',a,yZ b,r⟩
structure GO(K:Frag)(mg:Str->Option Value)(C:Addr):Prop where
 mg:mg "Refused"=some (.ref C)
 ex:∃f fd,F5 K C "__init__" f/\jC K "__init__" "Refused.__init__" oF f fd/\Binds K fd ["self","numbers"] []
inductive J7(K:Frag)(ns:List Int)(vs:List V)(H:Hp)(Q:VK)(E:XK):Prop
 |mk(e C:Addr) (_:vs=[.ref e]) (_:H e=some (eR e C none)) (_:tP K C) (_:aE K C "numbers") (_:∀H',Nums H H' e C ns->Fy e H H'->Q .bF H')
theorem QT:ax ["self"] ["self"] (aq Mv):=↑3
theorem Rt:ax ["self"] ["self"] (aq N8):=↑3
theorem Qs{CR f:Addr}(F:jC K "__init__" "TooLong.__init__" Mv f fd)(rc:GO K mg CR):cn P w K mg base bh 2 f fd ["self"] (J7 K [-1]):=by obtain⟨fR,fdR,cm,FR,bR⟩:=rc.ex;refine F.ok QT (by rintro vs H Q E ⟨e,C,rfl,_⟩;rfl) (λUJ A outer s H vs Q E hr h=>?_);obtain⟨e,C,rfl,h1,c,n,k⟩:=h;refine⟨_,ai (aS (vR rfl rc.mg cm (A8 FR) hr bR .nil g_ (aa (pv 0) (aa (bx (aa (gc eg aw) ao)) ao)))),?_⟩;refine⟨_,rfl,_,rfl,(by show 1<=sizeLine;decide),λl hl=>?_⟩;have hle:e≠l:=au h1 hl;refine⟨e,C,l,[-1],rfl,by rw[ah hle];exact h1,c,n,ag,λH' nu fr=>?_⟩;exact k H' nu.low λb o hb hbe=>fr b o (by rw[ah (au hb hl)];exact hb) hbe
theorem R3{CR f:Addr}(F:jC K "__init__" "TooDeep.__init__" N8 f fd)(rc:GO K mg CR):cn P w K mg base bh 2 f fd ["self"] (J7 K [-6]):=by obtain⟨fR,fdR,cm,FR,bR⟩:=rc.ex;refine F.ok Rt (by rintro vs H Q E ⟨e,C,rfl,_⟩;rfl) (λUJ A outer s H vs Q E hr h=>?_);obtain⟨e,C,rfl,h1,c,n,k⟩:=h;refine⟨_,ai (aS (vR rfl rc.mg cm (A8 FR) hr bR .nil g_ (aa (pv 0) (aa (bx (aa (gc eg aw) ao)) ao)))),?_⟩;refine⟨_,rfl,_,rfl,(by show 1<=sizeLine;decide),λl hl=>?_⟩;have hle:e≠l:=au h1 hl;refine⟨e,C,l,[-6],rfl,by rw[ah hle];exact h1,c,n,ag,λH' nu fr=>?_⟩;exact k H' nu.low λb o hb hbe=>fr b o (by rw[ah (au hb hl)];exact hb) hbe
def ff(r p:Int)(l:Addr):List (Str×V):=aW "place" (.int p) (aW "rule" (.int r) [("numbers",.ref l)])
theorem B1(r p:Int)(l:Addr):(ff r p l).lookup ("numbers":Str)=some (.ref l):=by unfold ff;rw[aA,if_neg ↑1,aA,if_neg ↑1];rfl
theorem JY(r p:Int)(l:Addr):(ff r p l).lookup ("rule":Str)=some (.int r):=by unfold ff;rw[aA,if_neg ↑1,aA,if_pos rfl]
theorem HH(r p:Int)(l:Addr):(ff r p l).lookup ("place":Str)=some (.int p):=by unfold ff;rw[aA,if_pos rfl]
inductive S8(C:Addr)(H:Hp)(e:Addr)(r p:Int):Prop
 |mk(d:_) (l:_) (_:d≠e) (_:H e=some (eR e C (some d))) (_:H d=some (xB d (ff r p l))) (_:H l=some (.lst [.int (-2),.int r,.int p]))
structure B9(K:Frag)(C:Addr):Prop where
 x:tP K C
 nn:aE K C "numbers"
 nr:aE K C "rule"
 np:aE K C "place"
inductive FF(C:Addr)(vs:List V)(H:Hp)(Q:VK)(E:XK):Prop
 |mk(e:Addr) (r p:Int) (_:vs=[.ref e,.int r,.int p]) (_:H e=some (eR e C none)) (_:∀H',S8 C H' e r p->Fy e H H'->Q .bF H')
theorem M':ax ["self","rule","place"] ["self","rule","place"] (aq Ib):=↑3
theorem Hh{CR f:Addr}(F:jC K "__init__" "Fault.__init__" Ib f fd)(rc:GO K mg CR)(T:B9 K C):cn P w K mg base bh 2 f fd ["self","rule","place"] (FF C):=by
 obtain⟨fR,fdR,cm,FR,bR⟩:=rc.ex;refine F.ok M' (by rintro vs H Q E ⟨e,r,p,rfl,_⟩;rfl) (λUJ A outer s H vs Q E hr h=>?_);obtain⟨e,r,p,rfl,h1,k⟩:=h;refine⟨_,aj (aS (vR rfl rc.mg cm (A8 FR) hr bR .nil g_ (aa (pv 0) (aa (bx (aa (gc eg aw) (aa (pv 1) (aa (pv 2) ao)))) ao))))
  (aj (we (pv 0) (pv 1) rfl) (ai (we (pv 0) (pv 2) rfl))),?_⟩
 refine⟨_,rfl,_,rfl,_,rfl,_,rfl,(by show 3<=sizeLine;decide),λl hl=>?_⟩;have hle:e≠l:=au h1 hl;refine⟨e,C,l,[-2,r,p],rfl,by rw[ah hle];exact h1,T.x,T.nn,ag,λH1 nu fr=>?_⟩;obtain⟨d,l',hde,a0,a1,a2,a3⟩:=nu.low;have hld:l'≠d:=dv a3 a2 (by intro z;cases z);refine⟨_,rfl,_,rfl,e,C,rfl,T.x,T.nr,.inr ⟨d,_,a1,a2,(by show 1<1000;decide),?_⟩⟩;refine⟨_,rfl,_,rfl,e,C,rfl,T.x,T.np,.inr ⟨d,_,(by rw[ah (Ne.symm hde)];exact a1),ag,Nat.lt_of_le_of_lt (aF _ _ _) (by show 2<1000;decide),?_⟩⟩;refine k _ ⟨d,l',hde,(by rw[ah (Ne.symm hde),ah (Ne.symm hde)];exact a1),ag,(by rw[ah hld,ah hld];exact a3)⟩ λb o hb hbe=>?_;have hbd:b≠d:=λz=>by rw[z,a0] at hb;cases hb
 rw[ah hbd,ah hbd];exact fr b o (by rw[ah (au hb hl)];exact hb) hbe
structure Kr(P:Program)(w:World)(K:Frag)(mg:Str->Option Value)(base:Heap)(k:Nat)(nm:Str)(C:Addr)(ps:List Str)(sp:Sp):Prop where
 ex:∃(f:Addr)(fd:FuncData),Ip K C f/\cn P w K mg base bh k f fd ps sp/\Binds K fd ps []/\mg nm=some (.ref C)
theorem iz{X:Cx}{k:Nat}{sp:Sp}{x:Str}{p pos:Pos}{e:Expr}{es:List Expr}{t:TA}(o:Kr X.prog X.w X.K X.mg X.base k x C ps sp)(hr:bC (k+1) X.A)(ha:PA X (e::es) t)(hg:Gl X x:=by rfl)(hdb:(x==("__debug__":Str))=false:=by decide)(he:starEach (e::es) X.env=(false,eval e X.env)::starEach es X.env:=by rfl)(hpl:(backTo pos (starEach es X.env)).any (·.1)=false:=by rfl):PE X (.Call (.Name x p) (e::es) [] pos) (xa C sp [] E0 t):=by obtain⟨f,fd,M,F,b,m⟩:=o.ex;exact Gw M F hr hg m b .nil g_ ha hdb he hpl
theorem IM{X:Cx}{k:Nat}{sp:Sp}{x:Str}{p pos:Pos}(o:Kr X.prog X.w X.K X.mg X.base k x C ps sp)(hr:bC (k+1) X.A)(hg:Gl X x:=by rfl)(hdb:(x==("__debug__":Str))=false:=by decide):
  PE X (.Call (.Name x p) [] [] pos) (xa C sp [] E0 d4):=by
 obtain⟨f,fd,M,F,b,m⟩:=o.ex;exact EH M F hr hg m b .nil g_ hdb
inductive lY(C:Addr)(H:Hp)(e:Addr)(r p:Int):Prop
 |mk(d:_) (l:_) (_:H e=some (j8 e C (some d))) (_:H d=some (xB d (ff r p l))) (_:H l=some (.lst [.int (-2),.int r,.int p]))
theorem bI{fX:Addr}{H1:Hp}{r p:Int}{R:Addr->Hp->Prop}(M:Ip K C fX)(k:∀e H',aG H1 H'->lY C H' e r p->R e H'):
  ([V.int r,V.int p]:List V).length<=1000/\∀e,H1 e=none->FF C (.ref e::([V.int r,V.int p]++[])) (upd H1 e (eR e C none)) (λv H2=>v= .bF/\∃e' C' f' dx,V.ref e= .ref e'/\H2 e'=some (eR e' C' dx)/\Ip K C' f'/\R e' (upd H2 e' (j8 e' C' dx))) E0:=by
 refine⟨(by show 2<=1000;decide),λe he=>⟨e,r,p,rfl,ag,λH' fn fr=>⟨rfl,?_⟩⟩⟩;obtain⟨d,l,hde,a1,a2,a3⟩:=fn;have s1:aG H1 (upd H' e (j8 e C (some d))):=λb o hb=>by
  have hbe:=au hb he;rw[ah hbe];exact fr b o (by rw[ah hbe];exact hb) hbe
 have hle:l≠e:=dv a3 a1 (by intro z;cases z);exact⟨e,C,fX,some d,rfl,a1,M,k e _ s1 ⟨d,l,ag,by rw[ah hde];exact a2,by rw[ah hle];exact a3⟩⟩
end
section
open EwTree (isSmall isBig isDigit isSeen isWordByte isCodeByte isMarkByte tokenIn)
theorem zM{s:L2.St}{A B:Hp->Prop}(h:A H):QQ s H (λb H3=>if b=true then A H3 else B H3):=by show(if true=true then A H else B H);exact fV h
def R_:Str:="abcdefghijklmnopqrstuvwxyz"
def one(c:UInt8):Str:=⟨#[c.toNat]⟩
theorem NO{c:UInt8}(h:isSmall c=true):vm R_.cps.toList ((c.toNat:Int) - 97)=some c.toNat:=by
 have hb:97<=c.toNat/\c.toNat<=122:=by
  unfold EwTree.isSmall at h;simp only[Bool.and_eq_true,decide_eq_true_eq] at h;exact⟨tS.mp h.1,tS.mp h.2⟩
 have key:∀n:Fin 26,vm R_.cps.toList ((n.val:Nat):Int)=some (97+n.val):=↑1
 have:=key ⟨c.toNat - 97,↑2⟩;have e1:((c.toNat:Int) - 97)=((c.toNat - 97:Nat):Int):=↑2
 rw[e1,this];congr 1;show 97+(c.toNat - 97)=c.toNat;omega
theorem join_one:∀(w:By),Str.join "" (w.map one)=vd w
 |[]=>rfl
 |[c]=>rfl
 |c::d::w=>by
  have ih:=join_one (d::w);show(one c++("":Str))++Str.join "" ((d::w).map one)=vd (c::d::w);rw[ih];show(⟨(#[c.toNat]++#[])++((d::w).map UInt8.toNat).toArray⟩:Str)=⟨((c::d::w).map UInt8.toNat).toArray⟩
  simp
theorem J2(w:By):((w.map one).map (·.length)).sum=w.length:=by
 induction w with
 |nil=>rfl
 |cons c w ih=>rw[List.map_cons,List.map_cons,List.sum_cons,ih];show 1+w.length=w.length+1;omega
inductive LD(K:Frag)(vs:List V)(H:Hp)(Q:VK)(E:XK):Prop
 |mk(a:Addr) (b:By) (_:vs=[.ref a]) (_:bf K H a (iv b)) (_:b.length<=100000) (_:∀H',aG H H'->Q (.str (q_ b)) H')
theorem tj:ax ["word","byte"] ["word"] (aq (top 70)):=↑3
theorem Ny(d:Def K mg "spelled" (top 70) ["word"])(gl:GS mg "LETTERS" R_)(al:mg "all"=none)(os:Ok P w K mg base bh 1 "is_small" ["byte"] (iW h_)):Ok P w K mg base bh 2 "spelled" ["word"] (LD K):=d.ok λf fd F=>by
 refine F.ok tj (by rintro vs H Q E ⟨a,b,rfl,_⟩;rfl) (λUJ A outer s H vs Q E hr h=>?_);obtain⟨a,b,rfl,hS,hl,k⟩:=h;refine⟨_,aj (aR (dq (eK (Me rfl) (by rfl) al boot_all (aa (L8 (own:=[("byte",1)]) rfl tj.nd (qp (pv 0)) (show vh ["word","byte"] (aq (top 70)) _ [("byte",1)] from An ↑1) (λs H C cl fp=>fN (i:=1) tj.nd rfl (Or.inl rfl)) (λs H C cl fp=>Dq)
   (λs H C cl fp=>aM os hr (aa (pv 1) ao))) ao)))
  (ai (aC (KN bN (L8 (own:=[("byte",1)]) rfl tj.nd (qp (pv 0)) (show vh ["word","byte"] (aq (top 70)) _ [("byte",1)] from An ↑1) (λs H C cl fp=>fN (i:=1) tj.nd rfl (Or.inl rfl)) (λs H C cl fp=>Dq)
   (λs H C cl fp=>bz Mn (Tg gl) (bA jP (pv 1) aw) (λ_ _=>rfl)))))) aL) (ai (aC bN)),?_⟩
 have hsz:sizeLine=16777216:=sizeLine_eq;refine⟨_,rfl,a,rfl,⟨_,hS⟩,λD hD=>De (xs:=iv b) (λi H2=>H2 D=some (.lst ((b.take i).map λc=>V.bl (isSmall c)))/\aG H H2) ⟨ag,aB hD⟩ (λi H2 _ z=>z.2.seq hS) ?_ ?_⟩
 ·rintro i x H2 hi ⟨h1,h2⟩;obtain⟨c,hc,rfl⟩:∃c,b[i]?=some c/\x=V.int c.toNat:=by
   unfold iv at hi;rw[List.getElem?_map] at hi;cases e:b[i]? with
   |none=>rw[e] at hi;cases hi
   |some z=>rw[e] at hi;exact⟨z,rfl,(Option.some.inj hi).symm⟩
  have hil:=(List.getElem?_eq_some_iff.mp hc).1;refine⟨rfl,?_⟩;refine zM ?_;refine⟨_,rfl,c.toNat,rfl,_,h1,?_,?_,?_⟩
  ·rw[List.length_map,List.length_take,hsz];omega
  ·rw[ag,take_snoc hc,List.map_append,tu];rfl
  ·exact λb' o hb=>by rw[ah (au hb hD)];exact h2 b' o hb
 ·rintro H2 ⟨h1,h2⟩;rw[aU,List.take_length] at h1;have e0:(b.map λc=>V.bl (isSmall c))=(b.map isSmall).map V.bl:=by rw[List.map_map];rfl
  refine⟨D,b.map isSmall,rfl,bf.of (by rw[<-e0];exact h1),_,rfl,?_⟩;have e1:(b.map isSmall).all id=b.all isSmall:=by rw[List.all_map];rfl
  rw[e1];refine aT (λz=>?_) λz=>?_
  ·have hall:∀c∈b,isSmall c=true:=List.all_eq_true.mp z;refine⟨⟨_,rfl⟩,_,rfl,a,rfl,⟨_,h2.seq hS⟩,λD2 hD2=>De (xs:=iv b) (λi H3=>H3 D2=some (.lst ((b.take i).map λc=>V.str (one c)))/\aG H H3) ⟨ag,h2.trans (aB hD2)⟩ (λi H3 _ z=>z.2.seq hS) ?_ ?_⟩
   ·rintro i x H3 hi ⟨h3,h4⟩;obtain⟨c,hc,rfl⟩:∃c,b[i]?=some c/\x=V.int c.toNat:=by
     unfold iv at hi;rw[List.getElem?_map] at hi;cases e:b[i]? with
     |none=>rw[e] at hi;cases hi
     |some z=>rw[e] at hi;exact⟨z,rfl,(Option.some.inj hi).symm⟩
    have hil:=(List.getElem?_eq_some_iff.mp hc).1;refine⟨rfl,?_⟩;refine zM ?_;refine⟨_,rfl,_,_,rfl,rfl,_,_,_,rfl,rfl,(by rw[hsz];decide+kernel),NO (hall c (List.mem_of_getElem? hc)),_,h3,?_,?_,?_⟩
    ·rw[List.length_map,List.length_take,hsz];omega
    ·rw[ag,take_snoc hc,List.map_append];rfl
    ·have hD2':H D2=none:=h2.free hD2;exact λb' o hb=>by rw[ah (au hb hD2')];exact h4 b' o hb
   ·rintro H3 ⟨h3,h4⟩;rw[aU,List.take_length] at h3;have e2:(b.map λc=>V.str (one c))=(b.map one).map V.str:=by rw[List.map_map];rfl
    refine⟨_,D2,b.map one,rfl,rfl,.inl (bf.of (by rw[<-e2];exact h3)),?_,?_⟩
    ·rw[J2,List.length_map];have:("":Str).length=0:=↑1
     rw[this];omega
    ·rw[TL.join_eq,join_one];have q:=k H3 h4;unfold q_ at q;rw[if_pos z] at q;exact q
  ·have q:=k H2 h2;unfold q_ at q;rw[if_neg z] at q;exact q
inductive lZ(K:Frag)(CT CF:Addr)(pre:UInt8->Prop)(vs:List V)(H:Hp)(Q:VK)(E:XK):Prop
 |mk(a:Addr) (b:By) (p:Nat) (c:UInt8) (_:vs=[.ref a,.int p]) (_:bf K H a (iv b)) (_:b.length<=65536) (_:b[p]?=some c) (_:pre c) (_:(∀t s,tokenIn p (b.drop p)= .ok (t,s)->∀H' r,aG H H'->eE CT H' r t->Q (.ref r) H')) (_:(∀r q,tokenIn p (b.drop p)= .error (r,q)->∀H' e,aG H H'->lY CF H' e r q->E (.ref e) none H'))
theorem f9{K:Frag}{pre:UInt8->Prop}:∀vs H Q E,lZ K CT CF pre vs H Q E->vs.length=(["text","place"]:List Str).length:=by rintro vs H Q E ⟨a,b,p,c,rfl,_⟩;rfl
theorem jt{H1:Hp}{t:EwTree.Tok}{kd:Int}{lk:Str}{st en:Int}{Q:VK}(k:∀H' r,aG H1 H'->eE CT H' r t->Q (.ref r) H')(e1:kd=t.kind)(e2:lk=bL t)(e3:st=t.place)(e4:en=t.halt_):
  ∀x dx,H1 x=none->H1 dx=none->dx≠x->Jr CT (.ref x::([V.int kd,.str lk,.int st,.int en]++[])) (upd (upd H1 dx (.own x)) x (.ins CT dx [])) (λv H2=>v= .bF/\Q (.ref x) H2) E0:=by
 intro x dx n1 n2 ne;refine⟨x,dx,kd,lk,st,en,rfl,ag,λH' h' fr=>⟨rfl,k H' x (aG.made n1 n2 fr) ⟨dx,?_⟩⟩⟩;rw[h',e1,e2,e3,e4]
def Uy(K:Frag)(w:World)(mg:Str->Option Value)(nm:Str)(l:List Str):Prop:=∃a,mg nm=some (.ref a)/\R8 K w.params a l
def SA(K:Frag)(mg:Str->Option Value)(nm:Str)(l:List (Int×Str)):Prop:=∃a,mg nm=some (.ref a)/\Sd K a l
abbrev Eb(P:Program)(w:World)(K:Frag)(mg:Str->Option Value)(base:Heap)(CT:Addr):Prop:=vt P w K mg base 1 "Token" CT ["self","kind","look","start","end"] (Jr CT)
abbrev wc(P:Program)(w:World)(K:Frag)(mg:Str->Option Value)(base:Heap)(CF:Addr):Prop:=Kr P w K mg base 2 "Fault" CF ["self","rule","place"] (FF CF)
theorem dU{b:By}{p:Nat}{c:UInt8}(h:b[p]?=some c):b.drop p=c::b.drop (p+1):=bo h
theorem GZ:ax ["text","place","end","word"] ["text","place"] (aq (top 69)):=↑3
theorem Q1(d:Def K mg "word_at" (top 69) ["text","place"])(ow:Ok P w K mg base bh 2 "in_word" ["byte"] (iW g8))(orn:Ok P w K mg base bh 4 "run_end" ["text","place","fits"] (k_ P w K mg base))(os:Ok P w K mg base bh 2 "spelled" ["word"] (LD K))(nT:Eb P w K mg base CT)(nF:wc P w K mg base CF)(gk:Uy K w mg "KEYWORDS" JP)(g0:GI mg "KEYWORD" 0)(g1:GI mg "NAME" 1)(gm:GI mg "MOST_NAME_BYTES" 31):
  Ok P w K mg base (iZ P w) 5 "word_at" ["text","place"] (lZ K CT CF λc=>isSmall c=true):=d.ok λf fd F=>by
 refine F.vH GZ f9 (λUJ A outer s H vs Q E hr h=>?_);obtain⟨a,b,p,c,rfl,hS,hl,hc,pre,kq,ke⟩:=h;obtain⟨fw,mw,fits⟩:=fits_of ow ↑0 DP;obtain⟨ak,mk,tk⟩:=gk;obtain⟨fX,fdX,M,_⟩:=id nF.ex;have hp:p<b.length:=(List.getElem?_eq_some_iff.mp hc).1;have l1:aK isWordByte b p<=b.length:=dN _ (Nat.le_of_lt hp);have g2:p<=aK isWordByte b p:=bP _ _ _;have W:=Ke (dU hc) pre;refine⟨_,aj (aN (i:=2) GZ.nd rfl (Or.inl rfl) (aM orn hr (aa (pv 0) (aa (pv 1) (aa (fQ mw) ao)))))
  (aj (aN (i:=3) GZ.nd rfl (Or.inl rfl) (aM os (hr.mono ↑0) (aa (dP eV (pv 0) (bU (pv 1)) (bU (pv 2))) ao)))
  (aj (aR (aD Bn (pv 3) (fQ mk) (by with_unfolding_all rfl)) (ai (aC (eM nT (hr.mono ↑0) (aa (cD g0) (aa (pv 3) (aa (pv 1) (aa (pv 2) ao))))))) aL)
  (aj (aR (aD oN (bA jP (pv 2) (pv 1)) (cD gm) (aJ _)) (ai (cj hr.hd (iz nF (hr.mono ↑0) (aa aw (aa (pv 1) ao))))) aL)
  (ai (aC (eM nT (hr.mono ↑0) (aa (cD g1) (aa bN (aa (pv 1) (aa (pv 2) ao)))))))))),?_⟩
 refine⟨_,rfl,_,rfl,a,b,p,fw,isWordByte,rfl,hS,Nat.le_of_lt hp,fits,?_⟩;refine⟨_,rfl,_,rfl,_,rfl,_,rfl,_,rfl,a,_,rfl,hS,λp1 n1=>?_⟩;have s1:=aB (o:=.lst (gT (iv b) (some (p:Int)) (some (aK isWordByte b p:Int)))) n1;refine⟨p1,cut b p (aK isWordByte b p),rfl,bf.of (by rw[<-qS l1 g2];exact ag),?_,λH2 s2=>?_⟩
 ·unfold cut;rw[List.length_take,List.length_drop];omega
 have s12:=s1.trans s2;refine⟨_,rfl,_,ak,_,rfl,rfl,tk,_,rfl,?_⟩;rw[Ef];refine aT (λz1=>?_) λz1=>?_
 ·rw[if_pos z1] at W;refine⟨_,rfl,_,rfl,_,rfl,jt (λH' r s' h'=>kq _ _ W H' r (s12.trans s') h') rfl ?_ rfl rfl⟩;have hk:cut b p (aK isWordByte b p)∈EwTree.KEYWORDS:=by unfold EwTree.isKeyword at z1;exact List.contains_iff_mem.mp z1
  unfold q_ bL;rw[if_pos (jn _ hk).1,if_pos rfl]
 rw[if_neg z1] at W;refine⟨_,rfl,_,rfl,_,_,rfl,rfl,_,_,rfl,rfl,_,rfl,?_⟩;refine aT (λz2=>?_) λz2=>?_
 ·have z2:=of_decide_eq_true z2;rw[if_neg ↑2] at W;exact⟨_,rfl,bI M λe H' s' h'=>ke _ _ W H' e (s12.trans s') h'⟩
 ·have z2:¬_:=λz=>z2 (decide_eq_true z);rw[if_pos ↑2] at W;exact⟨_,rfl,_,rfl,jt (λH' r s' h'=>kq _ _ W H' r (s12.trans s') h') rfl rfl rfl rfl⟩
theorem EC{neg:Bool}{c:UInt8}{d:By}(hc:isDigit c=true):cH (cF (some (neg,c::d)))=c::d:=by
 have n1:isNeg (cF (some (neg,c::d)))=neg:=by
  cases neg with
  |true=>rfl
  |false=>
   refine decide_eq_false λz=>?_;have hz:((c.toNat:Nat):Int)=45:=z;unfold EwTree.isDigit at hc;simp only[Bool.and_eq_true,decide_eq_true_eq] at hc;have:=tS.mp hc.1;have h48:(48:UInt8).toNat=48:=rfl;omega
 unfold cH;rw[n1];cases neg <;> rfl
theorem LY:ax ["text","place","end"] ["text","place"] (aq (top 71)):=↑3
theorem R1(d:Def K mg "code_at" (top 71) ["text","place"])(ow:Ok P w K mg base bh 2 "in_code" ["byte"] (iW oU))(orn:Ok P w K mg base bh 4 "run_end" ["text","place","fits"] (k_ P w K mg base))(nT:Eb P w K mg base CT)(nF:wc P w K mg base CF)(g0:GI mg "CODE" 2)(g1:GI mg "LEAST_CODE_BYTES" 2)(gm:GI mg "MOST_CODE_BYTES" 8):
  Ok P w K mg base (iZ P w) 5 "code_at" ["text","place"] (lZ K CT CF λc=>isSmall c=false/\isBig c=true):=d.ok λf fd F=>by
 refine F.vH LY f9 (λUJ A outer s H vs Q E hr h=>?_);obtain⟨a,b,p,c,rfl,hS,hl,hc,pre,kq,ke⟩:=h;obtain⟨fw,mw,fits⟩:=fits_of ow ↑0 JZ;obtain⟨fX,fdX,M,_⟩:=id nF.ex;have hp:p<b.length:=(List.getElem?_eq_some_iff.mp hc).1;have g2:p<=aK isCodeByte b p:=bP _ _ _;have W:=JN (dU hc) pre.1 pre.2;refine⟨_,aj (aN (i:=2) LY.nd rfl (Or.inl rfl) (aM orn hr (aa (pv 0) (aa (pv 1) (aa (fQ mw) ao)))))
  (aj (aR (HM g9 g9 (cD g1) (bA jP (pv 2) (pv 1)) (cD gm)) (ai (aC (eM nT (hr.mono ↑0) (aa (cD g0) (aa bN (aa (pv 1) (aa (pv 2) ao))))))) aL)
  (ai (cj hr.hd (iz nF (hr.mono ↑0) (aa aw (aa (pv 1) ao)))))),?_⟩
 refine⟨_,rfl,_,rfl,a,b,p,fw,isCodeByte,rfl,hS,Nat.le_of_lt hp,fits,?_⟩;refine⟨_,rfl,_,rfl,_,_,rfl,rfl,_,_,rfl,rfl,_,rfl,?_⟩;refine aT (λz1=>⟨_,_,rfl,rfl,_,rfl,aT (λz2=>?_) λz2=>?_⟩) λz1=>⟨_,rfl,dQ ?_⟩
 ·have z1:=of_decide_eq_true z1;have z2:=of_decide_eq_true z2;rw[if_pos ↑2] at W;exact⟨_,rfl,_,rfl,jt (λH' r s' h'=>kq _ _ W H' r s' h') rfl rfl rfl rfl⟩
 ·have z2:¬_:=λz=>z2 (decide_eq_true z);rw[if_neg ↑2] at W;exact⟨_,rfl,bI M λe H' s' h'=>ke _ _ W H' e s' h'⟩
 ·have z1:¬_:=λz=>z1 (decide_eq_true z);rw[if_neg ↑2] at W;exact⟨_,rfl,bI M λe H' s' h'=>ke _ _ W H' e s' h'⟩
theorem L6:ax ["text","place","numeral"] ["text","place"] (aq (top 72)):=↑3
theorem qz{b:By}{i j:Nat}(hj:j<=b.length):(cut b i j).length=j - i:=by unfold cut;rw[List.length_take,List.length_drop];omega
theorem RR{CN:Addr}(d:Def K mg "number_at" (top 72) ["text","place"])(T:EU K CN)(on:Ok P w K mg base bh 6 "numeral_at" ["text","place"] (LC K CN))(orr:Ok P w K mg base bh 2 "is_right" ["numeral"] (C3 CN))(osz:i8 P w K mg base 1 CN "size" ["self"] (vQ CN))(nT:Eb P w K mg base CT)(nF:wc P w K mg base CF)(g0:GI mg "NUMBER" 3):
  Ok P w K mg base (iZ P w) 7 "number_at" ["text","place"] (lZ K CT CF λc=>isSmall c=false/\isBig c=false/\isDigit c=true):=d.ok λf fd F=>by
 refine F.vH L6 f9 (λUJ A outer s H vs Q E hr h=>?_);obtain⟨a,b,p,c,rfl,hS,hl,hc,pre,kq,ke⟩:=h;obtain⟨fX,fdX,M,_⟩:=id nF.ex;have hp:p<b.length:=(List.getElem?_eq_some_iff.mp hc).1;obtain⟨wd,W⟩:=Ft (dU hc) pre.1 pre.2.1 pre.2.2;have l1:Es b p<=b.length:=dN _ (Nat.le_of_lt hp);have g1:p<=Es b p:=bP _ _ _;obtain⟨_,_,g2,l2⟩:=wL b (Es b p);have l2:=l2 l1;obtain⟨x1,x2,g3,l3,x5⟩:=BW b (Cv b p);have l3:=l3 l2;have l4:OW b p<=b.length:=dN _ l3;have g4:Jg b p<=OW b p:=bP _ _ _;refine⟨_,aj (aN (i:=2) L6.nd rfl (Or.inl rfl) (aM on hr (aa (pv 0) (aa (pv 1) ao))))
  (aj (aR (dq (aM orr (hr.mono ↑0) (aa (pv 2) ao))) (ai (aC (eM nT (hr.mono ↑0) (aa (cD g0) (aa bN (aa (pv 1) (aa (bA cu (pv 1) (iX (P:=P) osz T.cl (hr.mono ↑0) (pv 2))) ao))))))) aL)
  (ai (cj hr.hd (iz nF (hr.mono ↑0) (aa aw (aa (pv 1) ao)))))),?_⟩
 refine⟨_,rfl,_,rfl,a,b,p,rfl,hS,Nat.le_of_lt hp,λH1 r s1 hN=>?_⟩;refine⟨_,rfl,r,_,_,_,_,rfl,hN,?_,λH2 s2=>?_⟩
 ·intro z;have e1:cut b (Cv b p) (Jg b p)=cF (EwTree.expoIn (b.drop (Cv b p))).1:=x2;rw[e1] at z ⊢;cases hx:(EwTree.expoIn (b.drop (Cv b p))).1 with
  |none=>rw[hx] at z;exact absurd rfl z
  |some y=>
   obtain⟨c',d',y1,y2⟩:=x5 y hx;obtain⟨neg,ds⟩:=y;dsimp only at y1;subst y1;refine⟨?_,c',?_⟩
   ·cases neg <;> show 1<List.length _ <;> unfold cF <;> simp
   ·rw[EC y2];rfl
 have s12:=s1.trans s2;have hN2:=hN.same s2;refine⟨_,rfl,aT (λz=>?_) λz=>?_⟩
 ·have W:=W.trans (if_pos z);obtain⟨dx,ad,af,ae,am,h1,_⟩:=id hN2;refine⟨_,rfl,_,rfl,_,rfl,r,dx,_,rfl,h1,CB _ _ _ _,r,_,_,_,_,rfl,hN2,_,_,rfl,rfl,jt (λH' r' s' h'=>kq _ _ W H' r' (s12.trans s') h') rfl rfl rfl ?_⟩;rw[qz l1,qz (j:=Cv b p) l2,qz (j:=Jg b p) l3,qz l4];show((p:Nat):Int)+((_:Nat):Int)=((OW b p:Nat):Int)
  have g2':Es b p<=Cv b p:=g2;have g3':Cv b p<=Jg b p:=g3;omega
 ·have W:=W.trans (if_neg z);exact⟨_,rfl,bI M λe H' s' h'=>ke _ _ W H' e (s12.trans s') h'⟩
inductive Ru(K:Frag)(CF:Addr)(vs:List V)(H:Hp)(Q:VK)(E:XK):Prop
 |mk(a:Addr) (b:By) (p:Nat) (_:vs=[.ref a,.int p]) (_:bf K H a (iv b)) (_:p<=b.length) (_:(∀q,bp b p= .ok q->∀H',aG H H'->Q (.int q) H')) (_:(∀r q,bp b p= .error (r,q)->∀H' e,aG H H'->lY CF H' e r q->E (.ref e) none H'))
theorem HX:ax ["text","place","byte","width"] ["text","place"] (aq (top 74)):=↑3
theorem RM(d:Def K mg "item_end" (top 74) ["text","place"])(ob:Ok P w K mg base bh 1 "byte_at" ["text","place"] (hX K))(op:Ok P w K mg base bh 1 "is_printable" ["byte"] (iW g7))(nF:wc P w K mg base CF)(ln:mg "len"=none)(gb:GI mg "BACKSLASH" 92)(gq:GI mg "QUOTE" 34)(gn:GI mg "SMALL_N" 110):Ok P w K mg base (iZ P w) 4 "item_end" ["text","place"] (Ru K CF):=d.ok λf fd F=>by
 refine F.vH HX (by rintro vs H Q E ⟨a,b,p,rfl,_⟩;rfl) (λUJ A outer s H vs Q E hr h=>?_);obtain⟨a,b,p,rfl,hS,hp,kq,ke⟩:=h;obtain⟨fX,fdX,M,_⟩:=id nF.ex;refine⟨_,aj (aN (i:=2) HX.nd rfl (Or.inl rfl) (aM ob (hr.mono ↑0) (aa (pv 0) (aa (pv 1) ao))))
  (aj (aN (i:=3) HX.nd rfl (Or.inl rfl) (lz (aD cG (pv 2) (cD gb) (aJ _)) aw aw))
  (aj (aR (aD oN (bA cu (pv 1) (pv 3)) (bB ln (pv 0)) (aJ _)) (ai (cj hr.hd (iz nF hr (aa aw (aa (bB ln (pv 0)) ao))))) aL)
  (aj (aR (nA (aD cG (pv 3) aw (aJ _)) (i6 (F_ (dq (aM op (hr.mono ↑0) (aa (pv 2) ao)))))).pt (ai (cj hr.hd (iz nF hr (aa aw (aa (pv 1) ao))))) aL)
  (aj (aR (nA (aD cG (pv 3) aw (aJ _)) (i6 (aD xO (bz aX (pv 0) (bA cu (pv 1) aw) (λ_ _=>rfl)) (fO (aa (cD gq) (aa (cD gb) (aa (cD gn) ao)))) (by with_unfolding_all rfl)))).pt (ai (cj hr.hd (iz nF hr (aa aw (aa (pv 1) ao))))) aL)
  (ai (aC (bA cu (pv 1) (pv 3)))))))),?_⟩
 refine⟨_,rfl,_,rfl,a,b,p,rfl,hS,?_⟩;refine⟨_,rfl,rfl,_,rfl,?_⟩;rw[bt];have hlen:(iv b).length=b.length:=aU b;refine aT (λz=>?_) λz=>?_
 ·have z:=of_decide_eq_true z;have tw:two? b p=2:=by unfold two?;rw[if_pos z]
  refine⟨_,rfl,_,rfl,_,_,rfl,rfl,_,rfl,a,_,rfl,.inl hS,_,_,rfl,rfl,_,rfl,aT (λy=>?_) λy=>?_⟩
  ·have y:=of_decide_eq_true y;have W:bp b p= .error (3,b.length):=by unfold bp;rw[tw,if_pos ↑2]
   refine⟨_,rfl,a,_,rfl,.inl hS,?_⟩;rw[hlen];exact bI M λe H' s' h'=>ke _ _ W H' e s' h'
  ·have y:¬_:=λq=>y (decide_eq_true q);have hp1:p+1<b.length:=↑2
   have h1:b[p+1]?=some b[p+1]:=List.getElem?_eq_getElem hp1;have ix:vm (iv b) ((p:Int)+1)=some (.int b[p+1].toNat):=dE (p:=p+1) h1;refine⟨_,rfl,rfl,_,rfl,?_⟩;rw[bt];refine aT (λq=>absurd (of_decide_eq_true q) ↑0) λ_=>?_;refine dQ ?_;refine⟨_,rfl,rfl,_,rfl,?_⟩;rw[bt];refine aT (λ_=>?_) λq=>absurd (decide_eq_true rfl) q;refine⟨_,rfl,_,rfl,_,_,rfl,rfl,a,_,_,_,rfl,rfl,hS,ix,(by show 3<=sizeLine;decide),λt ht=>?_⟩;have s1:=aB (o:=.tup [.int 34,.int 92,.int 110]) ht;refine⟨t,_,rfl,.inr (fE.of ag),rfl,rfl,_,rfl,?_⟩;have ei:Dn (.int b[p+1].toNat) [V.int 34,.int 92,.int 110]=decide (cQ b (p+1)=34\/cQ b (p+1)=92\/cQ b (p+1)=110):=by
    rw[show[V.int 34,.int 92,.int 110]=([34,92,110]:List Int).map V.int from rfl,qw,bY h1];simp only[List.mem_cons,List.not_mem_nil,or_false]
   rw[if_pos rfl,ei];refine aT (λq=>?_) λq=>?_
   ·have q:¬(cQ b (p+1)=34\/cQ b (p+1)=92\/cQ b (p+1)=110):=λx=>by rw[decide_eq_true x] at q;cases q
    have W:bp b p= .error (1,p):=by unfold bp;rw[tw,if_neg ↑2,if_neg ↑2,if_pos ⟨rfl,q⟩]
    exact⟨_,rfl,bI M λe H' s' h'=>ke _ _ W H' e (s1.trans s') h'⟩
   ·have q:cQ b (p+1)=34\/cQ b (p+1)=92\/cQ b (p+1)=110:=by
     apply Classical.byContradiction;intro x;rw[decide_eq_false x] at q;exact q rfl
    have W:bp b p= .ok (p+2):=by unfold bp;rw[tw,if_neg ↑2,if_neg ↑2,if_neg (λx=>x.2 q)]
    exact⟨_,rfl,_,rfl,_,_,rfl,rfl,kq _ W _ s1⟩
 ·have z:¬cQ b p=92:=λq=>z (decide_eq_true q);have tw:two? b p=1:=by unfold two?;rw[if_neg z]
  refine⟨_,rfl,_,rfl,_,_,rfl,rfl,_,rfl,a,_,rfl,.inl hS,_,_,rfl,rfl,_,rfl,aT (λy=>?_) λy=>?_⟩
  ·have y:=of_decide_eq_true y;have W:bp b p= .error (3,b.length):=by unfold bp;rw[tw,if_pos ↑2]
   refine⟨_,rfl,a,_,rfl,.inl hS,?_⟩;rw[hlen];exact bI M λe H' s' h'=>ke _ _ W H' e s' h'
  ·have y:¬_:=λq=>y (decide_eq_true q);refine⟨_,rfl,rfl,_,rfl,?_⟩;rw[bt];refine aT (λ_=>?_) λq=>absurd (decide_eq_true rfl) q;refine⟨_,rfl,_,rfl,_,rfl,aT (λq=>?_) λq=>?_⟩
   ·have q:g7 (cQ b p)=false:=by
     cases h:g7 (cQ b p) with
     |false=>rfl
     |true=>rw[h] at q;cases q
    have W:bp b p= .error (1,p):=by unfold bp;rw[tw,if_neg ↑2,if_pos ⟨rfl,q⟩]
    exact⟨_,rfl,bI M λe H' s' h'=>ke _ _ W H' e s' h'⟩
   ·have q:g7 (cQ b p)=true:=by
     cases h:g7 (cQ b p) with
     |true=>rfl
     |false=>rw[h] at q;exact absurd rfl q
    have W:bp b p= .ok (p+1):=by unfold bp;rw[tw,if_neg ↑2,if_neg (λx=>by rw[q] at x;cases x.2),if_neg ↑2]
    refine⟨_,rfl,rfl,_,rfl,?_⟩;rw[bt];refine aT (λq=>absurd (of_decide_eq_true q) ↑0) λ_=>?_;refine dQ ?_;exact⟨_,rfl,_,rfl,_,_,rfl,rfl,kq _ W _ (aG.refl H)⟩
end
section
open EwTree (isSmall isBig isDigit isSeen isWordByte isCodeByte isMarkByte tokenIn itemsIn)
theorem Gu{x:Except EwTree.Fault (EwTree.Bytes×Nat×EwTree.Bytes)}{e:EwTree.Fault}(h:E2 x= .error e):x= .error e:=by
 cases x with
 |error f=>exact congrArg Except.error (Except.error.inj h)
 |ok y=>cases h
theorem KU{x:Except EwTree.Fault (EwTree.Bytes×Nat×EwTree.Bytes)}{q:Nat}{r:EwTree.Bytes}(h:E2 x= .ok (q,r)):∃l,x= .ok (l,q,r):=by
 cases x with
 |error f=>cases h
 |ok y=>obtain⟨l,z⟩:=y;exact⟨l,by rw[show z=(q,r) from Except.ok.inj h]⟩
theorem zu:ax ["text","place","items","here"] ["text","place"] (aq (top 73)):=↑3
theorem P7(d:Def K mg "text_at" (top 73) ["text","place"])(ob:Ok P w K mg base bh 1 "byte_at" ["text","place"] (hX K))(oi:Ok P w K mg base (iZ P w) 4 "item_end" ["text","place"] (Ru K CF))(nT:Eb P w K mg base CT)(nF:wc P w K mg base CF)(ln:mg "len"=none)(g0:GI mg "TEXT" 4)(gq:GI mg "QUOTE" 34)(gm:GI mg "MOST_ITEMS" 1024):Ok P w K mg base (iZ P w) 5 "text_at" ["text","place"] (lZ K CT CF λc=>c=34):=d.ok λf fd F=>by
 refine F.vH zu f9 (λUJ A outer s H vs Q E hr h=>?_);obtain⟨a,b,p,c,rfl,hS,hl,hc,rfl,kq,ke⟩:=h;obtain⟨fX,fdX,M,_⟩:=id nF.ex;have hp:p<b.length:=(List.getElem?_eq_some_iff.mp hc).1;have hlen:(iv b).length=b.length:=aU b;have T0:=J0 (dU hc);refine⟨_,aj (aN (i:=2) zu.nd rfl (Or.inl rfl) aw)
  (aj (aN (i:=3) zu.nd rfl (Or.inl rfl) (bA cu (pv 1) aw))
  (aj (ft (w9 ⟨rfl,rfl,rfl⟩) (aD Ma (aM ob (hr.mono ↑0) (aa (pv 0) (aa (pv 3) ao))) (cD gq) (aJ _))
   (aj (aR (nA (aD cG (pv 2) (cD gm) (aJ _)) (i6 (aD oP (pv 3) (bB ln (pv 0)) (aJ _)))).pt (ai (cj hr.hd (iz nF (hr.mono ↑0) (aa aw (aa (pv 3) ao))))) aL)
   (aj (aN (i:=3) zu.nd rfl (Or.inl rfl) (rW oi hr (vA λ_ _ _ z=>z) (aa (pv 0) (aa (pv 3) ao))))
   (ai (ip (i:=2) zu.nd rfl (Or.inl rfl) aw gP)))))
  (ai (aC (eM nT (hr.mono ↑0) (aa (cD g0) (aa bN (aa (pv 1) (aa (bA cu (pv 3) aw) ao))))))))),?_⟩
 refine⟨_,rfl,_,_,rfl,rfl,?_⟩;refine⟨λm σ H'=>∃(j k:Nat),m=b.length - j/\σ=[some (.ref a),some (.int p),some (.int k),some (.int j)]/\aG H H'/\p+1<=j/\j<=b.length/\k<=1024/\E2 (itemsIn 0 (p+1) (b.drop (p+1)))=E2 (itemsIn k j (b.drop j)),⟨_,p+1,0,rfl,rfl,aG.refl H,Nat.le_refl _,hp,↑0,rfl⟩,?_⟩;rintro m σ H1 ⟨j,k,rfl,rfl,s1,hpj,hj,hk,e⟩;refine⟨_,rfl,_,rfl,a,b,j,rfl,s1.seq hS,rfl,_,rfl,?_⟩;rw[bt];refine aT (λz=>?_) λz=>?_
 ·have z:¬cQ b j=34:=λq=>by rw[decide_eq_true q] at z;cases z
  refine⟨λσ' H2=>∃q:Nat,σ'=[some (.ref a),some (.int p),some (.int ((k+1:Nat):Int)),some (.int q)]/\aG H H2/\bp b j= .ok q/\(k<1024\/b.length<=j),?_,?_⟩
  ·rintro σ' H2 ⟨q,rfl,s2,hq,hkj⟩;obtain⟨q1,q2⟩:=BI hq;refine⟨b.length - q,↑2,q,k+1,rfl,rfl,s2,↑2,q2,↑2,?_⟩;rw[e,Hw z hkj hj,hq]
  ·
   have errF:(k<1024\/b.length<=j)->∀r q,bp b j= .error (r,q)->∀H2 x,aG H1 H2->lY CF H2 x r q->E (.ref x) none H2:=λhkj r q hq H2 x s2 h2=>by
    have W:E2 (itemsIn 0 (p+1) (b.drop (p+1)))= .error (r,q):=by rw[e,Hw z hkj hj,hq]
    have W2:=Gu W;rw[W2] at T0;exact ke r q T0 H2 x (s1.trans s2) h2
   refine⟨_,rfl,rfl,_,rfl,?_⟩;rw[bt];refine aT (λy=>?_) λy=>?_
   ·have y:=of_decide_eq_true y;refine⟨_,rfl,_,rfl,a,_,rfl,.inl (s1.seq hS),_,_,rfl,rfl,_,rfl,aT (λx=>?_) λx=>?_⟩
    ·have x:=of_decide_eq_true x;rw[K7 z ↑2 ↑2] at e;have W2:=Gu e;rw[W2] at T0;exact⟨_,rfl,bI M λx H' s' h'=>ke _ _ T0 H' x (s1.trans s') h'⟩
    ·have x:¬_:=λq=>x (decide_eq_true q);have hkj:k<1024\/b.length<=j:=.inr ↑2;exact⟨_,rfl,_,rfl,a,b,j,rfl,s1.seq hS,hj,λq hq H2 s2=>⟨_,rfl,_,_,rfl,rfl,q,rfl,s1.trans s2,hq,hkj⟩,errF hkj⟩
   ·have y:¬_:=λq=>y (decide_eq_true q);have hkj:k<1024\/b.length<=j:=.inl ↑2;exact dQ ⟨_,rfl,_,rfl,a,b,j,rfl,s1.seq hS,hj,λq hq H2 s2=>⟨_,rfl,_,_,rfl,rfl,q,rfl,s1.trans s2,hq,hkj⟩,errF hkj⟩
 ·have z:cQ b j=34:=by
   apply Classical.byContradiction;intro x;rw[decide_eq_false x] at z;exact z rfl
  rw[FQ z] at e;obtain⟨l,W⟩:=KU e;rw[W] at T0;exact⟨_,rfl,_,rfl,_,_,rfl,rfl,jt (λH' r s' h'=>kq _ _ T0 H' r (s1.trans s') h') rfl rfl rfl rfl⟩
theorem M9(i:Int):(if(0:Int)>i then(0:Int) else i)=max i 0:=by
 by_cases h:(0:Int)>i
 ·rw[if_pos h];omega
 ·rw[if_neg h];omega
theorem Ly:ax ["text","place","pair"] ["text","place"] (aq (top 75)):=↑3
theorem Pw(d:Def K mg "sign_at" (top 75) ["text","place"])(ob:Ok P w K mg base bh 1 "byte_at" ["text","place"] (hX K))(nT:Eb P w K mg base CT)(nF:wc P w K mg base CF)(mx:mg "max"=none)(g0:GI mg "SIGN" 5)(g1:SA K mg "SIGNS_OF_ONE" Js)(g2:SA K mg "SIGNS_OF_TWO" Jv):
  Ok P w K mg base (iZ P w) 4 "sign_at" ["text","place"] (lZ K CT CF λc=>isSmall c=false/\isBig c=false/\isDigit c=false/\c≠34):=d.ok λf fd F=>by
 refine F.vH Ly f9 (λUJ A outer s H vs Q E hr h=>?_);obtain⟨a,b,p,c,rfl,hS,hl,hc,pre,kq,ke⟩:=h;obtain⟨fX,fdX,M,_⟩:=id nF.ex;obtain⟨a1,m1,t1⟩:=g1;obtain⟨a2,m2,t2⟩:=g2;obtain⟨W1,W2⟩:=J3 (dU hc) pre.1 pre.2.1 pre.2.2.1 pre.2.2.2;refine⟨_,aj (aN (i:=2) Ly.nd rfl (Or.inl rfl) (bA cu (bA Iu (bz aX (pv 0) (pv 1) (λ_ _=>rfl)) aw) (eK (uG rfl) (by rfl) mx boot_max (aa (aM ob (hr.mono ↑0) (aa (pv 0) (aa (bA cu (pv 1) aw) ao))) (aa aw ao)))))
  (aj (aR (aD HU (pv 2) (fQ m2) (by with_unfolding_all rfl)) (ai (aC (eM nT (hr.mono ↑0) (aa (cD g0) (aa (bz QJ (fQ m2) (pv 2) (λ_ _=>rfl)) (aa (pv 1) (aa (bA cu (pv 1) aw) ao))))))) aL)
  (aj (aR (aD HU (bz aX (pv 0) (pv 1) (λ_ _=>rfl)) (fQ m1) (by with_unfolding_all rfl)) (ai (aC (eM nT (hr.mono ↑0) (aa (cD g0) (aa (bz QJ (fQ m1) (bz aX (pv 0) (pv 1) (λ_ _=>rfl)) (λ_ _=>rfl)) (aa (pv 1) (aa (bA cu (pv 1) aw) ao))))))) aL)
  (ai (cj hr.hd (iz nF hr (aa aw (aa (pv 1) ao))))))),?_⟩
 refine⟨_,rfl,_,rfl,a,_,_,_,rfl,rfl,hS,dE hc,_,_,rfl,rfl,.inr ↑0,_,rfl,_,rfl,_,_,rfl,rfl,a,b,p+1,rfl,hS,_,_,rfl,_,_,rfl,rfl,?_⟩;have ep:(c.toNat:Int)*256+(if(0:Int)>cQ b (p+1) then(0:Int) else cQ b (p+1))=pairOf b p:=by
  unfold pairOf;rw[M9,bY hc]
 refine⟨_,rfl,_,a2,_,rfl,rfl,t2,_,rfl,?_⟩;rw[ep];cases h2:lk Jv (pairOf b p) with
 |some x=>
  obtain⟨t,T1,T2,T3,T4,T5⟩:=W1 x h2;refine fV ⟨_,rfl,_,a2,_,x,rfl,rfl,t2,h2,_,rfl,_,rfl,_,_,rfl,rfl,jt (λH' r s' h'=>kq _ _ T1 H' r s' h') ?_ T5.symm ?_ ?_⟩
  ·rw[T2];rfl
  ·rw[T3]
  ·rw[T4];rfl
 |none=>
  obtain⟨W3,W4⟩:=W2 h2;refine dQ ⟨_,rfl,_,rfl,a,_,_,_,rfl,rfl,hS,dE hc,_,a1,_,rfl,rfl,t1,_,rfl,?_⟩;rw[bY hc] at W3 W4;cases h1:lk Js (c.toNat:Int) with
  |some x=>
   obtain⟨t,T1,T2,T3,T4,T5⟩:=W3 x h1;refine fV ⟨_,rfl,_,rfl,a,_,_,_,rfl,rfl,hS,dE hc,_,a1,_,x,rfl,rfl,t1,h1,_,rfl,_,rfl,_,_,rfl,rfl,jt (λH' r s' h'=>kq _ _ T1 H' r s' h') ?_ T5.symm ?_ ?_⟩
   ·rw[T2];rfl
   ·rw[T3]
   ·rw[T4];rfl
  |none=>
   have T0:=W4 h1;exact dQ ⟨_,rfl,bI M λx H' s' h'=>ke _ _ T0 H' x s' h'⟩
theorem LB:ax ["text","place","byte"] ["text","place"] (aq (top 68)):=↑3
theorem Po(d:Def K mg "token_at" (top 68) ["text","place"])(o1:Ok P w K mg base bh 1 "is_small" ["byte"] (iW h_))(o2:Ok P w K mg base bh 1 "is_capital" ["byte"] (iW ux))(o3:Ok P w K mg base bh 1 "is_digit" ["byte"] (iW bZ))(ow:Ok P w K mg base (iZ P w) 5 "word_at" ["text","place"] (lZ K CT CF λc=>isSmall c=true))(oc:Ok P w K mg base (iZ P w) 5 "code_at" ["text","place"] (lZ K CT CF λc=>isSmall c=false/\isBig c=true))(on:Ok P w K mg base (iZ P w) 7 "number_at" ["text","place"] (lZ K CT CF λc=>isSmall c=false/\isBig c=false/\isDigit c=true))(ot:Ok P w K mg base (iZ P w) 5 "text_at" ["text","place"] (lZ K CT CF λc=>c=34))(os:Ok P w K mg base (iZ P w) 4 "sign_at" ["text","place"] (lZ K CT CF λc=>isSmall c=false/\isBig c=false/\isDigit c=false/\c≠34))(gq:GI mg "QUOTE" 34):
  Ok P w K mg base (iZ P w) 8 "token_at" ["text","place"] (lZ K CT CF λ_=>True):=d.ok λf fd F=>by
 refine F.vH LB f9 (λUJ A outer s H vs Q E hr h=>?_);obtain⟨a,b,p,c,rfl,hS,hl,hc,_,kq,ke⟩:=h;refine⟨_,aj (aN (i:=2) LB.nd rfl (Or.inl rfl) (bz aX (pv 0) (pv 1) (λ_ _=>rfl)))
  (aj (aR (dq (aM o1 (hr.mono ↑0) (aa (pv 2) ao))) (ai (aC (rW ow (hr.mono ↑0) (vA λ_ _ _ z=>z) (aa (pv 0) (aa (pv 1) ao))))) aL)
  (aj (aR (dq (aM o2 (hr.mono ↑0) (aa (pv 2) ao))) (ai (aC (rW oc (hr.mono ↑0) (vA λ_ _ _ z=>z) (aa (pv 0) (aa (pv 1) ao))))) aL)
  (aj (aR (dq (aM o3 (hr.mono ↑0) (aa (pv 2) ao))) (ai (aC (rW on hr (vA λ_ _ _ z=>z) (aa (pv 0) (aa (pv 1) ao))))) aL)
  (aj (aR (aD cG (pv 2) (cD gq) (aJ _)) (ai (aC (rW ot (hr.mono ↑0) (vA λ_ _ _ z=>z) (aa (pv 0) (aa (pv 1) ao))))) aL)
  (ai (aC (rW os (hr.mono ↑0) (vA λ_ _ _ z=>z) (aa (pv 0) (aa (pv 1) ao))))))))),?_⟩
 refine⟨_,rfl,_,rfl,a,_,_,_,rfl,rfl,hS,dE hc,?_⟩;refine⟨_,rfl,_,rfl,_,rfl,?_⟩;rw[tu];refine aT (λz1=>⟨_,rfl,_,rfl,a,b,p,c,rfl,hS,hl,hc,z1,kq,ke⟩) λz1=>?_;rw[Bool.not_eq_true] at z1;refine⟨_,rfl,_,rfl,_,rfl,?_⟩;rw[BB];refine aT (λz2=>⟨_,rfl,_,rfl,a,b,p,c,rfl,hS,hl,hc,⟨z1,z2⟩,kq,ke⟩) λz2=>?_;rw[Bool.not_eq_true] at z2;refine⟨_,rfl,_,rfl,_,rfl,?_⟩;rw[fB];refine aT (λz3=>⟨_,rfl,_,rfl,a,b,p,c,rfl,hS,hl,hc,⟨z1,z2,z3⟩,kq,ke⟩) λz3=>?_;rw[Bool.not_eq_true] at z3;refine⟨_,rfl,rfl,_,rfl,?_⟩;rw[bt];refine aT (λz4=>⟨_,rfl,_,rfl,a,b,p,c,rfl,hS,hl,hc,?_,kq,ke⟩) λz4=>⟨_,rfl,_,rfl,a,b,p,c,rfl,hS,hl,hc,⟨z1,z2,z3,?_⟩,kq,ke⟩
 ·exact jb.mpr (by have:=of_decide_eq_true z4;have h34:(34:UInt8).toNat=34:=rfl;omega)
 ·intro q;exact z4 (decide_eq_true (by rw[q];rfl))
end
section
open EwTree (isSmall isBig isDigit isSeen isWordByte isCodeByte isMarkByte tokenIn itemsIn isBlank)
theorem GU(c:UInt8):Dn (.int c.toNat) [V.int 32,.int 10,.int 59]=isBlank c:=by
 rw[show[V.int 32,.int 10,.int 59]=([32,10,59]:List Int).map V.int from rfl,qw];have h:∀(n:Nat)(m:UInt8),m.toNat=n->(((c.toNat:Int)=(n:Int))↔c=m):=λn m hm=>⟨λz=>jb.mpr ↑2,λz=>by rw[z];omega⟩
 have h1:((c.toNat:Int)=32)↔c=32:=h 32 32 rfl;have h2:((c.toNat:Int)=10)↔c=10:=h 10 10 rfl;have h3:((c.toNat:Int)=59)↔c=59:=h 59 59 rfl;unfold EwTree.isBlank;simp only[List.mem_cons,List.not_mem_nil,or_false,h1,h2,h3];by_cases z1:c=32 <;> by_cases z2:c=10 <;> by_cases z3:c=59 <;> simp[z1,z2,z3]
theorem IY{b:By}{j:Nat}(h:b[j]?=some 35):Tn j (b.drop j)=Tn (aK isSeen b j) (b.drop (aK isSeen b j)):=by rw[dU h,lD,<-dU h];have e:j+((b.drop j).takeWhile isSeen).length=aK isSeen b j:=rfl;rw[e,List.drop_drop];congr 2
theorem Fi{b:By}{j:Nat}(h:b[j]?=some 35):j<aK isSeen b j:=by rw[uO h ↑1];have:=bP isSeen b (j+1);omega
inductive Qy(K:Frag)(vs:List V)(H:Hp)(Q:VK)(E:XK):Prop
 |mk(a:Addr) (b:By) (p:Nat) (_:vs=[.ref a,.int p]) (_:bf K H a (iv b)) (_:p<=b.length) (_:∀(q:Nat) H',aG H H'->p<=q->q<=b.length->Tn p (b.drop p)=Tn q (b.drop q)->(∀c,b[q]?=some c->isBlank c=false/\c≠35)->Q (.int q) H')
theorem Hn:ax ["text","place"] ["text","place"] (aq (top 67)):=↑3
theorem QV(d:Def K mg "token_place" (top 67) ["text","place"])(op:Ok P w K mg base bh 1 "is_printable" ["byte"] (iW g7))(orn:Ok P w K mg base bh 4 "run_end" ["text","place","fits"] (k_ P w K mg base))(ln:mg "len"=none)(gh:GI mg "HASH" 35)(gb:GI mg "BLANK" 32)(gl:GI mg "LINE_END" 10)(gs:GI mg "SEMICOLON" 59):Ok P w K mg base bh 5 "token_place" ["text","place"] (Qy K):=d.ok λf fd F=>by
 refine F.ok Hn (by rintro vs H Q E ⟨a,b,p,rfl,_⟩;rfl) (λUJ A outer s H vs Q E hr h=>?_);obtain⟨a,b,p,rfl,hS,hp,k⟩:=h;obtain⟨fp,mp,fits⟩:=fits_of op ↑0 DC;have hlen:(iv b).length=b.length:=aU b;refine⟨_,aj (ft PassesOwn.never (aD oP (pv 1) (bB ln (pv 0)) (aJ _))
  (ai (aR (aD cG (bz aX (pv 0) (pv 1) (λ_ _=>rfl)) (cD gh) (aJ _)) (ai (aN (i:=1) Hn.nd rfl (Or.inl rfl) (aM orn hr (aa (pv 0) (aa (pv 1) (aa (fQ mp) ao))))))
   (ai (aR (aD e_ (bz aX (pv 0) (pv 1) (λ_ _=>rfl)) (fO (aa (cD gb) (aa (cD gl) (aa (cD gs) ao)))) (by with_unfolding_all rfl)) (ai (ip (i:=1) Hn.nd rfl (Or.inl rfl) aw gP)) (ai (aC (pv 1))))))))
  (ai (aC (pv 1))),?_⟩
 refine⟨λm σ H'=>∃j:Nat,m=b.length - j/\σ=[some (.ref a),some (.int j)]/\aG H H'/\p<=j/\j<=b.length/\Tn p (b.drop p)=Tn j (b.drop j),⟨_,p,rfl,rfl,aG.refl H,Nat.le_refl _,hp,rfl⟩,?_⟩;rintro m σ H1 ⟨j,rfl,rfl,s1,hpj,hj,e⟩;have hS1:=s1.seq hS;refine⟨_,rfl,_,rfl,a,_,rfl,.inl hS1,_,_,rfl,rfl,_,rfl,aT (λh1=>?_) λh1=>?_⟩
 ·have hjl:j<b.length:=by rw[<-aU];exact P' h1
  have hg:b[j]?=some b[j]:=List.getElem?_eq_getElem hjl;refine⟨λσ' H2=>∃q:Nat,σ'=[some (.ref a),some (.int q)]/\aG H H2/\j<q/\q<=b.length/\Tn p (b.drop p)=Tn q (b.drop q),?_,?_⟩
  ·rintro σ' H2 ⟨q,rfl,s2,q1,q2,e2⟩;exact⟨b.length - q,↑2,q,rfl,rfl,s2,↑2,q2,e2⟩
  refine⟨_,rfl,_,rfl,a,_,_,_,rfl,rfl,hS1,dE hg,rfl,_,rfl,?_⟩;rw[bt];refine aT (λz=>?_) λz=>?_
  ·have z:=of_decide_eq_true z;have z:b[j]=35:=jb.mpr (by have h35:(35:UInt8).toNat=35:=rfl;omega);rw[z] at hg;exact⟨_,rfl,_,rfl,a,b,j,fp,isSeen,rfl,hS1,Nat.le_of_lt hjl,fits,_,rfl,s1,Fi hg,dN _ hj,e.trans (IY hg)⟩
  ·have z:b[j]≠35:=λy=>z (decide_eq_true (by rw[y];rfl));refine⟨_,rfl,_,rfl,a,_,_,_,rfl,rfl,hS1,dE hg,(by show 3<=sizeLine;decide),λt ht=>?_⟩;have s2:=aB (o:=.tup [.int 32,.int 10,.int 59]) ht;refine⟨t,_,rfl,.inr (fE.of ag),rfl,rfl,Dn (.int ((b[j].toNat:Nat):Int)) [.int 32,.int 10,.int 59],rfl,?_⟩;rw[GU];refine aT (λy=>?_) λy=>?_
   ·refine⟨_,rfl,_,_,rfl,rfl,j+1,rfl,s1.trans s2,Nat.lt_succ_self _,hjl,?_⟩;rw[e,dU hg,iC y]
   ·rw[Bool.not_eq_true] at y;refine⟨_,rfl,k j _ (s1.trans s2) hpj hj e λc hc=>?_⟩;rw[hg] at hc;cases hc;exact⟨y,z⟩
 ·have hn:b[j]?=none:=List.getElem?_eq_none_iff.mpr (by rw[<-aU];exact PH h1);refine⟨_,rfl,k j _ s1 hpj hj e λc hc=>?_⟩;rw[hn] at hc;cases hc
abbrev J9:Stmt:=inClass (top 65) 0
def sf(fo fa:V):List (Str×V):=aW "fault" fa (aW "found" fo [])
theorem fZ(fo fa:V):(sf fo fa).lookup ("found":Str)=some fo:=by unfold sf;rw[aA,if_neg ↑1,aA,if_pos rfl]
theorem kE(fo fa:V):(sf fo fa).lookup ("fault":Str)=some fa:=by unfold sf;rw[aA,if_pos rfl]
structure w6(K:Frag)(C:Addr):Prop where
 cl:sL K C
 nf:aE K C "found"
 na:aE K C "fault"
def RO(H:Hp)(fa:V):Option EwTree.Fault->Prop
 |none=>fa= .bF
 |some (r,q)=>∃t,fa= .ref t/\H t=some (.tup [.int (r:Nat),.int (q:Nat)])
inductive jf(CS CT:Addr)(H:Hp)(r:Addr)(ts:List EwTree.Tok)(fl:Option EwTree.Fault):Prop
 |mk(dx:_) (l:_) (fa:_) (rs:_) (_:H r=some (.ins CS dx (sf (.ref l) fa))) (_:H l=some (.lst (rs.map V.ref))) (_:Paired (λx t=>eE CT H x t) rs ts) (_:RO H fa fl)
theorem eE.same{H':Hp}{r:Addr}{t:EwTree.Tok}(s:aG H H')(h:eE C H r t):eE C H' r t:=by obtain⟨dx,e⟩:=h;exact⟨dx,s _ _ e⟩
theorem jf.same{CS:Addr}{H':Hp}{r:Addr}{ts:List EwTree.Tok}{fl:Option EwTree.Fault}(s:aG H H')(h:jf CS CT H r ts fl):jf CS CT H' r ts fl:=by
 obtain⟨dx,l,fa,rs,h1,h2,h3,h4⟩:=h;refine⟨dx,l,fa,rs,s _ _ h1,s _ _ h2,L2.Paired.imp' (λ_ _ z=>eE.same s z) h3,?_⟩
 match fl,h4 with
 |none,z=>exact z
 |some (r,q),⟨t,z1,z2⟩=>exact⟨t,z1,s _ _ z2⟩
inductive yE(C:Addr)(vs:List V)(H:Hp)(Q:VK)(E:XK):Prop
 |mk(p dx:Addr) (fo fa:V) (_:vs=[.ref p,fo,fa]) (_:H p=some (.ins C dx [])) (_:∀H',H' p=some (.ins C dx (sf fo fa))->Fy p H H'->Q .bF H')
theorem N1:ax ["self","found","fault"] ["self","found","fault"] (aq J9):=↑3
theorem Cp{f:Addr}(F:jC K "__init__" "Scanned.__init__" J9 f fd)(T:w6 K C):Ad P w K mg base 1 f fd ["self","found","fault"] (yE C):=by refine F.Uj N1 (by rintro vs H Q E ⟨p,dx,fo,fa,rfl,_⟩;rfl) (λUJ A outer s H vs Q E h=>?_);obtain⟨p,dx,fo,fa,rfl,h1,k⟩:=h;refine⟨_,aj (bE (pv 0) (pv 1) rfl) (ai (bE (pv 0) (pv 2) rfl)),?_⟩;refine⟨_,rfl,_,rfl,p,C,dx,[],rfl,h1,T.cl,T.nf,(by show 0<1000;decide),_,rfl,_,rfl,p,C,dx,_,rfl,ag,T.cl,T.na,Nat.lt_of_le_of_lt (aF _ _ _) (by show 1<1000;decide),?_⟩;exact k _ ag λb o hb hp=>by rw[ah hp,ah hp];exact hb
abbrev OI(K:Frag)(mg:Str->Option Value)(C:Addr):Prop:=wx K mg "Scanned" "Scanned.__init__" J9 C ["self","found","fault"]
theorem Oe(d:OI K mg C)(T:w6 K C):vt P w K mg base 1 "Scanned" C ["self","found","fault"] (yE C):=d.new λf fd F=>(Cp F T).ok
theorem LS{CS:Addr}{H1:Hp}{l:Addr}{fa:V}{rs:List Addr}{ts:List EwTree.Tok}{fl:Option EwTree.Fault}{Q:VK}(h2:H1 l=some (.lst (rs.map V.ref)))(h3:Paired (λx t=>eE CT H1 x t) rs ts)(h4:RO H1 fa fl)(k:∀H' r,aG H1 H'->jf CS CT H' r ts fl->Q (.ref r) H'):
  ∀x dx,H1 x=none->H1 dx=none->dx≠x->yE CS (.ref x::([V.ref l,fa]++[])) (upd (upd H1 dx (.own x)) x (.ins CS dx [])) (λv H2=>v= .bF/\Q (.ref x) H2) E0:=by
 intro x dx n1 n2 ne;refine⟨x,dx,.ref l,fa,rfl,ag,λH' h' fr=>⟨rfl,?_⟩⟩;have s:=aG.made n1 n2 fr;refine k H' x s ⟨dx,l,fa,rs,h',s _ _ h2,L2.Paired.imp' (λ_ _ z=>eE.same s z) h3,?_⟩
 match fl,h4 with
 |none,z=>exact z
 |some (r,q),⟨t,z1,z2⟩=>exact⟨t,z1,s _ _ z2⟩
inductive GP(K:Frag)(CS CT:Addr)(vs:List V)(H:Hp)(Q:VK)(E:XK):Prop
 |mk(a:Addr) (b:By) (_:vs=[.ref a]) (_:bf K H a (iv b)) (_:b.length<=65536) (_:∀H' r,aG H H'->jf CS CT H' r (Tn 0 b).1 (Tn 0 b).2->Q (.ref r) H')
theorem i5:ax ["text","found","place","token","e"] ["text"] (aq (top 66)):=↑3
def yG:Stmt->List Stmt
 | .Try _ [.ExceptHandler _ _ b _] _ _ _=>b
 |_=>[]
def RS(CT CF:Addr)(b:By)(a:Addr)(H0:Hp):L2.St->Addr->Hp->Prop:=λσ e H'=>∃(l:Addr)(pl tk:Option V)(rs:List Addr)(ts:List EwTree.Tok)(r q:Nat),σ=[some (.ref a),some (.ref l),pl,tk,none]/\H' l=some (.lst (rs.map V.ref))/\Paired (λx t=>eE CT H' x t) rs ts/\
 Tn 0 b=(ts,some (r,q))/\lY CF H' e r q/\aG H0 H'
theorem K6{CS:Addr}(d:Def K mg "scan" (top 66) ["text"])(dS:OI K mg CS)(TS:w6 K CS)(TT:yf K CT)(TF:B9 K CF)(otp:Ok P w K mg base bh 5 "token_place" ["text","place"] (Qy K))(ota:Ok P w K mg base (iZ P w) 8 "token_at" ["text","place"] (lZ K CT CF λ_=>True))(ln:mg "len"=none)(mf:mg "Fault"=some (.ref CF))(xf:PySem.W.exmOne K (.ref CF) (.ref CF)=some true):
    Ok P w K mg base bh 9 "scan" ["text"] (GP K CS CT):=d.ok λf fd F=>by
  refine F.Ua i5 (by rintro vs H Q E ⟨a,b,rfl,_⟩;rfl) (λUJ A outer s H vs Q E hr h=>?_);obtain⟨a,b,rfl,hS,hl,k⟩:=h;obtain⟨fS,fdS,MS,FS,bS,mS⟩:=id dS.ex;have nS:vt P w K mg base 1 "Scanned" CS ["self","found","fault"] (yE CS):=Oe dS TS;have rh:rk 2 (A.deeper (envOfC "scan" (aq (top 66)) s.heap.objs.size f UJ)):=(hr.mono ↑0).h;have hs:∀e,so (sx (iO bh P w K mg base ["text","found","place","token","e"] "scan" (aq (top 66)) f UJ A outer s H E).Md e) (yG ((bX (top 66)).getD 1 (.Pass ⟨0,0,0,0⟩)))
      (pC (u4 CS (yE CS) [] E0 (bV (dc 1) (bV (KA (bV (Cw K (dc 4) "rule") (bV (Cw K (dc 4) "place") d4))) d4)))):=λe=>
    ai (aC (Jk MS (Cp FS TS) ⟨rh.dp,rh.un⟩ (by rfl) mS bS (aa (pv 1) (aa (fO (aa (wO (pv 4) rfl) (aa (wO (pv 4) rfl) ao))) ao))))
  refine⟨_,mv (PS.R' (aN (i:=1) i5.nd rfl (Or.inl rfl) (bx ao))) (mv (DQ (i:=4) (R:=RS CT CF b a H) ⟨rfl,rfl,rfl⟩
      (aj (aN (i:=2) i5.nd rfl (Or.inl rfl) (aM otp (hr.mono ↑0) (aa (pv 0) (aa aw ao))))
       (ai (ft (w9 ⟨rfl,rfl,rfl⟩) (aD oP (pv 2) (bB ln (pv 0)) (aJ _))
        (aj (aN (i:=3) i5.nd rfl (Or.inl rfl) (jZ ota hr (aa (pv 0) (aa (pv 2) ao))))
        (aj (aS (fK PySem.F.plainAttrs_list PySem.F.slot_list_append PySem.F.type_list_append cY (pv 1) (aa (pv 3) ao)))
        (ai (aN (i:=2) i5.nd rfl (Or.inl rfl) (aM otp (hr.mono ↑0) (aa (pv 0) (aa (ay (pv 3) rfl) ao))))))))))
      hs
      i5.nd rfl rfl rfl mf) (so.R' (ai (aC (eM nS (hr.mono ↑0) (aa (pv 1) (aa A2 ao))))))),?_⟩
  refine⟨Nat.zero_le _,λl hl0=>⟨?_,?_⟩⟩
  · have s0:=aB (o:=.lst []) hl0;refine⟨_,rfl,a,b,0,rfl,s0.seq hS,Nat.zero_le _,λq0 H1 s1 _ hq0 e0 hb0=>?_⟩;refine⟨λm σ H'=>∃(j:Nat)(tk:Option V)(rs:List Addr)(ts:List EwTree.Tok),m=b.length - j/\σ=[some (.ref a),some (.ref l),some (.int j),tk,none]/\H' l=some (.lst (rs.map V.ref))/\Paired (λx t=>eE CT H' x t) rs ts/\aG H H'/\
      j<=b.length/\rs.length<=j/\Tn 0 b=(ts++(Tn j (b.drop j)).1,(Tn j (b.drop j)).2)/\∀c,b[j]?=some c->isBlank c=false/\c≠35,
      ⟨_,q0,none,[],[],rfl,rfl,s1 _ _ ag,Paired.nil,s0.trans s1,hq0,Nat.zero_le _,?_,hb0⟩,?_⟩
    · rw[<-e0];rfl
    rintro m σ H2 ⟨j,tk,rs,ts,rfl,rfl,hL,hP,s2,hj,hrs,eT,hb⟩;have hS2:=s2.seq hS;refine⟨_,rfl,_,rfl,a,_,rfl,.inl hS2,_,_,rfl,rfl,_,rfl,aT (λh1=>?_) λh1=>?_⟩
    · have hjl:j<b.length:=by rw[<-aU];exact P' h1
      have hg:b[j]?=some b[j]:=List.getElem?_eq_getElem hjl;obtain⟨hb1,hb2⟩:=hb _ hg;refine⟨_,λ_ _ z=>z,?_⟩;have eT1:=m_ (p:=j) (r:=b.drop (j+1)) hb1 hb2;rw[<-dU hg] at eT1;refine⟨_,rfl,_,rfl,a,b,j,b[j],rfl,hS2,hl,hg,trivial,λt sx' ht H3 r s3 hT=>?_,λr q ht H3 e s3 hF=>?_⟩
      · obtain⟨t1,t2,t3,t4⟩:=ie ht;rw[List.length_drop] at t3;rw[ht] at eT1;have hL3:=s3 _ _ hL;obtain⟨dx,hTa⟩:=hT;have hrl:r≠l:=dv hTa hL3 (by intro z;cases z);have hsz:sizeLine=16777216:=sizeLine_eq;refine⟨_,rfl,.inl ⟨rfl,_,bf.of hL3⟩,_,rfl,l,_,_,rfl,rfl,hL3,(by rw[List.length_map,hsz];omega),?_⟩;have s4:aG H (upd H3 l (.lst (rs.map V.ref++[V.ref r]))):=λb' o hb'=>by rw[ah (au hb' hl0)];exact s3 _ _ (s2 _ _ hb')
        refine⟨_,rfl,rV rfl (rf ((by rw[ah hrl];exact hTa)) TT.cl TT.ne (xK _ _ _ _) ⟨a,b,t.halt_,rfl,s4.seq hS,↑2,λq H5 s5 q1 q2 e5 hb5=>?_⟩)⟩;refine⟨b.length - q,↑2,q,some (.ref r),rs++[r],ts++[t],rfl,rfl,?_,?_,s4.trans s5,q2,(by rw[List.length_append];simp;omega),?_,hb5⟩
        · rw[s5 _ _ ag,List.map_append];rfl
        · refine Paired.snoc ?_ ?_
          · refine L2.Paired.imp' (λx u z=>?_) hP;obtain⟨dz,hz⟩:=z;have hxl:x≠l:=dv hz hL (by intro z;cases z);exact⟨dz,s5 _ _ (by rw[ah hxl];exact s3 _ _ hz)⟩
          · exact⟨dx,s5 _ _ (by rw[ah hrl];exact hTa)⟩
        · rw[eT,eT1,List.append_assoc,<-e5];have et:(b.drop j).drop (t.halt_ - j)=b.drop t.halt_:=by rw[List.drop_drop];congr 1;omega
          rw[t4,et];rfl
      · rw[ht] at eT1;refine⟨e,rfl,l,_,_,rs,ts,r,q,rfl,s3 _ _ hL,L2.Paired.imp' (λx u z=>eE.same s3 z) hP,?_,hF,s2.trans s3⟩;rw[eT,eT1,List.append_nil]
    · have hn:b.length<=j:=by rw[<-aU];exact PH h1
      rw[List.drop_eq_nil_of_le hn,gB,List.append_nil] at eT;refine⟨_,rfl,LS (fl:=none) hL hP rfl λH' r s' h'=>k H' r (s2.trans s') ?_⟩;rw[eT];exact h'
  · rintro e σ' H' he ⟨l',pl,tk,rs,ts,r,q,rfl,hL,hP,eT,⟨dF,lF,f1,f2,f3⟩,s2⟩;refine⟨⟨CF,some dF,f1,xf⟩,?_⟩;refine⟨_,rfl,_,rfl,e,CF,dF,_,_,rfl,f1,f2,TF.x,TF.nr,JY _ _ _,_,rfl,e,CF,dF,_,_,rfl,f1,f2,TF.x,TF.np,HH _ _ _,(by show 2<=sizeLine;decide),λt ht=>?_⟩;have s3:=aB (o:=.tup [.int (r:Nat),.int (q:Nat)]) ht;refine LS (fl:=some (r,q)) (s3 _ _ hL) (L2.Paired.imp' (λx u z=>eE.same s3 z) hP) ⟨t,rfl,ag⟩ λH4 x s4 h4=>k H4 x (s2.trans (s3.trans s4)) ?_;rw[eT];exact h4
theorem FJ:∀(n:Nat)(p:Nat)(b:By),b.length<=n->(Tn p b).1.length<=b.length:=by
 intro n;induction n with
 |zero=>
  intro p b hb;have:b=[]:=List.eq_nil_of_length_eq_zero ↑2;subst this;rw[gB];exact Nat.le_refl _
 |succ n ih=>
  intro p b hb;cases b with
  |nil=>rw[gB];exact Nat.le_refl _
  |cons c r=>
   simp only[List.length_cons] at hb ⊢;cases h1:isBlank c with
   |true=>rw[iC h1];have:=ih (p+1) r ↑2;omega
   |false=>
    by_cases h2:c=35
    ·subst h2;rw[lD,List.takeWhile_cons,if_pos ↑0,List.length_cons,List.drop_succ_cons];have:=ih (p+((r.takeWhile isSeen).length+1)) (r.drop (r.takeWhile isSeen).length) (by rw[List.length_drop];omega);rw[List.length_drop] at this;omega
    ·rw[m_ h1 h2];cases e:tokenIn p (c::r) with
     |error z=>exact Nat.zero_le _
     |ok x=>
      obtain⟨u,s⟩:=x;obtain⟨q1,q2,q3,q4⟩:=ie e;have hs:s.length<=r.length:=by rw[q4,List.length_drop,List.length_cons];omega
      have:=ih u.halt_ s ↑2;dsimp only;rw[List.length_cons];omega
inductive HY(K:Frag)(CR:Addr)(H:Hp)(e:Addr)(ns:List Int):Prop
 |mk(C:_) (d:_) (l:_) (fs:_) (_:tP K C) (_:aE K C "numbers") (_:PySem.W.exmOne K (.ref C) (.ref CR)=some true) (_:H e=some (j8 e C (some d))) (_:H d=some (xB d fs)) (_:fs.lookup ("numbers":Str)=some (.ref l)) (_:H l=some (.lst (ns.map V.int)))
structure QN(P:Program)(w:World)(K:Frag)(mg:Str->Option Value)(base:Heap)(nm:Str)(C CR:Addr)(ns:List Int):Prop where
 nw:Kr P w K mg base 2 nm C ["self"] (J7 K ns)
 x:tP K C
 nn:aE K C "numbers"
 is:PySem.W.exmOne K (.ref C) (.ref CR)=some true
theorem yB{CR fX:Addr}{nm:Str}{ns:List Int}{H1:Hp}{R:Addr->Hp->Prop}(T:QN P w K mg base nm C CR ns)(M:Ip K C fX)(k:∀e H',aG H1 H'->HY K CR H' e ns->R e H'):
  ([]:List V).length<=1000/\∀e,H1 e=none->J7 K ns (.ref e::(([]:List V)++[])) (upd H1 e (eR e C none)) (λv H2=>v= .bF/\∃e' C' f' dx,V.ref e= .ref e'/\H2 e'=some (eR e' C' dx)/\Ip K C' f'/\R e' (upd H2 e' (j8 e' C' dx))) E0:=by
 refine⟨Nat.zero_le _,λe he=>⟨e,C,rfl,ag,T.x,T.nn,λH' nu fr=>⟨rfl,?_⟩⟩⟩;obtain⟨d,l,hde,hd0,a1,a2,a3⟩:=nu;have s1:aG H1 (upd H' e (j8 e C (some d))):=λb o hb=>by
  have hbe:=au hb he;rw[ah hbe];exact fr b o (by rw[ah hbe];exact hb) hbe
 have hle:l≠e:=dv a3 a1 (by intro z;cases z);exact⟨e,C,fX,some d,rfl,a1,M,k e _ s1 ⟨C,d,l,_,T.x,T.nn,T.is,ag,by rw[ah hde];exact a2,rfl,by rw[ah hle];exact a3⟩⟩
inductive O_(K:Frag)(CR:Addr)(vs:List V)(H:Hp)(Q:VK)(E:XK):Prop
 |mk(a:Addr) (b:By) (_:vs=[.ref a]) (_:bf K H a (iv b)) (_:(65536<b.length->∀H' e,aG H H'->HY K CR H' e [-1]->E (.ref e) none H')) (_:(b.length<=65536->Q .bF H))
theorem Pz:ax ["text"] ["text"] (aq (top 96)):=↑3
theorem Qc{CR CL:Addr}(d:Def K mg "refuse_long" (top 96) ["text"])(tl:QN P w K mg base "TooLong" CL CR [-1])(ln:mg "len"=none)(gb:GI mg "MOST_BYTES_calls" 65536):Ok P w K mg base (iZ P w) 4 "refuse_long" ["text"] (O_ K CR):=d.ok λf fd F=>by
 refine F.vH Pz (by rintro vs H Q E ⟨a,b,rfl,_⟩;rfl) (λUJ A outer s H vs Q E hr h=>?_);obtain⟨a,b,rfl,hS,k1,k3⟩:=h;obtain⟨fL,_,ML,_⟩:=id tl.nw.ex;refine⟨_,ai (aR (aD oN (bB ln (pv 0)) (cD gb) (aJ _)) (ai (cj hr.hd (IM tl.nw (hr.mono ↑0)))) aL),?_⟩;refine⟨_,rfl,a,_,rfl,.inl hS,_,_,rfl,rfl,_,rfl,aT (λz=>?_) λz=>?_⟩
 ·have z:=of_decide_eq_true z;rw[aU] at z;exact yB tl ML λe H' s' h'=>k1 ↑2 H' e s' h'
 ·have z:¬_:=λy=>z (decide_eq_true y);rw[aU] at z;exact k3 ↑2
inductive NH(K:Frag)(CS CT CR:Addr)(vs:List V)(H:Hp)(Q:VK)(E:XK):Prop
 |mk(a:Addr) (b:By) (_:vs=[.ref a]) (_:bf K H a (iv b)) (_:b.length<=65536) (_:(100<EwTree.depth b->∀H' e,aG H H'->HY K CR H' e [-6]->E (.ref e) none H')) (_:(¬100<EwTree.depth b->∀H' r,aG H H'->jf CS CT H' r (Tn 0 b).1 (Tn 0 b).2->Q (.ref r) H'))
theorem LO:ax ["text","scanned"] ["text"] (aq (top 97)):=↑3
theorem QS{CS CR CD:Addr}(d:Def K mg "scan_shallow" (top 97) ["text"])(TS:w6 K CS)(os:Ok P w K mg base bh 9 "scan" ["text"] (GP K CS CT))(od:Ok P w K mg base bh 4 "depth" ["found"] (LW K CT))(td:QN P w K mg base "TooDeep" CD CR [-6])(gd:GI mg "MOST_DEPTH" 100):Ok P w K mg base (iZ P w) 10 "scan_shallow" ["text"] (NH K CS CT CR):=d.ok λf fd F=>by
 refine F.vH LO (by rintro vs H Q E ⟨a,b,rfl,_⟩;rfl) (λUJ A outer s H vs Q E hr h=>?_);obtain⟨a,b,rfl,hS,hl,k2,k3⟩:=h;obtain⟨fD,_,MD,_⟩:=id td.nw.ex;refine⟨_,aj (aN (i:=1) LO.nd rfl (Or.inl rfl) (aM os hr (aa (pv 0) ao)))
  (aj (aR (aD oN (aM od (hr.mono ↑0) (aa (ay (pv 1) rfl) ao)) (cD gd) (aJ _)) (ai (cj hr.hd (IM td.nw (hr.mono ↑0)))) aL)
  (ai (aC (pv 1)))),?_⟩
 refine⟨_,rfl,a,b,rfl,hS,hl,λH1 r s1 hA=>?_⟩;obtain⟨dx,l,fa,rs,a1,a2,a3,a4⟩:=id hA;have hln:=FJ b.length 0 b (Nat.le_refl _);refine rV rfl (rf a1 TS.cl TS.nf (fZ _ _) ⟨l,rs,_,rfl,bf.of a2,a3,qH b.length 0 b (Nat.le_refl _),↑2,λH2 s2=>?_⟩);have ed:(cW (Tn 0 b).1).2=EwTree.depth b:=by rw[Fd];rfl
 rw[ed];refine⟨_,_,rfl,rfl,_,rfl,aT (λy=>?_) λy=>?_⟩
 ·have y:=of_decide_eq_true y;exact yB td MD λe H' s' h'=>k2 ↑2 H' e (s1.trans (s2.trans s')) h'
 ·have y:¬_:=λq=>y (decide_eq_true q);exact⟨_,rfl,k3 ↑2 _ r (s1.trans s2) (hA.same s2)⟩
end
def uh(n k:Nat):List Int:=(List.range k).map λi=>((n / 256 ^ i % 256:Nat):Int)
theorem Fu(n k:Nat):uh n (k+1)=uh n k++[((n / 256 ^ k % 256:Nat):Int)]:=by unfold uh;rw[List.range_succ,List.map_append];rfl
theorem JL(n k:Nat):Builtin.bitAnd ((n:Int) / 2 ^ (8*((0:Int)+(k:Int))).toNat) 255=((n / 256 ^ k % 256:Nat):Int):=by rw[bitAnd_m8,show(8*((0:Int)+(k:Int))).toNat=8*k by omega,show(2:Int) ^ (8*k)=((2 ^ (8*k):Nat):Int) by norm_cast,Nat.pow_mul];rfl
inductive Ab(vs:List V)(H:Hp)(Q:VK)(E:XK):Prop
 |mk(n k:Nat) (_:vs=[.int n,.int k]) (_:k<=8) (_:∀H' r,aG H H'->H' r=some (.lst ((uh n k).map V.int))->Q (.ref r) H')
theorem B0:ax ["number","size","told","at"] ["number","size"] (aq (top 82)):=↑3
theorem GX(d:Def K mg "low_first" (top 82) ["number","size"])(rg:mg "range"=none):Ok P w K mg base bh 1 "low_first" ["number","size"] Ab:=d.ok λf fd F=>by
 refine F.ok B0 (by rintro vs H Q E ⟨n,k,rfl,_⟩;rfl) (λUJ A outer s H vs Q E hr h=>?_);obtain⟨n,k,rfl,hk,q⟩:=h;refine⟨_,aj (aN (i:=2) B0.nd rfl (Or.inl rfl) (bx ao))
  (aj (rQ PassesOwn.never rfl (Fn rfl rg (aa (pv 1) ao)) (fN (i:=3) B0.nd rfl (Or.inl rfl))
   (ai (aS (fK PySem.F.plainAttrs_list PySem.F.slot_list_append PySem.F.type_list_append cY (pv 2) (aa (bA O8 (bA Ms (pv 0) (bA Iu aw (pv 3))) aw) ao)))))
  (ai (aC (pv 2)))),?_⟩
 refine⟨Nat.zero_le _,λl hl=>?_⟩;refine⟨_,rfl,k,rfl,↑2,↑2,D' (lo:=0) (n:=k) (λi σ H'=>∃v3,σ=[some (.int n),some (.int k),some (.ref l),v3]/\H' l=some (.lst ((uh n i).map V.int))/\aG H H') ?_ ?_ ?_⟩
 ·exact⟨_,rfl,ag,aB hl⟩
 ·rintro i σ H1 hi ⟨v3,rfl,h1,s1⟩;refine⟨_,rfl,.inl ⟨rfl,_,bf.of h1⟩,_,rfl,_,rfl,_,_,rfl,rfl,.inl ⟨↑0,↑0⟩,_,_,rfl,rfl,↑2,_,_,rfl,rfl,l,_,_,rfl,rfl,h1,?_,?_⟩
  ·have hsz:sizeLine=16777216:=sizeLine_eq;rw[List.length_map,hsz];unfold uh;rw[List.length_map,List.length_range];omega
  ·refine⟨_,rfl,?_,λb o hb=>?_⟩
   ·try dsimp only
    rw[ag,Fu,List.map_append,JL];rfl
   ·rw[ah (au hb hl)];exact s1 _ _ hb
 ·rintro σ H1 ⟨v3,rfl,h1,s1⟩;exact⟨_,rfl,q H1 l s1 h1⟩
theorem fT{k:Str}{v:V}{r:List (Str×V)}:List.lookup k ((k,v)::r)=some v:=by simp[List.lookup]
theorem aO{k g:Str}{v:V}{r:List (Str×V)}(h:k≠g):List.lookup k ((g,v)::r)=List.lookup k r:=by
 have:(k==g)=false:=by simpa using h
 simp[List.lookup,this]
theorem xu{k:Str}{v x:V}{r:List (Str×V)}:aW k v ((k,x)::r)=(k,v)::r:=if_pos rfl
theorem aV{k g:Str}{v x:V}{r:List (Str×V)}(h:g≠k):aW k v ((g,x)::r)=(g,x)::aW k v r:=if_neg h
def rn(a b c d:V):List (Str×V):=[("form",a),("parts",b),("first",c),("behind",d)]
section
variable{a b c d v:V}
theorem lA:(rn a b c d).lookup ("form":Str)=some a:=fT
theorem ef:(rn a b c d).lookup ("parts":Str)=some b:=(aO ↑1).trans fT
theorem DZ:(rn a b c d).lookup ("first":Str)=some c:=(aO ↑1).trans ((aO ↑1).trans fT)
theorem Ey:aW "form" v (rn a b c d)=rn v b c d:=xu
theorem AX:aW "first" v (rn a b c d)=rn a b v d:=(aV ↑1).trans (congrArg _ ((aV ↑1).trans (congrArg _ xu)))
theorem zJ:aW "behind" v (rn a b c d)=rn a b c v:=(aV ↑1).trans (congrArg _ ((aV ↑1).trans (congrArg _ ((aV ↑1).trans (congrArg _ xu)))))
theorem Lp:aW "behind" d (aW "first" c (aW "parts" b (aW "form" a [])))=rn a b c d:=by have h1:aW "parts" b (aW "form" a [])=[(("form":Str),a),(("parts":Str),b)]:=(aV ↑1).trans rfl;have h2:aW "first" c [(("form":Str),a),(("parts":Str),b)]=[(("form":Str),a),(("parts":Str),b),(("first":Str),c)]:=(aV ↑1).trans (congrArg _ ((aV ↑1).trans rfl));rw[h1,h2];exact(aV ↑1).trans (congrArg _ ((aV ↑1).trans (congrArg _ ((aV ↑1).trans rfl))))
end
structure Ho(K:Frag)(C:Addr):Prop where
 cl:sL K C
 nf:aE K C "form"
 np:aE K C "parts"
 n1:aE K C "first"
 nb:aE K C "behind"
 ha:PySem.W.findIn K (.ref C) "__class__"=some (some (.builtin "object.__class__"))
 hn:PySem.W.specialIn K (.builtin "object.__class__") "__get__"=some (some (.builtin "getset_descriptor.__get__"))
 ht:PySem.W.takesIn K (.builtin "object.__class__")=some true
 hm:PySem.W.mroIn K C (.type "object")=some true
 kl:PySem.W.kitOne K (.type "list") (.ref C)=some false
theorem Ho.yes{K:Frag}(T:Ho K C):PySem.W.kitOne K (.ref C) (.ref C)=some true:=by unfold PySem.W.kitOne;rw[if_pos (by simp)]
def yx:MA.Fm->V
 | .kind k _=>.int k
 | .row _=>.str "@row"
 | .count _=>.str "@count"
 | .set _=>.str "@set"
def xR:MA.Fm->Prop
 | .kind k _=>k<256
 |_=>True
def Ue(N:Nat)(s:EwTree.St)(d:V):MA.Fm->Prop
 | .kind _ _=>d= .int ((N:Int) - MA.len s)
 |_=>True
mutual
inductive n9(C:Addr)(N:Nat)(H:Hp):V->MA.Pt->Prop
 |leaf{a:Addr} {b:By}:H a=some (.lst (iv b))->n9 C N H (.ref a) (.leaf b)
 |bq{a dx l:Addr} {f:MA.Fm} {s:EwTree.St} {ps:List MA.Pt} {vs:List V} {d:V}:H a=some (.ins C dx (rn (yx f) (.ref l) (.int ((N:Int) - MA.len f.yJ)) d))->H l=some (.lst vs)->f.isSet=false->xR f->Ue N s d f->b_ C N H vs ps->n9 C N H (.ref a) (.bq f s ps)
inductive b_(C:Addr)(N:Nat)(H:Hp):List V->List MA.Pt->Prop
 |nil:b_ C N H [] []
 |cons{v:V} {p:MA.Pt} {vs:List V} {ps:List MA.Pt}:n9 C N H v p->b_ C N H vs ps->b_ C N H (v::vs) (p::ps)
end
section
variable{C:Addr}{N:Nat}{H H':Hp}
mutual
theorem n9.same(s:aG H H'):∀{v:V}{p:MA.Pt},n9 C N H v p->n9 C N H' v p
 |_,_,.leaf h=>.leaf (s _ _ h)
 |_,_,.bq h1 h2 h3 h4 h5 h6=>.bq (s _ _ h1) (s _ _ h2) h3 h4 h5 (b_.same s h6)
theorem b_.same(s:aG H H'):∀{vs:List V}{ps:List MA.Pt},b_ C N H vs ps->b_ C N H' vs ps
 |_,_,.nil=>.nil
 |_,_,.cons h r=>.cons (n9.same s h) (b_.same s r)
end
theorem b_.length:∀{vs:List V}{ps:List MA.Pt},b_ C N H vs ps->vs.length=ps.length
 |_,_,.nil=>rfl
 |_,_,.cons _ r=>congrArg (·+1) r.length
theorem b_.app:∀{vs ws:List V}{ps qs:List MA.Pt},b_ C N H vs ps->b_ C N H ws qs->b_ C N H (vs++ws) (ps++qs)
 |_,_,_,_,.nil,h=>h
 |_,_,_,_,.cons h r,q=>.cons h (r.app q)
theorem b_.snoc_inv:∀{vs:List V}{ps:List MA.Pt}{p:MA.Pt},b_ C N H vs (ps++[p])->∃ws v,vs=ws++[v]/\b_ C N H ws ps/\n9 C N H v p
 |_,[],_,.cons h .nil=>⟨[],_,rfl,.nil,h⟩
 |_,_::_,_,.cons h r=>by
  obtain⟨ws,v,e,h1,h2⟩:=r.snoc_inv;exact⟨_::ws,v,by rw[e];rfl,.cons h h1,h2⟩
end
mutual
def wt:MA.Pt->Nat
 | .leaf b=>b.length+1
 | .bq _ _ l=>5+lW l
def lW:List MA.Pt->Nat
 |[]=>0
 |p::r=>wt p+lW r
end
theorem IX:∀p:MA.Pt,1<=wt p
 | .leaf b=>Nat.le_add_left ..
 | .bq _ _ l=>by show 1<=5+lW l;omega
theorem ya:∀l:List MA.Pt,l.length<=lW l
 |[]=>Nat.le_refl _
 |p::r=>by
  have:=ya r;have:=IX p;show r.length+1<=wt p+lW r;omega
theorem xt:∀l r:List MA.Pt,lW (l++r)=lW l+lW r
 |[],r=>(Nat.zero_add _).symm
 |p::l,r=>by show wt p+lW (l++r)=wt p+lW l+lW r;rw[xt l r,Nat.add_assoc]
theorem wU(a b:By):iv (a++b)=iv a++iv b:=List.map_append
theorem Q4(n:Nat):(uh n 4).map V.int=iv (EwTree.count n):=by
 have u:∀m:Nat,m<256->(UInt8.ofNat m).toNat=m:=λm hm=>by simp[Nat.mod_eq_of_lt hm]
 show[V.int ((n / 256 ^ 0 % 256:Nat):Int),.int ((n / 256 ^ 1 % 256:Nat):Int),.int ((n / 256 ^ 2 % 256:Nat):Int),.int ((n / 256 ^ 3 % 256:Nat):Int)]=[V.int ((UInt8.ofNat (n % 256)).toNat:Int),.int ((UInt8.ofNat (n / 256 % 256)).toNat:Int),.int ((UInt8.ofNat (n / 65536 % 256)).toNat:Int),.int ((UInt8.ofNat (n / 16777216 % 256)).toNat:Int)]
 rw[u _ (Nat.mod_lt _ ↑0),u _ (Nat.mod_lt _ ↑0),u _ (Nat.mod_lt _ ↑0),u _ (Nat.mod_lt _ ↑0),Nat.pow_zero,Nat.div_one]
theorem F3(f:MA.Fm)(n:Nat):(MA.hb f n).length<=4:=by
 cases f
 ·exact(by decide:1<=4)
 ·exact(by decide:0<=4)
 ·exact(by decide:4<=4)
 ·exact(by decide:0<=4)
mutual
theorem NM:∀p:MA.Pt,(MA.yb p).length<=wt p
 | .leaf b=>Nat.le_succ _
 | .bq f s l=>by
  have h1:=CZ l;have h2:=F3 f l.length;show(MA.hb f l.length++MA.cq l).length<=5+lW l;rw[List.length_append];omega
theorem CZ:∀l:List MA.Pt,(MA.cq l).length<=lW l
 |[]=>Nat.le_refl _
 |p::r=>by
  have h1:=NM p;have h2:=CZ r;show(MA.yb p++MA.cq r).length<=wt p+lW r;rw[List.length_append];omega
end
inductive Ii(C:Addr)(vs:List V)(H:Hp)(Q:VK)(E:XK):Prop
 |mk(a dx l:Addr) (f:MA.Fm) (us:List V) (c d:V) (_:vs=[.ref a]) (_:H a=some (.ins C dx (rn (yx f) (.ref l) c d))) (_:H l=some (.lst us)) (_:f.isSet=false) (_:xR f) (_:∀H' r,aG H H'->H' r=some (.lst (iv (MA.hb f us.length)))->Q (.ref r) H')
theorem JC:ax ["twig"] ["twig"] (aq (top 81)):=↑3
theorem JQ(d:Def K mg "head_bytes" (top 81) ["twig"])(T:Ho K C)(ln:mg "len"=none)(ol:Ok P w K mg base bh 1 "low_first" ["number","size"] Ab):Ok P w K mg base bh 2 "head_bytes" ["twig"] (Ii C):=d.ok λf fd F=>by
 refine F.ok JC (by rintro vs H Q E ⟨a,dx,l,f,us,c,d,rfl,_⟩;rfl) (λUJ A outer s H vs Q E hr h=>?_);obtain⟨a,dx,l,f,us,c,d,rfl,h1,h2,h3,h4,q⟩:=h;refine⟨_,aj (aR (aD cG (ay (pv 0) rfl) bN (aJ _)) (ai (aC (bx ao))) aL)
  (aj (aR (aD cG (ay (pv 0) rfl) bN (aJ _)) (ai (aC (aM ol hr (aa (bB ln (ay (pv 0) rfl)) (aa aw ao))))) aL)
  (ai (aC (bx (aa (ay (pv 0) rfl) ao))))),?_⟩
 have hs:Il (yx f) (.str "@row")=true/\Il (yx f) (.str "@count")=true:=by cases f <;> exact⟨rfl,rfl⟩
 refine rV rfl (rf h1 T.cl T.nf lA ⟨hs.1,_,rfl,aT (λz1=>?_) λz1=>?_⟩)
 ·have z1:=of_decide_eq_true z1;cases f with
  |row b=>exact⟨Nat.zero_le _,λr hr=>q _ r (aB hr) ag⟩
  |kind k b=>cases z1
  |count b=>exact absurd z1 (by show V.str "@count"≠V.str "@row";decide+kernel)
  |set b=>cases h3
 refine rV rfl (rf h1 T.cl T.nf lA ⟨hs.2,_,rfl,aT (λz2=>?_) λz2=>?_⟩)
 ·have z2:=of_decide_eq_true z2;cases f with
  |row b=>exact absurd (decide_eq_true rfl) z1
  |kind k b=>cases z2
  |set b=>cases h3
  |count b=>
   refine rV rfl (rf h1 T.cl T.np ef ⟨l,_,rfl,.inl (bf.of h2),us.length,4,rfl,↑0,λH' r s' h'=>q H' r s' ?_⟩);rw[h',Q4];rfl
 ·cases f with
  |row b=>exact absurd (decide_eq_true rfl) z1
  |count b=>exact absurd (decide_eq_true rfl) z2
  |set b=>cases h3
  |kind k b=>
   refine rV rfl (rf h1 T.cl T.nf lA ⟨(by show 1<=sizeLine;decide),λr hr=>q _ r (aB hr) ?_⟩);rw[ag];have hk:k<256:=h4;show some (HO.lst [V.int k])=some (HO.lst [V.int ((UInt8.ofNat k).toNat:Int)]);rw[show(UInt8.ofNat k).toNat=k by simp[Nat.mod_eq_of_lt hk]]
inductive Rn(C:Addr)(vs:List V)(H:Hp)(Q:VK)(E:XK):Prop
 |mk(v:V) (p:MA.Pt) (N:Nat) (_:vs=[v]) (_:n9 C N H v p) (_:wt p<=16000000) (_:∀H' r,aG H H'->H' r=some (.lst (iv (MA.yb p)))->Q (.ref r) H')
theorem DL:ax ["twig","told","parts","part"] ["twig"] (aq (top 80)):=↑3
theorem RQ(d:Def K mg "tree_bytes" (top 80) ["twig"])(T:Ho K C)(mC:mg "Twig"=some (.ref C))(ln:mg "len"=none)(isi:mg "isinstance"=none)(oh:Ok P w K mg base bh 2 "head_bytes" ["twig"] (Ii C)):Ok P w K mg base bh 3 "tree_bytes" ["twig"] (Rn C):=d.ok λf fd F=>by
 refine F.ok DL (by rintro vs H Q E ⟨v,p,N,rfl,_⟩;rfl) (λUJ A outer s H vs Q E hr h=>?_);obtain⟨v,p,N,rfl,hP,hw,q⟩:=h;refine⟨_,aj (aN (i:=1) DL.nd rfl (Or.inl rfl) (bx ao)) (aj (aN (i:=2) DL.nd rfl (Or.inl rfl) (bx (aa (pv 0) ao)))
  (aj (ft PassesOwn.never (aD oN (bB ln (pv 2)) aw (aJ _))
   (aj (aN (i:=3) DL.nd rfl (Or.inl rfl) (tT PySem.F.plainAttrs_list PySem.F.slot_list_pop PySem.F.type_list_pop qR (pv 2)))
   (ai (aR (dq (eK ky (by rfl) isi PyProof.Rows.boot_isinstance (aa (pv 3) (aa (fQ mC) ao))))
    (aj (aS (fK PySem.F.plainAttrs_list PySem.F.slot_list_extend PySem.F.type_list_extend mP (pv 1) (aa (aM oh hr (aa (pv 3) ao)) ao)))
    (ai (aS (fK PySem.F.plainAttrs_list PySem.F.slot_list_extend PySem.F.type_list_extend mP (pv 2) (aa (IL (ay (pv 3) rfl)) ao)))))
    (ai (aS (fK PySem.F.plainAttrs_list PySem.F.slot_list_extend PySem.F.type_list_extend mP (pv 1) (aa (pv 3) ao))))))))
  (ai (aC (pv 1))))),?_⟩
 have hsz:sizeLine=16777216:=sizeLine_eq;refine⟨Nat.zero_le _,λlt hlt=>?_⟩;have s1:=aB (o:=.lst []) hlt;refine⟨_,rfl,(by show 1<=sizeLine;decide),λlp hlp=>?_⟩;have hlp0:H lp=none:=s1.free hlp;have hne:lt≠lp:=au ag hlp;have s2:=s1.trans (aB (o:=.lst [v]) hlp);refine⟨λm σ H'=>∃(x:By)(ws:List V)(qs:List MA.Pt)(v3:Option V),m=lW qs/\σ=[some v,some (.ref lt),some (.ref lp),v3]/\H' lt=some (.lst (iv x))/\H' lp=some (.lst ws.reverse)/\b_ C N H ws qs/\x++MA.cq qs=MA.yb p/\x.length+lW qs<=wt p/\aG H H',
  ⟨_,[],[v],[p],none,rfl,rfl,by rw[ah hne,ag];rfl,ag,.cons hP .nil,by show MA.yb p++[]=_;rw[List.append_nil],by show 0+(wt p+0)<=wt p;omega,s2⟩,?_⟩
 rintro m σ H1 ⟨x,ws,qs,v3,rfl,rfl,h1,h2,hq,ex,hb,sH⟩;refine⟨_,rfl,lp,_,rfl,.inl (bf.of h2),_,_,rfl,rfl,_,rfl,aT (λz=>?_) λz=>?_⟩
 ·cases hq with
  |nil=>exact absurd (of_decide_eq_true z) (by show ¬((0:Int)<0);decide)
  |@cons v0 p0 ws qs hp hq=>
   have er:(v0::ws).reverse=ws.reverse++[v0]:=List.reverse_cons;rw[er] at h2;have hbx:x.length+(wt p0+lW qs)<=wt p:=hb;refine⟨_,λ_ _ z=>z,_,rfl,.inl ⟨rfl,_,bf.of h2⟩,lp,_,v0,rfl,rfl,h2,(by rw[List.length_append,List.getElem?_append_right (by simp)];simp),?_⟩;rw[List.dropLast_concat];have hl3:(upd H1 lp (.lst ws.reverse)) lt=some (.lst (iv x)):=by rw[ah hne];exact h1
   have sU:aG H (upd H1 lp (.lst ws.reverse)):=λb o hb'=>by rw[ah (au hb' hlp0)];exact sH _ _ hb'
   have hp':=hp.same sU;cases hp with
   |@leaf a0 b0 ha0=>
    have ha1:=sU _ _ ha0;refine⟨_,rfl,_,_,_,_,rfl,.inr ⟨C,rfl⟩,.inl (.lst ha1),T.kl,_,rfl,dQ ?_⟩;refine⟨_,rfl,.inl ⟨rfl,_,bf.of hl3⟩,_,rfl,lt,a0,_,_,rfl,rfl,hl3,ha1,?_,?_⟩
    ·have hw0:wt (.leaf b0)=b0.length+1:=rfl;rw[aU,aU,hsz];omega
    ·refine⟨lW qs,by have:=IX (.leaf b0);show lW qs<wt (.leaf b0)+lW qs;omega,x++b0,ws,qs,_,rfl,rfl,by rw[ag,wU],by rw[ah (Ne.symm hne),ag],hq,by rw[List.append_assoc];exact ex,?_,λb o hb'=>by rw[ah (au hb' hlt)];exact sU _ _ hb'⟩;have hw0:wt (.leaf b0)=b0.length+1:=rfl;rw[List.length_append];omega
   |@bq a0 dx l0 f0 s0 ps0 vs0 d0 ha hl hf hk hc hps=>
    have ha1:=sU _ _ ha;have hll:=hps.length;refine⟨_,rfl,_,_,_,_,rfl,.inr ⟨C,rfl⟩,.inl (.ins ha1 T.cl T.ha T.hn T.ht T.hm),T.yes,_,rfl,fV ?_⟩;refine⟨_,rfl,.inl ⟨rfl,_,bf.of hl3⟩,_,rfl,a0,dx,l0,f0,vs0,_,d0,rfl,ha1,sU _ _ hl,hf,hk,λH2 r s3 h3=>?_⟩;have hl4:=s3 _ _ hl3;have hw0:wt (.bq f0 s0 ps0)=5+lW ps0:=rfl;have hbl:=F3 f0 vs0.length;have hwl:=ya ps0;refine⟨lt,r,_,_,rfl,rfl,hl4,h3,(by rw[aU,aU,hsz];omega),?_⟩;have hp4:H2 lp=some (.lst ws.reverse):=s3 _ _ ag;have hp5:(upd H2 lt (.lst (iv x++iv (MA.hb f0 vs0.length)))) lp=some (.lst ws.reverse):=by rw[ah (Ne.symm hne)];exact hp4
    have sV:aG H (upd H2 lt (.lst (iv x++iv (MA.hb f0 vs0.length)))):=λb o hb'=>by rw[ah (au hb' hlt)];exact s3 _ _ (sU _ _ hb')
    refine⟨_,rfl,.inl ⟨rfl,_,bf.of hp5⟩,rV rfl (rf (sV _ _ ha) T.cl T.np ef ⟨l0,vs0,rfl,.inl ⟨bf.of (sV _ _ hl),λr2 hr2=>?_⟩⟩)⟩;have hne2:lp≠r2:=au hp5 hr2;refine⟨lp,r2,_,_,rfl,rfl,(by rw[ah hne2];exact hp5),ag,?_,?_⟩
    ·have:=hq.length;have:=ya qs;rw[List.length_reverse,List.length_reverse,hsz];omega
    ·refine⟨lW (ps0++qs),by rw[xt];show lW ps0+lW qs<wt (.bq f0 s0 ps0)+lW qs;omega,x++MA.hb f0 vs0.length,vs0++ws,ps0++qs,_,rfl,rfl,?_,?_,hps.app hq,?_,?_,?_⟩
     ·rw[ah hne,ah (λz=>by have:=sV;rw[<-z,ag] at hr2;cases hr2),ag,wU]
     ·rw[ag,List.reverse_append]
     ·rw[MA.sr,List.append_assoc,hll];rw[<-ex];show _=x++((MA.hb f0 ps0.length++MA.cq ps0)++MA.cq qs);rw[List.append_assoc]
     ·rw[List.length_append,xt];omega
     ·exact λb o hb'=>by
       rw[ah (au hb' hlp0),ah (au (sV _ _ hb') hr2)];exact sV _ _ hb'
 ·cases hq with
  |nil=>
   have ex:x++[]=MA.yb p:=ex;rw[List.append_nil] at ex;exact⟨_,rfl,q H1 lt sH (by rw[h1,ex])⟩
  |@cons v0 p0 ws qs hp hq=>exact absurd (decide_eq_true (by rw[List.length_reverse,List.length_cons];omega)) z
theorem Nt:∀a<128,∀k<7,Builtin.bitOr ((a:Nat):Int) (1*2 ^ ((k:Nat):Int).toNat)=((a ||| 2 ^ k:Nat):Int):=↑1
theorem RE:∀a<128,∀k<7,a ||| 2 ^ k<128:=↑1
theorem tG{l:List MA.Pt}(h:MA.iu l):∀i,i<=l.length->MA.eD (l.take i)<128
 |0,_=>by show 0<128;decide
 |i+1,hi=>by
  have hl:l[i]?=some l[i]:=List.getElem?_eq_getElem ↑2;obtain⟨k,hk,e⟩:=h l[i] (List.getElem_mem _);rw[take_snoc hl,e,MA.iH,show(UInt8.ofNat k).toNat=k by simp;omega];exact RE _ (tG h i ↑2) k hk
theorem b_.get{N:Nat}:∀{vs:List V}{ps:List MA.Pt}{i:Nat}{v:V},b_ C N H vs ps->vs[i]?=some v->∃p,ps[i]?=some p/\n9 C N H v p
 |_,_,_,_,.nil,h=>by simp at h
 |_,_,0,_,.cons hp _,h=>by simp at h;subst h;exact⟨_,rfl,hp⟩
 |_,_,i+1,_,.cons _ r,h=>by simp at h;obtain⟨p,h1,h2⟩:=r.get h;exact⟨p,by simpa using h1,h2⟩
inductive Oy(C:Addr)(vs:List V)(H:Hp)(Q:VK)(E:XK):Prop
 |mk(l:Addr) (us:List V) (ps:List MA.Pt) (N:Nat) (_:vs=[.ref l]) (_:H l=some (.lst us)) (_:b_ C N H us ps) (_:MA.iu ps) (_:Q (.int (MA.eD ps:Nat)) H)
theorem DJ:ax ["bits","byte","bit"] ["bits"] (aq (top 79)):=↑3
theorem Qe(d:Def K mg "set_byte" (top 79) ["bits"]):Ok P w K mg base bh 1 "set_byte" ["bits"] (Oy C):=d.ok λf fd F=>by
 refine F.ok DJ (by rintro vs H Q E ⟨l,us,ps,N,rfl,_⟩;rfl) (λUJ A outer s H vs Q E hr h=>?_);obtain⟨l,us,ps,N,rfl,hl,hp,hs,q⟩:=h;refine⟨_,aj (aN (i:=1) DJ.nd rfl (Or.inl rfl) aw)
  (aj (rQ PassesOwn.never rfl (qp (pv 0)) (fN (i:=2) DJ.nd rfl (Or.inl rfl))
   (ai (aN (i:=1) DJ.nd rfl (Or.inl rfl) (bA QL (pv 1) (bA M8 aw (bz aX (pv 2) aw (λ_ _=>rfl)))))))
  (ai (aC (pv 1)))),?_⟩
 have hll:=hp.length;refine⟨_,rfl,l,rfl,⟨_,bf.of hl⟩,Ai (K:=K) (a:=l) (xs:=us) (λi σ H'=>∃v2,σ=[some (.ref l),some (.int (MA.eD (ps.take i):Nat)),v2]/\H'=H) ⟨_,rfl,rfl⟩ (λi σ H' _ ⟨_,_,e⟩=>by rw[e];exact bf.of hl) ?_ ?_⟩
 ·rintro i v σ H' hi ⟨v2,rfl,rfl⟩;obtain⟨p,hpi,hpt⟩:=hp.get hi;have hil:i<ps.length:=(List.getElem?_eq_some_iff.mp hpi).1;obtain⟨k,hk,e⟩:=hs p (List.mem_of_getElem? hpi);subst e;cases hpt with
  |@leaf a b ha=>
   have hs1:=tG hs i ↑2;refine⟨_,rfl,_,rfl,a,_,_,_,rfl,rfl,bf.of ha,dE (p:=0) (c:=UInt8.ofNat k) rfl,_,_,rfl,rfl,⟨↑2,by simp;omega,↑0⟩,_,_,rfl,rfl,some (.ref a),?_,rfl⟩;have hku:(UInt8.ofNat k).toNat=k:=by simp;omega
   try dsimp only
   rw[hku,Nt _ hs1 k hk,take_snoc hpi,MA.iH,hku];rfl
 ·rintro σ H' ⟨v2,rfl,rfl⟩;refine⟨_,rfl,?_⟩;rw[hll,List.take_length];exact q
inductive G1(K:Frag)(vs:List V)(H:Hp)(Q:VK)(E:XK):Prop
 |mk(a:Addr) (y x:By) (_:vs=[.ref a]) (_:bf K H a (iv y)) (_:MA.CA y x) (_:x.length<=1024) (_:∀H' r,aG H H'->H' r=some (.lst (iv x))->Q (.ref r) H')
theorem rB:ax ["items","held","place"] ["items"] (aq (top 85)):=↑3
theorem wW{y:By}{j:Nat}{c:UInt8}{r:By}(h:y.drop j=c::r):y[j]?=some c/\y.drop (j+1)=r/\j<y.length:=by
 have h1:(y.drop j)[0]?=some c:=by rw[h];rfl
 rw[List.getElem?_drop,Nat.add_zero] at h1;refine⟨h1,?_,(List.getElem?_eq_some_iff.mp h1).1⟩;rw[<-List.drop_drop,h];rfl
theorem O6(d:Def K mg "item_bytes" (top 85) ["items"])(ln:mg "len"=none)(gb:GI mg "BACKSLASH" 92)(gl:GI mg "LINE_END" 10)(gn:GI mg "SMALL_N" 110):Ok P w K mg base bh 1 "item_bytes" ["items"] (G1 K):=d.ok λf fd F=>by
 refine F.ok rB (by rintro vs H Q E ⟨a,y,x,rfl,_⟩;rfl) (λUJ A outer s H vs Q E hr h=>?_);obtain⟨a,y,x,rfl,hS,hy,hx,q⟩:=h;refine⟨_,aj (aN (i:=1) rB.nd rfl (Or.inl rfl) (bx ao)) (aj (aN (i:=2) rB.nd rfl (Or.inl rfl) aw)
  (aj (ft PassesOwn.never (aD oP (pv 2) (bB ln (pv 0)) (aJ _))
   (aj (aR (aD cG (bz aX (pv 0) (pv 2) (λ_ _=>rfl)) (cD gb) (aJ _))
    (aj (ip (i:=2) rB.nd rfl (Or.inl rfl) aw gP)
    (ai (aS (fK PySem.F.plainAttrs_list PySem.F.slot_list_append PySem.F.type_list_append cY (pv 1) (aa (lz (aD cG (bz aX (pv 0) (pv 2) (λ_ _=>rfl)) (cD gn) (aJ _)) (cD gl) (bz aX (pv 0) (pv 2) (λ_ _=>rfl))) ao)))))
    (ai (aS (fK PySem.F.plainAttrs_list PySem.F.slot_list_append PySem.F.type_list_append cY (pv 1) (aa (bz aX (pv 0) (pv 2) (λ_ _=>rfl)) ao)))))
   (ai (ip (i:=2) rB.nd rfl (Or.inl rfl) aw gP))))
  (ai (aC (pv 1))))),?_⟩
 have hsz:sizeLine=16777216:=sizeLine_eq;refine⟨Nat.zero_le _,λl hl=>?_⟩;refine⟨λm σ H'=>∃(j:Nat)(x1 x2:By),m=y.length - j/\σ=[some (.ref a),some (.ref l),some (.int j)]/\H' l=some (.lst (iv x1))/\x1++x2=x/\MA.CA (y.drop j) x2/\aG H H',⟨_,0,[],x,rfl,rfl,ag,rfl,hy,aB hl⟩,?_⟩;rintro m σ H1 ⟨j,x1,x2,rfl,rfl,h1,e,hi,s1⟩;have hS1:=s1.seq hS;have hxl:x1.length+x2.length=x.length:=by rw[<-e,List.length_append]
 refine⟨_,rfl,_,rfl,a,_,rfl,.inl hS1,_,_,rfl,rfl,_,rfl,aT (λz=>?_) λz=>?_⟩
 ·have hj:j<y.length:=by rw[<-aU];exact P' z
  generalize hd:y.drop j=yd at hi;have sU:∀(zs:List V),aG H (upd H1 l (.lst zs)):=λzs b o hb=>by rw[ah (au hb hl)];exact s1 _ _ hb
  cases hi with
  |nil=>rw[List.drop_eq_nil_iff] at hd;omega
  |@S4 c y2 x3 hi=>
   obtain⟨g1,g2,g3⟩:=wW hd;obtain⟨k1,k2,k3⟩:=wW g2;refine⟨_,λ_ _ z=>z,_,rfl,_,rfl,a,_,_,_,rfl,rfl,hS1,dE g1,rfl,_,rfl,?_⟩;rw[bt];refine fV ⟨_,rfl,_,_,rfl,rfl,_,rfl,.inl ⟨rfl,_,bf.of h1⟩,_,rfl,_,rfl,a,_,_,_,rfl,rfl,hS1,(show vm (iv y) ((j+1:Nat):Int)=_ from dE k1),rfl,_,rfl,?_⟩;rw[bt];have fin:∀u:UInt8,u=(if c=110 then 10 else c)->∃m',m'<y.length - j/\∃(j':Nat)(z1 z2:By),m'=y.length - j'/\[some (V.ref a),some (.ref l),some (.int ((j:Int)+1+1))]=[some (.ref a),some (.ref l),some (.int j')]/\(upd H1 l (.lst (iv x1++[V.int (u.toNat:Int)]))) l=some (.lst (iv z1))/\z1++z2=x/\MA.CA (y.drop j') z2/\aG H (upd H1 l (.lst (iv x1++[V.int (u.toNat:Int)]))):=by
    intro u hu;refine⟨y.length - (j+2),↑2,j+2,x1++[u],x3,rfl,rfl,?_,?_,?_,sU _⟩
    ·rw[ag,wU];rfl
    ·rw[List.append_assoc,hu];exact e
    ·rw[show j+2=j+1+1 from rfl,k2];exact hi
   have hlen:(iv x1).length<sizeLine:=by
    rw[aU,hsz];omega
   refine aT (λz2=>?_) λz2=>?_
   ·have z2:=of_decide_eq_true z2;have hc:c=110:=jb.mpr (by have:(110:UInt8).toNat=110:=rfl;omega);exact⟨l,_,_,rfl,rfl,h1,hlen,_,rfl,_,_,rfl,rfl,fin 10 (by rw[if_pos hc])⟩
   ·have hc:c≠110:=λy=>z2 (decide_eq_true (by rw[y];rfl));exact⟨_,rfl,_,rfl,a,_,_,_,rfl,rfl,hS1,(show vm (iv y) ((j+1:Nat):Int)=_ from dE k1),l,_,_,rfl,rfl,h1,hlen,_,rfl,_,_,rfl,rfl,fin c (by rw[if_neg hc])⟩
  |@one c y2 x3 hc hi=>
   obtain⟨g1,g2,g3⟩:=wW hd;refine⟨_,λ_ _ z=>z,_,rfl,_,rfl,a,_,_,_,rfl,rfl,hS1,dE g1,rfl,_,rfl,?_⟩;rw[bt];have hne:¬decide (((c.toNat:Nat):Int)=92)=true:=λq=>hc (jb.mpr (by have q:=of_decide_eq_true q;have:(92:UInt8).toNat=92:=rfl;omega));have hlen:(iv x1).length<sizeLine:=by
    rw[aU,hsz];omega
   refine aT (λz=>absurd z hne) λ_=>?_;refine⟨_,rfl,.inl ⟨rfl,_,bf.of h1⟩,_,rfl,_,rfl,a,_,_,_,rfl,rfl,hS1,dE g1,l,_,_,rfl,rfl,h1,hlen,_,rfl,_,_,rfl,rfl,y.length - (j+1),↑2,j+1,x1++[c],x3,rfl,rfl,?_,?_,?_,sU _⟩
   ·rw[ag,wU];rfl
   ·rw[List.append_assoc];exact e
   ·rw[g2];exact hi
 ·have hn:y.length<=j:=by rw[<-aU];exact PH z
  rw[List.drop_eq_nil_of_le hn] at hi;cases hi;rw[List.append_nil] at e;exact⟨_,rfl,q H1 l s1 (by rw[h1,e])⟩
def Fx(t:EwTree.Tok):By:=if t.kind=0\/t.kind=5 then[] else if t.kind=4 then EwTree.long t.bytes else EwTree.short t.bytes
theorem Q7{n:Nat}(h:n<=1024):(uh n 2).map V.int=iv [UInt8.ofNat (n % 256),UInt8.ofNat (n / 256)]:=by
 have u:∀m:Nat,m<256->(UInt8.ofNat m).toNat=m:=λm hm=>by simp[Nat.mod_eq_of_lt hm]
 show[V.int ((n / 256 ^ 0 % 256:Nat):Int),.int ((n / 256 ^ 1 % 256:Nat):Int)]=[V.int ((UInt8.ofNat (n % 256)).toNat:Int),.int ((UInt8.ofNat (n / 256)).toNat:Int)]
 rw[u _ (Nat.mod_lt _ ↑0),u _ ↑2,Nat.pow_zero,Nat.div_one,Nat.pow_one,Nat.mod_eq_of_lt (a:=n / 256) ↑2]
theorem x9(b:By)(i j:Nat)(h:i<=j)(hj:j<=b.length):gT (iv b) (some (i:Int)) (some (j:Int))=iv ((b.drop i).take (j - i)):=by unfold gT iv;rw[HT.kr,HT.kr,List.length_map,Nat.min_eq_left hj,Nat.min_eq_left (a:=i) ↑2,List.map_take,List.map_drop]
inductive Rg(K:Frag)(CT:Addr)(vs:List V)(H:Hp)(Q:VK)(E:XK):Prop
 |mk(a r:Addr) (b:By) (t:EwTree.Tok) (_:vs=[.ref a,.ref r]) (_:bf K H a (iv b)) (_:eE CT H r t) (_:Good t) (_:MA.OA b t) (_:∀H' x,aG H H'->H x=none->H' x=some (.lst (iv (Fx t)))->Q (.ref x) H')
theorem LK:ax ["text","token","held"] ["text","token"] (aq (top 84)):=↑3
theorem QY(d:Def K mg "leaf_bytes" (top 84) ["text","token"])(T:yf K CT)(ln:mg "len"=none)(gk:GI mg "KEYWORD" 0)(gs:GI mg "SIGN" 5)(gt:GI mg "TEXT" 4)(oi:Ok P w K mg base bh 1 "item_bytes" ["items"] (G1 K))(ol:Ok P w K mg base bh 1 "low_first" ["number","size"] Ab):Ok P w K mg base bh 2 "leaf_bytes" ["text","token"] (Rg K CT):=d.ok λf fd F=>by
 refine F.ok LK (by rintro vs H Q E ⟨a,r,b,t,rfl,_⟩;rfl) (λUJ A outer s H vs Q E hr h=>?_);obtain⟨a,r,b,t,rfl,hS,⟨dx,hT⟩,hg,hB,q⟩:=h;refine⟨_,aj (aR (aD e_ (ay (pv 1) rfl) (fO (aa (cD gk) (aa (cD gs) ao))) (by with_unfolding_all rfl)) (ai (aC (bx ao))) aL)
  (aj (aR (aD cG (ay (pv 1) rfl) (cD gt) (aJ _))
   (aj (aN (i:=2) LK.nd rfl (Or.inl rfl) (aM oi hr (aa (dP eV (pv 0) (bU (bA cu (ay (pv 1) rfl) aw)) (bU (bA jP (ay (pv 1) rfl) aw))) ao)))
   (ai (aC (bA Gz (aM ol hr (aa (bB ln (pv 2)) (aa aw ao))) (pv 2))))) aL)
  (ai (aC (bA Gz (bx (aa (bA jP (ay (pv 1) rfl) (ay (pv 1) rfl)) ao)) (dP eV (pv 0) (bU (ay (pv 1) rfl)) (bU (ay (pv 1) rfl))))))),?_⟩
 have hsz:sizeLine=16777216:=sizeLine_eq;refine rV rfl (rf hT T.cl T.nk (CP _ _ _ _) ⟨(by show 2<=sizeLine;decide),λu hu=>?_⟩);have s1:=aB (o:=.tup [.int 0,.int 5]) hu;have hk5:t.kind<=5:=by rcases hg with⟨h,_⟩|⟨_,h⟩|⟨h,_⟩ <;> omega
 have hin:Dn (.int (t.kind:Nat)) [.int 0,.int 5]=decide (t.kind=0\/t.kind=5):=by
  have:t.kind=0\/t.kind=1\/t.kind=2\/t.kind=3\/t.kind=4\/t.kind=5:=↑2
  rcases this with h|h|h|h|h|h <;> rw[h] <;> rfl
 refine⟨u,_,rfl,.inr (fE.of ag),rfl,rfl,Dn (.int ((t.kind:Nat):Int)) [.int 0,.int 5],rfl,?_⟩;rw[hin];refine aT (λz1=>?_) λz1=>?_
 ·have z1:=of_decide_eq_true z1;refine⟨Nat.zero_le _,λx hx=>q _ x (s1.trans (aB hx)) (s1.free hx) ?_⟩;rw[ag];unfold Fx;rw[if_pos z1];rfl
 have z1:¬(t.kind=0\/t.kind=5):=λz=>z1 (decide_eq_true z);have hT1:=s1 _ _ hT;have hS1:=s1.seq hS;refine rV rfl (rf hT1 T.cl T.nk (CP _ _ _ _) ⟨rfl,_,rfl,?_⟩);rw[bt];have hlo:=hB.lo;have hhi:=hB.hi;refine aT (λz2=>?_) λz2=>?_
 ·have z2:t.kind=4:=by have:=of_decide_eq_true z2;omega
  obtain⟨b1,b2,b3⟩:=hB.txt z2;refine⟨_,rfl,rV rfl (rf hT1 T.cl T.ns (kx _ _ _ _) ⟨_,_,rfl,rfl,_,rfl,rV rfl (rf hT1 T.cl T.ne (xK _ _ _ _) ⟨_,_,rfl,rfl,_,rfl,a,_,rfl,hS1,λc hc=>?_⟩)⟩)⟩;have s2:=aB (o:=.lst (gT (iv b) (some ((t.place:Int)+1)) (some ((t.halt_:Int) - 1)))) hc;refine⟨c,_,t.bytes,rfl,?_,b1,b2,λH2 l s3 h3=>?_⟩
  ·rw[<-x9 b (t.place+1) (t.halt_ - 1) b3 ↑2];have e1:((t.place+1:Nat):Int)=(t.place:Int)+1:=↑2
   have e2:((t.halt_ - 1:Nat):Int)=(t.halt_:Int) - 1:=↑2
   rw[e1,e2];exact bf.of ag
  refine⟨_,rfl,l,_,rfl,.inl (bf.of h3),t.bytes.length,2,by rw[aU];rfl,↑0,λH3 m s4 h4=>?_⟩;refine⟨_,rfl,m,l,_,_,rfl,rfl,h4,s4 _ _ h3,?_,λp hp=>q _ p (s1.trans (s2.trans (s3.trans (s4.trans (aB hp))))) ((s1.trans (s2.trans (s3.trans s4))).free hp) ?_⟩
  ·rw[List.length_map,aU,hsz];show(uh _ 2).length+_<=_;unfold uh;rw[List.length_map,List.length_range];omega
  ·rw[ag,Q7 b2];unfold Fx;rw[if_neg z1,if_pos z2];rfl
 ·have z2:t.kind≠4:=λy=>z2 (decide_eq_true (by rw[y];rfl));obtain⟨b1,b2⟩:=hB.raw ↑2 ↑2;refine rV rfl (rf hT1 T.cl T.ne (xK _ _ _ _) (rV rfl (rf hT1 T.cl T.ns (kx _ _ _ _) ⟨_,_,rfl,rfl,(by show 1<=sizeLine;decide),λl hl=>?_⟩)));have s2:=aB (o:=.lst [V.int ((t.halt_:Int) - (t.place:Int))]) hl;have hT2:=s2 _ _ hT1;refine⟨_,rfl,rV rfl (rf hT2 T.cl T.ns (kx _ _ _ _) ⟨_,rfl,rV rfl (rf hT2 T.cl T.ne (xK _ _ _ _) ⟨_,rfl,a,_,rfl,s2.seq hS1,λc hc=>?_⟩)⟩)⟩;have s3:=aB (o:=.lst (gT (iv b) (some ((t.place:Nat):Int)) (some ((t.halt_:Nat):Int)))) hc;refine⟨l,c,_,_,rfl,rfl,s3 _ _ ag,ag,?_,λp hp=>q _ p (s1.trans (s2.trans (s3.trans (aB hp)))) ((s1.trans (s2.trans s3)).free hp) ?_⟩
  ·have:=oz (iv b) (some ((t.place:Nat):Int)) (some ((t.halt_:Nat):Int));rw[x9 b t.place t.halt_ ↑2 hhi,<-b1,aU,hsz];show 1+_<=_;omega
  ·rw[ag,x9 b t.place t.halt_ ↑2 hhi,<-b1];unfold Fx;rw[if_neg z1,if_neg z2];have hl:t.bytes.length=t.halt_ - t.place:=by
    rw[b1,List.length_take,List.length_drop];omega
   show some (HO.lst (V.int ((t.halt_:Int) - (t.place:Int))::iv t.bytes))=some (HO.lst (V.int ((UInt8.ofNat t.bytes.length).toNat:Int)::iv t.bytes));rw[show(UInt8.ofNat t.bytes.length).toNat=t.bytes.length by simp;omega,hl,show((t.halt_ - t.place:Nat):Int)=(t.halt_:Int) - (t.place:Int) by omega]
section
open MA (nm VC FT flat cZ)
def uc(K:Frag):V->MA.Sym->Prop
 |v,.bg (.kind k)=>v= .int k/\k<256
 |v,.bg .row=>v= .str "@row"
 |v,.bg .count=>v= .str "@count"
 |v,.bg .set=>v= .str "@set"
 |v,.bW b=>∃a,v= .ref a/\b.length=1/\∀H,fE K H a (iv b)
 |v,.turn k=>∃a,v= .ref a/\k<256/\∀H,fE K H a [.str "@turn",.int k]
 |v,.take=>v= .str "@take"
 |v,.fin=>v= .str "@end"
 |v,.w x=>v= .str (nm x)/\x∈VC
inductive Io(K:Frag)(v:V)(y:Nat×List MA.Sym):Prop
 |mk(a:_) (b:_) (us:_) (_:v= .ref a) (_:(∀H,fE K H a [.str (nm y.1),.ref b])) (_:(∀H,fE K H b us)) (_:Paired (uc K) us y.2)
inductive HP(K:Frag)(v:V)(g:List (Nat×List MA.Sym)):Prop
 |mk(a:_) (vs:_) (_:v= .ref a) (_:(∀H,fE K H a vs)) (_:Paired (Io K) vs g)
def xH(K:Frag):Nat->List (Str×V)->List (List (Nat×List MA.Sym))->Prop
 |_,[],[]=>True
 |i,kv::l,g::G=>kv.1=nm i/\HP K kv.2 g/\xH K (i+1) l G
 |_,_,_=>False
inductive Gi(K:Frag)(P:Params)(mg:Str->Option Value):Prop
 |mk(a:_) (l:_) (_:mg "RULES"=some (.ref a)) (_:Pc K P a l) (_:xH K 1000 l MA.cK)
inductive Jt(K:Frag)(H:Hp)(kv:List Key×V)(p:(Nat×Nat)×List MA.Sym):Prop
 |mk(_:kv.1=[.inr (nm p.1.1),.inr (nm p.1.2)]) (b:_) (us:_) (_:kv.2= .ref b) (_:H b=some (.tup us.reverse)) (_:Paired (uc K) us p.2)
inductive rj(K:Frag)(H:Hp)(d:Addr):Prop
 |mk(kvs:_) (_:H d=some (.dT kvs)) (_:Paired (Jt K H) kvs FT)
theorem Jt.same{K:Frag}{H':Hp}{kv:List Key×V}{p:(Nat×Nat)×List MA.Sym}(s:∀b xs,H b=some (.tup xs)->H' b=some (.tup xs))(h:Jt K H kv p):Jt K H' kv p:=by obtain⟨h1,b,us,h2,h3,h4⟩:=h;exact⟨h1,b,us,h2,s _ _ h3,h4⟩
theorem rj.same{K:Frag}{H':Hp}{d:Addr}(s:aG H H')(h:rj K H d):rj K H' d:=by obtain⟨kvs,h1,h2⟩:=h;exact⟨kvs,s _ _ h1,L2.Paired.imp' (λ_ _ z=>Jt.same (λb xs=>s b _) z) h2⟩
theorem xH.length{K:Frag}:∀{i:Nat}{l:List (Str×V)}{G:List (List (Nat×List MA.Sym))},xH K i l G->l.length=G.length
 |_,[],[],_=>rfl
 |_,_::_,_::_,⟨_,_,r⟩=>congrArg (·+1) r.length
theorem xH.get{K:Frag}:∀{i:Nat}{l:List (Str×V)}{G:List (List (Nat×List MA.Sym))}{j:Nat}{kv:Str×V},xH K i l G->l[j]?=some kv->∃g,G[j]?=some g/\kv.1=nm (i+j)/\HP K kv.2 g
 |_,[],[],_,_,_,h=>by simp at h
 |i,_::_,g::_,0,_,⟨h1,h2,_⟩,h=>by
  simp only[List.getElem?_cons_zero,Option.some.injEq] at h;subst h;exact⟨g,rfl,h1,h2⟩
 |i,_::_,_::_,j+1,_,⟨_,_,r⟩,h=>by
  simp only[List.getElem?_cons_succ] at h ⊢;obtain⟨g,a,b,c⟩:=r.get h;exact⟨g,a,by rw[b];congr 1;omega,c⟩
theorem xH.find{K:Frag}:∀{i:Nat}{l:List (Str×V)}{G:List (List (Nat×List MA.Sym))}{j:Nat}{kv:Str×V},xH K i l G->(∀m,i<=m->m<i+G.length->m∈VC)->l[j]?=some kv->Pk l kv.1=some kv.2
 |_,[],[],_,_,_,_,h=>by simp at h
 |i,x::_,g::_,0,kv,_,_,h=>by
  simp only[List.getElem?_cons_zero,Option.some.injEq] at h;subst h;unfold Pk;rw[List.find?_cons,decide_eq_true rfl];rfl
 |i,x::l,g::G,j+1,kv,⟨h1,_,r⟩,hv,h=>by
  simp only[List.getElem?_cons_succ] at h;have hj:j<l.length:=(List.getElem?_eq_some_iff.mp h).1;have hl:=r.length;obtain⟨_,_,hn,_⟩:=r.get h;have ne:¬x.1=kv.1:=by
   rw[h1,hn];intro e;have:=MA.xg (hv i (Nat.le_refl _) (by simp only[List.length_cons];omega)) (hv (i+1+j) ↑2 (by simp only[List.length_cons];omega)) e;omega
  have ih:=r.find (λm a b=>hv m ↑2 (by simp only[List.length_cons];omega)) h;unfold Pk at ih ⊢;rw[List.find?_cons,decide_eq_false ne];exact ih
theorem Dx:∀m,1000<=m->m<1000+MA.cK.length->m∈VC:=λm a b=>MA.cx (by
 have:MA.cK.length=72:=rfl;unfold MA.k8;simp only[Bool.or_eq_true,Bool.and_eq_true];exact .inr ⟨Nat.ble_eq_true_of_le a,Nat.ble_eq_true_of_le ↑2⟩)
theorem wQ{K:Frag}:∀{kvs:List (List Key×V)}{L:List ((Nat×Nat)×List MA.Sym)}{x l:Nat},Paired (Jt K H) kvs L->(∀p∈L,p.1.1∈VC/\p.1.2∈VC)->x∈VC->l∈VC->
  (cZ L x l=none->jS kvs [.inr (nm x),.inr (nm l)]=none)/\∀r,cZ L x l=some r->∃b us,jS kvs [.inr (nm x),.inr (nm l)]=some (.ref b)/\H b=some (.tup us.reverse)/\Paired (uc K) us r
 |_,_,x,l,.nil,_,_,_=>⟨λ_=>rfl,λr h=>by cases h⟩
 |_,_,x,l,@Paired.cons _ _ _ kv p kvs L h r,hv,hx,hl=>by
  obtain⟨h1,b,us,h2,h3,h4⟩:=h;have hp:=hv p (List.mem_cons_self ..);have ih:=wQ (x:=x) (l:=l) r (λq hq=>hv q (List.mem_cons_of_mem _ hq)) hx hl;unfold cZ;by_cases e:p.1.1=x/\p.1.2=l
  ·rw[if_pos e];refine⟨λh=>(by cases h),λr hr=>?_⟩;cases hr;refine⟨b,us,?_,h3,h4⟩;rw[ku (by rw[h1,e.1,e.2]),h2]
  ·rw[if_neg e];have ne:¬kv.1=[Sum.inr (nm x),Sum.inr (nm l)]:=by
    rw[h1];intro c;simp only[List.cons.injEq,Sum.inr.injEq,and_true] at c;exact e ⟨MA.xg hp.1 hx c.1,MA.xg hp.2 hl c.2⟩
   rw[ka ne];exact ih
theorem C1:∀p∈FT,p.1.1∈VC/\p.1.2∈VC:=λp hp=>by
 have:=List.all_eq_true.mp MA.RU p hp;simp only[Bool.and_eq_true] at this;exact⟨MA.cx this.1.1,MA.cx this.1.2⟩
theorem M_{pre post:List ((Nat×Nat)×List MA.Sym)}{p:(Nat×Nat)×List MA.Sym}(h:FT=pre++p::post):cZ pre p.1.1 p.1.2=none:=by
 have nd:=MA.mV MA.KI;rw[h,List.map_append,List.map_cons] at nd;have nd:=(List.nodup_append.mp nd).2.2;have key:∀(L:List ((Nat×Nat)×List MA.Sym)),(∀q∈L,q.1.1*4096+q.1.2≠p.1.1*4096+p.1.2)->cZ L p.1.1 p.1.2=none:=by
  intro L;induction L with
  |nil=>intro _;rfl
  |cons q L ih=>
   intro hq;unfold cZ;rw[if_neg λc=>hq q (List.mem_cons_self ..) (by rw[c.1,c.2])];exact ih λz hz=>hq z (List.mem_cons_of_mem _ hz)
 exact key pre λq hq e=>nd _ (List.mem_map.mpr ⟨q,hq,rfl⟩) _ (List.mem_cons_self ..) e
theorem tD:∀(A B:List (List (Nat×List MA.Sym)))(i:Nat),flat i (A++B)=flat i A++flat (i+A.length) B
 |[],B,i=>rfl
 |g::A,B,i=>by
  show g.map _++flat (i+1) (A++B)=(g.map _++flat (i+1) A)++flat (i+(A.length+1)) B;rw[tD A B (i+1),List.append_assoc,show i+1+A.length=i+(A.length+1) by omega]
def p6(i:Nat)(g:List (Nat×List MA.Sym))(j:Nat):List ((Nat×Nat)×List MA.Sym):=flat 1000 (MA.cK.take i)++(g.take j).map λy=>((1000+i,y.1),y.2)
theorem Pa{i j:Nat}{g:List (Nat×List MA.Sym)}{y:Nat×List MA.Sym}(hg:MA.cK[i]?=some g)(hy:g[j]?=some y):∃post,FT=p6 i g j++((1000+i,y.1),y.2)::post:=by
 have hi:i<MA.cK.length:=(List.getElem?_eq_some_iff.mp hg).1;have e1:MA.cK=MA.cK.take i++(g::MA.cK.drop (i+1)):=by
  conv=>lhs;rw[<-List.take_append_drop i MA.cK]
  rw[List.drop_eq_getElem_cons hi,(List.getElem?_eq_some_iff.mp hg).2]
 have e2:g=g.take j++(y::g.drop (j+1)):=by
  have hj:j<g.length:=(List.getElem?_eq_some_iff.mp hy).1;conv=>lhs;rw[<-List.take_append_drop j g]
  rw[List.drop_eq_getElem_cons hj,(List.getElem?_eq_some_iff.mp hy).2]
 refine⟨(g.drop (j+1)).map (λy=>((1000+i,y.1),y.2))++flat (1000+i+1) (MA.cK.drop (i+1)),?_⟩;unfold MA.FT p6;conv=>lhs;rw[e1]
 rw[tD,List.length_take,Nat.min_eq_left (Nat.le_of_lt hi)];show _++(g.map _++_)=_;conv=>lhs;rw[e2]
 rw[List.map_append,List.map_cons,List.append_assoc,List.append_assoc];rfl
theorem Gn{i:Nat}{g:List (Nat×List MA.Sym)}(hg:MA.cK[i]?=some g):p6 i g g.length=flat 1000 (MA.cK.take (i+1)):=by have hi:i<MA.cK.length:=(List.getElem?_eq_some_iff.mp hg).1;unfold p6;rw[take_snoc hg,tD,List.take_length,List.length_take,Nat.min_eq_left (Nat.le_of_lt hi)];show _=_++(g.map _++[]);rw[List.append_nil]
theorem EI{i j:Nat}{g:List (Nat×List MA.Sym)}{y:Nat×List MA.Sym}(hy:g[j]?=some y):p6 i g (j+1)=p6 i g j++[((1000+i,y.1),y.2)]:=by unfold p6;rw[take_snoc hy,List.map_append,List.append_assoc];rfl
theorem Ox(i:Nat)(g:List (Nat×List MA.Sym)):p6 i g 0=flat 1000 (MA.cK.take i):=by unfold p6;exact List.append_nil _
def Ml(K:Frag):Sp:=λvs H Q _=>vs=[]/\∀H' d,aG H H'->H d=none->rj K H' d->Q (.ref d) H'
theorem yC:ax ["rows","part","look","row"] [] (aq (top 88)):=↑3
theorem MZ:FT.length<1000:=↑1
theorem PJ(d:Def K mg "rows_by_token" (top 88) [])(hR:Gi K w.params mg):Ok P w K mg base bh 1 "rows_by_token" [] (Ml K):=d.ok λf fd F=>by
 refine F.ok yC (by rintro vs H Q E ⟨rfl,_⟩;rfl) (λUJ A outer s H vs Q E hr h=>?_);obtain⟨rfl,q⟩:=h;obtain⟨a,l,ma,hK,hL⟩:=hR;refine⟨_,aj (aN (i:=0) yC.nd rfl (Or.inl rfl) FI)
  (aj (rQ PassesOwn.never rfl (So (fQ ma)) (fN (i:=1) yC.nd rfl (Or.inl rfl))
   (ai (rQ PassesOwn.never rfl (N0 (bz Tj (fQ ma) (pv 1) (λ_ _=>rfl))) (Oz rfl (zi (fN (i:=2) yC.nd rfl (Or.inl rfl)) (zi (fN (i:=3) yC.nd rfl (Or.inl rfl)) J5)))
    (ai (JS (Lx hr) (pv 0) (fO (aa (pv 1) (aa (pv 2) ao))) (IL (pv 3)) rfl)))))
  (ai (aC (pv 0)))),?_⟩
 intro d hd;have hll:=hL.length;refine⟨a,l,rfl,hK,Ri hK (λi σ H'=>∃v1 v2 v3 kvs,σ=[some (.ref d),v1,v2,v3]/\H' d=some (.dT kvs)/\Paired (Jt K H') kvs (flat 1000 (MA.cK.take i))/\aG H H') ?_ ?_ ?_⟩
 ·exact⟨_,_,_,[],rfl,ag,.nil,aB hd⟩
 ·rintro i k v σ H1 hi ⟨v1,v2,v3,kvs,rfl,h1,h2,s1⟩;obtain⟨g,hg,hk,b,vs,hv,hT,hP⟩:=hL.get hi;have hf:=hL.find Dx hi;have hlen:vs.length=g.length:=Paired.length hP;have hi':i<MA.cK.length:=(List.getElem?_eq_some_iff.mp hg).1;dsimp only at hk hv hf;refine⟨_,rfl,k,a,l,v,rfl,rfl,hK,hf,b,hv,⟨_,hT _⟩,J6 (K:=K) (a:=b) (xs:=vs) (λj σ H'=>∃v2 v3 kvs,σ=[some (.ref d),some (.str k),v2,v3]/\H' d=some (.dT kvs)/\Paired (Jt K H') kvs (p6 i g j)/\aG H H') ?_ (λ_ _ _ _ _=>hT _) ?_ ?_⟩
  ·exact⟨_,_,kvs,rfl,h1,by rw[Ox];exact h2,s1⟩
  ·rintro j y σ H2 hj ⟨v2,v3,kvs,rfl,h3,h4,s2⟩;obtain⟨yy,hyy,c,e,us,rfl,t1,t2,t3⟩:=jr hP hj;obtain⟨post,hFT⟩:=Pa hg hyy;have hnew:=M_ hFT;have hin:∀p∈p6 i g j,p.1.1∈VC/\p.1.2∈VC:=λp hp=>C1 p (by rw[hFT];exact List.mem_append_left _ hp);have hme:=C1 ((1000+i,yy.1),yy.2) (by rw[hFT];exact List.mem_append_right _ (List.mem_cons_self ..));refine⟨c,_,rfl,t1 _,rfl,_,_,rfl,_,_,rfl,rfl,?_⟩;refine⟨_,rfl,e,us,rfl,.inr ⟨t2 _,λr hr=>?_⟩⟩;have n1:d≠r:=au h3 hr;refine⟨_,rfl,_,rfl,_,rfl,(by show 2<=sizeLine;decide),λt ht=>?_⟩;have hdt:(upd (upd H2 r (.tup us.reverse)) t (.tup [.str k,.str (nm yy.1)])) d=some (.dT kvs):=by
    have n2:d≠t:=au (show upd H2 r (.tup us.reverse) d=some (.dT kvs) by rw[ah n1];exact h3) ht;rw[ah n2,ah n1];exact h3
   have hkl:kvs.length<sizeLine:=by
    have e1:kvs.length=(p6 i g j).length:=Paired.length h4;have e2:=MZ;rw[hFT,List.length_append] at e2;have:sizeLine=16777216:=sizeLine_eq;omega
   refine⟨d,_,rfl,Ga.t (k:=[.inr k,.inr (nm yy.1)]) hdt ag hkl,_,_,_,rfl,ag,?_,?_⟩
   ·have hval:jS kvs [Sum.inr k,Sum.inr (nm yy.1)]=none:=by
     rw[hk];exact(wQ h4 hin hme.1 hme.2).1 hnew
    rw[Gb _ hval,EI hyy];have tk:∀b' xs,H2 b'=some (.tup xs)->upd (upd (upd H2 r (.tup us.reverse)) t (.tup [.str k,.str (nm yy.1)])) d (.dT (kvs++[([Sum.inr k,Sum.inr (nm yy.1)],V.ref r)])) b'=some (.tup xs):=λb' xs hb'=>by
     have m1:b'≠d:=dv hb' h3 (by intro z;cases z);have m2:b'≠r:=au hb' hr;have m3:b'≠t:=au (show upd H2 r (.tup us.reverse) b'=some (.tup xs) by rw[ah m2];exact hb') ht;rw[ah m1,ah m3,ah m2];exact hb'
    refine Paired.snoc (L2.Paired.imp' (λ_ _ z=>Jt.same tk z) h4) ⟨by rw[hk],r,us,rfl,?_,t3⟩;have m3:r≠t:=au ag ht;rw[ah (Ne.symm n1),ah m3,ag]
   ·exact λb' o hb'=>by
     have m1:b'≠d:=au hb' hd;have m2:b'≠r:=au (s2 _ _ hb') hr;have m3:b'≠t:=au (show upd H2 r (.tup us.reverse) b'=some o by rw[ah m2];exact s2 _ _ hb') ht;rw[ah m1,ah m3,ah m2];exact s2 _ _ hb'
  ·rintro σ H2 ⟨v2,v3,kvs,rfl,h3,h4,s2⟩;exact⟨_,_,_,kvs,rfl,h3,by rw[<-Gn hg,<-hlen];exact h4,s2⟩
 ·rintro σ H1 ⟨v1,v2,v3,kvs,rfl,h1,h2,s1⟩;refine⟨_,rfl,q H1 d s1 hd ⟨kvs,h1,?_⟩⟩;rw[hll,List.take_length] at h2;exact h2
end
abbrev Nu:Stmt:=inClass (top 77) 0
inductive Dl(C:Addr)(vs:List V)(H:Hp)(Q:VK)(E:XK):Prop
 |mk(p dx:Addr) (f n:V) (_:vs=[.ref p,f,n]) (_:H p=some (.ins C dx [])) (_:∀H' l,H l=none->H' p=some (.ins C dx (rn f (.ref l) n n))->H' l=some (.lst [])->Fy p H H'->Q .bF H')
theorem Mj:ax ["self","form","first"] ["self","form","first"] (aq Nu):=↑3
abbrev Ut(K:Frag)(mg:Str->Option Value)(C:Addr):Prop:=wx K mg "Twig" "Twig.__init__" Nu C ["self","form","first"]
theorem OC(d:Ut K mg C)(T:Ho K C):vt P w K mg base 1 "Twig" C ["self","form","first"] (Dl C):=d.new λf fd F=>by
 refine F.ok Mj (by rintro vs H Q E ⟨p,dx,f,n,rfl,_⟩;rfl) (λUJ A outer s H vs Q E hr h=>?_);obtain⟨p,dx,f,n,rfl,h1,k⟩:=h;refine⟨_,aj (bE (pv 0) (pv 1) rfl) (aj (bE (pv 0) (bx ao) rfl) (aj (bE (pv 0) (pv 2) rfl) (ai (bE (pv 0) (pv 2) rfl)))),?_⟩;refine⟨_,rfl,_,rfl,p,C,dx,[],rfl,h1,T.cl,T.nf,(by show 0<1000;decide),Nat.zero_le _,λl hl=>?_⟩;have hlp:l≠p:=λz=>by rw[z,ag] at hl;cases hl
 have hl0:H l=none:=by rw[ah hlp] at hl;exact hl
 have hp2:(upd (upd H p (.ins C dx (aW "form" f []))) l (.lst [])) p=some (.ins C dx (aW "form" f [])):=by rw[ah (Ne.symm hlp),ag]
 refine⟨_,rfl,p,C,dx,_,rfl,hp2,T.cl,T.np,(by show 1<1000;decide),_,rfl,_,rfl,p,C,dx,_,rfl,ag,T.cl,T.n1,Nat.lt_of_le_of_lt (aF _ _ _) (by show 2<1000;decide),
  _,rfl,_,rfl,p,C,dx,_,rfl,ag,T.cl,T.nb,Nat.lt_of_le_of_lt (aF _ _ _) (Nat.lt_of_le_of_lt (Nat.succ_le_succ (aF _ _ _)) (by show 3<1000;decide)),?_⟩
 refine k _ l hl0 (by rw[ag,Lp]) ?_ λb o hb hp=>?_
 ·rw[ah hlp,ah hlp,ah hlp,ag]
 ·rw[ah hp,ah hp,ah hp,ah (au hb hl0),ah hp];exact hb
def TC(CW:Addr)(N:Nat)(F H:Hp)(a l:Addr)(fr:MA.Fr):Prop:=∃dx d vs,H a=some (.ins CW dx (rn (yx fr.form) (.ref l) (.int ((N:Int) - MA.len fr.form.yJ)) d))/\H l=some (.lst vs)/\b_ CW N F vs fr.parts/\F a=none/\F l=none/\xR fr.form
inductive eI(CW:Addr)(N:Nat)(F H:Hp):List (Addr×Addr)->List MA.Fr->Prop
 |nil:eI CW N F H [] []
 |cons{x:Addr×Addr} {fr:MA.Fr} {al:List (Addr×Addr)} {G:List MA.Fr}:TC CW N F H x.1 x.2 fr->eI CW N F H al G->eI CW N F H (x::al) (fr::G)
section
variable{CW CG:Addr}{N:Nat}{F F' H H':Hp}{al:List (Addr×Addr)}{G:List MA.Fr}
theorem eI.keep:∀{al:List (Addr×Addr)}{G:List MA.Fr},(∀b o,b∈al.map Prod.fst\/b∈al.map Prod.snd->H b=some o->H' b=some o)->eI CW N F H al G->eI CW N F H' al G
 :=by
  intro al G k h;induction h with
  |nil=>exact .nil
  |cons h r ih=>
    obtain⟨dx,d,vs,h1,h2,h3⟩:=h;exact .cons ⟨dx,d,vs,k _ _ (.inl (List.mem_cons_self ..)) h1,k _ _ (.inr (List.mem_cons_self ..)) h2,h3⟩ (ih λb o hb=>k b o (hb.elim (λz=>.inl (List.mem_cons_of_mem _ z)) λz=>.inr (List.mem_cons_of_mem _ z)))
theorem eI.y8(s:aG F F'):∀{al:List (Addr×Addr)}{G:List MA.Fr},(∀b,b∈al.map Prod.fst\/b∈al.map Prod.snd->F' b=none)->eI CW N F H al G->eI CW N F' H al G
 :=by
  intro al G k h;induction h with
  |nil=>exact .nil
  |cons h r ih=>
    obtain⟨dx,d,vs,h1,h2,h3,h4,h5,h6⟩:=h;exact .cons ⟨dx,d,vs,h1,h2,h3.same s,k _ (.inl (List.mem_cons_self ..)),k _ (.inr (List.mem_cons_self ..)),h6⟩ (ih λb hb=>k b (hb.elim (λz=>.inl (List.mem_cons_of_mem _ z)) λz=>.inr (List.mem_cons_of_mem _ z)))
theorem eI.ins:∀{al:List (Addr×Addr)}{G:List MA.Fr}{b:Addr},eI CW N F H al G->b∈al.map Prod.fst->(∃dx fs,H b=some (.ins CW dx fs))/\F b=none
 :=by
  intro al G b f h;induction f with
  |nil=>cases h
  |cons f r ih=>
    rcases List.mem_cons.mp h with rfl|h
    · obtain⟨dx,d,vs,h1,h2,h3,h4,_⟩:=f;exact⟨⟨_,_,h1⟩,h4⟩
    · exact ih h
theorem eI.lst:∀{al:List (Addr×Addr)}{G:List MA.Fr}{b:Addr},eI CW N F H al G->b∈al.map Prod.snd->(∃vs,H b=some (.lst vs))/\F b=none
 :=by
  intro al G b f h;induction f with
  |nil=>cases h
  |cons f r ih=>
    rcases List.mem_cons.mp h with rfl|h
    · obtain⟨dx,d,vs,h1,h2,h3,h4,h5,_⟩:=f;exact⟨⟨_,h2⟩,h5⟩
    · exact ih h
def Own(bl:Addr)(al:List (Addr×Addr))(b:Addr):Prop:=b=bl\/b∈al.map Prod.fst\/b∈al.map Prod.snd
def Kept(bl:Addr)(al:List (Addr×Addr))(H H':Hp):Prop:=∀b o,H b=some o->¬Own bl al b->H' b=some o
structure cy(CG CW:Addr)(N:Nat)(F H:Hp)(g bl:Addr)(al:List (Addr×Addr))(G:List MA.Fr):Prop where
 sm:aG F H
 hg:∃dx,H g=some (.ins CG dx [("begun",.ref bl)])
 hb:H bl=some (.lst (al.map λx=>V.ref x.1).reverse)
 fs:eI CW N F H al G
 n1:(al.map Prod.fst).Nodup
 n2:(al.map Prod.snd).Nodup
 nb:bl∉al.map Prod.snd
 fb:F bl=none
 ng:g∉al.map Prod.fst
theorem cy.bne{g bl:Addr}(h:cy CG CW N F H g bl al G){b:Addr}(hb:b∈al.map Prod.fst):b≠bl:=by obtain⟨⟨dx,fs,e⟩,_⟩:=h.fs.ins hb;exact dv e h.hb (by intro z;cases z)
theorem eI.sep(h:eI CW N F H al G){a b:Addr}(ha:a∈al.map Prod.fst)(hb:b∈al.map Prod.snd):a≠b:=by obtain⟨⟨dx,fs,e⟩,_⟩:=h.ins ha;obtain⟨⟨vs,e'⟩,_⟩:=h.lst hb;exact dv e e' (by intro z;cases z)
theorem cy.kept{g bl:Addr}(h:cy CG CW N F H g bl al G)(k:∀b o,H b=some o->Own bl al b\/b=g\/F b≠none->H' b=some o):cy CG CW N F H' g bl al G where
 sm:=λb o hb=>k b o (h.sm _ _ hb) (.inr (.inr (by rw[hb];intro z;cases z)))
 hg:=let⟨dx,e⟩:=h.hg;⟨dx,k _ _ e (.inr (.inl rfl))⟩
 hb:=k _ _ h.hb (.inl (.inl rfl))
 fs:=h.fs.keep λb o hb e=>k b o e (.inl (.inr hb))
 n1:=h.n1
 n2:=h.n2
 nb:=h.nb
 fb:=h.fb
 ng:=h.ng
end
theorem fA{v:V}:([(("begun":Str),v)]:List (Str×V)).lookup ("begun":Str)=some v:=fT
theorem gE{v:V}{m:Str}(h:m≠"begun"):([(("begun":Str),v)]:List (Str×V)).lookup m=none:=(aO h).trans rfl
structure Fw(K:Frag)(C:Addr):Prop where
 cl:sL K C
 nb:aE K C "begun"
theorem iE{X:Cx}{k:Nat}{m:Str}{sp:Sp}{o e:Expr}{es:List Expr}{ta:TE}{t:TA}{apos pos:Pos}{pl:Sem Bool}(h:i8 X.prog X.w X.K X.mg X.base k C m ps sp)(cl:sL X.K C)(hr:bC k X.A)(he:PE X o ta)(ha:PA X (e::es) t)(hst:starEach (e::es) X.env=(false,eval e X.env)::starEach es X.env:=by rfl)(hpl:(backTo pos (starEach es X.env)).any (·.1)=false:=by rfl)(ht:eval (.Call (.Attribute o m apos) (e::es) [] pos) X.env=(do
   let ov<-eval o X.env
   standAt apos.atName
   let(f,first)<-holding [ov] (getMethod ov m pl)
   callWith pos f first (backTo pos (starEach (e::es) X.env)) (backToKw pos (keywordEach [] X.env))):=by rfl):PE X (.Call (.Attribute o m apos) (e::es) [] pos) (zw C m sp [] E0 ta t):=by
 obtain⟨f,fd,M,F,b⟩:=h.ex;exact Ku he cl M F hr b .nil g_ ha hst hpl ht
theorem dj.ok{m qual:Str}{st:Stmt}{k:Nat}{sp:Sp}(d:dj K C m qual st ps)(h:∀f fd,jC K m qual st f fd->cn P w K mg base bh k f fd ps sp):i8 P w K mg base k C m ps sp:=by obtain⟨f,fd,M,F,b⟩:=d.ex;exact⟨f,fd,M,h f fd F,b⟩
abbrev oj(i:Nat):Stmt:=inClass (top 78) i
inductive Oo(CG CW:Addr)(vs:List V)(H:Hp)(Q:VK)(E:XK):Prop
 |mk(g bl:Addr) (al:List (Addr×Addr)) (G:List MA.Fr) (N:Nat) (F:Hp) (f:MA.Fk) (s:EwTree.St) (_:vs=[.ref g,yx (f.at s),.int ((N:Int) - MA.len s)]) (_:cy CG CW N F H g bl al G) (_:al.length<16000000) (_:xR (f.at s)) (_:∀H' a l,cy CG CW N F H' g bl ((a,l)::al) (⟨f.at s,[]⟩::G)->H a=none->H l=none->Kept bl al H H'->Q .bF H')
theorem RG:ax ["self","form","passed"] ["self","form","passed"] (aq (oj 1)):=↑3
theorem Ol(f:MA.Fk)(s:EwTree.St):(f.at s).yJ=s:=by cases f <;> rfl
theorem Ry(d:dj K CG "begin" "Growth.begin" (oj 1) ["self","form","passed"])(TG_:Fw K CG)(nT:vt P w K mg base 1 "Twig" CW ["self","form","first"] (Dl CW)):i8 P w K mg base 3 CG "begin" ["self","form","passed"] (Oo CG CW):=d.ok λf fd F=>by
 refine F.ok RG (by rintro vs H Q E ⟨g,bl,al,G,N,F,f,s,rfl,_⟩;rfl) (λUJ A outer s H vs Q E hr h=>?_);obtain⟨g,bl,al,G,N,F,f,s,rfl,hG,hl,hk,q⟩:=h;obtain⟨dx,hg⟩:=hG.hg;refine⟨_,ai (aS (fK PySem.F.plainAttrs_list PySem.F.slot_list_append PySem.F.type_list_append cY (ay (pv 0) rfl) (aa (eM nT hr (aa (pv 1) (aa (pv 2) ao))) ao))),?_⟩;have hsz:sizeLine=16777216:=sizeLine_eq;refine rV rfl (rf hg TG_.cl TG_.nb fA ⟨.inl ⟨rfl,_,bf.of hG.hb⟩,_,rfl,_,rfl,λx dx' nx nd ne=>⟨x,dx',_,_,rfl,ag,λH1 l hl0 h1 h2 fr=>⟨rfl,?_⟩⟩⟩);have s1:=aG.made nx nd fr;have hl1:H l=none:=by
  have:=hl0;by_cases z:l=x
  ·rw[z,ag] at this;cases this
  ·rw[ah z] at this;by_cases z2:l=dx'
   ·rw[z2,ag] at this;cases this
   ·rw[ah z2] at this;exact this
 have hb1:=s1 _ _ hG.hb;have nbx:bl≠x:=au hG.hb nx;have nbl:bl≠l:=au hG.hb hl1;refine⟨bl,_,_,rfl,rfl,hb1,(by rw[List.length_reverse,List.length_map,hsz];omega),?_⟩;have nx1:x∉al.map Prod.fst:=λz=>by obtain⟨⟨_,_,e⟩,_⟩:=hG.fs.ins z;rw[e] at nx;cases nx
 have nl1:l∉al.map Prod.snd:=λz=>by obtain⟨⟨_,e⟩,_⟩:=hG.fs.lst z;rw[e] at hl1;cases hl1
 have kp:∀b o,H b=some o->b≠bl->upd H1 bl (.lst ((al.map λx=>V.ref x.1).reverse++[V.ref x])) b=some o:=λb o hb nb=>by rw[ah nb];exact s1 _ _ hb
 refine q _ x l ⟨λb o hb=>?_,⟨dx,kp _ _ hg (dv hg hG.hb (by intro z;cases z))⟩,by rw[ag,List.map_cons,List.reverse_cons],.cons ⟨dx',.int ((N:Int) - MA.len s),[],?_,?_,.nil,hG.sm.free nx,hG.sm.free hl1,hk⟩ ?_,List.nodup_cons.mpr ⟨nx1,hG.n1⟩,List.nodup_cons.mpr ⟨nl1,hG.n2⟩,?_,hG.fb,?_⟩ nx hl1 λb o hb no=>kp b o hb λz=>no (.inl z)
 ·exact kp b o (hG.sm _ _ hb) (λz=>by rw[z,hG.fb] at hb;cases hb)
 ·rw[ah (Ne.symm nbx),h1,Ol]
 ·rw[ah (Ne.symm nbl)];exact h2
 ·exact hG.fs.keep λb o hb e=>kp b o e (hb.elim (λz=>hG.bne z) λz y=>hG.nb (y▸z))
 ·exact λz=>(List.mem_cons.mp z).elim nbl hG.nb
 ·exact λz=>(List.mem_cons.mp z).elim (au hg nx) hG.ng
theorem iR{al:List (Addr×Addr)}{x:Addr×Addr}:((x::al).map λx=>V.ref x.1).reverse=(al.map λx=>V.ref x.1).reverse++[V.ref x.1]:=by rw[List.map_cons,List.reverse_cons]
theorem cy.RW{N:Nat}{F:Hp}{g bl:Addr}{x:Addr×Addr}{al:List (Addr×Addr)}{G:List MA.Fr}{fr fr':MA.Fr}{dx:Addr}{d:V}{vs:List V}(h:cy CG CW N F H g bl (x::al) (fr::G))(hl:H x.2=some (.lst vs))(hp:b_ CW N F vs fr'.parts)(hk:xR fr'.form):
  cy CG CW N F (upd H x.1 (.ins CW dx (rn (yx fr'.form) (.ref x.2) (.int ((N:Int) - MA.len fr'.form.yJ)) d))) g bl (x::al) (fr'::G)/\Kept bl (x::al) H (upd H x.1 (.ins CW dx (rn (yx fr'.form) (.ref x.2) (.int ((N:Int) - MA.len fr'.form.yJ)) d))):=by
 have hx:x.1∈(x::al).map Prod.fst:=List.mem_cons_self ..;have hx2:x.2∈(x::al).map Prod.snd:=List.mem_cons_self ..;have hF:=(h.fs.ins hx).2;have hF2:=(h.fs.lst hx2).2;have nb:=h.bne hx;have n12:=h.fs.sep hx hx2;have n1:=List.nodup_cons.mp h.n1;obtain⟨dg,hg⟩:=h.hg;have ngx:g≠x.1:=λz=>h.ng (z▸hx);refine⟨⟨λb o hb=>?_,⟨dg,by rw[ah ngx];exact hg⟩,by rw[ah (Ne.symm nb)];exact h.hb,.cons ⟨dx,d,vs,ag,by rw[ah (Ne.symm n12)];exact hl,hp,hF,hF2,hk⟩ ?_,h.n1,h.n2,h.nb,h.fb,h.ng⟩,λb o hb no=>?_⟩
 ·rw[ah (λz=>by rw[z,hF] at hb;cases hb)];exact h.sm _ _ hb
 ·cases h.fs with
  |cons _ r=>
   refine r.keep λb o hb e=>?_;rw[ah (hb.elim (λz (y:b=x.1)=>n1.1 (by rw[<-y];exact z)) λz=>Ne.symm (h.fs.sep hx (List.mem_cons_of_mem _ z)))];exact e
 ·rw[ah λ(z:b=x.1)=>no (.inr (.inl (by rw[z];exact hx)))];exact hb
theorem cy.Mx{N:Nat}{F:Hp}{g bl:Addr}{x:Addr×Addr}{al:List (Addr×Addr)}{G:List MA.Fr}{fr fr':MA.Fr}{vs:List V}(h:cy CG CW N F H g bl (x::al) (fr::G))(hp:b_ CW N F vs fr'.parts)(he:fr'.form=fr.form):
  cy CG CW N F (upd H x.2 (.lst vs)) g bl (x::al) (fr'::G)/\Kept bl (x::al) H (upd H x.2 (.lst vs)):=by
 have hx:x.1∈(x::al).map Prod.fst:=List.mem_cons_self ..;have hx2:x.2∈(x::al).map Prod.snd:=List.mem_cons_self ..;have hF:=(h.fs.ins hx).2;have hF2:=(h.fs.lst hx2).2;have nb:x.2≠bl:=λz=>h.nb (z▸hx2);have n12:=h.fs.sep hx hx2;have n2:=List.nodup_cons.mp h.n2;obtain⟨dg,hg⟩:=h.hg;obtain⟨⟨us,hl⟩,_⟩:=h.fs.lst hx2;have ngx:g≠x.2:=dv hg hl (by intro z;cases z);refine⟨⟨λb o hb=>?_,⟨dg,by rw[ah ngx];exact hg⟩,by rw[ah (Ne.symm nb)];exact h.hb,?_,h.n1,h.n2,h.nb,h.fb,h.ng⟩,λb o hb no=>?_⟩
 ·rw[ah (λz=>by rw[z,hF2] at hb;cases hb)];exact h.sm _ _ hb
 ·cases h.fs with
  |cons hf r=>
   obtain⟨dx,d,_,h1,_,_,_,_,h6⟩:=hf;refine .cons ⟨dx,d,vs,by rw[ah n12,he];exact h1,ag,hp,hF,hF2,by rw[he];exact h6⟩ (r.keep λb o hb e=>?_);rw[ah (hb.elim (λz=>h.fs.sep (List.mem_cons_of_mem _ z) hx2) λz (y:b=x.2)=>n2.1 (by rw[<-y];exact z))];exact e
 ·rw[ah λ(z:b=x.2)=>no (.inr (.inr (by rw[z];exact hx2)))];exact hb
inductive OT(CG CW:Addr)(vs:List V)(H:Hp)(Q:VK)(E:XK):Prop
 |mk(g bl:Addr) (al:List (Addr×Addr)) (fr:MA.Fr) (G:List MA.Fr) (N:Nat) (F:Hp) (k:Nat) (_:vs=[.ref g,.int k]) (_:cy CG CW N F H g bl al (fr::G)) (_:k<256) (_:∀H',cy CG CW N F H' g bl al (⟨fr.form.turn k,fr.parts⟩::G)->Kept bl al H H'->Q .bF H')
theorem LH:ax ["self","kind","twig"] ["self","kind"] (aq (oj 2)):=↑3
theorem IS(k:Nat)(f:MA.Fm):(f.turn k).yJ=f.yJ/\yx (f.turn k)= .int k:=by cases f <;> exact⟨rfl,rfl⟩
theorem RZ(d:dj K CG "turn" "Growth.turn" (oj 2) ["self","kind"])(TG_:Fw K CG)(T:Ho K CW):i8 P w K mg base 1 CG "turn" ["self","kind"] (OT CG CW):=d.ok λf fd F=>by
 refine F.ok LH (by rintro vs H Q E ⟨g,bl,al,fr,G,N,F,k,rfl,_⟩;rfl) (λUJ A outer s H vs Q E hr h=>?_);obtain⟨g,bl,al,fr,G,N,F,k,rfl,hG,hk,q⟩:=h;obtain⟨dg,hg⟩:=hG.hg;obtain⟨x,al,rfl⟩:∃x al',al=x::al':=by cases hG.fs;exact⟨_,_,rfl⟩
 have hfs:=hG.fs;cases hfs with
 |cons hf r=>
  obtain⟨dx,d,us,h1,h2,h3,h4,h5,h6⟩:=hf;refine⟨_,aj (aN (i:=2) LH.nd rfl (Or.inl rfl) (bz aX (ay (pv 0) rfl) (gc eg aw) (λ_ _=>rfl))) (ai (bE (pv 2) (pv 1) rfl)),?_⟩;have hb:=hG.hb;rw[iR] at hb;refine rV rfl (rf hg TG_.cl TG_.nb fA ⟨_,rfl,bl,_,_,_,rfl,rfl,bf.of hb,i9 _ _,_,rfl,_,rfl,x.1,CW,dx,_,rfl,h1,T.cl,T.nf,(by show 4<1000;decide),?_⟩);obtain⟨e1,e2⟩:=IS k fr.form;have:=hG.RW (fr':=⟨fr.form.turn k,fr.parts⟩) (dx:=dx) (d:=d) h2 h3 (by show xR (fr.form.turn k);cases fr.form <;> exact hk);dsimp only at this;rw[e1,e2] at this;rw[Ey];exact q _ this.1 this.2
inductive G8(CG CW:Addr)(vs:List V)(H:Hp)(Q:VK)(E:XK):Prop
 |mk(g bl:Addr) (al:List (Addr×Addr)) (fr:MA.Fr) (G:List MA.Fr) (N:Nat) (F:Hp) (v:V) (p:MA.Pt) (_:vs=[.ref g,v]) (_:cy CG CW N F H g bl al (fr::G)) (_:n9 CW N F v p) (_:fr.parts.length<16000000) (_:∀H',cy CG CW N F H' g bl al (⟨fr.form,fr.parts++[p]⟩::G)->Kept bl al H H'->Q .bF H')
theorem P8:ax ["self","part"] ["self","part"] (aq (oj 3)):=↑3
theorem Qz(d:dj K CG "put" "Growth.put" (oj 3) ["self","part"])(TG_:Fw K CG)(T:Ho K CW):i8 P w K mg base 1 CG "put" ["self","part"] (G8 CG CW):=d.ok λf fd F=>by
 refine F.ok P8 (by rintro vs H Q E ⟨g,bl,al,fr,G,N,F,v,p,rfl,_⟩;rfl) (λUJ A outer s H vs Q E hr h=>?_);obtain⟨g,bl,al,fr,G,N,F,v,p,rfl,hG,hP,hl,q⟩:=h;obtain⟨dg,hg⟩:=hG.hg;obtain⟨x,al,rfl⟩:∃x al',al=x::al':=by cases hG.fs;exact⟨_,_,rfl⟩
 have hfs:=hG.fs;cases hfs with
 |cons hf r=>
  obtain⟨dx,d,us,h1,h2,h3,h4,h5,h6⟩:=hf;refine⟨_,ai (aS (fK PySem.F.plainAttrs_list PySem.F.slot_list_append PySem.F.type_list_append cY (ay (bz aX (ay (pv 0) rfl) (gc eg aw) (λ_ _=>rfl)) rfl) (aa (pv 1) ao))),?_⟩;have hb:=hG.hb;rw[iR] at hb;have hsz:sizeLine=16777216:=sizeLine_eq;have hul:=h3.length;refine rV rfl (rf hg TG_.cl TG_.nb fA ⟨_,rfl,bl,_,_,_,rfl,rfl,bf.of hb,i9 _ _,rf h1 T.cl T.np ef ⟨.inl ⟨rfl,_,bf.of h2⟩,_,rfl,x.2,_,_,rfl,rfl,h2,(by rw[hul,hsz];omega),?_⟩⟩);have:=hG.Mx (fr':=⟨fr.form,fr.parts++[p]⟩) (h3.app (.cons hP .nil)) rfl;exact q _ this.1 this.2
theorem Gv(xs:List V)(v u:V):vm (xs++[v]++[u]) (-2)=some v:=by
 unfold vm;have h:Fv (xs++[v]++[u]).length (-2)=some xs.length:=by
  rw[List.length_append,List.length_append,List.length_singleton,List.length_singleton];unfold Fv;rw[if_neg ↑2];rw[if_pos ↑2];congr 1;omega
 rw[h];show(xs++[v]++[u])[xs.length]?=some v;simp
theorem cy.TB{N:Nat}{F:Hp}{g bl:Addr}{x y:Addr×Addr}{al:List (Addr×Addr)}{G:List MA.Fr}{f0 fr fr':MA.Fr}{vs:List V}(h:cy CG CW N F H g bl (x::y::al) (f0::fr::G))(hp:b_ CW N F vs fr'.parts)(he:fr'.form=fr.form):
  cy CG CW N F (upd H y.2 (.lst vs)) g bl (x::y::al) (f0::fr'::G)/\Kept bl (x::y::al) H (upd H y.2 (.lst vs)):=by
 have hx:y.1∈(x::y::al).map Prod.fst:=List.mem_cons_of_mem _ (List.mem_cons_self ..);have hx2:y.2∈(x::y::al).map Prod.snd:=List.mem_cons_of_mem _ (List.mem_cons_self ..);have hF:=(h.fs.ins hx).2;have hF2:=(h.fs.lst hx2).2;have nb:y.2≠bl:=λz=>h.nb (z▸hx2);have n12:=h.fs.sep hx hx2;have nd:=List.nodup_cons.mp h.n2;have n2:=List.nodup_cons.mp nd.2;have nxy:x.2≠y.2:=λz=>nd.1 (by rw[List.map_cons,<-z];exact List.mem_cons_self ..);obtain⟨dg,hg⟩:=h.hg;obtain⟨⟨us,hl⟩,_⟩:=h.fs.lst hx2;have ngx:g≠y.2:=dv hg hl (by intro z;cases z);refine⟨⟨λb o hb=>?_,⟨dg,by rw[ah ngx];exact hg⟩,by rw[ah (Ne.symm nb)];exact h.hb,?_,h.n1,h.n2,h.nb,h.fb,h.ng⟩,λb o hb no=>?_⟩
 ·rw[ah (λz=>by rw[z,hF2] at hb;cases hb)];exact h.sm _ _ hb
 ·have hfs:=h.fs;cases hfs with
  |cons hf0 r0=>
   obtain⟨ex,ed,eu,k1,k2,k3⟩:=hf0;cases r0 with
   |cons hf r=>
    obtain⟨dx,d,_,h1,_,_,_,_,h6⟩:=hf;refine .cons ⟨ex,ed,eu,by rw[ah (h.fs.sep (List.mem_cons_self ..) hx2)];exact k1,by rw[ah nxy];exact k2,k3⟩ (.cons ⟨dx,d,vs,by rw[ah n12,he];exact h1,ag,hp,hF,hF2,by rw[he];exact h6⟩ (r.keep λb o hb e=>?_));rw[ah (hb.elim (λz=>h.fs.sep (List.mem_cons_of_mem _ (List.mem_cons_of_mem _ z)) hx2) λz (w:b=y.2)=>n2.1 (by rw[<-w];exact z))];exact e
 ·rw[ah λ(z:b=y.2)=>no (.inr (.inr (by rw[z];exact hx2)))];exact hb
theorem Kept.trans{bl:Addr}{al:List (Addr×Addr)}{H1 H2:Hp}(a:Kept bl al H H1)(b:Kept bl al H1 H2):Kept bl al H H2:=λc o h n=>b c o (a c o h n) n
theorem JB(p:MA.Pt)(f:MA.Fm):yx (f.tk p)=yx f/\(f.tk p).yJ=MA.st p f.yJ/\(xR f->xR (f.tk p)):=by cases f <;> exact⟨rfl,rfl,id⟩
inductive GV(CG CW:Addr)(vs:List V)(H:Hp)(Q:VK)(E:XK):Prop
 |mk(g bl:Addr) (al:List (Addr×Addr)) (f h:MA.Fm) (l r:List MA.Pt) (p:MA.Pt) (G:List MA.Fr) (N:Nat) (F:Hp) (_:vs=[.ref g]) (_:cy CG CW N F H g bl al (⟨f,l⟩::⟨h,r++[p]⟩::G)) (_:l.length<16000000) (_:∀H',cy CG CW N F H' g bl al (⟨f.tk p,l++[p]⟩::⟨h,r⟩::G)->Kept bl al H H'->Q .bF H')
theorem Ca:ax ["self","twig","part"] ["self"] (aq (oj 4)):=↑3
theorem O4(d:dj K CG "take" "Growth.take" (oj 4) ["self"])(TG_:Fw K CG)(T:Ho K CW)(mC:mg "Twig"=some (.ref CW))(isi:mg "isinstance"=none):i8 P w K mg base 1 CG "take" ["self"] (GV CG CW):=d.ok λf fd F=>by
 refine F.ok Ca (by rintro vs H Q E ⟨g,bl,al,f,h,l,r,p,G,N,F,rfl,_⟩;rfl) (λUJ A outer s H vs Q E hr hh=>?_);obtain⟨g,bl,al,f,h,l,r,p,G,N,F,rfl,hG,hl,q⟩:=hh;obtain⟨dg,hg⟩:=hG.hg;obtain⟨x,y,al,rfl⟩:∃x y al',al=x::y::al':=by
  cases hG.fs with
  |cons _ r=>cases r;exact⟨_,_,_,rfl⟩
 have hfs:=hG.fs;cases hfs with
 |cons hf0 r0=>
  obtain⟨ex,ed,eu,k1,k2,k3,k4,k5,k6⟩:=hf0;cases r0 with
  |cons hf r1=>
   obtain⟨dx,dd,us,h1,h2,h3,h4,h5,h6⟩:=hf;obtain⟨ws,v,rfl,hws,hv⟩:=b_.snoc_inv (ps:=r) (p:=p) h3;refine⟨_,aj (aN (i:=1) Ca.nd rfl (Or.inl rfl) (bz aX (ay (pv 0) rfl) (gc eg aw) (λ_ _=>rfl)))
    (aj (aN (i:=2) Ca.nd rfl (Or.inl rfl) (tT PySem.F.plainAttrs_list PySem.F.slot_list_pop PySem.F.type_list_pop qR (ay (bz aX (ay (pv 0) rfl) (gc eg aw) (λ_ _=>rfl)) rfl)))
    (aj (aR (dq (eK ky (by rfl) isi PyProof.Rows.boot_isinstance (aa (pv 2) (aa (fQ mC) ao)))) (ai (bE (pv 1) (ay (pv 2) rfl) rfl)) aL)
    (ai (aS (fK PySem.F.plainAttrs_list PySem.F.slot_list_append PySem.F.type_list_append cY (ay (pv 1) rfl) (aa (pv 2) ao)))))),?_⟩
   have hb:=hG.hb;rw[iR] at hb;have hb2:=hb;rw[iR] at hb2;have hsz:sizeLine=16777216:=sizeLine_eq;refine rV rfl (rf hg TG_.cl TG_.nb fA ⟨_,rfl,bl,_,_,_,rfl,rfl,bf.of hb,i9 _ _,?_⟩);refine rV rfl (rf hg TG_.cl TG_.nb fA ⟨_,rfl,bl,_,_,_,rfl,rfl,bf.of hb2,Gv _ _ _,rf h1 T.cl T.np ef ⟨.inl ⟨rfl,_,bf.of h2⟩,y.2,_,v,rfl,rfl,h2,(by rw[List.length_append,List.getElem?_append_right (by simp)];simp),?_⟩⟩);rw[List.dropLast_concat];obtain⟨g1,kp1⟩:=hG.TB (fr':=⟨h,r⟩) hws rfl;have hx2:y.2∈(x::y::al).map Prod.snd:=List.mem_cons_of_mem _ (List.mem_cons_self ..);have hxx:=hG.fs.sep (List.mem_cons_self ..) hx2;have nd:=List.nodup_cons.mp hG.n2;have nxy:x.2≠y.2:=λz=>nd.1 (by rw[List.map_cons,<-z];exact List.mem_cons_self ..);have k1':(upd H y.2 (.lst ws)) x.1=_:=(ah hxx).trans k1;have k2':(upd H y.2 (.lst ws)) x.2=_:=(ah nxy).trans k2;have hul:=k3.length;obtain⟨e1,e2,e3⟩:=JB p f;cases hv with
   |@leaf a0 b0 ha0=>
    have ha1:=g1.sm _ _ ha0;refine⟨_,rfl,_,_,_,_,rfl,.inr ⟨CW,rfl⟩,.inl (.lst ha1),T.kl,_,rfl,dQ ?_⟩;refine rV rfl (rf k1' T.cl T.np ef ⟨.inl ⟨rfl,_,bf.of k2'⟩,_,rfl,x.2,_,_,rfl,rfl,k2',(by rw[hul,hsz];dsimp only;omega),?_⟩);have hf:f.tk (.leaf b0)=f:=by cases f <;> rfl
    obtain⟨g2,kp2⟩:=g1.Mx (fr':=⟨f.tk (.leaf b0),l++[.leaf b0]⟩) (k3.app (.cons (.leaf ha0) .nil)) hf;exact q _ g2 (kp1.trans kp2)
   |@bq a0 dx0 l0 f0 s0 ps0 vs0 d0 ha hlo hs hk hc hps=>
    have ha1:=g1.sm _ _ ha;refine⟨_,rfl,_,_,_,_,rfl,.inr ⟨CW,rfl⟩,.inl (.ins ha1 T.cl T.ha T.hn T.ht T.hm),T.yes,_,rfl,fV ?_⟩;refine rV rfl (rf ha1 T.cl T.n1 DZ ⟨_,rfl,x.1,CW,ex,_,rfl,k1',T.cl,T.n1,(by show 4<1000;decide),?_⟩);rw[AX];obtain⟨g2,kp2⟩:=g1.RW (fr':=⟨f.tk (.bq f0 s0 ps0),l⟩) (dx:=ex) (d:=ed) k2' k3 (e3 k6);dsimp only at g2 kp2 e1 e2;rw[e1,e2] at g2 kp2;have g2f:=g2.fs;cases g2f with
    |cons hf2 _=>
     obtain⟨m1,m2,m3,j1,j2,j3,j4,j5,j6⟩:=hf2;dsimp only at j1 j2;have n12:=hG.fs.sep (List.mem_cons_self ..) (show x.2∈(x::y::al).map Prod.snd from List.mem_cons_self ..);have j2':(upd (upd H y.2 (.lst ws)) x.1 (.ins CW ex (rn (yx f) (.ref x.2) (.int ((N:Int) - MA.len f0.yJ)) ed))) x.2=some (.lst eu):=(ah (Ne.symm n12)).trans k2';refine rV rfl (rf ag T.cl T.np ef ⟨.inl ⟨rfl,_,bf.of j2'⟩,_,rfl,x.2,_,_,rfl,rfl,j2',(by rw[hul,hsz];dsimp only;omega),?_⟩);obtain⟨g3,kp3⟩:=g2.Mx (fr':=⟨f.tk (.bq f0 s0 ps0),l++[.bq f0 s0 ps0]⟩) (k3.app (.cons (.bq ha hlo hs hk hc hps) .nil)) rfl;exact q _ g3 (kp1.trans (kp2.trans kp3))
section
variable{CG CW:Addr}{N:Nat}{F F' H H':Hp}{g bl:Addr}{x:Addr×Addr}{al:List (Addr×Addr)}{fr:MA.Fr}{G:List MA.Fr}
theorem cy.pop(h:cy CG CW N F H g bl (x::al) (fr::G)):cy CG CW N F (upd H bl (.lst (al.map λx=>V.ref x.1).reverse)) g bl al G:=by
 obtain⟨dg,hg⟩:=h.hg;have ngb:g≠bl:=dv hg h.hb (by intro z;cases z);have hfs:=h.fs;cases hfs with
 |cons _ r=>
  refine⟨λb o hb=>?_,⟨dg,by rw[ah ngb];exact hg⟩,ag,r.keep λb o hb e=>?_,(List.nodup_cons.mp h.n1).2,(List.nodup_cons.mp h.n2).2,λz=>h.nb (List.mem_cons_of_mem _ z),h.fb,λz=>h.ng (List.mem_cons_of_mem _ z)⟩
  ·rw[ah (λz=>by rw[z,h.fb] at hb;cases hb)];exact h.sm _ _ hb
  ·rw[ah (hb.elim (λz=>h.bne (List.mem_cons_of_mem _ z)) λz (y:b=bl)=>h.nb (List.mem_cons_of_mem _ (by rw[<-y];exact z)))];exact e
theorem cy.y8(h:cy CG CW N F H g bl al G)(s:aG F F')(s2:aG F' H)(k:∀b,b∈al.map Prod.fst\/b∈al.map Prod.snd->F' b=none)(kb:F' bl=none):cy CG CW N F' H g bl al G:=
 ⟨s2,h.hg,h.hb,h.fs.y8 s k,h.n1,h.n2,h.nb,kb,h.ng⟩
end
theorem Qq{l:List MA.Pt}(h:MA.iu l):MA.eD l<128:=by have:=tG h l.length (Nat.le_refl _);rw[List.take_length] at this;exact this
inductive RN(CG CW:Addr)(vs:List V)(H:Hp)(Q:VK)(E:XK):Prop
 |mk(g bl:Addr) (x:Addr×Addr) (al:List (Addr×Addr)) (f h:MA.Fm) (l r:List MA.Pt) (G:List MA.Fr) (N:Nat) (F:Hp) (s:EwTree.St) (_:vs=[.ref g,.int ((N:Int) - MA.len s)]) (_:cy CG CW N F H g bl (x::al) (⟨f,l⟩::⟨h,r⟩::G)) (_:(f.isSet=true->MA.iu l)) (_:r.length<16000000) (_:∀H' F',aG F F'->(∀b,F' b≠none->F b≠none\/Own bl (x::al) b\/H b=none)->cy CG CW N F' H' g bl al (⟨h,r++[MA.done f s l]⟩::G)->Kept bl (x::al) H H'->Q .bF H')
theorem LZ:ax ["self","passed","twig"] ["self","passed"] (aq (oj 5)):=↑3
theorem P2(d:dj K CG "finish" "Growth.finish" (oj 5) ["self","passed"])(TG_:Fw K CG)(T:Ho K CW)(op:i8 P w K mg base 1 CG "put" ["self","part"] (G8 CG CW))(os:Ok P w K mg base bh 1 "set_byte" ["bits"] (Oy CW)):i8 P w K mg base 2 CG "finish" ["self","passed"] (RN CG CW):=d.ok λf fd F=>by
 refine F.ok LZ (by rintro vs H Q E ⟨g,bl,x,al,f,h,l,r,G,N,F,s,rfl,_⟩;rfl) (λUJ A outer s H vs Q E hr hh=>?_);obtain⟨g,bl,x,al,f,h,l,r,G,N,F,s,rfl,hG,hset,hl,q⟩:=hh;obtain⟨dg,hg⟩:=hG.hg;have hfs:=hG.fs;cases hfs with
 |cons hf r1=>
  obtain⟨ex,ed,us,k1,k2,k3,k4,k5,k6⟩:=hf;dsimp only at k1 k2 k3 k6;refine⟨_,aj (aN (i:=2) LZ.nd rfl (Or.inl rfl) (tT PySem.F.plainAttrs_list PySem.F.slot_list_pop PySem.F.type_list_pop qR (ay (pv 0) rfl)))
   (aj (bE (pv 2) (pv 1) rfl)
   (ai (aR (aD cG (ay (pv 2) rfl) bN (aJ _)) (ai (aS (iE op TG_.cl hr (pv 0) (aa (bx (aa (aM os hr (aa (ay (pv 2) rfl) ao)) ao)) ao)))) (ai (aS (iE op TG_.cl hr (pv 0) (aa (pv 2) ao))))))),?_⟩
  have hb:=hG.hb;rw[iR] at hb;refine rV rfl (rf hg TG_.cl TG_.nb fA ⟨.inl ⟨rfl,_,bf.of hb⟩,bl,_,.ref x.1,rfl,rfl,hb,(by rw[List.length_append,List.getElem?_append_right (by simp)];simp),?_⟩);rw[List.dropLast_concat];have g1:=hG.pop;have hx:x.1∈(x::al).map Prod.fst:=List.mem_cons_self ..;have hx2:x.2∈(x::al).map Prod.snd:=List.mem_cons_self ..;have nb:=hG.bne hx;have nb2:x.2≠bl:=λz=>hG.nb (z▸hx2);have n12:=hG.fs.sep hx hx2;have n1:=List.nodup_cons.mp hG.n1;have n2:=List.nodup_cons.mp hG.n2;have ngx:g≠x.1:=λz=>hG.ng (z▸hx);have k1':(upd H bl (.lst (al.map λx=>V.ref x.1).reverse)) x.1=_:=(ah nb).trans k1;refine⟨_,rfl,_,rfl,x.1,CW,ex,_,rfl,k1',T.cl,T.nb,(by show 4<1000;decide),?_⟩;rw[zJ];generalize hH2:upd (upd H bl (.lst (al.map λx=>V.ref x.1).reverse)) x.1 (.ins CW ex (rn (yx f) (.ref x.2) (.int ((N:Int) - MA.len f.yJ)) (.int ((N:Int) - MA.len s))))=H2;have hx2':H2 x.2=some (.lst us):=by rw[<-hH2,ah (Ne.symm n12),ah nb2];exact k2
  have hx1':H2 x.1=some (.ins CW ex (rn (yx f) (.ref x.2) (.int ((N:Int) - MA.len f.yJ)) (.int ((N:Int) - MA.len s)))):=by rw[<-hH2,ag]
  have g2:cy CG CW N F H2 g bl al (⟨h,r⟩::G):=g1.kept λb o e ho=>by
   rw[<-hH2,ah]
   ·exact e
   ·rintro rfl;rcases ho with(z|z|z)|z|z
    ·exact nb z
    ·exact n1.1 z
    ·exact hG.fs.sep hx (List.mem_cons_of_mem _ z) rfl
    ·exact ngx z.symm
    ·exact z k4
  have kp2:Kept bl (x::al) H H2:=λb o hb no=>by
   rw[<-hH2,ah λ(z:b=x.1)=>no (.inr (.inl (by rw[z];exact hx))),ah λz=>no (.inl z)];exact hb
  have hg2:∃dg,H2 g=some (.ins CG dg [("begun",.ref bl)]):=g2.hg;obtain⟨dg2,hg2⟩:=hg2;have hsc:Il (yx f) (.str "@set")=true:=by cases f <;> rfl
  refine rV rfl (rf hx1' T.cl T.nf lA ⟨hsc,_,rfl,aT (λz=>?_) λz=>?_⟩)
  ·have z:=of_decide_eq_true z;have hS:f.isSet=true:=by
    cases f with
    |kind k b=>cases z
    |row b=>exact absurd z (by show V.str "@row"≠V.str "@set";decide+kernel)
    |count b=>exact absurd z (by show V.str "@count"≠V.str "@set";decide+kernel)
    |set b=>rfl
   have aZ:=hset hS;refine⟨_,rfl,g,dg2,_,rfl,hg2,gE ↑1,rV rfl (rf hx1' T.cl T.np ef ⟨x.2,us,l,N,rfl,hx2',k3.same g2.sm,aZ,(by show 1<=sizeLine;decide),λm hm=>?_⟩)⟩;have hFm:F m=none:=g2.sm.free hm;have hdone:MA.done f s l= .leaf [UInt8.ofNat (MA.eD l)]:=by unfold MA.done;rw[hS]
   have hiv:[V.int ((MA.eD l:Nat):Int)]=iv [UInt8.ofNat (MA.eD l)]:=by
    show _=[V.int ((UInt8.ofNat (MA.eD l)).toNat:Int)]
    rw[show(UInt8.ofNat (MA.eD l)).toNat=MA.eD l by have:=Qq aZ;simp;omega]
   have hmo:∀b o,H2 b=some o->b≠m:=λb o e=>au e hm;have g3:cy CG CW N (upd F m (.lst [V.int ((MA.eD l:Nat):Int)])) (upd H2 m (.lst [V.int ((MA.eD l:Nat):Int)])) g bl al (⟨h,r⟩::G):=by
    refine(g2.kept (H':=upd H2 m (.lst [V.int ((MA.eD l:Nat):Int)])) λb o e _=>by rw[ah (hmo b o e)];exact e).y8 (aB hFm) (λb o hb=>?_) (λb hb=>?_) ?_
    ·by_cases z:b=m
     ·subst z;rw[ag] at hb ⊢;exact hb
     ·rw[ah z] at hb ⊢;exact g2.sm _ _ hb
    ·have:F b=none/\b≠m:=by
      rcases hb with hb|hb
      ·obtain⟨⟨_,_,e⟩,e2⟩:=g2.fs.ins hb;exact⟨e2,hmo _ _ e⟩
      ·obtain⟨⟨_,e⟩,e2⟩:=g2.fs.lst hb;exact⟨e2,hmo _ _ e⟩
     rw[ah this.2];exact this.1
    ·rw[ah (hmo _ _ g2.hb)];exact g2.fb
   refine⟨g,bl,al,⟨h,r⟩,G,N,_,.ref m,.leaf [UInt8.ofNat (MA.eD l)],rfl,g3,.leaf (by rw[ag,hiv]),hl,λH' g4 kp4=>q H' _ (aB hFm) (λb hb=>?_) (by rw[hdone];exact g4) ?_⟩
   ·by_cases z:b=m
    ·subst z;by_cases z1:b=bl
     ·exact .inr (.inl (.inl z1))
     ·by_cases z2:b=x.1
      ·exact .inr (.inl (.inr (.inl (by rw[z2];exact hx))))
      ·right;right;rw[<-hH2,ah z2,ah z1] at hm;exact hm
    ·rw[ah z] at hb;exact .inl hb
   ·exact λb o hb no=>kp4 b o (by have:=kp2 b o hb no;rw[ah (hmo _ _ this)];exact this) λz=>no (z.elim .inl λz=>.inr (z.elim (λz=>.inl (List.mem_cons_of_mem _ z)) λz=>.inr (List.mem_cons_of_mem _ z)))
  ·have hS:f.isSet=false:=by
    cases f with
    |set b=>exact absurd (decide_eq_true rfl) z
    |_=>rfl
   have hdone:MA.done f s l= .bq f s l:=by unfold MA.done;rw[hS]
   have sF:aG F (upd (upd F x.2 (.lst us)) x.1 (.ins CW ex (rn (yx f) (.ref x.2) (.int ((N:Int) - MA.len f.yJ)) (.int ((N:Int) - MA.len s))))):=(aB k5).trans (aB (by rw[ah n12];exact k4));have g3:cy CG CW N (upd (upd F x.2 (.lst us)) x.1 (.ins CW ex (rn (yx f) (.ref x.2) (.int ((N:Int) - MA.len f.yJ)) (.int ((N:Int) - MA.len s))))) H2 g bl al (⟨h,r⟩::G):=by
    refine g2.y8 sF (λb o hb=>?_) (λb hb=>?_) ?_
    ·by_cases z1:b=x.1
     ·subst z1;rw[ag] at hb;rw[hx1'];exact hb
     ·rw[ah z1] at hb;by_cases z2:b=x.2
      ·subst z2;rw[ag] at hb;rw[hx2'];exact hb
      ·rw[ah z2] at hb;exact g2.sm _ _ hb
    ·have:F b=none/\b≠x.1/\b≠x.2:=by
      rcases hb with hb|hb
      ·exact⟨(g2.fs.ins hb).2,λz=>n1.1 (z▸hb),hG.fs.sep (List.mem_cons_of_mem _ hb) hx2⟩
      ·exact⟨(g2.fs.lst hb).2,Ne.symm (hG.fs.sep hx (List.mem_cons_of_mem _ hb)),λz=>n2.1 (z▸hb)⟩
     rw[ah this.2.1,ah this.2.2];exact this.1
    ·rw[ah (Ne.symm nb),ah (Ne.symm nb2)];exact g2.fb
   refine⟨_,rfl,g,dg2,_,rfl,hg2,gE ↑1,_,rfl,g,bl,al,⟨h,r⟩,G,N,_,.ref x.1,.bq f s l,rfl,g3,.bq ag (by rw[ah (Ne.symm n12),ag]) hS k6 ?_ (k3.same sF),hl,λH' g4 kp4=>q H' _ sF (λb hb=>?_) (by rw[hdone];exact g4) ?_⟩
   ·cases f <;> first|exact True.intro|rfl
   ·by_cases z1:b=x.1
    ·exact .inr (.inl (.inr (.inl (by rw[z1];exact hx))))
    ·rw[ah z1] at hb;by_cases z2:b=x.2
     ·exact .inr (.inl (.inr (.inr (by rw[z2];exact hx2))))
     ·rw[ah z2] at hb;exact .inl hb
   ·exact λb o hb no=>kp4 b o (kp2 b o hb no) λz=>no (z.elim .inl λz=>.inr (z.elim (λz=>.inl (List.mem_cons_of_mem _ z)) λz=>.inr (List.mem_cons_of_mem _ z)))
inductive M4(CG CW:Addr)(vs:List V)(H:Hp)(Q:VK)(E:XK):Prop
 |mk(g bl:Addr) (x:Addr×Addr) (fr:MA.Fr) (N:Nat) (F:Hp) (_:vs=[.ref g]) (_:cy CG CW N F H g bl [x] [fr]) (_:Q (.ref x.1) H)
theorem PZ:ax ["self"] ["self"] (aq (oj 6)):=↑3
theorem Q2(d:dj K CG "grown" "Growth.grown" (oj 6) ["self"])(TG_:Fw K CG):i8 P w K mg base 1 CG "grown" ["self"] (M4 CG CW):=d.ok λf fd F=>by
 refine F.ok PZ (by rintro vs H Q E ⟨g,bl,x,fr,N,F,rfl,_⟩;rfl) (λUJ A outer s H vs Q E hr hh=>?_);obtain⟨g,bl,x,fr,N,F,rfl,hG,q⟩:=hh;obtain⟨dg,hg⟩:=hG.hg;refine⟨_,ai (aC (bz aX (ay (pv 0) rfl) aw (λ_ _=>rfl))),?_⟩;exact rV rfl (rf hg TG_.cl TG_.nb fA ⟨bl,_,_,_,rfl,rfl,bf.of hG.hb,at_of (j:=0) rfl rfl,q⟩)
abbrev Uu(K:Frag)(mg:Str->Option Value)(C:Addr):Prop:=wx K mg "Growth" "Growth.__init__" (oj 0) C ["self"]
inductive MR(CG CW:Addr)(vs:List V)(H:Hp)(Q:VK)(E:XK):Prop
 |mk(p dx:Addr) (_:vs=[.ref p]) (_:H p=some (.ins CG dx [])) (_:∀H' bl a l dxa,H bl=none->H a=none->H l=none->bl≠l->H' p=some (.ins CG dx [("begun",.ref bl)])->H' bl=some (.lst [.ref a])->H' a=some (.ins CW dxa (rn (.str "@row") (.ref l) (.int 0) (.int 0)))->H' l=some (.lst [])->Fy p H H'->Q .bF H')
theorem Qg:ax ["self"] ["self"] (aq (oj 0)):=↑3
theorem OM(d:Uu K mg CG)(TG_:Fw K CG)(nT:vt P w K mg base 1 "Twig" CW ["self","form","first"] (Dl CW)):vt P w K mg base 3 "Growth" CG ["self"] (MR CG CW):=d.new λf fd F=>by
 refine F.ok Qg (by rintro vs H Q E ⟨p,dx,rfl,_⟩;rfl) (λUJ A outer s H vs Q E hr h=>?_);obtain⟨p,dx,rfl,h1,q⟩:=h;refine⟨_,ai (bE (pv 0) (bx (aa (eM nT hr (aa bN (aa aw ao))) ao)) rfl),?_⟩;refine λx dx' nx nd ne=>⟨x,dx',_,_,rfl,ag,λH1 l hl0 k1 k2 fr=>⟨rfl,(by show 1<=sizeLine;decide),λbl hbl=>?_⟩⟩
 have s1:=aG.made nx nd fr;have hl1:H l=none:=by
  have:=hl0;by_cases z:l=x
  ·rw[z,ag] at this;cases this
  ·rw[ah z] at this;by_cases z2:l=dx'
   ·rw[z2,ag] at this;cases this
   ·rw[ah z2] at this;exact this
 have hp1:=s1 _ _ h1;have npb:p≠bl:=au hp1 hbl;have nxb:x≠bl:=au k1 hbl;have nlb:l≠bl:=au k2 hbl;have npx:p≠x:=au h1 nx;have npl:p≠l:=au h1 hl1;refine⟨_,rfl,p,CG,dx,_,rfl,(by rw[ah npb];exact hp1),TG_.cl,TG_.nb,(by show 0<1000;decide),?_⟩;refine q _ bl x l dx' (s1.free hbl) nx hl1 (Ne.symm nlb) ag ?_ ?_ ?_ λb o hb hnp=>?_
 ·rw[ah (Ne.symm npb),ag]
 ·rw[ah (Ne.symm npx),ah nxb];exact k1
 ·rw[ah (Ne.symm npl),ah nlb];exact k2
 ·rw[ah hnp,ah (au (s1 _ _ hb) hbl)];exact s1 _ _ hb
section
open MA (nm VC)
structure jz(P:Program)(w:World)(K:Frag)(mg:Str->Option Value)(base:Heap)(k:Nat)(C:Addr)(m:Str)(ps:List Str)(sp:Sp):Prop where
 ex:∃(f:Addr)(fd:FuncData),Meth K C m f/\cn P w K mg base (iZ P w) k f fd ps sp/\Binds K fd ps []
def Gx(C:Addr)(m:Str)(sp:Sp)(R:L2.St->Addr->Hp->Prop)(ta:TE)(t:TA):TE:=λσ H Q=>ta σ H λx H1=>Rx C m (λH1=>t σ H1 λvs H2=>sp (x::vs) H2 Q (ER R σ)) x H1
theorem dj.vH{P:Program}{w:World}{K:Frag}{mg:Str->Option Value}{base:Heap}{m qual:Str}{st:Stmt}{k:Nat}{sp:Sp}(d:dj K C m qual st ps)(h:∀f fd,jC K m qual st f fd->cn P w K mg base (iZ P w) k f fd ps sp):jz P w K mg base k C m ps sp:=by obtain⟨f,fd,M,F,b⟩:=d.ex;exact⟨f,fd,M,h f fd F,b⟩
section
variable{X:Cx}{k:Nat}{C:Addr}{m:Str}{ps:List Str}{sp:Sp}{o e:Expr}{es:List Expr}{ta:TE}{t:TA}{apos pos:Pos}{pl:Sem Bool}{R:L2.St->Addr->Hp->Prop}
theorem z_{UI:List (Addr×Obj)}{σ:L2.St}{H1 H2:Hp}{s2:Shared}{Q:VK}{a f:Addr}{us:List Value}{vs:List V}(F:cn X.prog X.w X.K X.mg X.base (iZ X.prog X.w) k f fd ps sp)(hb:Binds X.K fd ps [])(hr:bC k X.A)(I2:Inv (xw X R) UI σ H2 s2)(r:Vals vs us)(q:sp (.ref a::vs) H2 Q (ER R σ)):
  wpAny (model X.prog X.w) X.A (call (.ref f) (.ref a::us)) (EP (xw X R) UI σ Q) (MC X R) s2:=by
 have r':Vals (V.ref a::vs) (Value.ref a::us):=.cons rfl r;have hl:(Value.ref a::us++[]).length=ps.length:=by rw[List.append_nil,<-r'.length];exact F.len _ _ _ _ q
 have hb':=hb s2 (.ref a::us) I2.dZ hl;rw[List.append_nil] at hb';refine wpAny_call (codeAny_mono (F.run X.A X.stack s2 H2 ⟨.ref a::us,[]⟩ (.ref a::us) (.ref a::vs) Q (ER R σ) hr I2.EB hb' r' q) λr s' hq=>?_);cases r with
 |error v=>exact wg I2.dM hq λe H' ⟨e',z,y⟩=>by cases z;exact y
 |ok fl=>
  cases fl with
  |ret u=>exact I2.after hq
  |next=>exact False.elim hq
  |brk=>exact False.elim hq
  |cont=>exact False.elim hq
theorem DH(h:jz X.prog X.w X.K X.mg X.base k C m ps sp)(c:sL X.K C)(hr:bC k X.A)(he:PE (xw X R) o ta)(ha:PA (xw X R) (e::es) t)(hst:starEach (e::es) X.env=(false,eval e X.env)::starEach es X.env:=by rfl)(hpl:(backTo pos (starEach es X.env)).any (·.1)=false:=by rfl)(ht:eval (.Call (.Attribute o m apos) (e::es) [] pos) X.env=(do
   let ov<-eval o X.env
   standAt apos.atName
   let(f,first)<-holding [ov] (getMethod ov m pl)
   callWith pos f first (backTo pos (starEach (e::es) X.env)) (backToKw pos (keywordEach [] X.env))):=by rfl):PE (xw X R) (.Call (.Attribute o m apos) (e::es) [] pos) (Gx C m sp R ta t):=by
 intro UI s σ H Q I hh;obtain⟨f,fd,M,F,hb⟩:=h.ex;refine PySem.W.methodCall_KW (pl:=pl) (br (he UI s σ H _ I hh) λu s1 ⟨x,H1,I1,rx,a,dx,fs,ex,ea,l,q⟩=>?_) ht;subst ex;obtain rfl:u=Value.ref a:=rx;refine gC I1 ea c M l ?_;refine PySem.W.callWith_K (first:=[.ref a]) (h₀:=X.base) I.ok.mod.EJ M.kp (br (ha pos UI s1 σ H1 _ I1 q) λus s2 ⟨vs,H2,I2,r,q2⟩=>⟨I2.dZ,?_⟩) hst hpl;exact z_ (H1:=H1) F hb hr I2 r q2
theorem zE(h:jz X.prog X.w X.K X.mg X.base k C m ps sp)(c:sL X.K C)(hr:bC k X.A)(he:PE (xw X R) o ta)(ht:eval (.Call (.Attribute o m apos) [] [] pos) X.env=(do
   let ov<-eval o X.env
   standAt apos.atName
   let(f,first)<-holding [ov] (getMethod ov m pl)
   callWith pos f first (backTo pos (starEach [] X.env)) (backToKw pos (keywordEach [] X.env))):=by rfl):PE (xw X R) (.Call (.Attribute o m apos) [] [] pos) (Gx C m sp R ta d4):=by
 intro UI s σ H Q I hh;obtain⟨f,fd,M,F,hb⟩:=h.ex;refine PySem.W.methodCall_KW (pl:=pl) (br (he UI s σ H _ I hh) λu s1 ⟨x,H1,I1,rx,a,dx,fs,ex,ea,l,q⟩=>?_) ht;subst ex;obtain rfl:u=Value.ref a:=rx;refine gC I1 ea c M l ?_;exact PySem.W.callWith_K0 (first:=[.ref a]) I1.dZ M.kp (z_ (us:=[]) (H1:=H1) F hb hr I1 .nil q)
end
def Fz(t sc n d c g:V):List (Str×V):=[("text",t),("scanned",sc),("passed",n),("rows",d),("coming",c),("growth",g)]
section
variable{t sc n d c g v:V}
theorem y':(Fz t sc n d c g).lookup ("text":Str)=some t:=fT
theorem bT:(Fz t sc n d c g).lookup ("scanned":Str)=some sc:=(aO ↑1).trans fT
theorem cV:(Fz t sc n d c g).lookup ("passed":Str)=some n:=(aO ↑1).trans ((aO ↑1).trans fT)
theorem lu:(Fz t sc n d c g).lookup ("rows":Str)=some d:=(aO ↑1).trans ((aO ↑1).trans ((aO ↑1).trans fT))
theorem gD:(Fz t sc n d c g).lookup ("coming":Str)=some c:=(aO ↑1).trans ((aO ↑1).trans ((aO ↑1).trans ((aO ↑1).trans fT)))
theorem dr:(Fz t sc n d c g).lookup ("growth":Str)=some g:=(aO ↑1).trans ((aO ↑1).trans ((aO ↑1).trans ((aO ↑1).trans ((aO ↑1).trans fT))))
theorem Aj:aW "passed" v (Fz t sc n d c g)=Fz t sc v d c g:=(aV ↑1).trans (congrArg _ ((aV ↑1).trans (congrArg _ xu)))
theorem Ko:aW "growth" g (aW "coming" c (aW "rows" d (aW "passed" n (aW "scanned" sc (aW "text" t [])))))=Fz t sc n d c g:=by have h1:aW "scanned" sc (aW "text" t [])=[(("text":Str),t),(("scanned":Str),sc)]:=(aV ↑1).trans rfl;have h2:aW "passed" n [(("text":Str),t),(("scanned":Str),sc)]=[(("text":Str),t),(("scanned":Str),sc),(("passed":Str),n)]:=(aV ↑1).trans (congrArg _ ((aV ↑1).trans rfl));have h3:aW "rows" d [(("text":Str),t),(("scanned":Str),sc),(("passed":Str),n)]=[(("text":Str),t),(("scanned":Str),sc),(("passed":Str),n),(("rows":Str),d)]:=(aV ↑1).trans (congrArg _ ((aV ↑1).trans (congrArg _ ((aV ↑1).trans rfl))));have h4:aW "coming" c [(("text":Str),t),(("scanned":Str),sc),(("passed":Str),n),(("rows":Str),d)]=[(("text":Str),t),(("scanned":Str),sc),(("passed":Str),n),(("rows":Str),d),(("coming":Str),c)]:=(aV ↑1).trans (congrArg _ ((aV ↑1).trans (congrArg _ ((aV ↑1).trans (congrArg _ ((aV ↑1).trans rfl))))));rw[h1,h2,h3,h4];exact(aV ↑1).trans (congrArg _ ((aV ↑1).trans (congrArg _ ((aV ↑1).trans (congrArg _ ((aV ↑1).trans (congrArg _ ((aV ↑1).trans rfl))))))))
end
structure Jw(K:Frag)(C:Addr):Prop where
 cl:sL K C
 nt:aE K C "text"
 ns:aE K C "scanned"
 np:aE K C "passed"
 nr:aE K C "rows"
 nc:aE K C "coming"
 ng:aE K C "growth"
structure Cs where
 CR:Addr
 CG:Addr
 CW:Addr
 CS:Addr
 CT:Addr
 CF:Addr
structure Env(K:Frag)(c:Cs)(F:Hp)(b:By)(ta sa d:Addr):Prop where
 tx:bf K F ta (iv b)
 sc:jf c.CS c.CT F sa (Tn 0 b).1 (Tn 0 b).2
 rw:rj K F d
 bl:b.length<=65536
abbrev nT(b:By):Nat:=(Tn 0 b).1.length
abbrev eF(b:By):Bool:=(Tn 0 b).2.isSome
abbrev zF(b:By):EwTree.Fault:=(Tn 0 b).2.getD (3,b.length)
structure Rd(K:Frag)(c:Cs)(b:By)(F H:Hp)(R dx ta sa d cl g bl:Addr)(al:List (Addr×Addr))(vs:List V)(n:Int)(Ks:List MA.Sym)(G:List MA.Fr):Prop where
 hR:H R=some (.ins c.CR dx (Fz (.ref ta) (.ref sa) (.int n) (.ref d) (.ref cl) (.ref g)))
 hc:H cl=some (.lst vs.reverse)
 sy:Paired (uc K) vs Ks
 gr:cy c.CG c.CW (nT b) F H g bl al G
 ev:Env K c F b ta sa d
 fR:F R=none
 fc:F cl=none
 oR:¬Own bl al R
 oc:¬Own bl al cl
 rg:R≠g
def Lo(b:By)(s:EwTree.St):Prop:=MA.len s<=nT b/\s.toks=(Tn 0 b).1.drop (nT b - MA.len s)
inductive kj(K:Frag)(c:Cs)(b:By)(F H:Hp)(R:Addr)(Ks:List MA.Sym)(s:EwTree.St)(G:List MA.Fr):Prop
 |mk(_:Lo b s) (dx:_) (ta:_) (sa:_) (d:_) (cl:_) (g:_) (bl:_) (al:_) (vs:_) (_:Rd K c b F H R dx ta sa d cl g bl al vs ((nT b:Int) - MA.len s) Ks G)
theorem Env.same{K:Frag}{c:Cs}{F F':Hp}{b:By}{ta sa d:Addr}(s:aG F F')(h:Env K c F b ta sa d):Env K c F' b ta sa d:=⟨s.seq h.tx,h.sc.same s,h.rw.same s,h.bl⟩
section
variable{K:Frag}{c:Cs}{b:By}{F F' H H':Hp}{R dx ta sa d cl g bl:Addr}{al al':List (Addr×Addr)}{vs:List V}{n:Int}{Ks:List MA.Sym}{G G':List MA.Fr}
theorem Rd.grown(h:Rd K c b F H R dx ta sa d cl g bl al vs n Ks G)(hg:cy c.CG c.CW (nT b) F' H' g bl al' G')(k:Kept bl al H H')(s:aG F F')(k1:∀x,F' x≠none->F x≠none\/Own bl al x\/H x=none)(k2:∀x,Own bl al' x->Own bl al x\/H x=none):Rd K c b F' H' R dx ta sa d cl g bl al' vs n Ks G':=by
 have fre:∀x o,H x=some o->F x=none->¬Own bl al x->F' x=none:=λx o hx hF hO=>by
  cases e:F' x with
  |none=>rfl
  |some u=>exact absurd (k1 x (by rw[e];intro z;cases z)) (by rintro(z|z|z);exact z hF;exact hO z;rw[hx] at z;cases z)
 have own:∀x o,H x=some o->¬Own bl al x->¬Own bl al' x:=λx o hx hO z=>(k2 x z).elim hO λy=>by rw[hx] at y;cases y
 exact⟨k _ _ h.hR h.oR,k _ _ h.hc h.oc,h.sy,hg,h.ev.same s,fre _ _ h.hR h.fR h.oR,fre _ _ h.hc h.fc h.oc,own _ _ h.hR h.oR,own _ _ h.hc h.oc,h.rg⟩
theorem lg:∀x,Own bl al x->Own bl al x\/H x=none:=λ_ z=>.inl z
theorem Rd.self(h:Rd K c b F H R dx ta sa d cl g bl al vs n Ks G):∀x,F x≠none->F x≠none\/Own bl al x\/H x=none:=λ_ z=>.inl z
theorem Rd.cR(h:Rd K c b F H R dx ta sa d cl g bl al vs n Ks G):cl≠R:=dv h.hc h.hR (by intro z;cases z)
theorem Rd.cg(h:Rd K c b F H R dx ta sa d cl g bl al vs n Ks G):cl≠g:=by obtain⟨dg,e⟩:=h.gr.hg;exact dv h.hc e (by intro z;cases z)
theorem Rd.Pp(h:Rd K c b F H R dx ta sa d cl g bl al vs n Ks G){ws:List V}{Ks':List MA.Sym}(hp:Paired (uc K) ws Ks'):Rd K c b F (upd H cl (.lst ws.reverse)) R dx ta sa d cl g bl al ws n Ks' G:=
 ⟨by rw[ah (Ne.symm h.cR)];exact h.hR,ag,hp,h.gr.kept λx o e ho=>by
   rw[ah]
   ·exact e
   ·rintro rfl;rcases ho with z|z|z
    ·exact h.oc z
    ·exact h.cg z
    ·exact z h.fc,h.ev,h.fR,h.fc,h.oR,h.oc,h.rg⟩
theorem Rd.pass(h:Rd K c b F H R dx ta sa d cl g bl al vs n Ks G){m:Int}{dx':Addr}:Rd K c b F (upd H R (.ins c.CR dx' (Fz (.ref ta) (.ref sa) (.int m) (.ref d) (.ref cl) (.ref g)))) R dx' ta sa d cl g bl al vs m Ks G:=
 ⟨ag,by rw[ah h.cR];exact h.hc,h.sy,h.gr.kept λx o e ho=>by
   rw[ah]
   ·exact e
   ·rintro rfl;rcases ho with z|z|z
    ·exact h.oR z
    ·exact h.rg z
    ·exact z h.fR,h.ev,h.fR,h.fc,h.oR,h.oc,h.rg⟩
end
section
variable{K:Frag}{c:Cs}{b:By}{F F' H H':Hp}{R dx ta sa d cl g bl m:Addr}{o:HO}{al al':List (Addr×Addr)}{vs:List V}{n:Int}{Ks:List MA.Sym}{G G':List MA.Fr}
theorem cy.add{N:Nat}(h:cy CG CW N F H g bl al G)(s:aG H H')(hm:H m=none)(hm2:H' m=some o):cy CG CW N (upd F m o) H' g bl al G:=by
 have hFm:=h.sm.free hm;refine(h.kept λb o e _=>s _ _ e).y8 (aB hFm) (λb u hb=>?_) (λb hb=>?_) ?_
 ·by_cases z:b=m
  ·subst z;rw[ag] at hb;exact hm2.trans hb
  ·rw[ah z] at hb;exact s _ _ (h.sm _ _ hb)
 ·have:F b=none/\b≠m:=by
   rcases hb with hb|hb
   ·obtain⟨⟨_,_,e⟩,e2⟩:=h.fs.ins hb;exact⟨e2,au e hm⟩
   ·obtain⟨⟨_,e⟩,e2⟩:=h.fs.lst hb;exact⟨e2,au e hm⟩
  rw[ah this.2];exact this.1
 ·rw[ah (au h.hb hm)];exact h.fb
theorem Rd.more(h:Rd K c b F H R dx ta sa d cl g bl al vs n Ks G)(s:aG H H'):Rd K c b F H' R dx ta sa d cl g bl al vs n Ks G:=
 h.grown (h.gr.kept λb o e _=>s _ _ e) (λb o e _=>s _ _ e) (aG.refl F) (λ_ z=>.inl z) λ_ z=>.inl z
theorem Rd.add(h:Rd K c b F H R dx ta sa d cl g bl al vs n Ks G)(s:aG H H')(hm:H m=none)(hm2:H' m=some o):Rd K c b (upd F m o) H' R dx ta sa d cl g bl al vs n Ks G:=
 h.grown (h.gr.add s hm hm2) (λb o e _=>s _ _ e) (aB (h.gr.sm.free hm)) (λx z=>by
  by_cases y:x=m
  ·rw[y];exact .inr (.inr hm)
  ·rw[ah y] at z;exact .inl z) λ_ z=>.inl z
end
section
variable{c:Cs}{b:By}
abbrev jK(i:Nat):Stmt:=inClass (top 90) i
inductive MY(K:Frag)(c:Cs)(b:By)(vs:List V)(H:Hp)(Q:VK)(E:XK):Prop
 |mk(R:Addr) (F:Hp) (Ks:List MA.Sym) (s:EwTree.St) (G:List MA.Fr) (_:vs=[.ref R]) (_:kj K c b F H R Ks s G) (_:Q (.str (nm (MA.lk (eF b) s))) H)
theorem R0:ax ["self"] ["self"] (aq (jK 1)):=↑3
theorem drop_cons{α:Type}{l r:List α}{i:Nat}{t:α}(h:l.drop i=t::r):l[i]?=some t/\l.drop (i+1)=r/\i<l.length:=by
 have h1:(l.drop i)[0]?=some t:=by rw[h];rfl
 rw[List.getElem?_drop,Nat.add_zero] at h1;refine⟨h1,?_,(List.getElem?_eq_some_iff.mp h1).1⟩;rw[<-List.drop_drop,h];rfl
theorem Iv:nm 204=Str.ofString "END"/\nm 205=Str.ofString "FAULT":=↑1
theorem vY{K:Frag}{c:Cs}{b:By}{F:Hp}{sa:Addr}{s:EwTree.St}{t:EwTree.Tok}{r:List EwTree.Tok}(h:jf c.CS c.CT F sa (Tn 0 b).1 (Tn 0 b).2)(sm:aG F H)(hs:Lo b s)(e:s.toks=t::r):
  ∃(dx l:Addr)(fa:V)(rs:List Addr)(x:Addr),H sa=some (.ins c.CS dx (sf (.ref l) fa))/\H l=some (.lst (rs.map V.ref))/\rs.length=nT b/\(rs.map V.ref)[nT b - MA.len s]?=some (.ref x)/\nT b - MA.len s<nT b/\eE c.CT F x t/\Good t/\MA.OA b t/\1<=MA.len s:=by
 obtain⟨dx,l,fa,rs,h1,h2,h3,h4⟩:=h;have hd:=hs.2;rw[e] at hd;obtain⟨d1,d2,d3⟩:=drop_cons hd.symm;obtain⟨x,hx,hT⟩:∃x,rs[nT b - MA.len s]?=some x/\eE c.CT F x t:=by
  have hl:rs.length=(Tn 0 b).1.length:=Paired.length h3;have hlt:nT b - MA.len s<rs.length:=by rw[hl];exact d3
  obtain⟨u,hu,hT⟩:=jr h3 (List.getElem?_eq_getElem hlt);rw[d1] at hu;cases hu;exact⟨_,List.getElem?_eq_getElem hlt,hT⟩
 have hm:=List.mem_of_getElem? d1;refine⟨dx,l,fa,rs,x,sm _ _ h1,sm _ _ h2,Paired.length h3,by rw[List.getElem?_map,hx];rfl,d3,hT,qH b.length 0 b (Nat.le_refl _) t hm,MA.Td b t hm,?_⟩;unfold MA.len;rw[e];exact Nat.succ_pos _
theorem RC(d:dj K c.CR "ahead" "Reader.ahead" (jK 1) ["self"])(TR:Jw K c.CR)(TS:w6 K c.CS)(TT:yf K c.CT)(ln:mg "len"=none):i8 P w K mg base 1 c.CR "ahead" ["self"] (MY K c b):=d.ok λf fd F=>by
 refine F.ok R0 (by rintro vs H Q E ⟨R,F,Ks,s,G,rfl,_⟩;rfl) (λUJ A outer s H vs Q E hr h=>?_);obtain⟨R,F,Ks,s,G,rfl,⟨hs,dx,ta,sa,d,cl,g,bl,al,vs,hD⟩,q⟩:=h;refine⟨_,aj (aR (aD oP (ay (pv 0) rfl) (bB ln (ay (ay (pv 0) rfl) rfl)) (aJ _)) (ai (aC (ay (bz aX (ay (ay (pv 0) rfl) rfl) (ay (pv 0) rfl) (λ_ _=>rfl)) rfl))) aL)
  (aj (aR (aD Ig (ay (ay (pv 0) rfl) rfl) A2 (aJ _)) (ai (aC bN)) aL) (ai (aC bN))),?_⟩
 have sm:=hD.gr.sm;obtain⟨sx,sl,fa,rs,a1,a2,a3,a4⟩:=id hD.ev.sc;have a1':=sm _ _ a1;have a2':=sm _ _ a2;have hrl:rs.length=nT b:=Paired.length a3;have hle:=hs.1;refine rV rfl (rf hD.hR TR.cl TR.np cV (rV rfl (rf hD.hR TR.cl TR.ns bT (rf a1' TS.cl TS.nf (fZ _ _) ⟨sl,_,rfl,.inl (bf.of a2'),_,_,rfl,rfl,_,rfl,aT (λz=>?_) λz=>?_⟩))))
 ·have z:=of_decide_eq_true z;rw[List.length_map,hrl] at z;have hl0:0<MA.len s:=↑2
  obtain⟨t,r,e⟩:∃t r,s.toks=t::r:=by
   unfold MA.len at hl0;cases e:s.toks with
   |nil=>rw[e] at hl0;exact absurd hl0 ↑0
   |cons t r=>exact⟨t,r,rfl⟩
  obtain⟨dx2,l2,fa2,rs2,x,b1,b2,b3,b4,b5,b6,b7,b8,b9⟩:=vY (K:=K) hD.ev.sc sm hs e;rw[a1'] at b1;cases b1;rw[a2'] at b2;have b2:(rs.map V.ref)=rs2.map V.ref:=by injection b2 with b2;injection b2
  obtain⟨dt,hT⟩:=b6;have hlk:MA.lk (eF b) s=MA.lV t:=by unfold MA.lk;rw[e]
  refine rV rfl (rf hD.hR TR.cl TR.ns bT (rf a1' TS.cl TS.nf (fZ _ _) (rV rfl (rf hD.hR TR.cl TR.np cV ⟨sl,_,_,_,rfl,rfl,bf.of a2',at_of (j:=nT b - MA.len s) ↑2 (by rw[b2];exact b4),rf (sm _ _ hT) TT.cl TT.nl (DK _ _ _ _) ?_⟩))));rw[hlk,(MA.Gm b7).2] at q;exact q
 ·have z:¬_:=λy=>z (decide_eq_true y);rw[List.length_map,hrl] at z;have hl0:MA.len s=0:=↑2
  have e:s.toks=[]:=List.eq_nil_of_length_eq_zero hl0;refine rV rfl (rf hD.hR TR.cl TR.ns bT (rf a1' TS.cl TS.na (kE _ _) ⟨rfl,_,rfl,?_⟩));have hlk:MA.lk (eF b) s=if(Tn 0 b).2.isSome=true then 205 else 204:=by unfold MA.lk;rw[e]
  rw[hlk] at q;generalize hfl:(Tn 0 b).2=fl at a4 q;cases fl with
  |none=>
   have a4:fa= .bF:=a4;subst a4;rw[decide_eq_true rfl];exact fV (by rw[if_neg ↑0,Iv.1] at q;exact q)
  |some y=>
   obtain⟨rr,qq⟩:=y;obtain⟨t,e1,e2⟩:=a4;subst e1;rw[decide_eq_false (by intro z;cases z)];exact dQ (by rw[if_pos (show(some (rr,qq)).isSome=true from rfl),Iv.2] at q;exact q)
end
theorem Nz(t:EwTree.Tok):MA.lf t=if Fx t=[] then[] else[.leaf (Fx t)]:=by
 unfold MA.lf Fx;split
 ·rfl
 ·split <;> rfl
section
variable{c:Cs}{b:By}
inductive N6(K:Frag)(c:Cs)(b:By)(vs:List V)(H:Hp)(Q:VK)(E:XK):Prop
 |mk(R:Addr) (F:Hp) (Ks:List MA.Sym) (p:Nat) (t:EwTree.Tok) (r:List EwTree.Tok) (f:MA.Fm) (l:List MA.Pt) (G:List MA.Fr) (_:vs=[.ref R]) (_:kj K c b F H R Ks ⟨p,t::r⟩ (⟨f,l⟩::G)) (_:l.length<16000000) (_:∀H' F',aG F F'->kj K c b F' H' R Ks ⟨t.halt_,r⟩ (⟨f,l++MA.lf t⟩::G)->Q .bF H')
theorem LU:ax ["self","leaf"] ["self"] (aq (jK 6)):=↑3
theorem Rm(d:dj K c.CR "pass_token" "Reader.pass_token" (jK 6) ["self"])(TR:Jw K c.CR)(TS:w6 K c.CS)(TT:yf K c.CT)(TG_:Fw K c.CG)(ol:Ok P w K mg base bh 2 "leaf_bytes" ["text","token"] (Rg K c.CT))(op:i8 P w K mg base 1 c.CG "put" ["self","part"] (G8 c.CG c.CW)):i8 P w K mg base 3 c.CR "pass_token" ["self"] (N6 K c b):=d.ok λf fd F=>by
 refine F.ok LU (by rintro vs H Q E ⟨R,F,Ks,p,t,r,f,l,G,rfl,_⟩;rfl) (λUJ A outer s H vs Q E hr h=>?_);obtain⟨R,F,Ks,p,t,r,f,l,G,rfl,⟨hs,dx,ta,sa,d,cl,g,bl,al,vs,hD⟩,hl,q⟩:=h;refine⟨_,aj (aN (i:=1) LU.nd rfl (Or.inl rfl) (aM ol hr (aa (ay (pv 0) rfl) (aa (bz aX (ay (ay (pv 0) rfl) rfl) (ay (pv 0) rfl) (λ_ _=>rfl)) ao))))
  (aj (aR (aD (IA hr.units) (pv 1) (bx ao) (aJ _)) (ai (aS (iE op TG_.cl (hr.mono ↑0) (ay (pv 0) rfl) (aa (pv 1) ao)))) aL)
  (ai (E' (pv 0) aw Of))),?_⟩
 have sm:=hD.gr.sm;obtain⟨sx,sl,fa,rs,x,b1,b2,b3,b4,b5,b6,b7,b8,b9⟩:=vY (K:=K) hD.ev.sc sm hs rfl;obtain⟨dt,hT⟩:=b6;refine⟨_,rfl,R,c.CR,dx,_,_,rfl,hD.hR,TR.cl,TR.nt,y',_,rfl,R,c.CR,dx,_,_,rfl,hD.hR,TR.cl,TR.ns,bT,sa,c.CS,sx,_,_,rfl,b1,TS.cl,TS.nf,fZ _ _,_,rfl,R,c.CR,dx,_,_,rfl,hD.hR,TR.cl,TR.np,cV,sl,_,_,_,rfl,rfl,bf.of b2,at_of (j:=nT b - MA.len ⟨p,t::r⟩) (by have:=hs.1;omega) b4,ta,x,b,t,rfl,sm.seq hD.ev.tx,⟨dt,sm _ _ hT⟩,b7,b8,λH1 m s1 hm h1=>?_⟩;have hsz:sizeLine=16777216:=sizeLine_eq;refine⟨_,rfl,Nat.zero_le _,λe he=>?_⟩;have s2:=s1.trans (aB (o:=.lst []) he);have h1':(upd H1 e (.lst [])) m=some (.lst (iv (Fx t))):=by rw[ah (au h1 he)];exact h1
 have hl2:MA.len ⟨p,t::r⟩=MA.len ⟨t.halt_,r⟩+1:=rfl;have hs':Lo b ⟨t.halt_,r⟩:=by
  have a:=hs.1;have a2:=hs.2;rw[hl2] at a a2;obtain⟨d1,d2,d3⟩:=drop_cons a2.symm;refine⟨↑2,?_⟩;have hi:nT b - (MA.len ⟨t.halt_,r⟩+1)+1=nT b - MA.len ⟨t.halt_,r⟩:=↑2
  rw[hi] at d2;exact d2.symm
 have fin:∀(H3 F':Hp)(G3:List MA.Fr)(al3:List (Addr×Addr)),aG F F'->Rd K c b F' H3 R dx ta sa d cl g bl al3 vs ((nT b:Int) - MA.len ⟨p,t::r⟩) Ks G3->G3=(⟨f,l++MA.lf t⟩::G)->Dk K (dc 0) (tC (.int 1)) QW "passed" {nx:=λ_ H'=>Q .bF H',rt:=Q} [some (.ref R),some (.ref m)] H3:=by
  intro H3 F' G3 al3 sF hD3 eG;subst eG;refine⟨_,rfl,R,c.CR,dx,_,_,rfl,hD3.hR,TR.cl,TR.np,cV,_,_,rfl,rfl,dx,_,hD3.hR,(by show 6<1000;decide),?_⟩;rw[Aj];refine q _ F' sF ⟨hs',dx,ta,sa,d,cl,g,bl,al3,vs,?_⟩;have:=hD3.pass (m:=(nT b:Int) - MA.len ⟨p,t::r⟩+1) (dx':=dx);rw[show(nT b:Int) - MA.len ⟨t.halt_,r⟩=(nT b:Int) - MA.len ⟨p,t::r⟩+1 by rw[hl2];omega];exact this
 refine⟨m,e,_,[],rfl,rfl,(by rw[<-el];exact bf.of h1'),bf.of ag,_,rfl,aT (λz=>?_) λz=>?_⟩
 ·have hne:Fx t≠[]:=λy=>by rw[y] at z;exact absurd z ↑0
  have hD2:=hD.add s2 hm h1';obtain⟨dg,hg⟩:=hD2.gr.hg;refine⟨_,rfl,R,c.CR,dx,_,_,rfl,hD2.hR,TR.cl,TR.ng,dr,g,dg,_,rfl,hg,gE ↑1,_,rfl,g,bl,al,⟨f,l⟩,G,nT b,_,.ref m,.leaf (Fx t),rfl,hD2.gr,.leaf ag,hl,λH' g4 kp4=>?_⟩;refine fin H' _ _ al (aB (sm.free hm)) (hD2.grown g4 kp4 (aG.refl _) hD2.self lg) ?_;rw[Nz,if_neg hne]
 ·have heq:Fx t=[]:=by
   cases hx:Fx t with
   |nil=>rfl
   |cons a r=>rw[hx] at z;exact absurd rfl z
  refine fin _ F _ al (aG.refl F) (hD.more s2) ?_;rw[Nz,if_pos heq,List.append_nil]
end
end
end TG
namespace L2
open PySem PySem.Spec PyProof.Rows
theorem yS(z:Str):∀xs:List Str,Dn (.str z) (xs.map V.str)=decide (z∈xs)
 |[]=>by simp[Dn]
 |y::xs=>by
  have ih:=yS z xs;unfold Dn at ih ⊢;rw[List.map_cons,List.any_cons,ih];have:En (.str y) (.str z)=decide (z=y):=by
   show(y==z)=_;by_cases h:z=y
   ·subst h;simp
   ·rw[decide_eq_false h];simpa using Ne.symm h
  rw[this];by_cases h:z=y
  ·subst h;simp
  ·rw[decide_eq_false h];simp[h]
theorem zd:∀{xs:List Str}{us:List Value},Vals (xs.map V.str) us->∀u∈us,∃z t,u= .str z t
 |[],_,.nil,_,h=>by cases h
 |x::xs,_,.cons r q,u,h=>by
  rcases List.mem_cons.mp h with rfl|h
  ·obtain⟨t,e⟩:=(show ∃t,_=Value.str x t from r);exact⟨x,t,e⟩
  ·exact zd q u h
theorem vv:∀xs:List Str,(xs.map V.str).all iw=true
 |[]=>rfl
 |_::xs=>by rw[List.map_cons,List.all_cons,vv xs];rfl
inductive NF(K:Frag)(x y:V)(H:Hp)(Q:VK):Prop
 |mk(p:Addr) (xs:List Str) (_:y= .ref p) (_:fE K H p (xs.map V.str)) (_:(∃z,x= .str z/\Q (.bl (decide (z∈xs))) H)\/∃a us,x= .ref a/\fE K H a us/\Q (.bl false) H)
theorem Ba{X:Cx}(hu:X.A.units+64<cLine):i' X (compareOp .In) (NF X.K):=by
 intro UI s σ H x y v u Q I rx ry h;obtain⟨p,xs,rfl,hq,h⟩:=h;rcases h with⟨z,rfl,q⟩|⟨a,us,rfl,ha,q⟩
 ·exact e_ (X:=X) UI s σ H _ _ v u Q I rx ry ⟨p,_,rfl,.inr hq,rfl,vv xs,by rw[if_neg ↑0,yS];exact q⟩
 ·cases ry;cases rx;obtain⟨its,r,pl,hz⟩:=I.tuple hq;obtain⟨its2,r2,pl2,hz2⟩:=I.tuple ha;refine SeqAt.in_tupleAt (λ_=>false) pl (λw hw=>?_) ⟨.bl false,H,I,?_,q⟩
  ·obtain⟨z,t,rfl⟩:=zd r w (by simpa using hw);exact SeqAt.EqAt.str_tuple z t pl2 (by show X.A.units+1<cLine;omega)
  ·show Value.bool _=Value.bool false;simp
end L2
namespace TG
open PySem PySem.Spec PyProof.Rows L2 TW
variable{P:Program}{w:World}{K:Frag}{mg:Str->Option Value}{base:Heap}
section
open MA (nm VC)
section
variable{c:Cs}{b:By}
inductive OU(K:Frag)(c:Cs)(b:By)(vs:List V)(H:Hp)(Q:VK)(E:XK):Prop
 |mk(R:Addr) (F:Hp) (Ks:List MA.Sym) (s:EwTree.St) (G:List MA.Fr) (_:vs=[.ref R]) (_:kj K c b F H R Ks s G) (_:∀H' x,aG H H'->lY c.CF H' x (EwTree.bad (zF b) s).1 (EwTree.bad (zF b) s).2->E (.ref x) none H')
theorem RP:ax ["self"] ["self"] (aq (jK 7)):=↑3
theorem Rv(d:dj K c.CR "refuse" "Reader.refuse" (jK 7) ["self"])(TR:Jw K c.CR)(TS:w6 K c.CS)(TT:yf K c.CT)(nF:wc P w K mg base c.CF)(ln:mg "len"=none):jz P w K mg base 4 c.CR "refuse" ["self"] (OU K c b):=d.vH λf fd F=>by
 refine F.vH RP (by rintro vs H Q E ⟨R,F,Ks,s,G,rfl,_⟩;rfl) (λUJ A outer s H vs Q E hr h=>?_);obtain⟨R,F,Ks,s,G,rfl,⟨hs,dx,ta,sa,d,cl,g,bl,al,vs,hD⟩,q⟩:=h;obtain⟨fX,fdX,M,_⟩:=id nF.ex;refine⟨_,aj (aR (aD oP (ay (pv 0) rfl) (bB ln (ay (ay (pv 0) rfl) rfl)) (aJ _)) (ai (cj hr.hd (iz nF hr (aa aw (aa (ay (bz aX (ay (ay (pv 0) rfl) rfl) (ay (pv 0) rfl) (λ_ _=>rfl)) rfl) ao))))) aL)
  (aj (aR (aD Ig (ay (ay (pv 0) rfl) rfl) A2 (aJ _)) (ai (cj hr.hd (iz nF hr (aa aw (aa (bB ln (ay (pv 0) rfl)) ao))))) aL)
  (ai (cj hr.hd (iz nF hr (aa (bz yc (ay (ay (pv 0) rfl) rfl) aw (λ_ _=>rfl)) (aa (bz yc (ay (ay (pv 0) rfl) rfl) aw (λ_ _=>rfl)) ao)))))),?_⟩
 have sm:=hD.gr.sm;obtain⟨sx,sl,fa,rs,a1,a2,a3,a4⟩:=id hD.ev.sc;have a1':=sm _ _ a1;have a2':=sm _ _ a2;have hrl:rs.length=nT b:=Paired.length a3;have hle:=hs.1;refine rV rfl (rf hD.hR TR.cl TR.np cV (rV rfl (rf hD.hR TR.cl TR.ns bT (rf a1' TS.cl TS.nf (fZ _ _) ⟨sl,_,rfl,.inl (bf.of a2'),_,_,rfl,rfl,_,rfl,aT (λz=>?_) λz=>?_⟩))))
 ·have z:=of_decide_eq_true z;rw[List.length_map,hrl] at z;have hl0:0<MA.len s:=↑2
  obtain⟨t,r,e⟩:∃t r,s.toks=t::r:=by
   unfold MA.len at hl0;cases e:s.toks with
   |nil=>rw[e] at hl0;exact absurd hl0 ↑0
   |cons t r=>exact⟨t,r,rfl⟩
  obtain⟨dx2,l2,fa2,rs2,x,b1,b2,b3,b4,b5,b6,b7,b8,b9⟩:=vY (K:=K) hD.ev.sc sm hs e;rw[a1'] at b1;cases b1;rw[a2'] at b2;have b2:(rs.map V.ref)=rs2.map V.ref:=by injection b2 with b2;injection b2
  obtain⟨dt,hT⟩:=b6;have hbad:EwTree.bad (zF b) s=(2,t.place):=by unfold EwTree.bad;rw[e]
  rw[hbad] at q;refine rV rfl (rf hD.hR TR.cl TR.ns bT (rf a1' TS.cl TS.nf (fZ _ _) (rV rfl (rf hD.hR TR.cl TR.np cV ⟨sl,_,_,_,rfl,rfl,bf.of a2',at_of (j:=nT b - MA.len s) ↑2 (by rw[b2];exact b4),rf (sm _ _ hT) TT.cl TT.ns (kx _ _ _ _) ?_⟩))));exact bI M λx H' s' h'=>q H' x s' h'
 ·have z:¬_:=λy=>z (decide_eq_true y);rw[List.length_map,hrl] at z;have hl0:MA.len s=0:=↑2
  have e:s.toks=[]:=List.eq_nil_of_length_eq_zero hl0;have hbad:EwTree.bad (zF b) s=zF b:=by unfold EwTree.bad;rw[e]
  rw[hbad] at q;unfold zF at q;refine rV rfl (rf hD.hR TR.cl TR.ns bT (rf a1' TS.cl TS.na (kE _ _) ⟨rfl,_,rfl,?_⟩));generalize hfl:(Tn 0 b).2=fl at a4 q;cases fl with
  |none=>
   have a4:fa= .bF:=a4;subst a4;rw[decide_eq_true rfl];refine fV ⟨_,rfl,R,c.CR,dx,_,_,rfl,hD.hR,TR.cl,TR.nt,y',ta,_,rfl,.inl (sm.seq hD.ev.tx),?_⟩;rw[aU];exact bI M λx H' s' h'=>q H' x s' h'
  |some y=>
   obtain⟨rr,qq⟩:=y;obtain⟨t,e1,e2⟩:=a4;subst e1;rw[decide_eq_false (by intro z;cases z)];have hT:fE K H t [V.int (rr:Nat),.int (qq:Nat)]:=fE.of (sm _ _ e2);refine dQ ⟨_,rfl,R,c.CR,dx,_,_,rfl,hD.hR,TR.cl,TR.ns,bT,sa,c.CS,sx,_,_,rfl,a1',TS.cl,TS.na,kE _ _,t,_,_,_,rfl,rfl,hT,(show vm [V.int (rr:Nat),.int (qq:Nat)] 0=some (.int (rr:Nat)) from at_of (j:=0) rfl rfl),_,rfl,R,c.CR,dx,_,_,rfl,hD.hR,TR.cl,TR.ns,bT,sa,c.CS,sx,_,_,rfl,a1',TS.cl,TS.na,kE _ _,t,_,_,_,rfl,rfl,hT,(show vm [V.int (rr:Nat),.int (qq:Nat)] 1=some (.int (qq:Nat)) from at_of (j:=1) rfl rfl),?_⟩;exact bI M λx H' s' h'=>q H' x s' h'
inductive MQ(K:Frag)(c:Cs)(b:By)(vs:List V)(H:Hp)(Q:VK)(E:XK):Prop
 |mk(R:Addr) (F:Hp) (Ks:List MA.Sym) (s:EwTree.St) (f:MA.Fm) (l:List MA.Pt) (G:List MA.Fr) (v:V) (y:MA.Sym) (_:vs=[.ref R,v]) (_:kj K c b F H R Ks s (⟨f,l⟩::G)) (_:uc K v y) (_:l.length<16000000) (_:((∃bb,y= .bW bb/\∀H' F',aG F F'->kj K c b F' H' R Ks s (⟨f,l++[.leaf bb]⟩::G)->Q .bF H')\/∃k,y= .turn k/\∀H' F',aG F F'->kj K c b F' H' R Ks s (⟨f.turn k,l⟩::G)->Q .bF H'))
theorem Qn:ax ["self","symbol"] ["self","symbol"] (aq (jK 4)):=↑3
theorem Rc(d:dj K c.CR "grow" "Reader.grow" (jK 4) ["self","symbol"])(TR:Jw K c.CR)(TG_:Fw K c.CG)(ml:mg "list"=none)(ot:i8 P w K mg base 1 c.CG "turn" ["self","kind"] (OT c.CG c.CW))(op:i8 P w K mg base 1 c.CG "put" ["self","part"] (G8 c.CG c.CW)):i8 P w K mg base 2 c.CR "grow" ["self","symbol"] (MQ K c b):=d.ok λf fd F=>by
 refine F.ok Qn (by rintro vs H Q E ⟨R,F,Ks,s,f,l,G,v,y,rfl,_⟩;rfl) (λUJ A outer s H vs Q E hr h=>?_);obtain⟨R,F,Ks,s,f,l,G,v,y,rfl,⟨hs,dx,ta,sa,d,cl,g,bl,al,vs,hD⟩,hy,hl,q⟩:=h;obtain⟨dg,hg⟩:=hD.gr.hg;refine⟨_,ai (aR (aD cG (bz yc (pv 1) aw (λ_ _=>rfl)) bN (aJ _)) (ai (aS (iE ot TG_.cl hr (ay (pv 0) rfl) (aa (bz yc (pv 1) aw (λ_ _=>rfl)) ao))))
  (ai (aS (iE op TG_.cl hr (ay (pv 0) rfl) (aa (E6 vX (by rfl) ml PyProof.Rows.boot_list (aa (pv 1) ao)) ao))))),?_⟩
 rcases q with⟨bb,rfl,q⟩|⟨k,rfl,q⟩
 ·obtain⟨a,rfl,hb1,hT⟩:=hy;obtain⟨u,rfl⟩:∃u,bb=[u]:=by
   match bb,hb1 with
   |[u],_=>exact⟨u,rfl⟩
  refine⟨_,rfl,a,_,_,_,rfl,rfl,hT _,at_of (j:=0) rfl rfl,rfl,_,rfl,dQ ?_⟩;refine rV rfl (rf hD.hR TR.cl TR.ng dr ⟨g,dg,_,rfl,hg,gE ↑1,_,rfl,a,_,rfl,.inr (hT _),λm hm=>?_⟩);have hD2:=hD.add (aB (o:=.lst (iv [u])) hm) hm ag;refine⟨g,bl,al,⟨f,l⟩,G,nT b,_,.ref m,.leaf [u],rfl,hD2.gr,.leaf ag,hl,λH' g4 kp4=>q H' _ (aB (hD.gr.sm.free hm)) ⟨hs,dx,ta,sa,d,cl,g,bl,al,vs,hD2.grown g4 kp4 (aG.refl _) hD2.self lg⟩⟩
 ·obtain⟨a,rfl,hk,hT⟩:=hy;refine⟨_,rfl,a,_,_,_,rfl,rfl,hT _,at_of (j:=0) rfl rfl,rfl,_,rfl,fV ?_⟩;refine rV rfl (rf hD.hR TR.cl TR.ng dr ⟨g,dg,_,rfl,hg,gE ↑1,_,rfl,a,_,_,_,rfl,rfl,hT _,at_of (j:=1) rfl rfl,g,bl,al,⟨f,l⟩,G,nT b,F,k,rfl,hD.gr,hk,λH' g4 kp4=>q H' F (aG.refl F) ⟨hs,dx,ta,sa,d,cl,g,bl,al,vs,hD.grown g4 kp4 (aG.refl _) hD.self lg⟩⟩)
end
def Jx(M n:Nat)(Ks:List MA.Sym)(G:List MA.Fr):Prop:=Ks.length+n<=M/\G.length+n<=M/\∀fr∈G,fr.parts.length+n<=M
def Kont(K:Frag)(c:Cs)(b:By)(R:Addr)(F:Hp)(o:MA.Out)(M n:Nat)(Q:VK)(E:XK):Prop:=
 (∀H' F' Ks' s' G' n',n'<n->aG F F'->kj K c b F' H' R Ks' s' G'->MA.Runs (eF b) (zF b) n' Ks' s' G' o->Jx M n' Ks' G'->Q .bF H')/\∀er H' x,o= .fault er->aG F H'->lY c.CF H' x er.1 er.2->E (.ref x) none H'
theorem qT{M n m:Nat}{y:MA.Sym}{Ks:List MA.Sym}{G:List MA.Fr}(h:Jx M n (y::Ks) G)(hm:m<=n):Jx M m Ks G:=by
 refine⟨?_,?_,λfr hf=>?_⟩
 ·have:=h.1;simp only[List.length_cons] at this;omega
 ·have:=h.2.1;omega
 ·have:=h.2.2 fr hf;omega
theorem AQ{M n m:Nat}{Ks:List MA.Sym}{fr:MA.Fr}{G:List MA.Fr}{f:MA.Fm}{ps:List MA.Pt}(h:Jx M n Ks (fr::G))(hm:m+1<=n)(hp:ps.length<=fr.parts.length+1):Jx M m Ks (⟨f,ps⟩::G):=by
 refine⟨by have:=h.1;omega,by have:=h.2.1;simp only[List.length_cons] at this ⊢;omega,λx hx=>?_⟩;rcases List.mem_cons.mp hx with rfl|hx
 ·have:=h.2.2 fr (List.mem_cons_self ..);show ps.length+m<=M;omega
 ·have:=h.2.2 x (List.mem_cons_of_mem _ hx);omega
theorem PU{b:By}{s:EwTree.St}(hs:Lo b s):MA.lk (eF b) s∈VC:=by
 unfold MA.lk;split
 ·split
  ·exact MA.cx ↑0
  ·exact MA.cx ↑0
 ·rename_i t r e;have hd:=hs.2;rw[e] at hd;obtain⟨d1,d2,d3⟩:=drop_cons hd.symm;exact(MA.Gm (qH b.length 0 b (Nat.le_refl _) t (List.mem_of_getElem? d1))).1
theorem TK:nm 299=Str.ofString "":=↑1
theorem Paired.app{α β:Type}{R:α->β->Prop}:∀{a c:List α}{b d:List β},Paired R a b->Paired R c d->Paired R (a++c) (b++d)
 |_,_,_,_,.nil,h=>h
 |_,_,_,_,.cons h r,q=>.cons h (Paired.app r q)
section
variable{c:Cs}{b:By}
def RI(e:Bool)(z:EwTree.Fault)(n:Nat)(s:EwTree.St)(G:List MA.Fr)(o:MA.Out):List MA.Sym->Prop
 |[]=>n=0/\o= .ok G
 | .bg f::K=>∃n',n=n'+1/\MA.Runs e z n' K s (⟨f.at s,[]⟩::G) o
 | .bW b::K=>∃n' f l G0,n=n'+1/\G=⟨f,l⟩::G0/\MA.Runs e z n' K s (⟨f,l++[.leaf b]⟩::G0) o
 | .turn k::K=>∃n' f l G0,n=n'+1/\G=⟨f,l⟩::G0/\MA.Runs e z n' K s (⟨f.turn k,l⟩::G0) o
 | .take::K=>∃n' p f h l r G0,n=n'+1/\G=⟨f,l⟩::⟨h,r++[p]⟩::G0/\MA.Runs e z n' K s (⟨f.tk p,l++[p]⟩::⟨h,r⟩::G0) o
 | .fin::K=>∃n' f h l r G0,n=n'+1/\G=⟨f,l⟩::⟨h,r⟩::G0/\(f.isSet=true->MA.iu l)/\MA.Runs e z n' K s (⟨h,r++[MA.done f s l]⟩::G0) o
 | .w x::K=>(∃n' t p ts f l G0,n=n'+1/\s=⟨p,t::ts⟩/\G=⟨f,l⟩::G0/\x=MA.lV t/\MA.Runs e z n' K ⟨t.halt_,ts⟩ (⟨f,l++MA.lf t⟩::G0) o)\/x≠MA.lk e s/\
  ((∃n' r,n=n'+(1+r.length)/\MA.row x (MA.lk e s)=some r/\MA.Runs e z n' (r++K) s G o)\/MA.row x (MA.lk e s)=none/\((∃n' r,n=n'+(1+r.length)/\MA.row x 299=some r/\MA.Runs e z n' (r++K) s G o)\/MA.row x 299=none/\o= .fault (EwTree.bad z s)))
theorem eQ{e:Bool}{z:EwTree.Fault}{n:Nat}{K:List MA.Sym}{s:EwTree.St}{G:List MA.Fr}{o:MA.Out}(h:MA.Runs e z n K s G o):RI e z n s G o K:=by
 cases h with
 |halt=>exact⟨rfl,rfl⟩
 |bg h=>exact⟨_,rfl,h⟩
 |bW h=>exact⟨_,_,_,_,rfl,rfl,h⟩
 |take h=>exact⟨_,_,_,_,_,_,_,rfl,rfl,h⟩
 |turn h=>exact⟨_,_,_,_,rfl,rfl,h⟩
 |fin h1 h=>exact⟨_,_,_,_,_,_,rfl,rfl,h1,h⟩
 |pass h=>exact .inl ⟨_,_,_,_,_,_,_,rfl,rfl,rfl,rfl,h⟩
 |go h1 h2 h=>exact .inr ⟨h1,.inl ⟨_,_,rfl,h2,h⟩⟩
 |Sv h1 h2 h3 h=>exact .inr ⟨h1,.inr ⟨h2,.inl ⟨_,_,rfl,h3,h⟩⟩⟩
 |no h1 h2 h3=>exact .inr ⟨h1,.inr ⟨h2,.inr ⟨h3,rfl⟩⟩⟩
section
variable{e:Bool}{z:EwTree.Fault}{n x:Nat}{r K:List MA.Sym}{s:EwTree.St}{G:List MA.Fr}{o:MA.Out}
theorem Lq(hne:x≠MA.lk e s)(hr:MA.row x (MA.lk e s)=some r)(h:MA.Runs e z n (.w x::K) s G o):∃n',n=n'+(1+r.length)/\MA.Runs e z n' (r++K) s G o:=by
 rcases eQ h with⟨_,_,_,_,_,_,_,_,rfl,_,hx,_⟩|⟨_,⟨n',_,e1,e2,h⟩|⟨e2,_⟩⟩
 ·exact absurd hx hne
 ·rw[hr] at e2;cases e2;exact⟨n',e1,h⟩
 ·rw[hr] at e2;cases e2
theorem F6(hne:x≠MA.lk e s)(hr:MA.row x (MA.lk e s)=none)(h0:MA.row x 299=some r)(h:MA.Runs e z n (.w x::K) s G o):∃n',n=n'+(1+r.length)/\MA.Runs e z n' (r++K) s G o:=by
 rcases eQ h with⟨_,_,_,_,_,_,_,_,rfl,_,hx,_⟩|⟨_,⟨n',_,e1,e2,h⟩|⟨e2,⟨n',_,e1,e2,h⟩|⟨e2,_⟩⟩⟩
 ·exact absurd hx hne
 ·rw[hr] at e2;cases e2
 ·rw[h0] at e2;cases e2;exact⟨n',e1,h⟩
 ·rw[h0] at e2;cases e2
theorem K0(hne:x≠MA.lk e s)(hr:MA.row x (MA.lk e s)=none)(h0:MA.row x 299=none)(h:MA.Runs e z n (.w x::K) s G o):o= .fault (EwTree.bad z s):=by
 rcases eQ h with⟨_,_,_,_,_,_,_,_,rfl,_,hx,_⟩|⟨_,⟨n',_,e1,e2,h⟩|⟨e2,⟨n',_,e1,e2,h⟩|⟨_,e⟩⟩⟩
 ·exact absurd hx hne
 ·rw[hr] at e2;cases e2
 ·rw[h0] at e2;cases e2
 ·exact e
theorem D0(hx:x=MA.lk e s)(h:MA.Runs e z n (.w x::K) s G o):∃n' t p ts f l G0,n=n'+1/\s=⟨p,t::ts⟩/\G=⟨f,l⟩::G0/\x=MA.lV t/\MA.Runs e z n' K ⟨t.halt_,ts⟩ (⟨f,l++MA.lf t⟩::G0) o:=
 (eQ h).elim id λh=>absurd hx h.1
end
inductive MO(K:Frag)(c:Cs)(b:By)(vs:List V)(H:Hp)(Q:VK)(E:XK):Prop
 |mk(R:Addr) (F:Hp) (Ks:List MA.Sym) (s:EwTree.St) (G:List MA.Fr) (x n M:Nat) (o:MA.Out) (_:vs=[.ref R,.str (nm x),.str (nm (MA.lk (eF b) s))]) (_:x∈VC) (_:kj K c b F H R Ks s G) (_:MA.Runs (eF b) (zF b) n (.w x::Ks) s G o) (_:Jx M n (.w x::Ks) G) (_:M<16000000) (_:Kont K c b R F o M n Q E)
theorem Qx:ax ["self","symbol","look"] ["self","symbol","look"] (aq (jK 5)):=↑3
theorem QO(d:dj K c.CR "meet" "Reader.meet" (jK 5) ["self","symbol","look"])(TR:Jw K c.CR)(op:i8 P w K mg base 3 c.CR "pass_token" ["self"] (N6 K c b))(ore:jz P w K mg base 4 c.CR "refuse" ["self"] (OU K c b)):jz P w K mg base 5 c.CR "meet" ["self","symbol","look"] (MO K c b):=d.vH λf fd F=>by
 refine F.vH Qx (by rintro vs H Q E ⟨R,F,Ks,s,G,x,n,M,o,rfl,_⟩;rfl) (λUJ A outer s H vs Q E hr h=>?_);obtain⟨R,F,Ks,s,G,x,n,M,o,rfl,hx,hA,hrun,hB,hM,k1,k2⟩:=h;have hA0:=hA;obtain⟨hs,dx,ta,sa,d,cl,g,bl,al,vs,hD⟩:=hA;have hu:=Lx hr;have hl:=PU hs;refine⟨_,ai (aR (aD cG (pv 1) (pv 2) (aJ _)) (ai (aS (iX (P:=P) op TR.cl (hr.mono ↑0) (pv 0))))
  (ai (aR (IV (Im hu (fO (aa (pv 1) (aa (pv 2) ao))) (ay (pv 0) rfl))) (ai (aS (fK PySem.F.plainAttrs_list PySem.F.slot_list_extend PySem.F.type_list_extend tU (ay (pv 0) rfl) (aa (Ds hu (ay (pv 0) rfl) (fO (aa (pv 1) (aa (pv 2) ao))) (λ_ _=>rfl)) ao))))
  (ai (aR (IV (Im hu (fO (aa (pv 1) (aa bN ao))) (ay (pv 0) rfl))) (ai (aS (fK PySem.F.plainAttrs_list PySem.F.slot_list_extend PySem.F.type_list_extend tU (ay (pv 0) rfl) (aa (Ds hu (ay (pv 0) rfl) (fO (aa (pv 1) (aa bN ao))) (λ_ _=>rfl)) ao))))
  (ai (aS (zE ore TR.cl hr (pv 0))))))))),?_⟩
 have hsz:sizeLine=16777216:=sizeLine_eq;refine⟨_,rfl,_,rfl,rfl,_,rfl,aT (λz=>?_) λz=>?_⟩
 ·have z:nm x=nm (MA.lk (eF b) s):=by have:=of_decide_eq_true z;injection this
  have z:=MA.xg hx hl z;obtain⟨n',t,p,ts,f,l,G0,rfl,rfl,rfl,ex,hr'⟩:=D0 z hrun;refine⟨_,rfl,R,dx,_,rfl,hD.hR,(aO ↑1).trans ((aO ↑1).trans ((aO ↑1).trans ((aO ↑1).trans ((aO ↑1).trans ((aO ↑1).trans rfl))))),R,F,Ks,p,t,ts,f,l,G0,rfl,hA0,?_,λH' F' sF hA'=>?_⟩
  ·have:=hB.2.2 ⟨f,l⟩ (List.mem_cons_self ..);dsimp only at this;omega
  ·refine k1 H' F' Ks _ _ n' (Nat.lt_succ_self _) sF hA' hr' (AQ (qT hB (Nat.le_refl _)) (Nat.le_refl _) ?_);rw[List.length_append,Nz];split
   ·exact Nat.le_succ _
   ·exact Nat.le_refl _
 have hne:x≠MA.lk (eF b) s:=λy=>z (decide_eq_true (by rw[y]));obtain⟨kvs,hrw,hP⟩:=hD.ev.rw;obtain⟨v1,v2⟩:=wQ hP C1 hx hl;obtain⟨v3,v4⟩:=wQ hP C1 hx (show(299:Nat)∈VC from MA.cx ↑0);rw[MA.Au] at v1 v2 v3 v4;rw[TK] at v3 v4;refine⟨_,rfl,_,rfl,(by show 2<=sizeLine;decide),λt1 ht1=>?_⟩;have s1:=aB (o:=.tup [.str (nm x),.str (nm (MA.lk (eF b) s))]) ht1;have hD1:=hD.more s1;refine rV rfl (rf hD1.hR TR.cl TR.nr lu ⟨d,_,rfl,rG.t (k:=[.inr (nm x),.inr (nm (MA.lk (eF b) s))]) (hD1.gr.sm _ _ hrw) ag,_,rfl,?_⟩);have ext:∀(r:List MA.Sym)(b':Addr)(us:List V)(n':Nat)(H2:Hp),aG H H2->F b'=some (.tup us.reverse)->Paired (uc K) us r->n=n'+(1+r.length)->MA.Runs (eF b) (zF b) n' (r++Ks) s G o->
   ∃l b'' xs zs,V.ref cl= .ref l/\[V.ref b']=[.ref b'']/\H2 l=some (.lst xs)/\fE K H2 b'' zs/\xs.length+zs.length<=sizeLine/\Q .bF (upd H2 l (.lst (xs++zs))):=by
  intro r b' us n' H2 s2 hb' hus en hr';have hD2:=hD.more s2;have l1:us.length=r.length:=Paired.length hus;have l2:vs.length=Ks.length:=Paired.length hD.sy;have hb1:=hB.1;simp only[List.length_cons] at hb1;refine⟨cl,b',_,_,rfl,rfl,hD2.hc,fE.of (hD2.gr.sm _ _ hb'),(by rw[List.length_reverse,List.length_reverse,hsz];omega),?_⟩;have e1:vs.reverse++us.reverse=(us++vs).reverse:=(List.reverse_append ..).symm;rw[e1];refine k1 _ F (r++Ks) s G n' ↑2 (aG.refl F) ⟨hs,dx,ta,sa,d,cl,g,bl,al,us++vs,hD2.Pp (Paired.app hus hD.sy)⟩ hr' ⟨?_,?_,λfr hf=>?_⟩
  ·rw[List.length_append];omega
  ·have:=hB.2.1;omega
  ·have:=hB.2.2 fr hf;omega
 cases Af:MA.row x (MA.lk (eF b) s) with
 |some r=>
  obtain⟨b',us,e1,e2,e3⟩:=v2 r Af;rw[e1];have hrr:∃n',n=n'+(1+r.length)/\MA.Runs (eF b) (zF b) n' (r++Ks) s G o:=Lq hne Af hrun;obtain⟨n',en,hr'⟩:=hrr;refine fV ⟨_,rfl,R,c.CR,dx,_,_,rfl,hD1.hR,TR.cl,TR.nc,gD,.inl ⟨rfl,_,bf.of hD1.hc⟩,_,rfl,R,c.CR,dx,_,_,rfl,hD1.hR,TR.cl,TR.nr,lu,_,rfl,_,rfl,(by show 2<=sizeLine;decide),λt2 ht2=>?_⟩;have s2:=s1.trans (aB (o:=.tup [.str (nm x),.str (nm (MA.lk (eF b) s))]) ht2);have hD2:=hD.more s2;refine⟨d,.ref b',rfl,?_,?_⟩
  ·rw[<-e1];exact rG.t (k:=[.inr (nm x),.inr (nm (MA.lk (eF b) s))]) (hD2.gr.sm _ _ hrw) ag
  ·exact ext r b' us n' _ s2 e2 e3 en hr'
 |none=>
  rw[v1 Af];refine dQ ?_;refine⟨_,rfl,(by show 2<=sizeLine;decide),λt2 ht2=>?_⟩;have s2:=s1.trans (aB (o:=.tup [.str (nm x),.str (Str.ofString "")]) ht2);have hD2:=hD.more s2;refine rV rfl (rf hD2.hR TR.cl TR.nr lu ⟨d,_,rfl,rG.t (k:=[.inr (nm x),.inr (Str.ofString "")]) (hD2.gr.sm _ _ hrw) ag,_,rfl,?_⟩);cases hrow0:MA.row x 299 with
  |some r=>
   obtain⟨b',us,e1,e2,e3⟩:=v4 r hrow0;rw[e1];have hrr:∃n',n=n'+(1+r.length)/\MA.Runs (eF b) (zF b) n' (r++Ks) s G o:=F6 hne Af hrow0 hrun;obtain⟨n',en,hr'⟩:=hrr;refine fV ⟨_,rfl,R,c.CR,dx,_,_,rfl,hD2.hR,TR.cl,TR.nc,gD,.inl ⟨rfl,_,bf.of hD2.hc⟩,_,rfl,R,c.CR,dx,_,_,rfl,hD2.hR,TR.cl,TR.nr,lu,_,rfl,(by show 2<=sizeLine;decide),λt3 ht3=>?_⟩;have s3:=s2.trans (aB (o:=.tup [.str (nm x),.str (Str.ofString "")]) ht3);have hD3:=hD.more s3;refine⟨d,.ref b',rfl,?_,?_⟩
   ·rw[<-e1];exact rG.t (k:=[.inr (nm x),.inr (Str.ofString "")]) (hD3.gr.sm _ _ hrw) ag
   ·exact ext r b' us n' _ s3 e2 e3 en hr'
  |none=>
   rw[v3 hrow0];refine dQ ?_;have ho:o= .fault (EwTree.bad (zF b) s):=K0 hne Af hrow0 hrun;refine⟨_,rfl,R,dx,_,rfl,hD2.hR,(aO ↑1).trans ((aO ↑1).trans ((aO ↑1).trans ((aO ↑1).trans ((aO ↑1).trans ((aO ↑1).trans rfl))))),R,F,Ks,s,G,rfl,⟨hs,dx,ta,sa,d,cl,g,bl,al,vs,hD2⟩,λH' x s' h'=>⟨x,rfl,k2 _ H' x ho (hD2.gr.sm.trans s') h'⟩⟩
end
structure RL(K:Frag):Prop where
 si:PySem.W.kitOne K (.type "str") (.type "int")=some false
 ti:PySem.W.kitOne K (.type "tuple") (.type "int")=some false
 st:PySem.W.kitOne K (.type "str") (.type "tuple")=some false
theorem rD{K:Frag}{T:String}:PySem.W.kitOne K (.type T) (.type T)=some true:=by unfold PySem.W.kitOne;rw[if_pos (by simp)]
theorem K1:∀x∈VC,(nm x).cps.toList.head?≠some 64:=↑1
theorem yN{x:Nat}(hx:x∈VC){z:Str}(hz:z.cps.toList.head?=some 64)(e:nm x=z):False:=K1 x hx (by rw[e];exact hz)
theorem nU{t sc n d c g:V}{m:Str}(h1:m≠"text")(h2:m≠"scanned")(h3:m≠"passed")(h4:m≠"rows")(h5:m≠"coming")(h6:m≠"growth"):(Fz t sc n d c g).lookup m=none:=
 (aO h1).trans ((aO h2).trans ((aO h3).trans ((aO h4).trans ((aO h5).trans ((aO h6).trans rfl)))))
section
variable{c:Cs}{b:By}
inductive NA(K:Frag)(c:Cs)(b:By)(vs:List V)(H:Hp)(Q:VK)(E:XK):Prop
 |mk(R:Addr) (F:Hp) (Ks:List MA.Sym) (s:EwTree.St) (G:List MA.Fr) (v:V) (y:MA.Sym) (n M:Nat) (o:MA.Out) (_:vs=[.ref R,v]) (_:uc K v y) (_:kj K c b F H R Ks s G) (_:MA.Runs (eF b) (zF b) n (y::Ks) s G o) (_:Jx M n (y::Ks) G) (_:M<16000000) (_:Kont K c b R F o M n Q E)
theorem P9:ax ["self","symbol"] ["self","symbol"] (aq (jK 3)):=↑3
theorem Qu(d:dj K c.CR "step" "Reader.step" (jK 3) ["self","symbol"])(TR:Jw K c.CR)(TG_:Fw K c.CG)(kf:RL K)(isi:mg "isinstance"=none)(mi:mg "int"=none)(mt:mg "tuple"=none)(obg:i8 P w K mg base 3 c.CG "begin" ["self","form","passed"] (Oo c.CG c.CW))(ogw:i8 P w K mg base 2 c.CR "grow" ["self","symbol"] (MQ K c b))(otk:i8 P w K mg base 1 c.CG "take" ["self"] (GV c.CG c.CW))(ofi:i8 P w K mg base 2 c.CG "finish" ["self","passed"] (RN c.CG c.CW))(oah:i8 P w K mg base 1 c.CR "ahead" ["self"] (MY K c b))(ome:jz P w K mg base 5 c.CR "meet" ["self","symbol","look"] (MO K c b)):jz P w K mg base 6 c.CR "step" ["self","symbol"] (NA K c b):=d.vH λf fd F=>by
 refine F.vH P9 (by rintro vs H Q E ⟨R,F,Ks,s,G,v,y,n,M,o,rfl,_⟩;rfl) (λUJ A outer s H vs Q E hr h=>?_);obtain⟨R,F,Ks,s,G,v,y,n,M,o,rfl,hy,hA,hrun,hB,hM,k1,k2⟩:=h;have hA0:=hA;obtain⟨hs,dx,ta,sa,d,cl,g,bl,al,vs,hD⟩:=hA;obtain⟨dg,hg⟩:=hD.gr.hg;have hsz:sizeLine=16777216:=sizeLine_eq;refine⟨_,ai (aR (L5 (dq (eK ky (by rfl) isi PyProof.Rows.boot_isinstance (aa (pv 1) (aa (CV (v:=.ty "int") (by rfl) mi ↑1 rfl) ao)))) (Jm (aD (Ba hr.units) (pv 1) (fO (aa bN (aa bN (aa bN ao)))) (by with_unfolding_all rfl)))).pt
  (ai (aS (iE obg TG_.cl (hr.mono ↑0) (ay (pv 0) rfl) (aa (pv 1) (aa (ay (pv 0) rfl) ao)))))
  (ai (aR (dq (eK ky (by rfl) isi PyProof.Rows.boot_isinstance (aa (pv 1) (aa (CV (v:=.ty "tuple") (by rfl) mt ↑1 rfl) ao)))) (ai (aS (iE ogw TR.cl (hr.mono ↑0) (pv 0) (aa (pv 1) ao))))
  (ai (aR (aD cG (pv 1) bN (aJ _)) (ai (aS (iX (P:=P) otk TG_.cl (hr.mono ↑0) (ay (pv 0) rfl))))
  (ai (aR (aD cG (pv 1) bN (aJ _)) (ai (aS (iE ofi TG_.cl (hr.mono ↑0) (ay (pv 0) rfl) (aa (ay (pv 0) rfl) ao))))
  (ai (aS (DH ome TR.cl hr (pv 0) (aa (pv 1) (aa (iX (P:=P) oah TR.cl (hr.mono ↑0) (pv 0)) ao)))))))))))),?_⟩
 have hgN:∀{m:Str},m≠"begun"->([(("begun":Str),V.ref bl)]:List (Str×V)).lookup m=none:=λh=>gE h;have beg:∀(fk:MA.Fk)(H2:Hp),aG H H2->y= .bg fk->v=yx (fk.at s)->xR (fk.at s)->
   zw c.CG "begin" (Oo c.CG c.CW) [] E0 (Be K (dc 0) "growth") (bV (dc 1) (bV (Be K (dc 0) "passed") d4)) [some (.ref R),some v] H2 (λ_ H'=>Q .bF H'):=by
  intro fk H2 s2 ey ev ek;subst ey;have hD2:=hD.more s2;obtain⟨dg2,hg2⟩:=hD2.gr.hg;have hal:al.length=G.length:=by
   have:∀{al:List (Addr×Addr)}{G:List MA.Fr}{H:Hp},eI c.CW (nT b) F H al G->al.length=G.length:=by
    intro al G H h;induction h with
    |nil=>rfl
    |cons _ _ ih=>simp only[List.length_cons,ih]
   exact this hD.gr.fs
  have hb2:=hB.2.1;refine rV rfl (rf hD2.hR TR.cl TR.ng dr ⟨g,dg2,_,rfl,hg2,hgN ↑1,_,rfl,rV rfl (rf hD2.hR TR.cl TR.np cV ⟨g,bl,al,G,nT b,F,fk,s,by rw[ev];rfl,hD2.gr,↑2,ek,λH' a l g4 na nl kp4=>?_⟩)⟩);obtain⟨n',rfl,hr'⟩:=eQ hrun;refine k1 H' F Ks s _ n' (Nat.lt_succ_self _) (aG.refl F) ⟨hs,dx,ta,sa,d,cl,g,bl,_,vs,hD2.grown g4 kp4 (aG.refl F) hD2.self λx hx=>?_⟩ hr' ?_
  ·rcases hx with hx|hx|hx
   ·exact .inl (.inl hx)
   ·rcases List.mem_cons.mp hx with e|hx
    ·rw[e];exact .inr na
    ·exact .inl (.inr (.inl hx))
   ·rcases List.mem_cons.mp hx with e|hx
    ·rw[e];exact .inr nl
    ·exact .inl (.inr (.inr hx))
  ·have b1:=hB.1;simp only[List.length_cons] at b1;refine⟨↑2,by simp only[List.length_cons];omega,λfr hf=>?_⟩;rcases List.mem_cons.mp hf with rfl|hf
   ·show 0+n'<=M;omega
   ·have:=hB.2.2 fr hf;omega
 have pre:∀(z:Str)(H1:Hp)(C:Bool->Hp->Prop),v= .str z->(∀H2,aG H H2->C (decide (z∈([("@row":Str),"@count","@set"]:List Str))) H2)->
   Sr (tB (LA (Nr K) (bV (dc 1) (bV (tC (.ty "int")) d4))))
    (ra (AB (NF K) (dc 1) (KA (bV (tC (.str "@row")) (bV (tC (.str "@count")) (bV (tC (.str "@set")) d4)))))) [some (.ref R),some v] H C:=by
  intro z _ C ez hC;subst ez;refine⟨_,rfl,_,_,_,_,rfl,.inl ⟨_,rfl⟩,.inl (.str z),kf.si,_,rfl,dQ ?_⟩;refine⟨_,rfl,(by show 3<=sizeLine;decide),λt1 ht1=>⟨t1,[("@row":Str),"@count","@set"],rfl,fE.of ag,.inl ⟨z,rfl,_,rfl,hC _ (aB ht1)⟩⟩⟩
 have preT:∀(a:Addr)(us:List V)(C:Bool->Hp->Prop),v= .ref a->(∀H,fE K H a us)->(∀H2,aG H H2->C false H2)->
   Sr (tB (LA (Nr K) (bV (dc 1) (bV (tC (.ty "int")) d4))))
    (ra (AB (NF K) (dc 1) (KA (bV (tC (.str "@row")) (bV (tC (.str "@count")) (bV (tC (.str "@set")) d4)))))) [some (.ref R),some v] H C:=by
  intro a us C ez hT hC;subst ez;refine⟨_,rfl,_,_,_,_,rfl,.inl ⟨_,rfl⟩,.inr ⟨a,us,rfl,hT _,rfl⟩,kf.ti,_,rfl,dQ ?_⟩;refine⟨_,rfl,(by show 3<=sizeLine;decide),λt1 ht1=>⟨t1,[("@row":Str),"@count","@set"],rfl,fE.of ag,.inr ⟨a,us,rfl,hT _,_,rfl,hC _ (aB ht1)⟩⟩⟩
 cases y with
 |bg fk=>
  cases fk with
  |kind k=>
   obtain⟨ev,hk⟩:=hy;subst ev;exact⟨_,rfl,_,_,_,_,rfl,.inl ⟨_,rfl⟩,.inl (.int k),rD,_,rfl,fV (fV (beg (.kind k) H (aG.refl H) rfl rfl hk))⟩
  |row=>
   have ev:v= .str "@row":=hy;refine pre _ H _ ev λH2 s2=>?_;rw[decide_eq_true ↑1];exact fV (beg .row H2 s2 rfl ev trivial)
  |count=>
   have ev:v= .str "@count":=hy;refine pre _ H _ ev λH2 s2=>?_;rw[decide_eq_true ↑1];exact fV (beg .count H2 s2 rfl ev trivial)
  |set=>
   have ev:v= .str "@set":=hy;refine pre _ H _ ev λH2 s2=>?_;rw[decide_eq_true ↑1];exact fV (beg .set H2 s2 rfl ev trivial)
 |bW bb=>
  obtain⟨a,ev,hb1,hT⟩:=id hy;refine preT a _ _ ev hT λH2 s2=>dQ ?_;have hD2:=hD.more s2;refine⟨_,rfl,_,_,_,_,rfl,.inl ⟨_,rfl⟩,.inr ⟨a,_,ev,hT _,rfl⟩,rD,_,rfl,fV ?_⟩;obtain⟨n',f,l,G0,rfl,rfl,hr'⟩:=eQ hrun;refine⟨_,rfl,R,dx,_,rfl,hD2.hR,nU ↑1 ↑1 ↑1 ↑1 ↑1 ↑1,_,rfl,R,F,Ks,s,f,l,G0,v,.bW bb,rfl,⟨hs,dx,ta,sa,d,cl,g,bl,al,vs,hD2⟩,hy,?_,.inl ⟨bb,rfl,λH' F' sF hA'=>k1 H' F' Ks s _ n' (Nat.lt_succ_self _) sF hA' hr' (AQ (qT hB (Nat.le_refl _)) (Nat.le_refl _) (by rw[List.length_append];exact Nat.le_refl _))⟩⟩;have:=hB.2.2 ⟨f,l⟩ (List.mem_cons_self ..);dsimp only at this;omega
 |turn k=>
  obtain⟨a,ev,hb1,hT⟩:=id hy;refine preT a _ _ ev hT λH2 s2=>dQ ?_;have hD2:=hD.more s2;refine⟨_,rfl,_,_,_,_,rfl,.inl ⟨_,rfl⟩,.inr ⟨a,_,ev,hT _,rfl⟩,rD,_,rfl,fV ?_⟩;obtain⟨n',f,l,G0,rfl,rfl,hr'⟩:=eQ hrun;refine⟨_,rfl,R,dx,_,rfl,hD2.hR,nU ↑1 ↑1 ↑1 ↑1 ↑1 ↑1,_,rfl,R,F,Ks,s,f,l,G0,v,.turn k,rfl,⟨hs,dx,ta,sa,d,cl,g,bl,al,vs,hD2⟩,hy,?_,.inr ⟨k,rfl,λH' F' sF hA'=>k1 H' F' Ks s _ n' (Nat.lt_succ_self _) sF hA' hr' (AQ (qT hB (Nat.le_refl _)) (Nat.le_refl _) (Nat.le_succ _))⟩⟩;have:=hB.2.2 ⟨f,l⟩ (List.mem_cons_self ..);dsimp only at this;omega
 |take=>
  have ev:v= .str "@take":=hy;refine pre _ H _ ev λH2 s2=>?_;rw[decide_eq_false ↑1];have hD2:=hD.more s2;obtain⟨dg2,hg2⟩:=hD2.gr.hg;subst ev;refine dQ ⟨_,rfl,_,_,_,_,rfl,.inl ⟨_,rfl⟩,.inl (.str _),kf.st,_,rfl,dQ ⟨_,rfl,rfl,_,rfl,?_⟩⟩;rw[decide_eq_true rfl];obtain⟨n',p,f,h,l,r,G0,rfl,rfl,hr'⟩:=eQ hrun;refine fV ⟨_,rfl,R,c.CR,dx,_,_,rfl,hD2.hR,TR.cl,TR.ng,dr,g,dg2,_,rfl,hg2,hgN ↑1,g,bl,al,f,h,l,r,p,G0,nT b,F,rfl,hD2.gr,?_,λH' g4 kp4=>?_⟩
  ·have:=hB.2.2 ⟨f,l⟩ (List.mem_cons_self ..);dsimp only at this;omega
  ·refine k1 H' F Ks s _ n' (Nat.lt_succ_self _) (aG.refl F) ⟨hs,dx,ta,sa,d,cl,g,bl,al,vs,hD2.grown g4 kp4 (aG.refl F) hD2.self lg⟩ hr' ?_;have hB':=qT hB (Nat.le_refl _);refine⟨by have:=hB'.1;omega,by have:=hB'.2.1;simp only[List.length_cons] at this ⊢;omega,λfr hf=>?_⟩;rcases List.mem_cons.mp hf with rfl|hf
   ·have:=hB'.2.2 ⟨f,l⟩ (List.mem_cons_self ..);dsimp only at this ⊢;rw[List.length_append];simp only[List.length_singleton];omega
   ·rcases List.mem_cons.mp hf with rfl|hf
    ·have:=hB'.2.2 ⟨h,r++[p]⟩ (List.mem_cons_of_mem _ (List.mem_cons_self ..));dsimp only at this ⊢;rw[List.length_append] at this;omega
    ·have:=hB'.2.2 fr (List.mem_cons_of_mem _ (List.mem_cons_of_mem _ hf));omega
 |fin=>
  have ev:v= .str "@end":=hy;refine pre _ H _ ev λH2 s2=>?_;rw[decide_eq_false ↑1];have hD2:=hD.more s2;obtain⟨dg2,hg2⟩:=hD2.gr.hg;subst ev;refine dQ ⟨_,rfl,_,_,_,_,rfl,.inl ⟨_,rfl⟩,.inl (.str _),kf.st,_,rfl,dQ ⟨_,rfl,rfl,_,rfl,?_⟩⟩;rw[decide_eq_false ↑1];refine dQ ⟨_,rfl,rfl,_,rfl,?_⟩;rw[decide_eq_true rfl];obtain⟨n',f,h,l,r,G0,rfl,rfl,hset,hr'⟩:=eQ hrun;obtain⟨x,al,rfl⟩:∃x al',al=x::al':=by cases hD.gr.fs;exact⟨_,_,rfl⟩
  refine fV ⟨_,rfl,R,c.CR,dx,_,_,rfl,hD2.hR,TR.cl,TR.ng,dr,g,dg2,_,rfl,hg2,hgN ↑1,_,rfl,R,c.CR,dx,_,_,rfl,hD2.hR,TR.cl,TR.np,cV,g,bl,x,al,f,h,l,r,G0,nT b,F,s,rfl,hD2.gr,hset,?_,λH' F' sF kF g4 kp4=>?_⟩
  ·have:=hB.2.2 ⟨h,r⟩ (List.mem_cons_of_mem _ (List.mem_cons_self ..));dsimp only at this;omega
  ·refine k1 H' F' Ks s _ n' (Nat.lt_succ_self _) sF ⟨hs,dx,ta,sa,d,cl,g,bl,al,vs,hD2.grown g4 kp4 sF kF λz hz=>?_⟩ hr' ?_
   ·exact .inl (hz.elim .inl λhz=>.inr (hz.elim (λz=>.inl (List.mem_cons_of_mem _ z)) λz=>.inr (List.mem_cons_of_mem _ z)))
   ·have hB':=qT hB (Nat.le_refl _);refine⟨by have:=hB'.1;omega,by have:=hB'.2.1;simp only[List.length_cons] at this ⊢;omega,λfr hf=>?_⟩;rcases List.mem_cons.mp hf with rfl|hf
    ·have:=hB'.2.2 ⟨h,r⟩ (List.mem_cons_of_mem _ (List.mem_cons_self ..));dsimp only at this ⊢;rw[List.length_append];simp only[List.length_singleton];omega
    ·have:=hB'.2.2 fr (List.mem_cons_of_mem _ (List.mem_cons_of_mem _ hf));omega
 |w x=>
  obtain⟨ev,hx⟩:=id hy;refine pre _ H _ ev λH2 s2=>?_;have hD2:=hD.more s2;rw[decide_eq_false (λz=>by
   rcases List.mem_cons.mp z with e|z
   ·exact yN hx ↑1 e
   rcases List.mem_cons.mp z with e|z
   ·exact yN hx ↑1 e
   rcases List.mem_cons.mp z with e|z
   ·exact yN hx ↑1 e
   cases z)]
  subst ev;refine dQ ⟨_,rfl,_,_,_,_,rfl,.inl ⟨_,rfl⟩,.inl (.str _),kf.st,_,rfl,dQ ⟨_,rfl,rfl,_,rfl,?_⟩⟩;rw[decide_eq_false (λz=>yN hx ↑1 (by injection z:nm x=Str.ofString "@take"))];refine dQ ⟨_,rfl,rfl,_,rfl,?_⟩;rw[decide_eq_false (λz=>yN hx ↑1 (by injection z:nm x=Str.ofString "@end"))];have hA2:kj K c b F H2 R Ks s G:=⟨hs,dx,ta,sa,d,cl,g,bl,al,vs,hD2⟩
  refine dQ ⟨_,rfl,R,dx,_,rfl,hD2.hR,nU ↑1 ↑1 ↑1 ↑1 ↑1 ↑1,_,rfl,_,rfl,R,dx,_,rfl,hD2.hR,nU ↑1 ↑1 ↑1 ↑1 ↑1 ↑1,R,F,Ks,s,G,rfl,hA2,R,F,Ks,s,G,x,n,M,o,rfl,hx,hA2,hrun,hB,hM,k1,λer H' x h1 h2 h3=>⟨x,rfl,k2 er H' x h1 h2 h3⟩⟩
end
section
variable{c:Cs}{b:By}
inductive NN(K:Frag)(c:Cs)(b:By)(vs:List V)(H:Hp)(Q:VK)(E:XK):Prop
 |mk(R:Addr) (F:Hp) (Ks:List MA.Sym) (s:EwTree.St) (G:List MA.Fr) (n M:Nat) (o:MA.Out) (_:vs=[.ref R]) (_:kj K c b F H R Ks s G) (_:MA.Runs (eF b) (zF b) n Ks s G o) (_:Jx M n Ks G) (_:M<16000000) (_:((∃er,o= .fault er)\/∃st0 ps,o= .ok [⟨.row st0,ps⟩])) (_:(∀st0 ps,o= .ok [⟨.row st0,ps⟩]->∀H' v,aG F H'->n9 c.CW (nT b) H' v (.bq (.row st0) st0 ps)->Q v H')) (_:∀er,o= .fault er->∀H' x,aG F H'->lY c.CF H' x er.1 er.2->E (.ref x) none H')
theorem QD:ax ["self"] ["self"] (aq (jK 2)):=↑3
theorem QX(d:dj K c.CR "run" "Reader.run" (jK 2) ["self"])(TR:Jw K c.CR)(TG_:Fw K c.CG)(ln:mg "len"=none)(ost:jz P w K mg base 6 c.CR "step" ["self","symbol"] (NA K c b))(ogn:i8 P w K mg base 1 c.CG "grown" ["self"] (M4 c.CG c.CW)):jz P w K mg base 7 c.CR "run" ["self"] (NN K c b):=d.vH λf fd F=>by
 refine F.vH QD (by rintro vs H Q E ⟨R,F,Ks,s,G,n,M,o,rfl,_⟩;rfl) (λUJ A outer s H vs Q E hr h=>?_);obtain⟨R,F,Ks,s,G,n,M,o,rfl,hA,hrun,hB,hM,ho,k1,k2⟩:=h;refine⟨_,aj (ft (w9 ⟨rfl,rfl,rfl⟩) (aD oN (bB ln (ay (pv 0) rfl)) aw (aJ _))
   (ai (aS (DH ost TR.cl hr (pv 0) (aa (tT PySem.F.plainAttrs_list PySem.F.slot_list_pop PySem.F.type_list_pop qR (ay (pv 0) rfl)) ao)))))
  (ai (aC (iX (P:=P) ogn TG_.cl (hr.mono ↑0) (ay (pv 0) rfl)))),?_⟩
 refine⟨λm σ H'=>∃F' Ks s G,σ=[some (.ref R)]/\kj K c b F' H' R Ks s G/\MA.Runs (eF b) (zF b) m Ks s G o/\Jx M m Ks G/\aG F F',⟨n,F,Ks,s,G,rfl,hA,hrun,hB,aG.refl F⟩,?_⟩;rintro m σ H1 ⟨F',Ks,s,G,rfl,⟨hs,dx,ta,sa,d,cl,g,bl,al,vs,hD⟩,hrun,hB,sF⟩;refine rV rfl (rf hD.hR TR.cl TR.nc gD ⟨cl,_,rfl,.inl (bf.of hD.hc),_,_,rfl,rfl,_,rfl,aT (λz=>?_) λz=>?_⟩)
 ·have z:=of_decide_eq_true z;rw[List.length_reverse] at z;have hsy:=hD.sy;cases hsy with
  |nil=>exact absurd z (by show ¬((0:Int)<0);decide)
  |@cons v y vs Ks hy hr2=>
   have hc:=hD.hc;rw[List.reverse_cons] at hc;refine⟨_,λ_ _ z=>z,_,rfl,R,dx,_,rfl,hD.hR,nU ↑1 ↑1 ↑1 ↑1 ↑1 ↑1,rV rfl (rf hD.hR TR.cl TR.nc gD ⟨.inl ⟨rfl,_,bf.of hc⟩,cl,_,v,rfl,rfl,hc,(by rw[List.length_append,List.getElem?_append_right (by simp)];simp),?_⟩)⟩;rw[List.dropLast_concat];exact⟨R,F',Ks,s,G,v,y,m,M,o,rfl,hy,⟨hs,dx,ta,sa,d,cl,g,bl,al,vs,hD.Pp hr2⟩,hrun,hB,hM,λH' F2 Ks' s' G' n' hn sF2 hA' hr' hB'=>⟨n',hn,F2,Ks',s',G',rfl,hA',hr',hB',sF.trans sF2⟩,λer H' x h1 h2 h3=>⟨x,rfl,k2 er h1 H' x (sF.trans h2) h3⟩⟩
 ·have hnil:Ks=[]:=by
   have hsy:=hD.sy;cases hsy with
   |nil=>rfl
   |cons _ _=>exact absurd (decide_eq_true (by rw[List.length_reverse,List.length_cons];omega)) z
  subst hnil;cases hrun with
  |halt=>
   rcases ho with⟨er,ho⟩|⟨st0,ps,ho⟩
   ·cases ho
   ·have eG:G=[⟨.row st0,ps⟩]:=by injection ho
    subst eG;obtain⟨dg,hg⟩:=hD.gr.hg;obtain⟨x,rfl⟩:∃x,al=[x]:=by
     cases hD.gr.fs with
     |cons _ r=>cases r;exact⟨_,rfl⟩
    refine rV rfl (rf hD.hR TR.cl TR.ng dr ⟨g,dg,_,rfl,hg,gE ↑1,g,bl,x,_,nT b,F',rfl,hD.gr,k1 st0 ps rfl H1 _ (sF.trans hD.gr.sm) ?_⟩);cases hD.gr.fs with
    |cons hf _=>
     obtain⟨ex,ed,us,h1,h2,h3,h4,h5,h6⟩:=hf;exact .bq h1 h2 rfl trivial trivial (h3.same hD.gr.sm)
theorem Kz{X:Cx}{k:Nat}{C:Addr}{ps:List Str}{sp:Sp}{x:Str}{p pos:Pos}(o:vt X.prog X.w X.K X.mg X.base k x C ps sp)(hr:bC (k+1) X.A)(hg:Gl X x:=by rfl)(hdb:(x==("__debug__":Str))=false:=by decide):
  PE X (.Call (.Name x p) [] [] pos) (u4 C sp [] E0 d4):=by
 obtain⟨f,fd,M,F,b,m⟩:=o.ex;exact G4 M F hr hg m b .nil g_ hdb
inductive OL(K:Frag)(c:Cs)(b:By)(vs:List V)(H:Hp)(Q:VK)(E:XK):Prop
 |mk(p dx ta sa:Addr) (H0:Hp) (_:vs=[.ref p,.ref ta,.ref sa]) (_:H p=some (.ins c.CR dx [])) (_:aG H0 H) (_:H0 p=none) (_:bf K H0 ta (iv b)) (_:jf c.CS c.CT H0 sa (Tn 0 b).1 (Tn 0 b).2) (_:b.length<=65536) (_:∀H' F,aG H0 F->kj K c b F H' p [.w MA.dA] ⟨0,(Tn 0 b).1⟩ [⟨.row ⟨0,(Tn 0 b).1⟩,[]⟩]->Q .bF H')
theorem QR:ax ["self","text","scanned"] ["self","text","scanned"] (aq (jK 0)):=↑3
abbrev Ur(K:Frag)(mg:Str->Option Value)(C:Addr):Prop:=wx K mg "Reader" "Reader.__init__" (jK 0) C ["self","text","scanned"]
theorem MJ{X:Cx}{k:Nat}{ps:List Str}{sp:Sp}{x:Str}{p pos:Pos}(o:Ok X.prog X.w X.K X.mg X.base bh k x ps sp)(hr:bC k X.A)(hg:Gl X x:=by rfl)(hdb:(x==("__debug__":Str))=false:=by decide):PE X (.Call (.Name x p) [] [] pos) (iK sp [] E0 d4):=by obtain⟨f,fd,F,b,m,kp⟩:=o.ex;exact Gf F hr hg m kp b .nil g_ hdb
theorem Kw:nm MA.dA=Str.ofString "<program>":=↑1
theorem Og(d:Ur K mg c.CR)(TR:Jw K c.CR)(orb:Ok P w K mg base bh 1 "rows_by_token" [] (Ml K))(nG:vt P w K mg base 3 "Growth" c.CG ["self"] (MR c.CG c.CW)):vt P w K mg base 5 "Reader" c.CR ["self","text","scanned"] (OL K c b):=d.new λf fd F=>by
 refine F.ok QR (by rintro vs H Q E ⟨p,dx,ta,sa,H0,rfl,_⟩;rfl) (λUJ A outer s H vs Q E hr h=>?_);obtain⟨p,dx,ta,sa,H0,rfl,h1,s0,hp0,hS,hA,hbl,q⟩:=h;refine⟨_,aj (bE (pv 0) (pv 1) rfl) (aj (bE (pv 0) (pv 2) rfl) (aj (bE (pv 0) aw rfl) (aj (bE (pv 0) (MJ orb (hr.mono ↑0)) rfl) (aj (bE (pv 0) (bx (aa bN ao)) rfl) (ai (bE (pv 0) (Kz nG hr) rfl)))))),?_⟩;refine⟨_,rfl,_,rfl,p,c.CR,dx,[],rfl,h1,TR.cl,TR.nt,(by show 0<1000;decide),_,rfl,_,rfl,p,c.CR,dx,_,rfl,ag,TR.cl,TR.ns,Nat.lt_of_le_of_lt (aF _ _ _) (by show 1<1000;decide),_,rfl,p,c.CR,dx,_,rfl,ag,TR.cl,TR.np,Nat.lt_of_le_of_lt (aF _ _ _) (Nat.lt_of_le_of_lt (Nat.succ_le_succ (aF _ _ _)) (by show 2<1000;decide)),rfl,λH1 dd s1 hdd hrows=>?_⟩;generalize hfs3:aW "passed" (V.int 0) (aW "scanned" (V.ref sa) (aW "text" (V.ref ta) []))=fs3 at s1 hdd;have hl3:fs3.length<=3:=by
  rw[<-hfs3];exact Nat.le_trans (aF _ _ _) (Nat.succ_le_succ (Nat.le_trans (aF _ _ _) (Nat.succ_le_succ (aF _ _ _))))
 have hp1:H1 p=some (.ins c.CR dx fs3):=s1 _ _ ag;refine⟨_,rfl,p,c.CR,dx,_,rfl,hp1,TR.cl,TR.nr,↑2,?_⟩;have hl4:(aW "rows" (V.ref dd) fs3).length<=4:=Nat.le_trans (aF _ _ _) (Nat.succ_le_succ hl3);refine⟨(by show 1<=sizeLine;decide),λcl hcl=>?_⟩;have ncp:cl≠p:=λz=>by rw[z,ag] at hcl;cases hcl
 have hcl1:H1 cl=none:=by rw[ah ncp] at hcl;exact hcl
 refine⟨_,rfl,p,c.CR,dx,_,rfl,(by rw[ah (Ne.symm ncp),ag]),TR.cl,TR.nc,↑2,?_⟩;have hl5:(aW "coming" (V.ref cl) (aW "rows" (V.ref dd) fs3)).length<=5:=Nat.le_trans (aF _ _ _) (Nat.succ_le_succ hl4);generalize hH2:upd (upd (upd H1 p (.ins c.CR dx (aW "rows" (V.ref dd) fs3))) cl (.lst [.str "<program>"])) p (.ins c.CR dx (aW "coming" (V.ref cl) (aW "rows" (V.ref dd) fs3)))=H2;intro g dgx ng ndg neg;refine⟨g,dgx,rfl,ag,λH3 bl a l dxa nbl na nl nbll e1 e2 e3 e4 fr=>⟨rfl,?_⟩⟩;have s3:aG H2 H3:=aG.made ng ndg fr;have hp2:H2 p=some (.ins c.CR dx (aW "coming" (V.ref cl) (aW "rows" (V.ref dd) fs3))):=by rw[<-hH2,ag]
 have hc2:H2 cl=some (.lst [.str "<program>"]):=by rw[<-hH2,ah ncp,ag]
 have k2:∀x o,H1 x=some o->x≠p->H2 x=some o:=λx o e n=>by rw[<-hH2,ah n,ah (au e hcl1),ah n];exact e
 have fr2:∀x,(upd (upd H2 dgx (.own g)) g (.ins c.CG dgx [])) x=none->H2 x=none/\x≠g:=λx e=>by
  have n1:x≠g:=λz=>by rw[z,ag] at e;cases e
  have n2:x≠dgx:=λz=>by rw[z,ah neg,ag] at e;cases e
  rw[ah n1,ah n2] at e;exact⟨e,n1⟩
 obtain⟨nbl2,nblg⟩:=fr2 bl nbl;obtain⟨na2,nag⟩:=fr2 a na;obtain⟨nl2,nlg⟩:=fr2 l nl;refine⟨_,rfl,p,c.CR,dx,_,rfl,s3 _ _ hp2,TR.cl,TR.ng,↑2,?_⟩;rw[<-hfs3,Ko];have npg:p≠g:=au hp2 ng;have npa:p≠a:=au hp2 na2;have npl:p≠l:=au hp2 nl2;have npb:p≠bl:=au hp2 nbl2;have ncg:cl≠g:=au hc2 ng;have nca:cl≠a:=au hc2 na2;have ncl:cl≠l:=au hc2 nl2;have ncb:cl≠bl:=au hc2 nbl2;have s0F:aG H0 (λx=>if x=p then none else H1 x):=λx o e=>by
  have n:x≠p:=au e hp0;show(if x=p then none else H1 x)=some o;rw[if_neg n];exact s1 _ _ (by rw[ah n,ah n,ah n];exact s0 _ _ e)
 have fnone:∀x,H2 x=none->(if x=p then none else H1 x)=none:=λx e=>by
  split
  ·rfl
  ·rename_i n;cases e1:H1 x with
   |none=>rfl
   |some o=>rw[k2 x o e1 n] at e;cases e
 have hnT:MA.len ⟨0,(Tn 0 b).1⟩=nT b:=rfl;refine q _ (λx=>if x=p then none else H1 x) s0F ⟨⟨Nat.le_of_eq hnT,by rw[hnT,Nat.sub_self];rfl⟩,dx,ta,sa,dd,cl,g,bl,[(a,l)],[.str "<program>"],?_⟩;have hgz:(nT b:Int) - MA.len ⟨0,(Tn 0 b).1⟩=0:=by rw[hnT];omega
 rw[hgz];refine⟨ag,by rw[ah ncp];exact s3 _ _ hc2,.cons ⟨by rw[Kw],MA.cx ↑0⟩ .nil,⟨λx o e=>?_,⟨dgx,by rw[ah (Ne.symm npg)];exact e1⟩,by rw[ah (Ne.symm npb)];exact e2,.cons ⟨dxa,.int 0,[],?_,by show upd H3 p _ l=_;rw[ah (Ne.symm npl)];exact e4,.nil,fnone _ na2,fnone _ nl2,trivial⟩ .nil,List.nodup_cons.mpr ⟨(by intro z;cases z),List.nodup_nil⟩,List.nodup_cons.mpr ⟨(by intro z;cases z),List.nodup_nil⟩,λz=>nbll (List.mem_singleton.mp z),fnone _ nbl2,λz=>nag (List.mem_singleton.mp z).symm⟩,⟨s0F.seq hS,hA.same s0F,?_,hbl⟩,if_pos rfl,?_,?_,?_,npg⟩
 ·have e:(if x=p then none else H1 x)=some o:=e;by_cases n:x=p
  ·rw[if_pos n] at e;cases e
  ·rw[if_neg n] at e;rw[ah n];exact s3 _ _ (k2 x o e n)
 ·show upd H3 p _ a=some (.ins c.CW dxa (rn (.str "@row") (.ref l) (.int ((nT b:Int) - MA.len ⟨0,(Tn 0 b).1⟩)) (.int 0)));rw[ah (Ne.symm npa),hgz];exact e3
 ·obtain⟨kvs,r1,r2⟩:=hrows;refine⟨kvs,?_,L2.Paired.imp' (λ_ _ z=>Jt.same (λb' xs hb'=>?_) z) r2⟩
  ·show(if dd=p then none else H1 dd)=_;rw[if_neg (dv r1 hp1 (by intro z;cases z))];exact r1
  ·show(if b'=p then none else H1 b')=_;rw[if_neg (dv hb' hp1 (by intro z;cases z))];exact hb'
 ·show(if cl=p then none else H1 cl)=none;rw[if_neg ncp];exact hcl1
 ·rintro(z|z|z)
  ·exact npb z
  ·exact npa (List.mem_singleton.mp z)
  ·exact npl (List.mem_singleton.mp z)
 ·rintro(z|z|z)
  ·exact ncb z
  ·exact nca (List.mem_singleton.mp z)
  ·exact ncl (List.mem_singleton.mp z)
end
mutual
theorem LQ:∀p:MA.Pt,wt p=MA.Jy p
 | .leaf b=>rfl
 | .bq f s l=>by show 5+lW l=5+MA.d5 l;rw[GB l]
theorem GB:∀l:List MA.Pt,lW l=MA.d5 l
 |[]=>rfl
 |p::r=>by show wt p+lW r=MA.Jy p+MA.d5 r;rw[LQ p,GB r]
end
section
variable{c:Cs}
inductive NI(K:Frag)(c:Cs)(vs:List V)(H:Hp)(Q:VK)(E:XK):Prop
 |mk(ta sa:Addr) (b:By) (_:vs=[.ref ta,.ref sa]) (_:bf K H ta (iv b)) (_:jf c.CS c.CT H sa (Tn 0 b).1 (Tn 0 b).2) (_:b.length<=65536) (_:(∀er,EwTree.read b= .error er->∀H' x,aG H H'->lY c.CF H' x er.1 er.2->E (.ref x) none H')) (_:∀a,EwTree.read b= .ok a->∀H' v p st0,aG H H'->n9 c.CW (nT b) H' v (.bq (.row st0) st0 [p])->MA.yb p=a.1.bytes->MA.yk p=a.2.map MA.yt->MA.Jy p<=15900000->Q v H')
theorem Rz:ax ["text","scanned"] ["text","scanned"] (aq (top 91)):=↑3
theorem Qt(d:Def K mg "parse" (top 91) ["text","scanned"])(TR:Jw K c.CR)(nR:∀b,vt P w K mg base 5 "Reader" c.CR ["self","text","scanned"] (OL K c b))(orn:∀b,jz P w K mg base 7 c.CR "run" ["self"] (NN K c b)):Ok P w K mg base (iZ P w) 8 "parse" ["text","scanned"] (NI K c):=d.ok λf fd F=>by
 refine F.vH Rz (by rintro vs H Q E ⟨ta,sa,b,rfl,_⟩;rfl) (λUJ A outer s H vs Q E hr h=>?_);obtain⟨ta,sa,b,rfl,hS,hA,hl,k1,k2⟩:=h;refine⟨_,ai (aC (zE (orn b) TR.cl hr (eM (nR b) (hr.mono ↑0) (aa (pv 0) (aa (pv 1) ao))))),?_⟩;have hln:=FJ b.length 0 b (Nat.le_refl _);have hsw:=MA.Qv b.length 0 b (Nat.le_refl _);obtain⟨m1,m2⟩:=MA.machine (b:=b) ↑2 ↑2;refine⟨_,rfl,_,rfl,λx dx nx nd ne=>⟨x,dx,ta,sa,H,rfl,ag,λy o e=>?_,nx,hS,hA,hl,λH1 F sF hR=>⟨rfl,?_⟩⟩⟩
 ·rw[ah (au e nx),ah (au e nd)];exact e
 obtain⟨hs,dx1,ta1,sa1,d1,cl,g,bl,al,vs,hD⟩:=id hR;have bnd:∀n,n<=2400000->Jx 2400010 n [.w MA.dA] [⟨.row ⟨0,(Tn 0 b).1⟩,[]⟩]:=λn hn=>⟨by show 1+n<=_;omega,by show 1+n<=_;omega,λfr hf=>by rw[List.mem_singleton.mp hf];show 0+n<=_;omega⟩
 refine⟨x,dx1,_,rfl,hD.hR,nU ↑1 ↑1 ↑1 ↑1 ↑1 ↑1,?_⟩;cases e:EwTree.read b with
 |error er=>
  obtain⟨n,hn,hr'⟩:=m1 er e;refine⟨x,F,_,_,_,n,2400010,_,rfl,hR,hr',bnd n hn,↑0,.inl ⟨er,rfl⟩,λ_ _ z=>(by cases z),λer' z H' x s' h'=>?_⟩;cases z;exact⟨x,rfl,k1 er e H' x (sF.trans s') h'⟩
 |ok a=>
  obtain⟨n,p,hn,hr',y1,y2,y3⟩:=m2 a e;refine⟨x,F,_,_,_,n,2400010,_,rfl,hR,hr',bnd n hn,↑0,.inr ⟨_,_,rfl⟩,λst0 ps z H' v s' h'=>?_,λer z=>(by cases z)⟩;have z:[(⟨.row ⟨0,(Tn 0 b).1⟩,[p]⟩:MA.Fr)]=[⟨.row st0,ps⟩]:=by injection z
  injection z with z1 z2;injection z1 with z3 z4;subst z4;exact k2 a e H' v p st0 (sF.trans s') h' y1 y2 y3
end
section
variable{c:Cs}
theorem lY.LP{CF CR:Addr}{H:Hp}{e:Addr}{r p:Int}(TF:B9 K CF)(is:PySem.W.exmOne K (.ref CF) (.ref CR)=some true)(h:lY CF H e r p):HY K CR H e [-2,r,p]:=by obtain⟨d,l,h1,h2,h3⟩:=h;exact⟨CF,d,l,_,TF.x,TF.nn,is,h1,h2,B1 _ _ _,h3⟩
end
end
end TG
namespace MA
open EwTree RT TW
def pF(b t:By):List Int:=
 if 65536<b.length\/65536<t.length then[-1] else if 100<depth b\/100<depth t then[-6] else match EwTree.read b with
  | .error e=>[-2,(e.1:Int),(e.2:Int)]
  | .ok x=>match EwTree.read t with
   | .error e=>[-2,(e.1:Int),(e.2:Int)]
   | .ok y=>[0,if x.1.bytes=y.1.bytes then 1 else 0]
theorem Kq(ns ms:List Int):PyWrxthh.same ns ms=pF (WrxthhNeutral.text ns) (WrxthhNeutral.text ms):=by
 show WrxthhNeutral.told (Wrxthh.answer (.same (WrxthhNeutral.text ns) (WrxthhNeutral.text ms)))=_;unfold pF Wrxthh.answer Wrxthh.fits;generalize WrxthhNeutral.text ns=b;generalize WrxthhNeutral.text ms=t;simp only[List.any_cons,List.any_nil,Bool.or_false,Bool.or_eq_true,decide_eq_true_eq];have hl:Wrxthh.LONG=65536:=rfl;have hd:DEEPEST=100:=rfl;rw[hl,hd];by_cases h1:65536<b.length\/65536<t.length
 ·rw[if_pos h1,if_pos h1];rfl
 rw[if_neg h1,if_neg h1];by_cases h2:100<depth b\/100<depth t
 ·rw[if_pos h2,if_pos h2];rfl
 rw[if_neg h2,if_neg h2];cases h:EwTree.read b with
 |error e=>rfl
 |ok a=>
  cases h':EwTree.read t with
  |error e=>rfl
  |ok a'=>
   show[0,(((if a.1.bytes=a'.1.bytes then 1 else 0:Nat)):Int)]=_;by_cases hh:a.1.bytes=a'.1.bytes
   ·simp only[if_pos hh];rfl
   ·simp only[if_neg hh];rfl
end MA
namespace TG
open PySem PySem.Spec PyProof.Rows L2 TW
variable{P:Program}{w:World}{K:Frag}{mg:Str->Option Value}{base:Heap}
section
variable{c:Cs}
inductive J8(K:Frag)(vs:List V)(H:Hp)(Q:VK)(E:XK):Prop
 |mk(a1 a2:Addr) (b t:By) (_:vs=[.ref a1,.ref a2]) (_:bf K H a1 (iv b)) (_:bf K H a2 (iv t)) (_:∀H' r,aG H H'->H' r=some (.lst ((MA.pF b t).map V.int))->Q (.ref r) H')
theorem u0:ax ["text","other","scanned","scanned_other","tree","other_tree","e"] ["text","other"] (aq (top 95)):=↑3
inductive UC(K:Frag)(CR:Addr)(ns:List Int)(H0:Hp)(σ:L2.St)(e:Addr)(H':Hp):Prop
 |mk(v0 v1 v2 v3 v4:Option V) (_:σ=[v0,v1,v2,v3,v4,none,none]) (_:HY K CR H' e ns) (_:aG H0 H')
theorem Af{p:MA.Pt}{st0:EwTree.St}{x:By}(y1:MA.yb p=x)(y3:MA.Jy p<=15900000):MA.yb (.bq (.row st0) st0 [p])=x/\wt (.bq (.row st0) st0 [p])<=16000000:=by
 constructor
 ·show[]++(MA.yb p++[])=_;rw[List.append_nil,y1];rfl
 ·rw[LQ];show 5+(MA.Jy p+0)<=_;omega
theorem Rf{CR f:Addr}{fd:FuncData}(F:jC K "same" "same" (top 95) f fd)(TF:B9 K c.CF)(orl:Ok P w K mg base (iZ P w) 4 "refuse_long" ["text"] (O_ K CR))(oss:Ok P w K mg base (iZ P w) 10 "scan_shallow" ["text"] (NH K c.CS c.CT CR))(opa:Ok P w K mg base (iZ P w) 8 "parse" ["text","scanned"] (NI K c))(otb:Ok P w K mg base bh 3 "tree_bytes" ["twig"] (Rn c.CW))(mr:mg "Refused"=some (.ref CR))(is:PySem.W.exmOne K (.ref c.CF) (.ref CR)=some true):
  cn P w K mg base bh 13 f fd ["text","other"] (J8 K):=by
 refine F.Ua u0 (by rintro vs H Q E ⟨a1,a2,b,t,rfl,_⟩;rfl) (λUJ A outer s H vs Q E hr h=>?_);obtain⟨a1,a2,b,t,rfl,hS1,hS2,k⟩:=h;have hs:∀e,so (sx (iO bh P w K mg base ["text","other","scanned","scanned_other","tree","other_tree","e"] "same" (aq (top 95)) f UJ A outer s H E).Md e) (yG ((bX (top 95)).getD 0 (.Pass ⟨0,0,0,0⟩)))
   (pC (Cw K (dc 6) "numbers")):=λe=>ai (aC (wO (pv 6) rfl))
 refine⟨_,mv (DQ (i:=6) (R:=UC K CR (MA.pF b t) H) ⟨rfl,rfl,rfl⟩
   (aj (aS (jZ orl (hr.mono ↑0) (aa (pv 0) ao)))
   (aj (aS (jZ orl (hr.mono ↑0) (aa (pv 1) ao)))
   (aj (aN (i:=2) u0.nd rfl (Or.inl rfl) (jZ oss (hr.mono ↑0) (aa (pv 0) ao)))
   (aj (aN (i:=3) u0.nd rfl (Or.inl rfl) (jZ oss (hr.mono ↑0) (aa (pv 1) ao)))
   (aj (aN (i:=4) u0.nd rfl (Or.inl rfl) (aM otb (hr.mono ↑0) (aa (jZ opa (hr.mono ↑0) (aa (pv 0) (aa (pv 2) ao))) ao)))
   (ai (aN (i:=5) u0.nd rfl (Or.inl rfl) (aM otb (hr.mono ↑0) (aa (jZ opa (hr.mono ↑0) (aa (pv 1) (aa (pv 3) ao))) ao)))))))))
   hs u0.nd rfl rfl rfl mr)
  (so.R' (ai (aC (bx (aa aw (aa (lz (aD (js hr.units) (pv 4) (pv 5) (aJ _)) aw aw) ao)))))),?_⟩
 refine⟨?_,?_⟩
 ·refine⟨_,rfl,a1,b,rfl,hS1,λh1 H1 e s1 hR=>⟨e,rfl,_,_,_,_,_,rfl,?_,s1⟩,λh1=>?_⟩
  ·unfold MA.pF;rw[if_pos (.inl h1)];exact hR
  refine⟨_,rfl,a2,t,rfl,hS2,λh2 H1 e s1 hR=>⟨e,rfl,_,_,_,_,_,rfl,?_,s1⟩,λh2=>?_⟩
  ·unfold MA.pF;rw[if_pos (.inr h2)];exact hR
  have n1:¬(65536<b.length\/65536<t.length):=↑2
  refine⟨_,rfl,a1,b,rfl,hS1,h1,λh3 H1 e s1 hR=>⟨e,rfl,_,_,_,_,_,rfl,?_,s1⟩,λh3 H1 r1 s1 hA1=>?_⟩
  ·unfold MA.pF;rw[if_neg n1,if_pos (.inl h3)];exact hR
  refine⟨_,rfl,a2,t,rfl,s1.seq hS2,h2,λh4 H2 e s2 hR=>⟨e,rfl,_,_,_,_,_,rfl,?_,s1.trans s2⟩,λh4 H2 r2 s2 hA2=>?_⟩
  ·unfold MA.pF;rw[if_neg n1,if_pos (.inr h4)];exact hR
  have n2:¬(100<EwTree.depth b\/100<EwTree.depth t):=λz=>z.elim h3 h4;have s12:=s1.trans s2;refine⟨_,rfl,_,rfl,a1,r1,b,rfl,s12.seq hS1,hA1.same s2,h1,λer e1 H3 x s3 hF=>⟨x,rfl,_,_,_,_,_,rfl,?_,s12.trans s3⟩,λx1 e1 H3 v p st0 s3 hP y1 y2 y3=>?_⟩
  ·unfold MA.pF;rw[if_neg n1,if_neg n2,e1];exact lY.LP TF is hF
  obtain⟨hy,hwt⟩:=Af (st0:=st0) y1 y3;refine⟨v,_,nT b,rfl,hP,hwt,λH4 l1 s4 hl1=>?_⟩;rw[hy] at hl1;have s14:=s12.trans (s3.trans s4);refine⟨_,rfl,_,rfl,a2,r2,t,rfl,s14.seq hS2,hA2.same (s3.trans s4),h2,λer e2 H5 x s5 hF=>⟨x,rfl,_,_,_,_,_,rfl,?_,s14.trans s5⟩,λx2 e2 H5 v' p' st1 s5 hP' z1 z2 z3=>?_⟩
  ·unfold MA.pF;rw[if_neg n1,if_neg n2,e1];dsimp only;rw[e2];exact lY.LP TF is hF
  obtain⟨hy',hwt'⟩:=Af (st0:=st1) z1 z3;refine⟨v',_,nT t,rfl,hP',hwt',λH6 l2 s6 hl2=>?_⟩;rw[hy'] at hl2;have fin:∀(i:Int)(H7:Hp),aG H H7->(if x1.1.bytes=x2.1.bytes then 1 else 0:Int)=i->∀m,H7 m=some (.lst [.int 0,.int i])->Q (.ref m) H7:=λi H7 s7 ei m hm=>k H7 m s7 (by
   rw[hm];unfold MA.pF;rw[if_neg n1,if_neg n2,e1];dsimp only;rw[e2];dsimp only;rw[ei];rfl)
  have s16:=s14.trans (s5.trans s6);rw[el] at hl1 hl2;refine⟨_,rfl,_,rfl,l1,l2,_,_,rfl,rfl,bf.of ((s5.trans s6) _ _ hl1),bf.of hl2,_,rfl,aT (λz=>?_) λz=>?_⟩
  ·have z:=G7 (of_decide_eq_true z);exact⟨(by show 2<=sizeLine;decide),λm hm=>fin 1 _ (s16.trans (aB hm)) (if_pos z) m ag⟩
  ·have z:¬_:=λy=>z (decide_eq_true (congrArg (List.map λ(c:UInt8)=>(c.toNat:Int)) y));exact⟨(by show 2<=sizeLine;decide),λm hm=>fin 0 _ (s16.trans (aB hm)) (if_neg z) m ag⟩
 ·rintro e σ' H' he ⟨v0,v1,v2,v3,v4,rfl,⟨C,dF,l,fs,x1,x2,x3,x4,x5,x6,x7⟩,s2⟩;exact⟨⟨C,some dF,x4,x3⟩,_,rfl,e,C,dF,_,_,rfl,x4,x5,x1,x2,x6,k H' l s2 x7⟩
end
section
open MA (nm VC FT flat cZ)
noncomputable def Ux:List String:=["account","and","as","away","both","break","catch","clear","cut","decimal","double","down","else","error","extended","false","fibre","finally","five","flags"]
noncomputable def Tv:List String:=["flush","fn","for","fraction","from","giving","half","if","in","inexact","interval","into","invalid","is","leave","let","list","make","match","module"]
noncomputable def SG:List String:=["near","nearaway","nearcut","next","not","of","only","or","out","overflow","packed","picture","post","precision","raise","record","resume","return","rounding","say"]
noncomputable def S':List String:=["single","small","spawn","stack","text","then","to","trap","true","truth","try","underflow","up","use","value","while","whole","with","yield","zero"]
noncomputable def sK:List String:=Ux++(Tv++(SG++(S')))
noncomputable def UG:List String:=["->","==","!=","<=",">=","//","..","(",")","[","]","{","}",",",":",".","=","<",">","+"]
noncomputable def Si:List String:=["-","*","/","percent","^"]
noncomputable def sS:List String:=UG++(Si)
noncomputable def Um:List String:=["<program>","<uses>","<declarations>","<declaration>","<let>","<told sort>","<sort names>","<more names>","<fields>","<more fields>","<field>","<result>","<sort>","<of sort>","<sorts>","<more sorts>","<of a module>","<block>","<statements>","<statement>"]
noncomputable def S5:List String:=["<chain>","<called chain>","<more branches>","<behind else>","<branch>","<to>","<cases>","<else>","<behind try>","<finally>","<into>","<posted text>","<more modes>","<mode>","<direction>","<trapped>","<flushed>","<flag>","<expressions>","<more expressions>"]
noncomputable def SR:List String:=["<expression>","<more or>","<both>","<more and>","<negated>","<compared>","<cast>","<more as>","<digits>","<rounding>","<sum>","<more sum>","<product>","<more product>","<signed>","<giving>","<power>","<post>","<more post>","<call>"]
noncomputable def Sh:List String:=["<index>","<member>","<name>","<first>","<flags>","<more flags>","<listed>","<more listed>","<made>","<settings>","<more settings>","<setting>"]
noncomputable def sP:List String:=Um++(S5++(SR++(Sh)))
noncomputable def sO:List String:=["NAME","CODE","NUMBER","TEXT","END","FAULT"]
def nS(n:Nat):String:=bif Nat.blt n 100 then sK.getD n "" else bif Nat.blt n 200 then sS.getD (n - 100) "" else bif Nat.blt n 1000 then sO.getD (n - 200) "" else sP.getD (n - 1000) ""
theorem Mg:(VC.all λn=>decide ((Str.ofString (nS n)).cps.toList=(nm n).cps.toList))=true:=↑1
theorem IP{n:Nat}(h:n∈VC):Str.ofString (nS n)=nm n:=by have h1:=of_decide_eq_true (List.all_eq_true.mp Mg n h);have h2:(Str.ofString (nS n)).cps=(nm n).cps:=Array.toList_inj.mp h1;cases hx:Str.ofString (nS n);cases hy:nm n;rw[hx,hy] at h2;exact congrArg Str.mk h2
inductive SV where
 |i(n:Int)
 |s(x:Str)
 |t1(c:Value) (n:Int)
 |t2(c:Value) (x:Str) (n:Int)
 |no
def oX(K:Frag):Value->Option (Value×List Value)
 | .ref a=>match K.lookup a with
  |some ⟨c,_,.seq its _,_⟩=>some (c,its.toList)
  |_=>none
 |_=>none
def HZ(K:Frag):Value->SV
 | .int n _=>.i n
 | .str x _=>.s x
 |v=>match oX K v with
  |some (c,[.int n _])=>.t1 c n
  |some (c,[.str x _,.int n _])=>.t2 c x n
  |_=>.no
abbrev PV:=Option (Value×Str×Value×List SV)
def pairOf(K:Frag)(v:Value):PV:=match oX K v with
 |some (c,[.str x _,w])=>(match oX K w with
  |some (c',l)=>some (c,x,c',l.map (HZ K))
  |none=>none)
 |_=>none
abbrev RV:=Option (Value×List PV)
def BK(K:Frag)(v:Value):RV:=match oX K v with
 |some (c,l)=>some (c,l.map (pairOf K))
 |none=>none
def Df(K:Frag)(e:DictEntry):Option (Int×Str×RV):=match e.key with
 | .str x _=>some (e.hash,x,BK K e.val)
 |_=>none
abbrev tt:Value:=.type "tuple"
def MH:MA.Sym->SV
 | .bg (.kind k)=>.i k
 | .bg .row=>.s "@row"
 | .bg .count=>.s "@count"
 | .bg .set=>.s "@set"
 | .bW b=>match b with
  |[c]=>.t1 tt c.toNat
  |_=>.no
 | .turn k=>.t2 tt "@turn" k
 | .take=>.s "@take"
 | .fin=>.s "@end"
 | .w x=>.s (Str.ofString (nS x))
def Ka(y:Nat×List MA.Sym):PV:=some (tt,Str.ofString (nS y.1),tt,y.2.map MH)
def O9(g:List (Nat×List MA.Sym)):RV:=some (tt,g.map Ka)
def Cr(P:Params):Nat->List (List (Nat×List MA.Sym))->List (Option (Int×Str×RV))
 |_,[]=>[]
 |i,g::G=>some (PyData.keyHash P (Str.ofString (nS i)),Str.ofString (nS i),O9 g)::Cr P (i+1) G
def Lg(K:Frag)(P:Params):Prop:=∃a es n,PySem.W.nsIn K mainGlobals "RULES"=some (some (.ref a))/\K.lookup a=some ⟨.type "dict",none,.dict es n,#[]⟩/\es.toList.map (Df K)=Cr P 1000 MA.cK/\(a==sysModules)=false
theorem Sg{K:Frag}{P:Params}{a:Addr}{es:Array DictEntry}{n:Nat}(b:PySem.W.nsIn K mainGlobals "RULES"=some (some (.ref a)))(e:K.lookup a=some ⟨.type "dict",none,.dict es n,#[]⟩)(k:es.toList.map (Df K)=Cr P 1000 MA.cK)(s:(a==sysModules)=false):Lg K P:=⟨a,es,n,b,e,k,s⟩
def NR:MA.Sym->Bool
 | .bg (.kind k)=>Nat.blt k 256
 | .turn k=>Nat.blt k 256
 | .bW b=>Nat.beq b.length 1
 | .w x=>MA.k8 x
 |_=>true
theorem Kb:(MA.cK.all λg=>Nat.blt g.length 1000&&g.all λy=>MA.k8 y.1&&Nat.blt y.2.length 1000&&y.2.all NR)=true:=↑1
section
variable{K:Frag}
theorem jA{v:Value}{c:Value}{l:List Value}(h:oX K v=some (c,l)):∃(a:Addr)(o:Obj)(its:Array Value)(n:Nat),v= .ref a/\K.lookup a=some o/\o.cls=c/\o.data= .seq its n/\its.toList=l:=by
 unfold oX at h;split at h
 ·rename_i a;split at h
  ·rename_i c0 d its n sl q;injection h with h;injection h with h1 h2;exact⟨a,_,its,n,rfl,q,h1,rfl,h2⟩
  ·cases h
 ·cases h
theorem sR{a:Addr}{o:Obj}{its:Array Value}{n:Nat}{xs:List V}(h1:K.lookup a=some o)(h2:o.cls=tt)(h3:o.data= .seq its n)(h4:Vals xs its.toList)(h5:xs.length<1000):∀H,fE K H a xs:=λH=>.inr ⟨o,its,n,h1,h2,h3,by
 have e:=h4.length;have hs:sizeLine=16777216:=sizeLine_eq;have:its.size=its.toList.length:=rfl;omega,h4⟩
theorem RX{v:Value}{y:MA.Sym}(hb:NR y=true)(h:HZ K v=MH y):∃u,RelV u v/\uc K u y:=by
 have key:∀(v:Value)(w:SV),HZ K v=w->(∀n,w= .i n->RelV (.int n) v)/\(∀x,w= .s x->RelV (.str x) v)/\(∀c n,w= .t1 c n->∃a t,v= .ref a/\oX K v=some (c,[.int n t]))/\(∀c x n,w= .t2 c x n->∃a t t',v= .ref a/\oX K v=some (c,[.str x t,.int n t'])):=by
  intro v w h;unfold HZ at h;split at h
  ·subst h;exact⟨λn e=>(by cases e;exact⟨_,rfl⟩),λ_ e=>(by cases e),λ_ _ e=>(by cases e),λ_ _ _ e=>by cases e⟩
  ·subst h;exact⟨λ_ e=>(by cases e),λn e=>(by cases e;exact⟨_,rfl⟩),λ_ _ e=>(by cases e),λ_ _ _ e=>by cases e⟩
  ·split at h
   ·rename_i c n t q;subst h;refine⟨λ_ e=>(by cases e),λ_ e=>(by cases e),λ_ _ e=>?_,λ_ _ _ e=>by cases e⟩;cases e;obtain⟨a,_,_,_,e,_⟩:=jA q;exact⟨a,t,e,q⟩
   ·rename_i c x t n t' q;subst h;refine⟨λ_ e=>(by cases e),λ_ e=>(by cases e),λ_ _ e=>(by cases e),λ_ _ _ e=>?_⟩;cases e;obtain⟨a,_,_,_,e,_⟩:=jA q;exact⟨a,t,t',e,q⟩
   ·subst h;exact⟨λ_ e=>(by cases e),λ_ e=>(by cases e),λ_ _ e=>(by cases e),λ_ _ _ e=>by cases e⟩
 obtain⟨k1,k2,k3,k4⟩:=key v _ h
 match y,hb,k1,k2,k3,k4 with
 | .bg (.kind k),hb,k1,_,_,_=>exact⟨_,k1 _ rfl,rfl,Nat.lt_of_lt_of_le (Nat.le_of_ble_eq_true hb) (Nat.le_refl _)⟩
 | .bg .row,_,_,k2,_,_=>exact⟨_,k2 _ rfl,rfl⟩
 | .bg .count,_,_,k2,_,_=>exact⟨_,k2 _ rfl,rfl⟩
 | .bg .set,_,_,k2,_,_=>exact⟨_,k2 _ rfl,rfl⟩
 | .take,_,_,k2,_,_=>exact⟨_,k2 _ rfl,rfl⟩
 | .fin,_,_,k2,_,_=>exact⟨_,k2 _ rfl,rfl⟩
 | .w x,hb,_,k2,_,_=>
  have hv:=MA.cx hb;refine⟨.str (nm x),?_,rfl,hv⟩;rw[<-IP hv];exact k2 _ rfl
 | .turn k,hb,_,_,_,k4=>
  obtain⟨a,t,t',e,q⟩:=k4 _ _ _ rfl;obtain⟨a',o,its,n,e',h1,h2,h3,h4⟩:=jA q;rw[e] at e';cases e';refine⟨.ref a,e,a,rfl,Nat.lt_of_lt_of_le (Nat.le_of_ble_eq_true hb) (Nat.le_refl _),sR h1 h2 h3 ?_ (by show 2<1000;decide)⟩;rw[h4];exact .cons ⟨_,rfl⟩ (.cons ⟨_,rfl⟩ .nil)
 | .bW [c],hb,_,_,k3,_=>
  obtain⟨a,t,e,q⟩:=k3 _ _ rfl;obtain⟨a',o,its,n,e',h1,h2,h3,h4⟩:=jA q;rw[e] at e';cases e';refine⟨.ref a,e,a,rfl,rfl,sR h1 h2 h3 ?_ (by show 1<1000;decide)⟩;rw[h4];exact .cons ⟨_,rfl⟩ .nil
 | .bW [],hb,_,_,_,_=>exact absurd hb ↑0
 | .bW (_::_::_),hb,_,_,_,_=>exact absurd (Nat.eq_of_beq_eq_true hb) (by simp)
theorem Je:∀{vs:List Value}{ys:List MA.Sym},(ys.all NR)=true->vs.map (HZ K)=ys.map MH->∃us,Vals us vs/\Paired (uc K) us ys
 |[],[],_,_=>⟨[],.nil,.nil⟩
 |[],_::_,_,h=>by cases h
 |_::_,[],_,h=>by cases h
 |v::vs,y::ys,hb,h=>by
  rw[List.all_cons,Bool.and_eq_true] at hb;injection h with h1 h2;obtain⟨u,a1,a2⟩:=RX hb.1 h1;obtain⟨us,b1,b2⟩:=Je hb.2 h2;exact⟨u::us,.cons a1 b1,.cons a2 b2⟩
theorem QH{v:Value}{y:Nat×List MA.Sym}(h0:MA.k8 y.1=true)(h1:y.2.length<1000)(h2:(y.2.all NR)=true)(h:pairOf K v=Ka y):∃u,RelV u v/\Io K u y:=by
 unfold pairOf at h;split at h
 ·rename_i c x t w q;split at h
  ·rename_i c' l q';unfold Ka at h;injection h with h;injection h with e1 h;injection h with e2 h;injection h with e3 e4;obtain⟨a,o,its,n,rfl,a1,a2,a3,a4⟩:=jA q;obtain⟨b,o',its',n',rfl,b1,b2,b3,b4⟩:=jA q';obtain⟨us,c1,c2⟩:=Je h2 e4;refine⟨.ref a,rfl,a,b,us,rfl,sR a1 (a2.trans e1) a3 ?_ (by show 2<1000;decide),sR b1 (b2.trans e3) b3 (by rw[b4];exact c1) (by rw[c2.length];exact h1),c2⟩;rw[a4,e2,IP (MA.cx h0)];exact .cons ⟨_,rfl⟩ (.cons rfl .nil)
  ·cases h
 ·cases h
theorem Hz:∀{vs:List Value}{g:List (Nat×List MA.Sym)},(g.all λy=>MA.k8 y.1&&Nat.blt y.2.length 1000&&y.2.all NR)=true->vs.map (pairOf K)=g.map Ka->∃us,Vals us vs/\Paired (Io K) us g
 |[],[],_,_=>⟨[],.nil,.nil⟩
 |[],_::_,_,h=>by cases h
 |_::_,[],_,h=>by cases h
 |v::vs,y::ys,hb,h=>by
  rw[List.all_cons,Bool.and_eq_true,Bool.and_eq_true,Bool.and_eq_true] at hb;injection h with h1 h2;obtain⟨u,a1,a2⟩:=QH hb.1.1.1 (Nat.lt_of_lt_of_le (Nat.le_of_ble_eq_true hb.1.1.2) (Nat.le_refl _)) hb.1.2 h1;obtain⟨us,b1,b2⟩:=Hz hb.2 h2;exact⟨u::us,.cons a1 b1,.cons a2 b2⟩
theorem Qo{v:Value}{g:List (Nat×List MA.Sym)}(h0:g.length<1000)(h1:(g.all λy=>MA.k8 y.1&&Nat.blt y.2.length 1000&&y.2.all NR)=true)(h:BK K v=O9 g):∃u,RelV u v/\HP K u g:=by
 unfold BK at h;split at h
 ·rename_i c l q;unfold O9 at h;injection h with h;injection h with e1 e2;obtain⟨a,o,its,n,rfl,a1,a2,a3,a4⟩:=jA q;obtain⟨us,c1,c2⟩:=Hz h1 e2;exact⟨.ref a,rfl,a,us,rfl,sR a1 (a2.trans e1) a3 (by rw[a4];exact c1) (by rw[c2.length];exact h0),c2⟩
 ·cases h
theorem Cz{P:Params}:∀{es:List DictEntry}{i:Nat}{G:List (List (Nat×List MA.Sym))},(∀m,i<=m->m<i+G.length->m∈VC)->(G.all λg=>Nat.blt g.length 1000&&g.all λy=>MA.k8 y.1&&Nat.blt y.2.length 1000&&y.2.all NR)=true->es.map (Df K)=Cr P i G->∃l,pO P es l/\xH K i l G
 |[],_,[],_,_,_=>⟨[],trivial,trivial⟩
 |[],_,_::_,_,_,h=>by cases h
 |_::_,_,[],_,_,h=>by cases h
 |e::es,i,g::G,hv,hb,h=>by
  rw[List.all_cons,Bool.and_eq_true,Bool.and_eq_true] at hb;injection h with h1 h2;obtain⟨l,b1,b2⟩:=Cz (λm a b=>hv m ↑2 (by simp only[List.length_cons];omega)) hb.2 h2;have hi:=IP (hv i (Nat.le_refl _) (by simp only[List.length_cons];omega));unfold Df at h1;split at h1
  ·rename_i x t q;injection h1 with h1;injection h1 with e1 h1;injection h1 with e2 e3;obtain⟨u,a1,a2⟩:=Qo (Nat.lt_of_lt_of_le (Nat.le_of_ble_eq_true hb.1.1) (Nat.le_refl _)) hb.1.2 e3;rw[hi] at e1 e2;exact⟨(nm i,u)::l,⟨⟨t,by rw[q,e2]⟩,e1,a1,b1⟩,rfl,a2,b2⟩
  ·cases h1
theorem Lg.rules{P:Params}{h:Heap}{mg:Str->Option Value}(T:Lg K P)(X:K.In h)(G:h.Ns mainGlobals mg):Gi K P mg:=by obtain⟨a,es,n,b,e,k,s⟩:=T;obtain⟨l,h1,h2⟩:=Cz Dx Kb k;exact⟨a,l,PySem.W.mg_of X G b,⟨es,n,e,h1,s⟩,h2⟩
end
end
section
variable{K:Frag}{h:Heap}{mg:Str->Option Value}{nm qual m:Str}{st:Stmt}{f C a:Addr}{oc kV doc pm UJ ct:Value}{od an:Option Addr}{osl:Array (Option Value)}{i:Int}{x:Str}{t:PySem.Tok}
def bO(K:Frag)(nm:Str)(st:Stmt):Prop:=∃f fd,PySem.W.nsIn K mainGlobals nm=some (some (.ref f))/\jC K nm nm st f fd
theorem S6(b:PySem.W.nsIn K mainGlobals nm=some (some (.ref f)))(l:K.lookup f=some ⟨oc,od,.func (PySem.W.fnOf nm nm (ej st) (bX st) (aq st) .none kV doc pm an UJ ct),osl⟩)(c:PySem.W.codeIn K UJ nm=true)(k:PySem.W.keepIn K (.ref f)=true):bO K nm st:=⟨f,_,b,sW (st:=st) l c k⟩
def O5(st:Stmt)(nm qual:Str)(ps:List Str):Prop:=∀(kV doc pm:Value)(an:Option Addr)(UJ ct:Value)(us:List Value),us.length=ps.length->bindArgs (PySem.W.fnOf nm qual (ej st) (bX st) (aq st) .none kV doc pm an UJ ct) ⟨us,[]⟩=pure (ps.zip us)
theorem bO.def{ps:List Str}(d:bO K nm st)(X:K.In h)(G:h.Ns mainGlobals mg)(p:O5 st nm nm ps):Def K mg nm st ps:=by obtain⟨f,fd,b,F⟩:=d;exact⟨f,fd,F,F.binds p,PySem.W.mg_of X G b⟩
def dC(K:Frag)(nm:Str)(i:Int):Prop:=∃t,PySem.W.nsIn K mainGlobals nm=some (some (.int i t))
theorem S9(b:PySem.W.nsIn K mainGlobals nm=some (some (.int i t))):dC K nm i:=⟨t,b⟩
theorem dC.gi(d:dC K nm i)(X:K.In h)(G:h.Ns mainGlobals mg):GI mg nm i:=by obtain⟨t,b⟩:=d;exact⟨t,PySem.W.mg_of X G b⟩
def Kt(K:Frag)(nm:Str)(x:Str):Prop:=∃t,PySem.W.nsIn K mainGlobals nm=some (some (.str x t))
theorem To(b:PySem.W.nsIn K mainGlobals nm=some (some (.str x t))):Kt K nm x:=⟨t,b⟩
theorem Kt.gs(d:Kt K nm x)(X:K.In h)(G:h.Ns mainGlobals mg):GS mg nm x:=by obtain⟨t,b⟩:=d;exact⟨t,PySem.W.mg_of X G b⟩
def D9(K:Frag)(nm:Str)(l:List V):Prop:=∃a,PySem.W.nsIn K mainGlobals nm=some (some (.ref a))/\∀H,fE K H a l
theorem NU{l:List V}{its:Array Value}{n:Nat}{sl:Array (Option Value)}{dd:Option Addr}(b:PySem.W.nsIn K mainGlobals nm=some (some (.ref a)))(e:K.lookup a=some ⟨.type "tuple",dd,.seq its n,sl⟩)(z:its.size<=sizeLine)(v:Vals l its.toList):D9 K nm l:=
 ⟨a,b,λH=>.inr ⟨_,its,n,e,rfl,rfl,z,v⟩⟩
theorem D9.gt{l:List V}(d:D9 K nm l)(X:K.In h)(G:h.Ns mainGlobals mg):GT K mg nm l:=by obtain⟨a,b,q⟩:=d;exact⟨a,PySem.W.mg_of X G b,q⟩
def D6(K:Frag)(P:Params)(nm:Str)(l:List Str):Prop:=∃a,PySem.W.nsIn K mainGlobals nm=some (some (.ref a))/\R8 K P a l
theorem Nq{P:Params}{l:List Str}{es:Array DictEntry}{n:Nat}(b:PySem.W.nsIn K mainGlobals nm=some (some (.ref a)))(e:K.lookup a=some ⟨.type "dict",none,.dict es n,#[]⟩)(k:oZ P es.toList l)(s:(a==sysModules)=false):D6 K P nm l:=⟨a,b,es,n,e,k,s⟩
theorem D6.gd{P:Params}{l:List Str}(d:D6 K P nm l)(X:K.In h)(G:h.Ns mainGlobals mg):GD K P mg nm l:=by obtain⟨a,b,q⟩:=d;exact⟨a,PySem.W.mg_of X G b,q⟩
def GH(K:Frag)(nm:Str)(l:List (Int×Str)):Prop:=∃a,PySem.W.nsIn K mainGlobals nm=some (some (.ref a))/\Sd K a l
theorem Qp{l:List (Int×Str)}{es:Array DictEntry}{n:Nat}(b:PySem.W.nsIn K mainGlobals nm=some (some (.ref a)))(e:K.lookup a=some ⟨.type "dict",none,.dict es n,#[]⟩)(k:oM es.toList l)(s:(a==sysModules)=false):GH K nm l:=⟨a,b,es,n,e,k,s⟩
theorem GH.gd{l:List (Int×Str)}(d:GH K nm l)(X:K.In h)(G:h.Ns mainGlobals mg):SA K mg nm l:=by obtain⟨a,b,q⟩:=d;exact⟨a,PySem.W.mg_of X G b,q⟩
def wj(K:Frag)(nm qual:Str)(st:Stmt)(C:Addr):Prop:=PySem.W.nsIn K mainGlobals nm=some (some (.ref C))/\sL K C/\∃f fd,Mk K C f/\jC K "__init__" qual st f fd
theorem TH(b:PySem.W.nsIn K mainGlobals nm=some (some (.ref C)))(pg:PySem.W.plainGet K C Str.empty=true)(hd:PySem.W.hasDictIn K C=true)(po:PySem.W.plainOver K C=true)(sa:PySem.W.findIn K (.ref C) "__setattr__"=some (some (.builtin "object.__setattr__")))(mk:PySem.W.makesIn K C=true)(kc:PySem.W.keepIn K (.ref C)=true)(b1:PySem.W.findIn K (.ref C) "__init__"=some (some (.ref f)))(i1:PySem.W.isFn K (.ref f)=true)(l:K.lookup f=some ⟨oc,od,.func (PySem.W.fnOf "__init__" qual (ej st) (bX st) (aq st) .none kV doc pm an UJ ct),osl⟩)(c:PySem.W.codeIn K UJ qual=true)(k:PySem.W.keepIn K (.ref f)=true):wj K nm qual st C:=
 ⟨b,⟨pg,hd,po,sa⟩,f,_,⟨mk,b1,i1,kc⟩,sW (st:=st) l c k⟩
theorem wj.E3{ps:List Str}(d:wj K nm qual st C)(X:K.In h)(G:h.Ns mainGlobals mg)(p:O5 st "__init__" qual ps):wx K mg nm qual st C ps:=by obtain⟨b,_,f,fd,M,F⟩:=d;exact⟨f,fd,M,F,F.binds p,PySem.W.mg_of X G b⟩
theorem Rr(b1:PySem.W.findIn K (.ref C) m=some (some (.ref f)))(i1:PySem.W.isFn K (.ref f)=true)(l:K.lookup f=some ⟨oc,od,.func (PySem.W.fnOf m qual (ej st) (bX st) (aq st) .none kV doc pm an UJ ct),osl⟩)(c:PySem.W.codeIn K UJ qual=true)(k:PySem.W.keepIn K (.ref f)=true):∃f fd,Meth K C m f/\jC K m qual st f fd:=
 ⟨f,_,⟨b1,i1,k⟩,sW (st:=st) l c k⟩
def JW(K:Frag)(nm qual:Str)(st:Stmt)(C:Addr):Prop:=PySem.W.nsIn K mainGlobals nm=some (some (.ref C))/\tP K C/\∃f fd,Ip K C f/\jC K "__init__" qual st f fd
theorem SI{nm' q:Str}{N:Addr}{bs bm:List Value}{hdct:Bool}{sn:List Str}{sub:List Value}{ab:Bool}{col:Option Bool}{dd:Option Addr}{k0 k1 k2 k3 k5:Option Value}(b:PySem.W.nsIn K mainGlobals nm=some (some (.ref C)))(sa:PySem.W.findIn K (.ref C) "__setattr__"=some (some (.builtin "object.__setattr__"))){cd0:ClassData}(po:PySem.W.clsIn K C=some cd0)(po2:XM.dW cd0.mro=true)(hd:PySem.W.hasDictIn K C=true)(ga:PySem.W.findIn K (.ref C) "__getattribute__"=some (some (.builtin "BaseException.__getattribute__")))(gt:PySem.W.findIn K (.ref C) "__getattr__"=some none)(su:PySem.W.mroIn K C (.type "BaseException")=some true)(lc:K.lookup C=some (excClassObj nm' q C N bs bm hdct sn sub ab col dd k0 k1 k2 k3 k5 "Exception.__new__"))(ln:XM.Line "Exception" bm)(b1:PySem.W.findIn K (.ref C) "__init__"=some (some (.ref f)))(i1:PySem.W.isFn K (.ref f)=true)(kc:PySem.W.keepIn K (.ref C)=true)(l:K.lookup f=some ⟨oc,od,.func (PySem.W.fnOf "__init__" qual (ej st) (bX st) (aq st) .none kV doc pm an UJ ct),osl⟩)(c:PySem.W.codeIn K UJ qual=true)(k:PySem.W.keepIn K (.ref f)=true):JW K nm qual st C:=
 ⟨b,⟨sa,⟨cd0,po,po2⟩,hd,ga,gt,su⟩,f,_,⟨⟨_,_,_,_,_,_,_,_,_,_,_,_,_,_,_,_,lc,ln⟩,b1,i1,kc⟩,sW (st:=st) l c k⟩
def RK(K:Frag)(C:Addr):Prop:=PySem.W.nsIn K mainGlobals "Refused"=some (some (.ref C))/\∃f fd,F5 K C "__init__" f/\jC K "__init__" "Refused.__init__" oF f fd
theorem SM(b:PySem.W.nsIn K mainGlobals "Refused"=some (some (.ref C)))(sp:PySem.W.specialIn K (.ref C) "__getattribute__"=some (some (.builtin "type.__getattribute__")))(rd:PySem.W.readsIn K C (.type "type")=true)(at_:PySem.W.findCls K (.ref C) (.type "type") "__init__"=some (.val (.ref f)))(l:K.lookup f=some ⟨oc,od,.func (PySem.W.fnOf "__init__" "Refused.__init__" (ej oF) (bX oF) (aq oF) .none kV doc pm an UJ ct),osl⟩)(c:PySem.W.codeIn K UJ "Refused.__init__"=true)(k:PySem.W.keepIn K (.ref f)=true):RK K C:=⟨b,f,_,⟨sp,rd,at_,k⟩,sW (st:=oF) l c k⟩
end
end TG
namespace TG
open PySem TW
abbrev W0:List Str:=["account","and","as","away","both","break","catch","clear","cut","decimal","double","down","else","error","extended","false","fibre","finally","five","flags"]
abbrev W1:List Str:=["flush","fn","for","fraction","from","giving","half","if","in","inexact","interval","into","invalid","is","leave","let","list","make","match","module"]
abbrev W2:List Str:=["near","nearaway","nearcut","next","not","of","only","or","out","overflow","packed","picture","post","precision","raise","record","resume","return","rounding","say"]
abbrev W3:List Str:=["single","small","spawn","stack","text","then","to","trap","true","truth","try","underflow","up","use","value","while","whole","with","yield","zero"]
theorem NL:W0++(W1++(W2++(W3)))=JP:=↑1
end TG
namespace TG
open PySem PySem.Spec PyProof.Rows L2 TW
variable{P:Program}{w:World}{K:Frag}{mg:Str->Option Value}{base:Heap}
def jc(K:Frag)(C:Addr)(m qual:Str)(st:Stmt):Prop:=∃f fd,Meth K C m f/\jC K m qual st f fd
theorem jc.kT{K:Frag}{C:Addr}{m qual:Str}{st:Stmt}{ps:List Str}(h:jc K C m qual st)(p:O5 st m qual ps):dj K C m qual st ps:=by obtain⟨f,fd,M,F⟩:=h;exact⟨f,fd,M,F,F.binds p⟩
structure j_(K:Frag)(P:Params)(CT CN CS CR CL CD CF:Addr):Prop where
 jW:bO K "is_small" (top 10)
 gN:bO K "is_capital" (top 11)
 jy:bO K "is_digit" (top 12)
 fm:bO K "is_printable" (top 13)
 nq:bO K "in_word" (top 14)
 ou:bO K "in_code" (top 15)
 oy:bO K "in_mark" (top 16)
 oo:bO K "byte_at" (top 17)
 ny:bO K "run_end" (top 18)
 cT:bO K "growth_by_clearing" (top 8)
 di:bO K "growth_by_closing" (top 7)
 tN:bO K "growth" (top 6)
 yq:bO K "depth" (top 5)
 dJ:bO K "end_of_fraction" (top 31)
 dX:bO K "end_of_exponent" (top 32)
 gW:bO K "numeral_at" (top 30)
 eN:bO K "mark_is_right" (top 34)
 dY:bO K "packed_is_right" (top 35)
 dh:bO K "exponent_is_right" (top 36)
 jQ:bO K "is_right" (top 33)
 mh:bO K "spelled" (top 70)
 nj:bO K "word_at" (top 69)
 mI:bO K "code_at" (top 71)
 iq:bO K "number_at" (top 72)
 jJ:bO K "item_end" (top 74)
 nM:bO K "text_at" (top 73)
 mJ:bO K "sign_at" (top 75)
 jN:bO K "token_at" (top 68)
 fP:bO K "token_place" (top 67)
 B3:bO K "scan" (top 66)
 fU:bO K "refuse_long" (top 96)
 fC:bO K "scan_shallow" (top 97)
 xX:dC K "POINT" 46
 nJ:dC K "SMALL_E" 101
 qf:dC K "MINUS" 45
 wY:dC K "ZERO" 48
 cU:dC K "MOST_PACKED_DIGITS" 31
 cE:dC K "MOST_EXPONENT_DIGITS" 5
 cJ:dC K "MOST_BYTES_numerals" 255
 tI:dC K "PACKED" 112
 eZ:dC K "KEYWORD" 0
 BS:dC K "NAME" 1
 B2:dC K "CODE" 2
 qZ:dC K "NUMBER" 3
 ni:dC K "TEXT" 4
 nD:dC K "SIGN" 5
 dH:dC K "MOST_NAME_BYTES" 31
 du:dC K "LEAST_CODE_BYTES" 2
 dR:dC K "MOST_CODE_BYTES" 8
 gK:dC K "MOST_ITEMS" 1024
 d_:dC K "LINE_END" 10
 wC:dC K "BLANK" 32
 ll:dC K "QUOTE" 34
 BJ:dC K "HASH" 35
 iJ:dC K "SEMICOLON" 59
 dB:dC K "BACKSLASH" 92
 eY:dC K "SMALL_N" 110
 dn:dC K "MOST_BYTES_calls" 65536
 gX:dC K "MOST_DEPTH" 100
 c_:PySem.W.nsIn K mainGlobals "len"=some none
 vE:PySem.W.nsIn K mainGlobals "max"=some none
 Ac:PySem.W.nsIn K mainGlobals "all"=some none
 qv:PySem.W.nsIn K mainGlobals "range"=some none
 dG:PySem.W.nsIn K mainGlobals "isinstance"=some none
 BH:PySem.W.nsIn K mainGlobals "list"=some none
 ID:PySem.W.nsIn K mainGlobals "int"=some none
 v5:PySem.W.nsIn K mainGlobals "tuple"=some none
 Et:Kt K "LETTERS" R_
 ES:D9 K "OPENING" (jj.map V.str)
 Ej:D9 K "CLOSING" (gF.map V.str)
 JI:D9 K "MARKS" (P4.map V.int)
 IK:D6 K P "RISING" oC
 Ci:D6 K P "CLEARING" jB
 AN:D6 K P "KEYWORDS" JP
 Rl:GH K "SIGNS_OF_ONE" Js
 QA:GH K "SIGNS_OF_TWO" Jv
 xS:wj K "Token" "Token.__init__" Ir CT
 u_:wj K "Numeral" "Numeral.__init__" Ji CN
 nz:wj K "Scanned" "Scanned.__init__" J9 CS
 Nb:jc K CN "size" "Numeral.size" IE
 uF:RK K CR
 Eg:JW K "TooLong" "TooLong.__init__" Mv CL
 Ew:JW K "TooDeep" "TooDeep.__init__" N8 CD
 i4:JW K "Fault" "Fault.__init__" Ib CF
 zN:aE K CT "kind"
 Al:aE K CT "look"
 uM:aE K CT "start"
 C7:aE K CT "end"
 AJ:aE K CN "digits"
 xW:aE K CN "fraction"
 xb:aE K CN "exponent"
 Hu:aE K CN "mark"
 vw:aE K CS "found"
 vf:aE K CS "fault"
 zI:aE K CL "numbers"
 zB:aE K CD "numbers"
 oO:aE K CF "numbers"
 Ay:aE K CF "rule"
 vx:aE K CF "place"
 Uv:PySem.W.exmOne K (.ref CL) (.ref CR)=some true
 Us:PySem.W.exmOne K (.ref CD) (.ref CR)=some true
 Uz:PySem.W.exmOne K (.ref CF) (.ref CR)=some true
 S0:PySem.W.exmOne K (.ref CF) (.ref CF)=some true
structure mn(K:Frag)(P:Params)(CRd CG CW:Addr):Prop where
 fJ:bO K "low_first" (top 82)
 j0:bO K "set_byte" (top 79)
 gG:bO K "item_bytes" (top 85)
 gR:bO K "leaf_bytes" (top 84)
 eO:bO K "rows_by_token" (top 88)
 yw:bO K "parse" (top 91)
 xQ:wj K "Twig" "Twig.__init__" Nu CW
 zk:wj K "Growth" "Growth.__init__" (oj 0) CG
 yD:wj K "Reader" "Reader.__init__" (jK 0) CRd
 v7:jc K CG "begin" "Growth.begin" (oj 1)
 AH:jc K CG "turn" "Growth.turn" (oj 2)
 IT:jc K CG "put" "Growth.put" (oj 3)
 Ce:jc K CG "take" "Growth.take" (oj 4)
 sG:jc K CG "finish" "Growth.finish" (oj 5)
 wo:jc K CG "grown" "Growth.grown" (oj 6)
 wZ:jc K CRd "ahead" "Reader.ahead" (jK 1)
 F8:jc K CRd "run" "Reader.run" (jK 2)
 BE:jc K CRd "step" "Reader.step" (jK 3)
 BM:jc K CRd "grow" "Reader.grow" (jK 4)
 AI:jc K CRd "meet" "Reader.meet" (jK 5)
 gO:jc K CRd "pass_token" "Reader.pass_token" (jK 6)
 sJ:jc K CRd "refuse" "Reader.refuse" (jK 7)
 Ha:aE K CW "form"
 D5:aE K CW "parts"
 EN:aE K CW "first"
 BO:aE K CW "behind"
 Ee:aE K CG "begun"
 Jf:aE K CRd "text"
 Aa:aE K CRd "scanned"
 AF:aE K CRd "passed"
 Gp:aE K CRd "rows"
 AL:aE K CRd "coming"
 Bd:aE K CRd "growth"
 ha:PySem.W.findIn K (.ref CW) "__class__"=some (some (.builtin "object.__class__"))
 hn:PySem.W.specialIn K (.builtin "object.__class__") "__get__"=some (some (.builtin "getset_descriptor.__get__"))
 ht:PySem.W.takesIn K (.builtin "object.__class__")=some true
 hm:PySem.W.mroIn K CW (.type "object")=some true
 kl:PySem.W.kitOne K (.type "list") (.ref CW)=some false
 si:PySem.W.kitOne K (.type "str") (.type "int")=some false
 ti:PySem.W.kitOne K (.type "tuple") (.type "int")=some false
 st:PySem.W.kitOne K (.type "str") (.type "tuple")=some false
 tab:Lg K P
section
variable{P:Program}{w:World}{K:Frag}{mg:Str->Option Value}{base h:Heap}{CN CR CL CD:Addr}{c:Cs}
theorem Ia(T:j_ K w.params c.CT CN c.CS CR CL CD c.CF)(X:K.In h)(G:h.Ns mainGlobals mg):Ok P w K mg base (iZ P w) 4 "refuse_long" ["text"] (O_ K CR)/\Ok P w K mg base (iZ P w) 10 "scan_shallow" ["text"] (NH K c.CS c.CT CR):=by
 have jW:Def K mg "is_small" (top 10) ["byte"]:=T.jW.def X G ↑4;have gN:Def K mg "is_capital" (top 11) ["byte"]:=T.gN.def X G ↑4;have jy:Def K mg "is_digit" (top 12) ["byte"]:=T.jy.def X G ↑4;have fm:Def K mg "is_printable" (top 13) ["byte"]:=T.fm.def X G ↑4;have nq:Def K mg "in_word" (top 14) ["byte"]:=T.nq.def X G ↑4;have ou:Def K mg "in_code" (top 15) ["byte"]:=T.ou.def X G ↑4;have oy:Def K mg "in_mark" (top 16) ["byte"]:=T.oy.def X G ↑4;have oo:Def K mg "byte_at" (top 17) ["text","place"]:=T.oo.def X G ↑5;have ny:Def K mg "run_end" (top 18) ["text","place","fits"]:=T.ny.def X G ↑6;have cT:Def K mg "growth_by_clearing" (top 8) ["numbers"]:=T.cT.def X G ↑4;have di:Def K mg "growth_by_closing" (top 7) ["numbers","look"]:=T.di.def X G ↑5;have tN:Def K mg "growth" (top 6) ["numbers","look"]:=T.tN.def X G ↑5;have yq:Def K mg "depth" (top 5) ["found"]:=T.yq.def X G ↑4;have dJ:Def K mg "end_of_fraction" (top 31) ["text","place"]:=T.dJ.def X G ↑5;have dX:Def K mg "end_of_exponent" (top 32) ["text","place"]:=T.dX.def X G ↑5;have gW:Def K mg "numeral_at" (top 30) ["text","place"]:=T.gW.def X G ↑5;have eN:Def K mg "mark_is_right" (top 34) ["mark"]:=T.eN.def X G ↑4;have dY:Def K mg "packed_is_right" (top 35) ["numeral"]:=T.dY.def X G ↑4;have dh:Def K mg "exponent_is_right" (top 36) ["exponent"]:=T.dh.def X G ↑4;have jQ:Def K mg "is_right" (top 33) ["numeral"]:=T.jQ.def X G ↑4;have mh:Def K mg "spelled" (top 70) ["word"]:=T.mh.def X G ↑4;have nj:Def K mg "word_at" (top 69) ["text","place"]:=T.nj.def X G ↑5;have mI:Def K mg "code_at" (top 71) ["text","place"]:=T.mI.def X G ↑5;have iq:Def K mg "number_at" (top 72) ["text","place"]:=T.iq.def X G ↑5;have jJ:Def K mg "item_end" (top 74) ["text","place"]:=T.jJ.def X G ↑5;have nM:Def K mg "text_at" (top 73) ["text","place"]:=T.nM.def X G ↑5;have mJ:Def K mg "sign_at" (top 75) ["text","place"]:=T.mJ.def X G ↑5;have jN:Def K mg "token_at" (top 68) ["text","place"]:=T.jN.def X G ↑5;have fP:Def K mg "token_place" (top 67) ["text","place"]:=T.fP.def X G ↑5;have B3:Def K mg "scan" (top 66) ["text"]:=T.B3.def X G ↑4;have fU:Def K mg "refuse_long" (top 96) ["text"]:=T.fU.def X G ↑4;have fC:Def K mg "scan_shallow" (top 97) ["text"]:=T.fC.def X G ↑4;have xX:=T.xX.gi X G;have nJ:=T.nJ.gi X G;have qf:=T.qf.gi X G;have wY:=T.wY.gi X G;have cU:=T.cU.gi X G;have cE:=T.cE.gi X G;have cJ:=T.cJ.gi X G;have tI:=T.tI.gi X G;have eZ:=T.eZ.gi X G;have BS:=T.BS.gi X G;have B2:=T.B2.gi X G;have qZ:=T.qZ.gi X G;have ni:=T.ni.gi X G;have nD:=T.nD.gi X G;have dH:=T.dH.gi X G;have du:=T.du.gi X G;have dR:=T.dR.gi X G;have gK:=T.gK.gi X G;have d_:=T.d_.gi X G;have wC:=T.wC.gi X G;have ll:=T.ll.gi X G;have BJ:=T.BJ.gi X G;have iJ:=T.iJ.gi X G;have dB:=T.dB.gi X G;have eY:=T.eY.gi X G;have dn:=T.dn.gi X G;have gX:=T.gX.gi X G;have c_:=PySem.W.mg_none_of X G T.c_;have vE:=PySem.W.mg_none_of X G T.vE;have Ac:=PySem.W.mg_none_of X G T.Ac;have gL:=T.Et.gs X G;have tO:=T.ES.gt X G;have tC:=T.Ej.gt X G;have tM:=T.JI.gt X G;have kR:=T.IK.gd X G;have kC:=T.Ci.gd X G;have kW:=T.AN.gd X G;have k1:=T.Rl.gd X G;have k2:=T.QA.gd X G;have TT:yf K c.CT:=⟨T.xS.2.1,T.zN,T.Al,T.uM,T.C7⟩
 have TN:EU K CN:=⟨T.u_.2.1,T.AJ,T.xW,T.xb,T.Hu⟩
 have TS:w6 K c.CS:=⟨T.nz.2.1,T.vw,T.vf⟩
 have nT:Eb P w K mg base c.CT:=Lb (T.xS.E3 X G ↑7) TT;have nN:vt P w K mg base 1 "Numeral" CN ["self","digits","fraction","exponent","mark"] (Bz CN):=Kk (T.u_.E3 X G ↑7) TN;have dS:OI K mg c.CS:=T.nz.E3 X G ↑6;have mS:i8 P w K mg base 1 CN "size" ["self"] (vQ CN):=by
  exact KO (T.Nb.kT ↑4) TN c_
 have rC:GO K mg CR:=by
  obtain⟨b,f,fd,M,F⟩:=T.uF;exact⟨PySem.W.mg_of X G b,f,fd,M,F,F.binds ↑5⟩
 have TF:B9 K c.CF:=⟨T.i4.2.1,T.oO,T.Ay,T.vx⟩
 have mf:mg "Fault"=some (.ref c.CF):=PySem.W.mg_of X G T.i4.1;have nF:wc P w K mg base c.CF:=by
  obtain⟨b,_,f,fd,M,F⟩:=T.i4;exact⟨f,fd,M,Hh F rC TF,F.binds ↑6,mf⟩
 have tl:QN P w K mg base "TooLong" CL CR [-1]:=by
  obtain⟨b,x,f,fd,M,F⟩:=T.Eg;exact⟨⟨f,fd,M,Qs F rC,F.binds ↑4,PySem.W.mg_of X G b⟩,x,T.zI,T.Uv⟩
 have td:QN P w K mg base "TooDeep" CD CR [-6]:=by
  obtain⟨b,x,f,fd,M,F⟩:=T.Ew;exact⟨⟨f,fd,M,R3 F rC,F.binds ↑4,PySem.W.mg_of X G b⟩,x,T.zB,T.Us⟩
 have o1:Ok P w K mg base bh 1 "is_small" ["byte"] (iW h_):=Hg jW;have o2:Ok P w K mg base bh 1 "is_capital" ["byte"] (iW ux):=OF gN;have o3:Ok P w K mg base bh 1 "is_digit" ["byte"] (iW bZ):=FW jy;have o4:Ok P w K mg base bh 1 "is_printable" ["byte"] (iW g7):=Kf fm;have o5:=K9 nq o1 o3;have o6:=Lf ou o2 o3;have o7:=Lm oy o5 o2;have ob:Ok P w K mg base bh 1 "byte_at" ["text","place"] (hX K):=JO oo c_;have orn:Ok P w K mg base bh 4 "run_end" ["text","place","fits"] (k_ P w K mg base):=MF ny c_;have oc1:Ok P w K mg base bh 1 "growth_by_clearing" ["numbers"] y0:=OP cT;have oc2:=MT di oc1;have og:=N_ tN tO tC kR kC oc2 oc1;have od:=MI yq TT vE og;have ofr:=J1 dJ xX ob o3 orn;have oex:=Mw dX nJ qf ob o3 orn;have onu:=Oh gW o3 o7 orn ofr oex nN;have omk:Ok P w K mg base bh 1 "mark_is_right" ["mark"] (A5 K):=OH eN tM c_;have opk:Ok P w K mg base bh 1 "packed_is_right" ["numeral"] (AS CN λd f e _=>iU d f e):=Mi dY TN cU c_;have oer:Ok P w K mg base bh 1 "exponent_is_right" ["exponent"] (x' K):=NQ dh qf wY cE c_;have yJ:=My jQ TN cJ tI wY c_ mS omk opk oer;have osp:=Ny mh gL Ac o1;have owd:=Q1 nj o5 orn osp nT nF kW eZ BS dH;have ocd:=R1 mI o6 orn nT nF B2 du dR;have onr:=RR iq TN onu yJ mS nT nF qZ;have oit:=RM jJ ob o4 nF c_ dB ll eY;have otx:=P7 nM ob oit nT nF c_ ni ll gK;have osg:=Pw mJ ob nT nF vE nD k1 k2;have ota:=Po jN o1 o2 o3 owd ocd onr otx osg ll;have otp:=QV fP o4 orn c_ BJ wC d_ iJ;have osc:=K6 B3 dS TS TT TF otp ota c_ mf T.S0;have orl:=Qc fU tl c_ dn;have oss:=QS fC TS osc od td gX;exact⟨orl,oss⟩
theorem j_.Ju(T:j_ K w.params c.CT CN c.CS CR CL CD c.CF)(X:K.In h)(G:h.Ns mainGlobals mg):B9 K c.CF/\wc P w K mg base c.CF/\mg "Refused"=some (.ref CR):=by
 have rC:GO K mg CR:=by
  obtain⟨b,f,fd,M,F⟩:=T.uF;exact⟨PySem.W.mg_of X G b,f,fd,M,F,F.binds ↑5⟩
 have TF:B9 K c.CF:=⟨T.i4.2.1,T.oO,T.Ay,T.vx⟩
 have mf:mg "Fault"=some (.ref c.CF):=PySem.W.mg_of X G T.i4.1;refine⟨TF,?_,rC.mg⟩;obtain⟨b,_,f,fd,M,F⟩:=T.i4;exact⟨f,fd,M,Hh F rC TF,F.binds ↑6,mf⟩
theorem mn.tw(R:mn K w.params c.CR c.CG c.CW):Ho K c.CW:=⟨R.xQ.2.1,R.Ha,R.D5,R.EN,R.BO,R.ha,R.hn,R.ht,R.hm,R.kl⟩
theorem ET(T:j_ K w.params c.CT CN c.CS CR CL CD c.CF)(R:mn K w.params c.CR c.CG c.CW)(X:K.In h)(G:h.Ns mainGlobals mg):Ok P w K mg base (iZ P w) 8 "parse" ["text","scanned"] (NI K c):=by
 obtain⟨TF,nF,mr⟩:=T.Ju (P:=P) (base:=base) X G;have fJ:Def K mg "low_first" (top 82) ["number","size"]:=R.fJ.def X G ↑5;have j0:Def K mg "set_byte" (top 79) ["bits"]:=R.j0.def X G ↑4;have gG:Def K mg "item_bytes" (top 85) ["items"]:=R.gG.def X G ↑4;have gR:Def K mg "leaf_bytes" (top 84) ["text","token"]:=R.gR.def X G ↑5;have eO:Def K mg "rows_by_token" (top 88) []:=R.eO.def X G (λ_ _ _ _ _ _ us hl=>match us,hl with|[],_=>rfl);have yw:Def K mg "parse" (top 91) ["text","scanned"]:=R.yw.def X G ↑5;have eZ:=T.eZ.gi X G;have nD:=T.nD.gi X G;have ni:=T.ni.gi X G;have dB:=T.dB.gi X G;have d_:=T.d_.gi X G;have eY:=T.eY.gi X G;have c_:=PySem.W.mg_none_of X G T.c_;have vE:=PySem.W.mg_none_of X G T.vE;have Ac:=PySem.W.mg_none_of X G T.Ac;have qv:=PySem.W.mg_none_of X G T.qv;have dG:=PySem.W.mg_none_of X G T.dG;have BH:=PySem.W.mg_none_of X G T.BH;have ID:=PySem.W.mg_none_of X G T.ID;have v5:=PySem.W.mg_none_of X G T.v5;have v7:dj K c.CG "begin" "Growth.begin" (oj 1) ["self","form","passed"]:=R.v7.kT ↑6;have AH:dj K c.CG "turn" "Growth.turn" (oj 2) ["self","kind"]:=R.AH.kT ↑5;have IT:dj K c.CG "put" "Growth.put" (oj 3) ["self","part"]:=R.IT.kT ↑5;have Ce:dj K c.CG "take" "Growth.take" (oj 4) ["self"]:=R.Ce.kT ↑4;have sG:dj K c.CG "finish" "Growth.finish" (oj 5) ["self","passed"]:=R.sG.kT ↑5;have wo:dj K c.CG "grown" "Growth.grown" (oj 6) ["self"]:=R.wo.kT ↑4;have wZ:dj K c.CR "ahead" "Reader.ahead" (jK 1) ["self"]:=R.wZ.kT ↑4;have F8:dj K c.CR "run" "Reader.run" (jK 2) ["self"]:=R.F8.kT ↑4;have BE:dj K c.CR "step" "Reader.step" (jK 3) ["self","symbol"]:=R.BE.kT ↑5;have BM:dj K c.CR "grow" "Reader.grow" (jK 4) ["self","symbol"]:=R.BM.kT ↑5;have AI:dj K c.CR "meet" "Reader.meet" (jK 5) ["self","symbol","look"]:=R.AI.kT ↑6;have gO:dj K c.CR "pass_token" "Reader.pass_token" (jK 6) ["self"]:=R.gO.kT ↑4;have sJ:dj K c.CR "refuse" "Reader.refuse" (jK 7) ["self"]:=R.sJ.kT ↑4;have TT:yf K c.CT:=⟨T.xS.2.1,T.zN,T.Al,T.uM,T.C7⟩
 have TS:w6 K c.CS:=⟨T.nz.2.1,T.vw,T.vf⟩
 have TW:Ho K c.CW:=R.tw;have TG_:Fw K c.CG:=⟨R.zk.2.1,R.Ee⟩
 have TR:Jw K c.CR:=⟨R.yD.2.1,R.Jf,R.Aa,R.AF,R.Gp,R.AL,R.Bd⟩
 have kf:RL K:=⟨R.si,R.ti,R.st⟩
 have mT:mg "Twig"=some (.ref c.CW):=PySem.W.mg_of X G R.xQ.1;have nT:vt P w K mg base 1 "Twig" c.CW ["self","form","first"] (Dl c.CW):=OC (R.xQ.E3 X G ↑6) TW;have nG:vt P w K mg base 3 "Growth" c.CG ["self"] (MR c.CG c.CW):=OM (R.zk.E3 X G ↑4) TG_ nT;have olo:Ok P w K mg base bh 1 "low_first" ["number","size"] Ab:=GX fJ qv;have osb:Ok P w K mg base bh 1 "set_byte" ["bits"] (Oy c.CW):=Qe j0;have oib:Ok P w K mg base bh 1 "item_bytes" ["items"] (G1 K):=O6 gG c_ dB d_ eY;have olf:=QY gR TT c_ eZ nD ni oib olo;have orb:Ok P w K mg base bh 1 "rows_by_token" [] (Ml K):=PJ eO (R.tab.rules X G);have obg:=Ry v7 TG_ nT;have otu:i8 P w K mg base 1 c.CG "turn" ["self","kind"] (OT c.CG c.CW):=RZ AH TG_ TW;have opu:i8 P w K mg base 1 c.CG "put" ["self","part"] (G8 c.CG c.CW):=Qz IT TG_ TW;have otk:i8 P w K mg base 1 c.CG "take" ["self"] (GV c.CG c.CW):=O4 Ce TG_ TW mT dG;have ofi:=P2 sG TG_ TW opu osb;have ogn:i8 P w K mg base 1 c.CG "grown" ["self"] (M4 c.CG c.CW):=Q2 wo TG_;have orn:∀b,jz P w K mg base 7 c.CR "run" ["self"] (NN K c b):=λb=>by
  have oah:i8 P w K mg base 1 c.CR "ahead" ["self"] (MY K c b):=RC wZ TR TS TT c_;have opt:i8 P w K mg base 3 c.CR "pass_token" ["self"] (N6 K c b):=Rm gO TR TS TT TG_ olf opu;have ore:jz P w K mg base 4 c.CR "refuse" ["self"] (OU K c b):=Rv sJ TR TS TT nF c_;have ogw:i8 P w K mg base 2 c.CR "grow" ["self","symbol"] (MQ K c b):=Rc BM TR TG_ BH otu opu;have ome:jz P w K mg base 5 c.CR "meet" ["self","symbol","look"] (MO K c b):=QO AI TR opt ore;have ost:jz P w K mg base 6 c.CR "step" ["self","symbol"] (NA K c b):=Qu BE TR TG_ kf dG ID v5 obg ogw otk ofi oah ome;exact QX F8 TR TG_ c_ ost ogn
 have nR:∀b,vt P w K mg base 5 "Reader" c.CR ["self","text","scanned"] (OL K c b):=λb=>Og (R.yD.E3 X G ↑6) TR orb nG;exact Qt yw TR nR orn
end
section
open PySem.W (WData Codec OpenSpec)
section
variable{P:Program}{w:World}{K:Frag}{mg:Str->Option Value}{h:Heap}{CN CR CL CD CRd CG CW CS CT CF:Addr}
structure GY(K:Frag):Prop where
 d1:bO K "head_bytes" (top 81)
 d2:bO K "tree_bytes" (top 80)
 d3:bO K "same" (top 95)
theorem Gd{fa:Addr}(X:K.In h)(G:h.Ns mainGlobals mg)(hmg:mg "same"=some (.ref fa))(T:j_ K w.params CT CN CS CR CL CD CF)(R:mn K w.params CRd CG CW)(N:GY K):
  ∃fd:FuncData,(∀(s:Shared)(us:List Value),us.length=(["text","other"]:List Str).length->BindsTo s fd ⟨us,[]⟩ ((["text","other"]:List Str).zip us))/\∀base:Heap,K.In base->base.Ns mainGlobals mg->cn P w K mg base bh 13 fa fd ["text","other"] (J8 K):=by
 obtain⟨f,fd,b,F⟩:=N.d3;have e:=hmg.symm.trans (PySem.W.mg_of X G b);cases e;refine⟨fd,?_,λbase X' G'=>?_⟩
 ·obtain⟨oc,od,kV,doc,pm,an,UJ,ct,osl,rfl,lk,hcd⟩:=F.ex;exact λs us hu=>match us,hu with|[_,_],_=>.of_eq rfl
 ·obtain⟨TF,nF,mr⟩:=j_.Ju (P:=P) (base:=base) (c:=⟨CRd,CG,CW,CS,CT,CF⟩) T X' G';obtain⟨o1,o2⟩:=Ia (P:=P) (base:=base) (c:=⟨CRd,CG,CW,CS,CT,CF⟩) T X' G';have o3:=ET (P:=P) (base:=base) (c:=⟨CRd,CG,CW,CS,CT,CF⟩) T R X' G';have n0:=PySem.W.mg_none_of X' G' T.c_;have olo:Ok P w K mg base bh 1 "low_first" ["number","size"] Ab:=GX (R.fJ.def X' G' ↑5) (PySem.W.mg_none_of X' G' T.qv);have TW:=mn.tw (c:=⟨CRd,CG,CW,CS,CT,CF⟩) R;have ohd:=JQ (N.d1.def X' G' ↑4) TW n0 olo;have otb:=RQ (N.d2.def X' G' ↑4) TW (PySem.W.mg_of X' G' R.xQ.1) n0 (PySem.W.mg_none_of X' G' T.dG) ohd;exact Rf F TF o1 o2 o3 otb mr T.Uz
end
theorem Bc(K:Frag)(H:Hp)(xs:List V)(a:Codec.denoteAll PySem.Challenge.rw_twigtext_s08_same.args)(hO:vC H)(hwi:Codec.withinAll PySem.Challenge.rw_twigtext_s08_same.args a=true)(hask:Codec.app PySem.Challenge.rw_twigtext_s08_same.args PySem.Challenge.rw_twigtext_s08_same.asked a=true)(hx:gg K H xs (Codec.encAll PySem.Challenge.rw_twigtext_s08_same.args a)):
  J8 K xs H (λv H'=>Dw K H' v (PySem.Challenge.rw_twigtext_s08_same.ret.enc (Codec.app PySem.Challenge.rw_twigtext_s08_same.args PySem.Challenge.rw_twigtext_s08_same.f a))) λ_ _ _=>False:=by
 have q:((Codec.inLen 0 66000 a.1&&a.1.all (Codec.inInt 0 255))&&((Codec.inLen 0 66000 a.2.1&&a.2.1.all (Codec.inInt 0 255))&&true))=true:=hwi;rw[Bool.and_eq_true,Bool.and_eq_true,Bool.and_eq_true,Bool.and_eq_true] at q;cases hx with
 |cons h1 h2=>
  cases h2 with
  |cons h2 h3=>
   cases h3;cases h1 with
   |lst hs ha=>
    cases h2 with
    |lst hs' ha'=>
     have e:=L2.vF a.1 _ ha;subst e;have e':=L2.vF a.2.1 _ ha';subst e';have hb:∀{l:List Int},l.all (Codec.inInt 0 255)=true->∀n∈l,0<=n/\n<=255:=λh n hn=>Codec.inInt_iff.mp (List.all_eq_true.mp h n hn);refine⟨_,_,WrxthhNeutral.text a.1,WrxthhNeutral.text a.2.1,rfl,?_,?_,λH' p s' hp=>?_⟩
     ·rw[el,<-lX a.1 (hb q.1.2)];exact hs
     ·rw[el,<-lX a.2.1 (hb q.2.1.2)];exact hs'
     ·have g:Dw K H' (.ref p) (.list ((MA.pF (WrxthhNeutral.text a.1) (WrxthhNeutral.text a.2.1)).map WData.int)):=.lst (L2.bf.of hp) (L2.Dr _);rw[<-MA.Kq] at g;exact g
end
end TG
namespace TL
open PySem
section
def t(i:Nat):Stmt:=PySem.Challenge.pw_twigtext_s08_same.main.body.getD i (.Pass ⟨0,0,0,0⟩)
set_option compiler.extract_closed false
def l0:Stmt:=t 0
def l1:Stmt:=t 1
def l2:Stmt:=t 2
def l3:Stmt:=t 3
def l4:Stmt:=t 4
def l5:Stmt:=t 5
def l6:Stmt:=t 6
def l7:Stmt:=t 7
def l8:Stmt:=t 8
def l9:Stmt:=t 9
def l10:Stmt:=t 10
def l11:Stmt:=t 11
def l12:Stmt:=t 12
def l13:Stmt:=t 13
def l14:Stmt:=t 14
def l15:Stmt:=t 15
def l16:Stmt:=t 16
def l17:Stmt:=t 17
def l18:Stmt:=t 18
def l19:Stmt:=t 19
def l20:Stmt:=t 20
def l21:Stmt:=t 21
def l22:Stmt:=t 22
def l23:Stmt:=t 23
def l24:Stmt:=t 24
def l25:Stmt:=t 25
def l26:Stmt:=t 26
def l27:Stmt:=t 27
def l28:Stmt:=t 28
def l29:Stmt:=t 29
def l30:Stmt:=t 30
def l31:Stmt:=t 31
def l32:Stmt:=t 32
def l33:Stmt:=t 33
def l34:Stmt:=t 34
def l35:Stmt:=t 35
def l36:Stmt:=t 36
def l37:Stmt:=t 37
def l38:Stmt:=t 38
def l39:Stmt:=t 39
def l40:Stmt:=t 40
def l41:Stmt:=t 41
def l42:Stmt:=t 42
def l43:Stmt:=t 43
def l44:Stmt:=t 44
def l45:Stmt:=t 45
def l46:Stmt:=t 46
def l47:Stmt:=t 47
def l48:Stmt:=t 48
def l49:Stmt:=t 49
def l50:Stmt:=t 50
def l51:Stmt:=t 51
def l52:Stmt:=t 52
def l53:Stmt:=t 53
def l54:Stmt:=t 54
def l55:Stmt:=t 55
def l56:Stmt:=t 56
def l57:Stmt:=t 57
def l58:Stmt:=t 58
def l59:Stmt:=t 59
def l60:Stmt:=t 60
def l61:Stmt:=t 61
def l62:Stmt:=t 62
def l63:Stmt:=t 63
def l64:Stmt:=t 64
def l65:Stmt:=t 65
def l66:Stmt:=t 66
def l67:Stmt:=t 67
def l68:Stmt:=t 68
def l69:Stmt:=t 69
def l70:Stmt:=t 70
def l71:Stmt:=t 71
def l72:Stmt:=t 72
def l73:Stmt:=t 73
def l74:Stmt:=t 74
def l75:Stmt:=t 75
def l76:Stmt:=t 76
def l77:Stmt:=t 77
def l78:Stmt:=t 78
def l79:Stmt:=t 79
def l80:Stmt:=t 80
def l81:Stmt:=t 81
def l82:Stmt:=t 82
def l83:Stmt:=t 83
def l84:Stmt:=t 84
def l85:Stmt:=t 85
def l86:Stmt:=t 86
def l87:Stmt:=t 87
def l88:Stmt:=t 88
def l89:Stmt:=t 89
def l90:Stmt:=t 90
def l91:Stmt:=t 91
def l92:Stmt:=t 92
def l93:Stmt:=t 93
def l94:Stmt:=t 94
def l95:Stmt:=t 95
def l96:Stmt:=t 96
def l97:Stmt:=t 97
def lS:Scope:=PySem.Challenge.pw_twigtext_s08_same.main.scope
def lG:Given:=PySem.Challenge.pw_twigtext_s08_same.given
def prog:Program:={main:={body:=[l0,l1,l2,l3,l4,l5,l6,l7,l8,l9,l10,l11,l12,l13,l14,l15,l16,l17,l18,l19,l20,l21,l22,l23,l24,l25,l26,l27,l28,l29,l30,l31,l32,l33,l34,l35,l36,l37,l38,l39,l40,l41,l42,l43,l44,l45,l46,l47,l48,l49,l50,l51,l52,l53,l54,l55,l56,l57,l58,l59,l60,l61,l62,l63,l64,l65,l66,l67,l68,l69,l70,l71,l72,l73,l74,l75,l76,l77,l78,l79,l80,l81,l82,l83,l84,l85,l86,l87,l88,l89,l90,l91,l92,l93,l94,l95,l96,l97],scope:=lS,futureAnnotations:=false,file:="/claim/cut.py",more:=[]},modules:=[],parses:=[],absent:=[],harvested:=[],given:=lG}
theorem prog_eq:PySem.Challenge.pw_twigtext_s08_same=prog:=rfl
def row:PySem.W.OpenSpec:=PySem.W.OpenSpec.mk prog PySem.Challenge.nm_twigtext_s08_same PySem.Challenge.fa_twigtext_s08_same PySem.Challenge.fr_twigtext_s08_same PySem.Challenge.as_twigtext_s08_same PyWrxthh.same
theorem row_eq:PySem.Challenge.rw_twigtext_s08_same=row:=rfl
end
end TL
open Lean in
local macro_rules|`(#check 0)=>return mkNullNode (←(`PySem.Challenge.pw_twigtext_s08_same::`TL.t::("heap_1"::(List.range 1799).map λi=>s!"o_{i+1}").map (Name.str `PySem.Challenge.cw_twigtext_s08_same_holds)).toArray.mapM λs=>let i:=mkIdent (.str `PySem.W.Fast s!"te{s.hash}");`(theorem $i:ident:True:=trivial))
#check 0
open PySem PySem.W PyProof.Rows
local macro_rules
 |`(tactic|sleep 1)=>`(tactic|as_aux_lemma=>(refine' TG.S6 ?a ?l ?c ?k;(case a=>k_is);(case l=>k_is);(case c=>k_is);(case k=>k_is)))
 |`(tactic|sleep 2)=>`(tactic|as_aux_lemma=>(refine' TG.S9 ?a;(case a=>k_is)))
 |`(tactic|sleep 3)=>`(tactic|as_aux_lemma=>(refine' TG.To ?a;(case a=>k_is)))
 |`(tactic|sleep 4)=>`(tactic|(refine' TG.TH ?b ?pg ?hd ?po ?sa ?mk ?kc ?b1 ?i1 ?l ?c ?k;(case b=>k_is);(case pg=>k_is);(case hd=>k_is);(case po=>k_is);(case sa=>k_is);(case mk=>k_is);(case kc=>k_is);(case b1=>k_is);(case i1=>k_is);(case l=>k_is);(case c=>k_is);(case k=>k_is)))
 |`(tactic|sleep 5)=>`(tactic|(refine' TG.SI ?b ?sa ?po ?po2 ?hd ?ga ?gt ?su ?lc ?ln ?b1 ?i1 ?kc ?l ?c ?k;(case b=>k_is);(case sa=>k_is);(case po=>k_is);(case po2=>decide +kernel);(case hd=>k_is);(case ga=>k_is);(case gt=>k_is);(case su=>k_is);(case lc=>k_is);(case ln=>exact ⟨by decide +kernel,by decide +kernel,by decide +kernel,by decide +kernel⟩);(case b1=>k_is);(case i1=>k_is);(case kc=>k_is);(case l=>k_is);(case c=>k_is);(case k=>k_is)))
 |`(tactic|sleep 6)=>`(tactic|(refine' TG.SM ?b ?sp ?rd ?z ?l ?c ?k;(case b=>k_is);(case sp=>k_is);(case rd=>k_is);(case z=>k_is);(case l=>k_is);(case c=>k_is);(case k=>k_is)))
 |`(tactic|sleep 7)=>`(tactic|as_aux_lemma=>(refine' TG.Rr ?b1 ?i1 ?l ?c ?k;(case b1=>k_is);(case i1=>k_is);(case l=>k_is);(case c=>k_is);(case k=>k_is)))
 |`(tactic|sleep 8)=>`(tactic|as_aux_lemma=>(show PySem.W.findIn _ _ _=_;k_is))
 |`(tactic|o_headS ($f $K $a $e))=>`(tactic|o_headS (HK.hk $K ⟨$a,$e,by kernel_rfl⟩))
set_option maxRecDepth 100000 in
set_option maxHeartbeats 0 in
theorem PySem.Challenge.cw_twigtext_s08_same_holds : PySem.Challenge.rw_twigtext_s08_same.Holds := by
  rw [TL.row_eq]; w_on; k_headS; (case hw => exact ⟨[.list [],.list []], by decide +kernel, by decide +kernel⟩)
  k_fillS
  refine L2.BP (r := TL.row) (k := 13) (CX := L2.bh) (ps := ["text","other"]) (sp := TG.J8) (by decide +kernel) rfl rfl ⟨rfl, by decide, by decide⟩ (fun w h Y => HK.hk_in Y) ?F ?S (fun _ _ _ _ z => z)
  case F =>
    intro w mg fa h Y KX G hmg
    refine' TG.Gd KX G hmg ?t ?r ?d
    case t =>
      refine' TG.j_.mk ..
      rotate_left 7
      iterate 32 sleep 1
      iterate 27 sleep 2
      iterate 8 (as_aux_lemma=>k_is)
      sleep 3
      (as_aux_lemma=>(refine' TG.NU ?a1 ?e1 ?z1 ?v1;(case a1=>k_is);(case e1=>k_is);(case z1=>decide);(case v1=>exact (.cons ⟨_,rfl⟩ (.cons ⟨_,rfl⟩ (.cons ⟨_,rfl⟩ .nil))))))
      (as_aux_lemma=>(refine' TG.NU ?a2 ?e2 ?z2 ?v2;(case a2=>k_is);(case e2=>k_is);(case z2=>decide);(case v2=>exact (.cons ⟨_,rfl⟩ (.cons ⟨_,rfl⟩ (.cons ⟨_,rfl⟩ .nil))))))
      (as_aux_lemma=>(refine' TG.NU ?a3 ?e3 ?z3 ?v3;(case a3=>k_is);(case e3=>k_is);(case z3=>decide);(case v3=>exact (.cons ⟨_,rfl⟩ (.cons ⟨_,rfl⟩ (.cons ⟨_,rfl⟩ (.cons ⟨_,rfl⟩ (.cons ⟨_,rfl⟩ (.cons ⟨_,rfl⟩ (.cons ⟨_,rfl⟩ .nil))))))))))
      (as_aux_lemma=>(refine' TG.Nq ?a4 ?e4 ?kk4 ?ss4;(case a4=>k_is);(case e4=>k_is);(case ss4=>decide);(case kk4=>exact ⟨⟨_,rfl⟩,rfl,⟨⟨_,rfl⟩,rfl,⟨⟨_,rfl⟩,rfl,⟨⟨_,rfl⟩,rfl,⟨⟨_,rfl⟩,rfl,⟨⟨_,rfl⟩,rfl,⟨⟨_,rfl⟩,rfl,⟨⟨_,rfl⟩,rfl,⟨⟨_,rfl⟩,rfl,⟨⟨_,rfl⟩,rfl,⟨⟨_,rfl⟩,rfl,⟨⟨_,rfl⟩,rfl,⟨⟨_,rfl⟩,rfl,⟨⟨_,rfl⟩,rfl,⟨⟨_,rfl⟩,rfl,⟨⟨_,rfl⟩,rfl,⟨⟨_,rfl⟩,rfl,⟨⟨_,rfl⟩,rfl,⟨⟨_,rfl⟩,rfl,⟨⟨_,rfl⟩,rfl,⟨⟨_,rfl⟩,rfl,⟨⟨_,rfl⟩,rfl,⟨⟨_,rfl⟩,rfl,⟨⟨_,rfl⟩,rfl,⟨⟨_,rfl⟩,rfl,trivial⟩⟩⟩⟩⟩⟩⟩⟩⟩⟩⟩⟩⟩⟩⟩⟩⟩⟩⟩⟩⟩⟩⟩⟩⟩)))
      (as_aux_lemma=>(refine' TG.Nq ?a5 ?e5 ?kk5 ?ss5;(case a5=>k_is);(case e5=>k_is);(case ss5=>decide);(case kk5=>exact ⟨⟨_,rfl⟩,rfl,⟨⟨_,rfl⟩,rfl,⟨⟨_,rfl⟩,rfl,⟨⟨_,rfl⟩,rfl,⟨⟨_,rfl⟩,rfl,⟨⟨_,rfl⟩,rfl,⟨⟨_,rfl⟩,rfl,⟨⟨_,rfl⟩,rfl,⟨⟨_,rfl⟩,rfl,⟨⟨_,rfl⟩,rfl,⟨⟨_,rfl⟩,rfl,⟨⟨_,rfl⟩,rfl,⟨⟨_,rfl⟩,rfl,⟨⟨_,rfl⟩,rfl,⟨⟨_,rfl⟩,rfl,⟨⟨_,rfl⟩,rfl,⟨⟨_,rfl⟩,rfl,⟨⟨_,rfl⟩,rfl,⟨⟨_,rfl⟩,rfl,⟨⟨_,rfl⟩,rfl,⟨⟨_,rfl⟩,rfl,⟨⟨_,rfl⟩,rfl,⟨⟨_,rfl⟩,rfl,trivial⟩⟩⟩⟩⟩⟩⟩⟩⟩⟩⟩⟩⟩⟩⟩⟩⟩⟩⟩⟩⟩⟩⟩)))
      (as_aux_lemma=>(refine' TG.Nq ?a6 ?e6 ?kk6 ?ss6;(case a6=>k_is);(case e6=>k_is);(case ss6=>decide);(case kk6=>(rw [← TG.NL];exact ⟨⟨_,rfl⟩,rfl,⟨⟨_,rfl⟩,rfl,⟨⟨_,rfl⟩,rfl,⟨⟨_,rfl⟩,rfl,⟨⟨_,rfl⟩,rfl,⟨⟨_,rfl⟩,rfl,⟨⟨_,rfl⟩,rfl,⟨⟨_,rfl⟩,rfl,⟨⟨_,rfl⟩,rfl,⟨⟨_,rfl⟩,rfl,⟨⟨_,rfl⟩,rfl,⟨⟨_,rfl⟩,rfl,⟨⟨_,rfl⟩,rfl,⟨⟨_,rfl⟩,rfl,⟨⟨_,rfl⟩,rfl,⟨⟨_,rfl⟩,rfl,⟨⟨_,rfl⟩,rfl,⟨⟨_,rfl⟩,rfl,⟨⟨_,rfl⟩,rfl,⟨⟨_,rfl⟩,rfl,⟨⟨_,rfl⟩,rfl,⟨⟨_,rfl⟩,rfl,⟨⟨_,rfl⟩,rfl,⟨⟨_,rfl⟩,rfl,⟨⟨_,rfl⟩,rfl,⟨⟨_,rfl⟩,rfl,⟨⟨_,rfl⟩,rfl,⟨⟨_,rfl⟩,rfl,⟨⟨_,rfl⟩,rfl,⟨⟨_,rfl⟩,rfl,⟨⟨_,rfl⟩,rfl,⟨⟨_,rfl⟩,rfl,⟨⟨_,rfl⟩,rfl,⟨⟨_,rfl⟩,rfl,⟨⟨_,rfl⟩,rfl,⟨⟨_,rfl⟩,rfl,⟨⟨_,rfl⟩,rfl,⟨⟨_,rfl⟩,rfl,⟨⟨_,rfl⟩,rfl,⟨⟨_,rfl⟩,rfl,⟨⟨_,rfl⟩,rfl,⟨⟨_,rfl⟩,rfl,⟨⟨_,rfl⟩,rfl,⟨⟨_,rfl⟩,rfl,⟨⟨_,rfl⟩,rfl,⟨⟨_,rfl⟩,rfl,⟨⟨_,rfl⟩,rfl,⟨⟨_,rfl⟩,rfl,⟨⟨_,rfl⟩,rfl,⟨⟨_,rfl⟩,rfl,⟨⟨_,rfl⟩,rfl,⟨⟨_,rfl⟩,rfl,⟨⟨_,rfl⟩,rfl,⟨⟨_,rfl⟩,rfl,⟨⟨_,rfl⟩,rfl,⟨⟨_,rfl⟩,rfl,⟨⟨_,rfl⟩,rfl,⟨⟨_,rfl⟩,rfl,⟨⟨_,rfl⟩,rfl,⟨⟨_,rfl⟩,rfl,⟨⟨_,rfl⟩,rfl,⟨⟨_,rfl⟩,rfl,⟨⟨_,rfl⟩,rfl,⟨⟨_,rfl⟩,rfl,⟨⟨_,rfl⟩,rfl,⟨⟨_,rfl⟩,rfl,⟨⟨_,rfl⟩,rfl,⟨⟨_,rfl⟩,rfl,⟨⟨_,rfl⟩,rfl,⟨⟨_,rfl⟩,rfl,⟨⟨_,rfl⟩,rfl,⟨⟨_,rfl⟩,rfl,⟨⟨_,rfl⟩,rfl,⟨⟨_,rfl⟩,rfl,⟨⟨_,rfl⟩,rfl,⟨⟨_,rfl⟩,rfl,⟨⟨_,rfl⟩,rfl,⟨⟨_,rfl⟩,rfl,⟨⟨_,rfl⟩,rfl,⟨⟨_,rfl⟩,rfl,trivial⟩⟩⟩⟩⟩⟩⟩⟩⟩⟩⟩⟩⟩⟩⟩⟩⟩⟩⟩⟩⟩⟩⟩⟩⟩⟩⟩⟩⟩⟩⟩⟩⟩⟩⟩⟩⟩⟩⟩⟩⟩⟩⟩⟩⟩⟩⟩⟩⟩⟩⟩⟩⟩⟩⟩⟩⟩⟩⟩⟩⟩⟩⟩⟩⟩⟩⟩⟩⟩⟩⟩⟩⟩⟩⟩⟩⟩⟩⟩⟩))))
      (as_aux_lemma=>(refine' TG.Qp ?a7 ?e7 ?kk7 ?ss7;(case a7=>k_is);(case e7=>k_is);(case ss7=>decide);(case kk7=>exact ⟨⟨_,rfl⟩,rfl,⟨_,rfl⟩,⟨⟨_,rfl⟩,rfl,⟨_,rfl⟩,⟨⟨_,rfl⟩,rfl,⟨_,rfl⟩,⟨⟨_,rfl⟩,rfl,⟨_,rfl⟩,⟨⟨_,rfl⟩,rfl,⟨_,rfl⟩,⟨⟨_,rfl⟩,rfl,⟨_,rfl⟩,⟨⟨_,rfl⟩,rfl,⟨_,rfl⟩,⟨⟨_,rfl⟩,rfl,⟨_,rfl⟩,⟨⟨_,rfl⟩,rfl,⟨_,rfl⟩,⟨⟨_,rfl⟩,rfl,⟨_,rfl⟩,⟨⟨_,rfl⟩,rfl,⟨_,rfl⟩,⟨⟨_,rfl⟩,rfl,⟨_,rfl⟩,⟨⟨_,rfl⟩,rfl,⟨_,rfl⟩,⟨⟨_,rfl⟩,rfl,⟨_,rfl⟩,⟨⟨_,rfl⟩,rfl,⟨_,rfl⟩,⟨⟨_,rfl⟩,rfl,⟨_,rfl⟩,⟨⟨_,rfl⟩,rfl,⟨_,rfl⟩,⟨⟨_,rfl⟩,rfl,⟨_,rfl⟩,trivial⟩⟩⟩⟩⟩⟩⟩⟩⟩⟩⟩⟩⟩⟩⟩⟩⟩⟩)))
      (as_aux_lemma=>(refine' TG.Qp ?a8 ?e8 ?kk8 ?ss8;(case a8=>k_is);(case e8=>k_is);(case ss8=>decide);(case kk8=>exact ⟨⟨_,rfl⟩,rfl,⟨_,rfl⟩,⟨⟨_,rfl⟩,rfl,⟨_,rfl⟩,⟨⟨_,rfl⟩,rfl,⟨_,rfl⟩,⟨⟨_,rfl⟩,rfl,⟨_,rfl⟩,⟨⟨_,rfl⟩,rfl,⟨_,rfl⟩,⟨⟨_,rfl⟩,rfl,⟨_,rfl⟩,⟨⟨_,rfl⟩,rfl,⟨_,rfl⟩,trivial⟩⟩⟩⟩⟩⟩⟩)))
      iterate 3 sleep 4
      sleep 7
      sleep 6
      iterate 3 sleep 5
      iterate 15 sleep 8
      iterate 4 (as_aux_lemma=>kts_exm)
    case r =>
      refine' TG.mn.mk ..
      rotate_left 3
      iterate 6 sleep 1
      iterate 3 sleep 4
      iterate 13 sleep 7
      iterate 11 sleep 8
      iterate 4 (as_aux_lemma=>k_is)
      iterate 4 (as_aux_lemma=>kit_is)
      (as_aux_lemma=>(refine' TG.Sg ?a9 ?e9 ?k9 ?s9;(case a9=>k_is);(case e9=>k_is);(case k9=>kernel_rfl);(case s9=>decide)))
    case d =>
      refine' TG.GY.mk ..
      iterate 3 sleep 1
  case S => exact fun K H xs a h1 h2 h3 h4 => TG.Bc K H xs a h1 h2 h3 h4
end
