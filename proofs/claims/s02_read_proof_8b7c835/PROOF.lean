import PyProof.Rows.All
import OpenK.KWalk
import Wide.All
import OpenK.AllK
import Wide.FinOn
import PyProof.EqAt
import PyProof.EqKinds
import PyProof.TupleCall
import KE.BitLaws
import Open.SpecLaws
import KE.OsHead
import KE.OsGo
import KE.SpHead
import KE.OsShapes
import PyWrxthh
import PySem.Str
import OpenK.KMake
import OpenK.KCls
import PyProof.ExcBaseAll.Exception
import PyProof.RulesAs
import PyProof.ExcArgsOwn
import PyProof.InstStoreFacts
import KE.KTryMore
import KE.RegKTryMore
import KE.RegKIsAll
import PySem.Challenge.RW_twigtext_s02_read
set_option Elab.async false
set_option linter.all false
set_option maxRecDepth 100000
set_option maxHeartbeats 0
set_option compiler.extract_closed false
set_option bootstrap.genMatcherCode false
set_option genSizeOf false
noncomputable section
open PySem.W (Frag)
theorem ln0{C:List PySem.Value->Prop}(h:C []):∀us:List PySem.Value,us.length=0->C us
 |[],_=>h
theorem lnS{n:Nat}{C:List PySem.Value->Prop}(h:∀a,∀us:List PySem.Value,us.length=n->C (a::us)):∀us:List PySem.Value,us.length=n+1->C us
 |a::l,e=>h a l (Nat.succ.inj e)
local macro_rules
 |`(↑0)=>`(by decide)
 |`(↑1)=>`(by decide +kernel)
 |`(↑2)=>`(by omega)
 |`(↑3)=>`(⟨rfl,rfl,rfl,↑1,rfl,↑1,↑1⟩)
 |`(↑4)=>`(fun _ _ _ _ _ _=>lnS fun _=>ln0 rfl)
 |`(↑5)=>`(fun _ _ _ _ _ _=>lnS fun _=>lnS fun _=>ln0 rfl)
 |`(↑6)=>`(fun _ _ _ _ _ _=>lnS fun _=>lnS fun _=>lnS fun _=>ln0 rfl)
 |`(↑7)=>`(fun _ _ _ _ _ _=>lnS fun _=>lnS fun _=>lnS fun _=>lnS fun _=>lnS fun _=>ln0 rfl)
namespace HK
open PySem PySem.W
def lv:Option Obj->Option Obj
 |some ⟨_,_,.freed,_⟩=>none
 |o=>o
def pk:List Obj->Nat->List Nat->List (Option Obj)
 |[],_,as=>as.map λ_=>none
 |o::l,i,as=>match as with
  |[]=>[]
  |a::as'=>bif Nat.beq a i then lv (some o)::pk l (Nat.succ i) as' else pk l (Nat.succ i) as
def up:Nat->List Nat->Bool
 |_,[]=>true
 |i,a::as=>Nat.ble i a&&up (Nat.succ a) as
theorem up_le:∀{i j:Nat}{as:List Nat},up i as=true->j<=i->up j as=true
 |_,_,[],_,_=>rfl
 |i,j,a::as,h,hj=>by
  have h:(Nat.ble i a&&up (Nat.succ a) as)=true:=h;rw[Bool.and_eq_true] at h;show(Nat.ble j a&&up (Nat.succ a) as)=true;rw[h.2,Bool.and_true];exact Nat.ble_eq_true_of_le (Nat.le_trans hj (Nat.le_of_ble_eq_true h.1))
theorem pk_eq:∀(l:List Obj)(i:Nat)(as:List Nat),up i as=true->pk l i as=as.map λa=>lv l[a - i]?
 |[],i,as,_=>by
  show(as.map λ_=>none)=_;refine List.map_congr_left λa _=>?_;rw[List.getElem?_nil];rfl
 |o::l,i,[],_=>rfl
 |o::l,i,a::as,h=>by
  have h:(Nat.ble i a&&up (Nat.succ a) as)=true:=h;rw[Bool.and_eq_true] at h;have hi:=Nat.le_of_ble_eq_true h.1;have tl:∀as':List Nat,up (Nat.succ i) as'=true->(as'.map λa=>lv l[a - Nat.succ i]?)=as'.map λa=>lv (o::l)[a - i]?:=λas' hu=>by
   refine List.map_congr_left λb hb=>?_;have hb':Nat.succ i<=b:=by
    clear h;induction as' with
    |nil=>cases hb
    |cons c r ih=>
     have hu:(Nat.ble (Nat.succ i) c&&up (Nat.succ c) r)=true:=hu;rw[Bool.and_eq_true] at hu;have hc:=Nat.le_of_ble_eq_true hu.1;rcases List.mem_cons.mp hb with rfl|hb
     ·exact hc
     ·exact ih (up_le hu.2 ↑2) hb
   rw[show b - i=(b - Nat.succ i)+1 by omega];rfl
  show(bif Nat.beq a i then lv (some o)::pk l (Nat.succ i) as else pk l (Nat.succ i) (a::as))=_;cases e:Nat.beq a i with
  |true=>
   have e:=Nat.eq_of_beq_eq_true e;subst e;rw[cond_true,pk_eq l _ as h.2,tl as h.2,List.map_cons,Nat.sub_self];rfl
  |false=>
   have e:=Nat.ne_of_beq_eq_false e;have hu:up (Nat.succ i) (a::as)=true:=by
    show(Nat.ble (Nat.succ i) a&&up (Nat.succ a) as)=true;rw[h.2,Bool.and_true];exact Nat.ble_eq_true_of_le ↑2
   rw[cond_false,pk_eq l _ (a::as) hu,tl (a::as) hu]
theorem pk_get(h:Heap)(as:List Nat)(hu:up 0 as=true):pk h.objs.toList 0 as=as.map h.get?:=by rw[pk_eq _ _ _ hu];refine List.map_congr_left λa _=>?_;rw[Nat.sub_zero];rw[Array.getElem?_toList];rfl
structure Ats(K:Params->Frag) where
 as:List Addr
 e:∀P,as=(K P).map (·.1)
 u:up 0 as=true
def hk(K:Params->Frag)(A:Ats K):Hook:=
 ⟨List (Option Obj),λs=>pk s.heap.objs.toList 0 A.as,λw=>(K w.params).map λp=>some p.2,InK K,λw s h=>InK.of A.e w s ((pk_get s.heap A.as A.u).symm.trans h),InK.keeps⟩
theorem hk_in{K:Params->Frag}{A:Ats K}{w:World}{h:Heap}(Y:(hk K A).says w h):(K w.params).In h:=Y
end HK
namespace L2
open PySem PySem.Spec PyProof.Rows
variable{us:List Value}{x:Str}{u:Value}{H:Hp}{a:Addr}{b:Addr}{P:Program}{w:World}{A:Around}{E:Value->Shared->Prop}{Q:Value->Shared->Prop}{s:Shared}{UP:List (Addr×Obj)}{σ:St}{K:Frag}
abbrev Key:=Sum Int Str
def uS:Key->Value->Bool
 | .inl k,v=>Value.isInt k v
 | .inr x,v=>Value.isStrOf x v
def S7(w:World):Key->Int
 | .inl k=>hashInt k
 | .inr x=>hashStr w x
theorem bQ:∀{k:Key}{v:Value},uS k v=true->(∃i t,k=Sum.inl i/\v=Value.int i t)\/(∃x t,k=Sum.inr x/\v=Value.str x t)
 | .inl i,v,h=>by
  obtain⟨t,e⟩:=Value.isInt_shape (k:=i) (v:=v) h;exact .inl ⟨i,t,rfl,e⟩
 | .inr x,v,h=>by
  obtain⟨t,e⟩:=Value.isStrOf_shape (x:=x) (v:=v) h;exact .inr ⟨x,t,rfl,e⟩
theorem Ew(i:Int)(t:Tok):uS (.inl i) (.int i t)=true:=by simp[uS,Value.isInt]
theorem EI(x:Str)(t:Tok):uS (.inr x) (.str x t)=true:=by simp[uS,Value.isStrOf]
theorem Oq(a b:Int):decide ((Sum.inl a:Key)=Sum.inl b)=(a==b):=by
 by_cases e:a=b
 ·subst e;simp
 ·have h:¬(Sum.inl a:Key)=Sum.inl b:=λq=>e (Sum.inl.inj q);rw[decide_eq_false h];exact(beq_eq_false_iff_ne.mpr e).symm
theorem ME(a b:Str):decide ((Sum.inr a:Key)=Sum.inr b)=decide (a=b):=by
 by_cases e:a=b
 ·subst e;simp
 ·have h:¬(Sum.inr a:Key)=Sum.inr b:=λq=>e (Sum.inr.inj q);rw[decide_eq_false h,decide_eq_false e]
theorem O8(a:Int)(b:Str):decide ((Sum.inl a:Key)=Sum.inr b)=false:=decide_eq_false (λq=>nomatch q)
theorem Oh(a:Str)(b:Int):decide ((Sum.inr a:Key)=Sum.inl b)=false:=decide_eq_false (λq=>nomatch q)
def cY(prog:Program)(w:World):PySem.KeyKind prog w Key where
 is:=uS
 hash:=S7 w
 inj:=λv a b ha hb=>by
  rcases bQ ha with⟨i,t,rfl,rfl⟩|⟨x,t,rfl,rfl⟩
  ·rcases bQ hb with⟨j,u,rfl,e⟩|⟨y,u,rfl,e⟩
   ·injection e with e1 _;rw[e1]
   ·exact nomatch e
  ·rcases bQ hb with⟨j,u,rfl,e⟩|⟨y,u,rfl,e⟩
   ·exact nomatch e
   ·injection e with e1 _;rw[e1]
 byValue:=λk v h=>by
  rcases bQ h with⟨i,t,rfl,rfl⟩|⟨x,t,rfl,rfl⟩ <;> rfl
 pyHash:=λhv h=>by
  rcases bQ hv with⟨i,t,rfl,rfl⟩|⟨x,t,rfl,rfl⟩
  ·exact wpAny_pyHash_int h
  ·exact wpAny_pyHash_str h
 eqBool:=λhu hv h=>by
  rcases bQ hu with⟨i,t,rfl,rfl⟩|⟨x,t,rfl,rfl⟩
  ·rcases bQ hv with⟨j,u,rfl,rfl⟩|⟨y,u,rfl,rfl⟩
   ·rw[Oq] at h;exact wpAny_eqBool_int h
   ·rw[O8] at h;exact SeqAt.EqAt.int_str i t y u _ _ _ _ h
  ·rcases bQ hv with⟨j,u,rfl,rfl⟩|⟨y,u,rfl,rfl⟩
   ·rw[Oh] at h;exact SeqAt.EqAt.str_int x t j u _ _ _ _ h
   ·rw[ME] at h;exact wpAny_eqBool_str h
 «strs»:=λk x t v h=>by
  rcases bQ h with⟨i,u,rfl,e⟩|⟨y,u,rfl,e⟩
  ·exact nomatch e
  ·injection e with e1 _;subst e1;cases v <;> rfl
theorem yG(prog:Program)(w:World)(i:Int)(t:Tok):(cY prog w).is (.inl i) (.int i t)=true:=Ew i t
theorem Ac(prog:Program)(w:World)(x:Str)(t:Tok):(cY prog w).is (.inr x) (.str x t)=true:=EI x t
inductive V where
 |bH|bl (b:Bool)|int (i:Int)|str (x:Str)|bW (b:Array UInt8)|JB (b:UInt64)|ref (a:Addr)|ty (n:String)
 deriving DecidableEq
def RelV:V->Value->Prop
 | .bH,u=>u=Value.none
 | .bl b,u=>u=Value.bool b
 | .int i,u=>∃t,u=Value.int i t
 | .str x,u=>∃t,u=Value.str x t
 | .bW b,u=>∃t,u=Value.bytes b t
 | .JB b,u=>∃t,u=Value.float b t
 | .ref a,u=>u=Value.ref a
 | .ty n,u=>u=Value.type n
abbrev Vals:List V->List Value->Prop:=Paired RelV
theorem Vals.length{xs:List V}(r:Vals xs us):xs.length=us.length:=Paired.length r
theorem Vals.get:∀{xs:List V}{us:List Value}{i:Nat}{x:V},Vals xs us->xs[i]?=some x->∃u,us[i]?=some u/\RelV x u
 |_,_,_,_,.nil,e=>by simp at e
 |_,_,0,_,.cons r _,e=>by simp at e;subst e;exact⟨_,rfl,r⟩
 |_,_,i+1,x,.cons _ t,e=>by
  obtain⟨u,h1,h2⟩:=Vals.get (i:=i) (x:=x) t (by simpa using e);exact⟨u,by simpa using h1,h2⟩
theorem Vals.set{x:V}(r:RelV x u):∀{xs:List V}{us:List Value}(i:Nat),Vals xs us->Vals (xs.set i x) (us.set i u)
 |_,_,_,.nil=>.nil
 |_,_,0,.cons _ t=>.cons r t
 |_,_,i+1,.cons q t=>.cons q (Vals.set r i t)
theorem Vals.append:∀{xs ys:List V}{us ws:List Value},Vals xs us->Vals ys ws->Vals (xs++ys) (us++ws)
 |_,_,_,_,.nil,s=>s
 |_,_,_,_,.cons r t,s=>.cons r (Vals.append t s)
theorem Vals.take:∀{xs:List V}{us:List Value}(n:Nat),Vals xs us->Vals (xs.take n) (us.take n)
 |_,_,0,_=>.nil
 |_,_,_+1,.nil=>.nil
 |_,_,n+1,.cons r t=>.cons r (Vals.take n t)
theorem Vals.drop:∀{xs:List V}{us:List Value}(n:Nat),Vals xs us->Vals (xs.drop n) (us.drop n)
 |_,_,0,r=>r
 |_,_,_+1,.nil=>.nil
 |_,_,n+1,.cons _ t=>Vals.drop n t
def d5:Option V->Option Value->Prop
 |some v,some u=>RelV v u
 |none,none=>True
 |_,_=>False
def KV{κ:Type}:List (κ×V)->List (κ×Value)->Prop:=Paired λ(p:κ×V)(q:κ×Value)=>p.1=q.1/\RelV p.2 q.2
def kV:Key->V
 | .inl i=>.int i
 | .inr x=>.str x
inductive HO where
 |lst(xs:List V)
 |tup(xs:List V)
 |dK(kvs:List (Key×V))|dT (kvs:List (List Key×V))
 |set(S:Int->Bool) (n:Nat)
 |ins(C dx:Addr) (fs:List (Str×V))
 |own(x:Addr)
 |xd(fs:List (Str×V))
 |met(f x:Addr)
 |Ss(lo hi:Int)
 |rZ(o:Obj) (u:HO)
 |NB(ps:Array Value)
 |ext(φ:Heap->Prop)
abbrev Hp:=Addr->Option HO
def upd(H:Hp)(a:Addr)(o:HO):Hp:=λb=>if b=a then some o else H b
theorem ag{o:HO}:upd H a o a=some o:=by unfold upd;rw[if_pos rfl]
theorem ah{o:HO}(h:b≠a):upd H a o b=H b:=by unfold upd;rw[if_neg h]
theorem dA{o u:HO}(h:H a=some o)(h':H b=some u)(d:o≠u):a≠b:=by intro e;subst e;rw[h] at h';exact d (Option.some.inj h')
theorem au{o:HO}(h:H a=some o)(h':H b=none):a≠b:=by intro e;subst e;rw[h] at h';cases h'
section
variable(P:Program)(w:World)
def bK(H:Hp)(h:Heap)(a:Addr):HO->Prop
 | .lst xs=>xs.length<=sizeLine/\∃(its:List Value)(n:Nat),Vals xs its/\h.get? a=some {cls:=.type "list",data:=.seq its.toArray n}
 | .tup xs=>xs.length<=sizeLine/\∃its:List Value,Vals xs its/\IsTup h a its.toArray
 | .dK kvs=>kvs.length<=sizeLine/\(a==sysModules)=false/\∃vs,KV kvs vs/\h.DictOf (cY P w) a vs
 | .dT kvs=>kvs.length<=sizeLine/\(a==sysModules)=false/\∃xs:List (List Key×Addr×Value),
   Paired (λ(p:List Key×V)(q:List Key×Addr×Value)=>p.1=q.1/\H q.2.1=some (.tup (p.1.map kV))/\RelV p.2 q.2.2) kvs xs/\
   ∃o es ep,h.get? a=some o/\o.ExactDict/\o.data= .dict es ep/\es.toList=xs.map (entryOfKey (tupleKind (cY P w)))/\(xs.map (·.1)).Nodup
 | .set S n=>h.SetOf (intKind P w) a S n
 | .ins C dx fs=>H dx=some (.own a)/\fs.length<=1000/\dx≠a/\h.get? a=some (PySem.W.instObj C dx)/\
   ∃mA,h.Ns1 dx mA/\(∀f,d5 (fs.lookup f) (mA f))/\PySem.Within mA (fs.map (·.1))
 | .own _=>∃o,h.get? a=some o
 | .xd fs=>∃mA,h.Ns1 a mA/\∀f,d5 (fs.lookup f) (mA f)
 | .Ss lo hi=>∃t u v,h.get? a=some {cls:=.type "range",data:=.fields #[.int lo t,.int hi u,.int 1 v]}
 | .rZ o u=>h.get? a=some o/\bK H h a u
 | .NB ps=>h.get? a=some {cls:=.none,data:=.fields ps}
 | .met f x=>h.get? a=some (PySem.W.methodObj (.ref f) (.ref x))
 | .ext φ=>φ h/\(∃o,h.get? a=some o)/\∀h1 h2:Heap,φ h1->(∀o,h1.get? a=some o->h2.get? a=some o)->φ h2
def gA(H:Hp)(h:Heap):Prop:=∀a o,H a=some o->bK P w H h a o
end
section
variable{P:Program}{w:World}{H H':Hp}{h h':Heap}{a:Addr}{o:HO}
theorem bK.lt(x:bK P w H h a o):a<h.objs.size:=by
 cases o with
 |lst xs=>obtain⟨_,_,_,_,e⟩:=x;exact Heap.lt_size e
 |tup xs=>obtain⟨_,_,_,p⟩:=x;exact p.lt
 |dK kvs=>obtain⟨_,_,_,_,o,_,_,e,_⟩:=x;exact Heap.lt_size e
 |dT kvs=>obtain⟨_,_,_,_,o,_,_,e,_⟩:=x;exact Heap.lt_size e
 |set S n=>obtain⟨o,_,_,_,e,_⟩:=x;exact Heap.lt_size e
 |ins C dx fs=>obtain⟨_,_,_,e,_⟩:=x;exact Heap.lt_size e
 |own y=>obtain⟨_,e⟩:=x;exact Heap.lt_size e
 |xd fs=>obtain⟨_,⟨_,_,_,e,_⟩,_⟩:=x;exact Heap.lt_size e
 |Ss lo hi=>obtain⟨_,_,_,e⟩:=x;exact Heap.lt_size e
 |rZ ob u=>obtain⟨e,_⟩:=x;exact Heap.lt_size e
 |NB ps=>exact Heap.lt_size (show h.get? a=some _ from x)
 |met f y=>exact Heap.lt_size (show h.get? a=some _ from x)
 |ext φ=>obtain⟨_,⟨_,e⟩,_⟩:=x;exact Heap.lt_size e
theorem Paired.JT{α β:Type}{F G:α->β->Prop}:∀{l₁:List α}{l₂:List β},Paired F l₁ l₂->(∀a b,F a b->G a b)->Paired G l₁ l₂
 |_,_,.nil,_=>.nil
 |_,_,.cons r t,f=>.cons (f _ _ r) (Paired.JT t f)
theorem Paired.imp'{α β:Type}{F G:α->β->Prop}(f:∀a b,F a b->G a b){l₁:List α}{l₂:List β}(r:Paired F l₁ l₂):Paired G l₁ l₂:=Paired.JT r f
theorem bK.zM(x:bK P w H h a o)(k:∀b u,(b=a\/H b=some (.own a))->h.get? b=some u->h'.get? b=some u)(ho:∀b,H b=some (.own a)->H' b=some (.own a))(ht:∀b xs,H b=some (.tup xs)->H' b=some (.tup xs)):bK P w H' h' a o:=by
 induction o with
 |lst xs=>obtain⟨z,its,n,r,e⟩:=x;exact⟨z,its,n,r,k _ _ (.inl rfl) e⟩
 |tup xs=>obtain⟨z,its,r,ob,e,c⟩:=x;exact⟨z,its,r,ob,k _ _ (.inl rfl) e,c⟩
 |dK kvs=>obtain⟨z,y,vs,r,ob,es,ep,e,c⟩:=x;exact⟨z,y,vs,r,ob,es,ep,k _ _ (.inl rfl) e,c⟩
 |dT kvs=>
  obtain⟨z,y,xs,r,ob,es,ep,e,c⟩:=x;exact⟨z,y,xs,Paired.JT r λp q z=>⟨z.1,ht _ _ z.2.1,z.2.2⟩,ob,es,ep,k _ _ (.inl rfl) e,c⟩
 |set S n=>obtain⟨ob,es,ep,t,e,c⟩:=x;exact⟨ob,es,ep,t,k _ _ (.inl rfl) e,c⟩
 |ins C dx fs=>
  obtain⟨d,z,ne,e,mA,⟨od,es,ep,e2,c⟩,r⟩:=x;exact⟨ho _ d,z,ne,k _ _ (.inl rfl) e,mA,⟨od,es,ep,k _ _ (.inr d) e2,c⟩,r⟩
 |own y=>obtain⟨ob,e⟩:=x;exact⟨ob,k _ _ (.inl rfl) e⟩
 |xd fs=>obtain⟨mA,⟨od,es,ep,e,c⟩,r⟩:=x;exact⟨mA,⟨od,es,ep,k _ _ (.inl rfl) e,c⟩,r⟩
 |Ss lo hi=>obtain⟨t,u,v,e⟩:=x;exact⟨t,u,v,k _ _ (.inl rfl) e⟩
 |rZ ob u ih=>obtain⟨e,q⟩:=x;exact⟨k _ _ (.inl rfl) e,ih q⟩
 |NB ps=>
  have e:h.get? a=some {cls:=.none,data:=.fields ps}:=x;show h'.get? a=some {cls:=.none,data:=.fields ps};exact k a _ (.inl rfl) e
 |met f y=>
  have e:h.get? a=some (PySem.W.methodObj (.ref f) (.ref y)):=x;show h'.get? a=some (PySem.W.methodObj (.ref f) (.ref y));exact k a _ (.inl rfl) e
 |ext φ=>obtain⟨p,⟨o,e⟩,st⟩:=x;exact⟨st _ _ p λo q=>k _ _ (.inl rfl) q,⟨o,k _ _ (.inl rfl) e⟩,st⟩
theorem gA.lt(x:gA P w H h)(e:H a=some o):a<h.objs.size:=(x a o e).lt
theorem gA.fresh(x:gA P w H h)(e:h.objs.size<=a):H a=none:=by
 cases q:H a with
 |none=>rfl
 |some u=>exact absurd (Nat.lt_of_lt_of_le (x.lt q) e) (Nat.lt_irrefl _)
theorem gA.kept(x:gA P w H h)(k:∀b u,h.get? b=some u->h'.get? b=some u):gA P w H h':=λa o e=>
 (x a o e).zM (λb u _ q=>k b u q) (λ_ q=>q) λ_ _ q=>q
theorem gA.laid(x:gA P w H h)(k:∀b u,h.get? b=some u->h'.get? b=some u)(hp:h.objs.size<=a)(new:bK P w (upd H a o) h' a o):gA P w (upd H a o) h':=λb u e=>by
 have hn:=x.fresh hp;by_cases hb:b=a
 ·subst hb;rw[ag] at e;cases e;exact new
 ·rw[ah hb] at e;exact(x b u e).zM (λc v _ q=>k c v q) (λc q=>by rw[ah (au q hn)];exact q) λc xs q=>by rw[ah (au q hn)];exact q
end
def Rd(H:Hp)(a:Addr)(u:HO):Prop:=H a=some u\/∃o,H a=some (.rZ o u)
theorem Rd.ok{h:Heap}{u:HO}(r:Rd H a u)(x:gA P w H h):bK P w H h a u:=by
 rcases r with r|⟨o,r⟩
 ·exact x a u r
 ·obtain⟨_,q⟩:=x a _ r;exact q
def Pe:Option HO->Prop
 |some (.lst _)=>True
 |some (.dK _)=>True
 |some (.dT _)=>True
 |some (.set _ _)=>True
 |some (.ins _ _ _)=>True
 |some (.ext _)=>True
 |_=>False
section
variable{P:Program}{w:World}{H:Hp}{h h':Heap}{x e:Addr}{o':HO}
theorem gA.write(ok:gA P w H h)(mu:Pe (H x))(he:e=x\/H e=some (.own x))(k:∀b u,b≠e->h.get? b=some u->h'.get? b=some u)(heo:∃u,h'.get? e=some u)(new:bK P w (upd H x o') h' x o'):gA P w (upd H x o') h':=λb u q=>by
 have nown:∀c y,H c=some (.own y)->c≠x:=λc y r z=>by subst z;rw[r] at mu;exact mu
 have ntup:∀c xs,H c=some (.tup xs)->c≠x:=λc xs r z=>by subst z;rw[r] at mu;exact mu
 by_cases hb:b=x
 ·subst hb;rw[ag] at q;cases q;exact new
 ·rw[ah hb] at q;by_cases hbe:b=e
  ·have q':H b=some (.own x):=by
    rcases he with z|z
    ·exact absurd (hbe.trans z) hb
    ·rw[hbe];exact z
   rw[q] at q';cases q';obtain⟨v,hv⟩:=heo;exact⟨v,by rw[hbe];exact hv⟩
  ·refine(ok b u q).zM (λc v hc r=>k c v ?_ r) (λc r=>by rw[ah (nown c b r)];exact r) λc xs r=>by rw[ah (ntup c xs r)];exact r
   rcases hc with rfl|hc
   ·exact hbe
   ·rintro rfl;rcases he with z|z
    ·exact nown c b hc z
    ·rw[hc] at z;cases z;exact hb rfl
end
structure Un(fs ex:List Addr)(H H':Hp)(h h':Heap):Prop where
 keep:∀b o,h.get? b=some o->H b=none->b∉fs->b∉ex->h'.get? b=some o
 slot:∀b o,h.get? b=some o->H b=none->b∈fs->b∉ex->∃sl,h'.get? b=some {o with slots:=sl}
 free:∀b o,h.get? b=some o->H b=none->b∉ex->H' b=none
 there:∀b o,h.get? b=some o->b∉ex->∃o',h'.get? b=some o'
 pP:∀b xs,H b=some (.tup xs)->H' b=some (.tup xs)
 nH:∀b o u,H b=some (.rZ o u)->H' b=some (.rZ o u)
 qa:∀b ps,H b=some (.NB ps)->∃more,H' b=some (.NB (ps++more))
section
variable{fs fs' ex ex':List Addr}{H H1 H2:Hp}{h h1 h2 h':Heap}{a x e:Addr}{o:HO}
theorem Un.any(u:Un fs ex H H1 h h1){ob:Obj}(q:h.get? b=some ob)(n:H b=none)(hx:b∉ex):∃sl,h1.get? b=some {ob with slots:=sl}:=by
 by_cases hb:b∈fs
 ·exact u.slot b ob q n hb hx
 ·exact⟨ob.slots,u.keep b ob q n hb hx⟩
theorem Un.trans(a:Un fs ex H H1 h h1)(b:Un fs ex H1 H2 h1 h2):Un fs ex H H2 h h2 where
 keep:=λc ob q n hc hx=>b.keep c ob (a.keep c ob q n hc hx) (a.free c ob q n hx) hc hx
 slot:=λc ob q n hc hx=>by
  obtain⟨sl,e1⟩:=a.slot c ob q n hc hx;obtain⟨sl',e2⟩:=b.slot c _ e1 (a.free c ob q n hx) hc hx;exact⟨sl',e2⟩
 free:=λc ob q n hx=>by
  obtain⟨o',e1⟩:=a.there c ob q hx;exact b.free c o' e1 (a.free c ob q n hx) hx
 there:=λc ob q hx=>by
  obtain⟨o',e1⟩:=a.there c ob q hx;exact b.there c o' e1 hx
 pP:=λc xs q=>b.pP c xs (a.pP c xs q)
 nH:=λc ob xs q=>b.nH c ob xs (a.nH c ob xs q)
 qa:=λc ps q=>by
  obtain⟨m1,e1⟩:=a.qa c ps q;obtain⟨m2,e2⟩:=b.qa c _ e1;exact⟨m1++m2,by rw[e2,Array.append_assoc]⟩
theorem Un.kept(k:∀b u,h.get? b=some u->h'.get? b=some u):Un fs ex H H h h':=
 ⟨λb ob q _ _ _=>k b ob q,λb ob q _ _ _=>⟨ob.slots,k b ob q⟩,λ_ _ _ n _=>n,λb ob q _=>⟨ob,k b ob q⟩,λ_ _ q=>q,λ_ _ _ q=>q,λ_ ps q=>⟨#[],by rw[q];simp⟩⟩
theorem Un.refl:Un fs ex H H h h:=Un.kept λ_ _ q=>q
theorem Un.laid(k:∀b u,h.get? b=some u->h'.get? b=some u)(hp:h.objs.size<=a)(hn:H a=none):Un fs ex H (upd H a o) h h' where
 keep:=λb u q _ _ _=>k b u q
 slot:=λb u q _ _ _=>⟨u.slots,k b u q⟩
 free:=λb u q n _=>by rw[ah (Nat.ne_of_lt (Nat.lt_of_lt_of_le (Heap.lt_size q) hp))];exact n
 there:=λb u q _=>⟨u,k b u q⟩
 pP:=λb xs q=>by rw[ah (au q hn)];exact q
 nH:=λb u xs q=>by rw[ah (au q hn)];exact q
 qa:=λb ps q=>⟨#[],by rw[ah (au q hn),q];simp⟩
theorem Un.write(mu:Pe (H x))(he:e=x\/H e=some (.own x))(k:∀b u,b≠e->h.get? b=some u->h'.get? b=some u)(heo:∃u,h'.get? e=some u):Un fs ex H (upd H x o) h h':=by
 have hx:∀b,H b=none->b≠x:=λb n z=>by subst z;rw[n] at mu;exact mu
 have hb:∀b,H b=none->b≠e:=λb n z=>by
  subst z;rcases he with r|r
  ·exact hx b n r
  ·rw[n] at r;cases r
 have hm:∀b u,H b=some u->¬Pe (some u)->b≠x:=λb u q nm z=>by subst z;rw[q] at mu;exact nm mu
 refine⟨λb u q n _ _=>k b u (hb b n) q,λb u q n _ _=>⟨u.slots,k b u (hb b n) q⟩,λb u q n _=>by rw[ah (hx b n)];exact n,λb u q _=>?_,
  λb xs q=>by rw[ah (hm b _ q λz=>z)];exact q,λb u xs q=>by rw[ah (hm b _ q λz=>z)];exact q,λb ps q=>⟨#[],by rw[ah (hm b _ q λz=>z),q];simp⟩⟩
 by_cases hbe:b=e
 ·subst hbe;exact heo
 ·exact⟨u,k b u hbe q⟩
end
def Sj(h:Heap)(H:Hp):List Addr:=(List.range h.objs.size).filter λa=>(H a).isSome
def v5(h:Heap)(H:Hp):Heap:=PySem.W.hideAll h (Sj h H)
theorem EL(h:Heap)(H:Hp):(v5 h H).objs.size=h.objs.size:=PySem.W.hideAll_size _ _
theorem Ha{h:Heap}{o:Obj}(e:h.get? b=some o)(n:H b=none):(v5 h H).get? b=some o:=
 PySem.W.hideAll_get _ e λhm=>by
  have q:(H b).isSome=true:=(List.mem_filter.mp hm).2;rw[n] at q;simp at q
theorem J5{h:Heap}{o:Obj}(e:(v5 h H).get? b=some o):h.get? b=some o/\H b=none:=by
 have e':h.get? b=some o:=PySem.W.of_hideAll (Sj h H) e;refine⟨e',?_⟩;cases q:H b with
 |none=>rfl
 |some x=>
  have hm:b∈Sj h H:=List.mem_filter.mpr ⟨List.mem_range.mpr (Heap.lt_size e'),by simp[q]⟩;have z:(v5 h H).get? b=none:=PySem.W.hideAll_none (Sj h H) hm;rw[z] at e;cases e
structure Mod(K:Frag)(mg:Str->Option Value)(base:Heap):Prop where
 EW:K.In base
 glob:base.Ns mainGlobals mg
 blt:∃mb,base.Ns builtinsNs mb/\∀x:Str,x≠"__name__"->mb x=bootBuiltins x
 nolimit:base.NoLimit
structure Cx where
 prog:Program
 w:World
 K:Frag
 mg:Str->Option Value
 base:Heap
 A:Around
 N:List Str
 nO:Shared
 Rx:Hp
 env:Env
 outer:List Env
 stack:List Env
 ex:List Addr
 fn:Str->Bool
 calm:Bool
 pn:List (Addr×Obj)
 xe:Value->Shared->Prop
def km(l:List Env):List Addr:=l.filterMap (·.frame)
abbrev Cx.fs(X:Cx):List Addr:=km X.outer
def Ni(sc:Scope)(x:Str):Prop:=sc.names.lookup x=some .local\/sc.names.lookup x=some .cell\/sc.names.lookup x=some .free
def Loc(sc:Scope)(x:Str):Prop:=sc.names.lookup x=some .local\/sc.names.lookup x=some .cell
def Look(env:Env)(h:Heap)(m:Str->Option Value)(x:Str)(u:Value):Prop:=
 (env.kindOf x=some .local/\m x=some u)\/((env.kindOf x=some .cell\/env.kindOf x=some .free)/\∃c,env.cells.lookup x=some c/\h.IsCell c (some u))
structure Cx.Ok(X:Cx):Prop where
 mod:Mod X.K X.mg X.base
 kind:X.env.scope.kind= .function
 glob:X.env.globals=mainGlobals
 blt:X.env.builtins=builtinsNs
 above:X.nO.heap.objs.size<=X.env.locals
 inj:∀x y c,X.env.cells.lookup x=some c->X.env.cells.lookup y=some c->x=y
 has:∀x,(X.env.kindOf x=some .cell\/X.env.kindOf x=some .free)->∃c,X.env.cells.lookup x=some c
 OO:∀x c,X.fn x=true->X.env.cells.lookup x=some c->X.nO.heap.objs.size<=c
 hd:X.calm=true->X.A.handled=none
 frames:X.A.frames=some X.stack
 OF:X.stack=X.outer\/(X.stack=X.env::X.outer/\X.env.frame=some X.env.locals)
 Pn:∀b∈X.ex,b≠X.env.locals/\∀x c,X.env.cells.lookup x=some c->c≠b
 bs:∀b o,X.base.get? b=some o->X.nO.heap.get? b=some o/\X.Rx b=none
 FE:X.base.objs.size<=X.nO.heap.objs.size
 Ba:∀b o,X.base.get? b=some o->b∉X.ex
 AD:∀b∈X.ex,b∉X.fs
 jQ:X.nO.heap.FunFrames X.base X.outer
 Ju:∀b∈X.fs,X.Rx b=none
structure Inv(X:Cx)(UP:List (Addr×Obj))(σ:List (Option V))(H:Hp)(s:Shared):Prop where
 ok:X.Ok
 os:s.os=X.nO.os
 bare:AllBare s.gens
 base:Un X.fs X.ex X.Rx H X.nO.heap s.heap
 loc:∃m,s.heap.Ns X.env.locals m/\∀(i:Nat)(x:Str)(v:V),X.N[i]?=some x->σ[i]?=some (some v)->Ni X.env.scope x->∃u,RelV v u/\Look X.env s.heap m x u
 cell:∀x c,X.env.cells.lookup x=some c->∃v,s.heap.IsCell c v
 free:H X.env.locals=none
 fm:∀x c,X.env.cells.lookup x=some c->H c=none
 pin:∀p∈X.pn++UP,s.heap.get? p.1=some p.2/\H p.1=none/\p.1≠X.env.locals/\p.1∉X.fs/\∀v,p.2.data≠.cell v
 aZ:gA X.prog X.w H s.heap
 len:σ.length=X.N.length
section
variable{X:Cx}{UP:List (Addr×Obj)}{σ:List (Option V)}{H H':Hp}{s:Shared}{h':Heap}
theorem Cx.Ok.S6(ok:X.Ok){o:Obj}(e:X.base.get? b=some o):b∉X.fs:=λhb=>by
 have:=(ok.jQ.mem hb).1;rw[e] at this;cases this
theorem Inv.bs(I:Inv X UP σ H s):∀b o,X.base.get? b=some o->s.heap.get? b=some o/\H b=none:=λb o e=>
 ⟨I.base.keep b o (I.ok.bs b o e).1 (I.ok.bs b o e).2 (I.ok.S6 e) (I.ok.Ba b o e),I.base.free b o (I.ok.bs b o e).1 (I.ok.bs b o e).2 (I.ok.Ba b o e)⟩
theorem Inv.bk(I:Inv X UP σ H s):∀b o,X.base.get? b=some o->s.heap.get? b=some o:=λb o e=>(I.bs b o e).1
theorem Inv.mod(I:Inv X UP σ H s):Mod X.K X.mg X.base:=I.ok.mod
theorem Inv.dZ(I:Inv X UP σ H s):X.K.In s.heap:=I.ok.mod.EW.keeps I.bk
theorem Inv.lt(I:Inv X UP σ H s):X.env.locals<s.heap.objs.size:=let⟨_,hn,_⟩:=I.loc;hn.lt
theorem Inv.sz(I:Inv X UP σ H s):X.nO.heap.objs.size<=s.heap.objs.size:=Nat.le_trans I.ok.above (Nat.le_of_lt I.lt)
theorem Inv.SO(I:Inv X UP σ H s)(h:s.heap.objs.size<=a):a∉X.fs:=λhb=>by
 obtain⟨_,o,ho,_⟩:=I.ok.jQ.mem hb;exact absurd (Nat.lt_of_lt_of_le (Heap.lt_size ho) (Nat.le_trans I.sz h)) (Nat.lt_irrefl _)
theorem Inv.L9(I:Inv X UP σ H s):∀x c,X.env.cells.lookup x=some c->c≠X.env.locals:=λx c e z=>by
 obtain⟨v,o,ho,hd⟩:=I.cell x c e;obtain⟨m,⟨o',es,ep,ho',hd',_⟩,_⟩:=I.loc;rw[z,ho'] at ho;cases ho;rw[hd'] at hd;cases hd
theorem Inv.jQ(I:Inv X UP σ H s):s.heap.FunFrames X.base X.outer:=by
 have all:∀(l:List Env),(∀b∈km l,b∈X.fs)->X.nO.heap.FunFrames X.base l->s.heap.FunFrames X.base l:=by
  intro l;induction l with
  |nil=>intro _ _;trivial
  |cons env r ih=>
   intro hs hl;obtain⟨hk,⟨L,o,hf,hn,ho,hd⟩,hr⟩:=hl;have hL:L∈X.fs:=hs L (by unfold km;rw[List.filterMap_cons,hf];exact List.mem_cons_self);obtain⟨sl,e⟩:=I.base.slot L o ho (I.ok.Ju L hL) hL λz=>I.ok.AD L z hL;exact⟨hk,⟨L,_,hf,hn,e,hd⟩,ih (λb hb=>hs b (by unfold km;rw[List.filterMap_cons,hf];exact List.mem_cons_of_mem _ hb)) hr⟩
 exact all X.outer (λ_ hb=>hb) I.ok.jQ
theorem Inv.stack(I:Inv X UP σ H s):s.heap.FunFrames X.base X.stack:=by
 rcases I.ok.OF with e|⟨e,hf⟩
 ·rw[e];exact I.jQ
 ·rw[e];obtain⟨m,hn,_⟩:=I.loc;refine .cons (by rw[I.ok.kind];decide) hf hn ?_ I.jQ;exact Heap.get?_none_of_le (Nat.le_trans I.ok.FE I.ok.above)
theorem Inv.wc(I:Inv X UP σ H s):∀b∈km X.stack,b∈X.env.locals::X.fs:=λb hb=>by
 rcases I.ok.OF with e|⟨e,hf⟩
 ·rw[e] at hb;exact List.mem_cons_of_mem _ hb
 ·rw[e] at hb;unfold km at hb;rw[List.filterMap_cons,hf] at hb;exact hb
theorem Inv.vF(I:Inv X UP σ H s):∀b∈km X.stack,H b=none:=λb hb=>by
 rcases List.mem_cons.mp (I.wc b hb) with e|hb
 ·rw[e];exact I.free
 ·obtain⟨_,o,ho,_⟩:=I.ok.jQ.mem hb;exact I.base.free b o ho (I.ok.Ju b hb) λz=>I.ok.AD b z hb
theorem Inv.step{g':Array GenState}{t':Nat}{d':Drawn}{ch:List Addr}(I:Inv X UP σ H s)(hch:∀b∈ch,(b∈X.ex\/X.nO.heap.objs.size<=b)/\b≠X.env.locals/\(∀x c,X.env.cells.lookup x=some c->c≠b)/\∀p∈X.pn++UP,p.1≠b)(keep:∀b o,b≠X.env.locals->b∉X.fs->b∉ch->s.heap.get? b=some o->H b=none->h'.get? b=some o)(slot:∀b o,b≠X.env.locals->b∈X.fs->b∉ch->s.heap.get? b=some o->H b=none->∃sl,h'.get? b=some {o with slots:=sl})(free:∀b o,b∉ch->s.heap.get? b=some o->H b=none->H' b=none)(there:∀b o,b∉ch->s.heap.get? b=some o->∃o',h'.get? b=some o')(pP:∀b xs,H b=some (.tup xs)->H' b=some (.tup xs))(nH:∀b o u,H b=some (.rZ o u)->H' b=some (.rZ o u))(qa:∀b ps,H b=some (.NB ps)->∃more,H' b=some (.NB (ps++more)))(ns:∀m,s.heap.Ns X.env.locals m->h'.Ns X.env.locals m)(aZ:gA X.prog X.w H' h')(hg:AllBare g'):
  Inv X UP σ H' {s with heap:=h',gens:=g',drawn:=d',toks:=t'}:=by
 have neL:∀b o,X.nO.heap.get? b=some o->b≠X.env.locals:=λb o e=>Nat.ne_of_lt (Nat.lt_of_lt_of_le (Heap.lt_size e) I.ok.above);have neC:∀b o,X.nO.heap.get? b=some o->b∉X.ex->b∉ch:=λb o e hx hb=>by
  rcases(hch b hb).1 with z|z
  ·exact hx z
  ·exact absurd (Nat.lt_of_lt_of_le (Heap.lt_size e) z) (Nat.lt_irrefl _)
 have cellK:∀x c,X.env.cells.lookup x=some c->∀v,s.heap.IsCell c v->h'.IsCell c v:=λx c e v ⟨o,ho,hd⟩=>by
  have nch:c∉ch:=λz=>(hch c z).2.2.1 x c e rfl;by_cases hc:c∈X.fs
  ·obtain⟨sl,q⟩:=slot c o (I.L9 x c e) hc nch ho (I.fm x c e);exact⟨_,q,hd⟩
  ·exact⟨o,keep c o (I.L9 x c e) hc nch ho (I.fm x c e),hd⟩
 refine⟨I.ok,I.os,hg,⟨λb o e n hb hx=>?_,λb o e n hb hx=>?_,λb o e n hx=>?_,λb o e hx=>?_,λb xs e=>pP b xs (I.base.pP b xs e),λb o xs e=>nH b o xs (I.base.nH b o xs e),λb ps e=>?_⟩,?_,λx c e=>?_,?_,λx c e=>?_,λp hp=>?_,aZ,I.len⟩
 ·exact keep b o (neL b o e) hb (neC b o e hx) (I.base.keep b o e n hb hx) (I.base.free b o e n hx)
 ·obtain⟨sl,e1⟩:=I.base.slot b o e n hb hx;obtain⟨sl',e2⟩:=slot b _ (neL b o e) hb (neC b o e hx) e1 (I.base.free b o e n hx);exact⟨sl',e2⟩
 ·obtain⟨o',e1⟩:=I.base.there b o e hx;exact free b o' (neC b o e hx) e1 (I.base.free b o e n hx)
 ·obtain⟨o',e1⟩:=I.base.there b o e hx;exact there b o' (neC b o e hx) e1
 ·obtain⟨m1,e1⟩:=I.base.qa b ps e;obtain⟨m2,e2⟩:=qa b _ e1;exact⟨m1++m2,by rw[e2,Array.append_assoc]⟩
 ·obtain⟨m,hn,hl⟩:=I.loc;refine⟨m,ns m hn,λi x v e1 e2 e3=>?_⟩;obtain⟨u,r,l⟩:=hl i x v e1 e2 e3;refine⟨u,r,?_⟩;rcases l with l|⟨k,c,e,z⟩
  ·exact .inl l
  ·exact .inr ⟨k,c,e,cellK x c e _ z⟩
 ·obtain⟨v,z⟩:=I.cell x c e;exact⟨v,cellK x c e v z⟩
 ·obtain⟨m,⟨o,_,_,ho,_⟩,_⟩:=I.loc;exact free _ o (λz=>(hch _ z).2.1 rfl) ho I.free
 ·obtain⟨v,o,ho,hd⟩:=I.cell x c e;exact free c o (λz=>(hch c z).2.2.1 x c e rfl) ho (I.fm x c e)
 ·obtain⟨e,n,ne,nf,d⟩:=I.pin p hp;have nch:p.1∉ch:=λz=>(hch p.1 z).2.2.2 p hp rfl;exact⟨keep p.1 p.2 ne nf nch e n,free p.1 p.2 nch e n,ne,nf,d⟩
theorem Inv.un{t':Nat}(I:Inv X UP σ H s)(u:Un X.fs [] H H' s.heap h')(aZ:gA X.prog X.w H' h'):Inv X UP σ H' {s with heap:=h',toks:=t'}:=by
 obtain⟨m,⟨o,es,ep,ho,r⟩,_⟩:=id I.loc;obtain⟨sl,hL⟩:=u.any ho I.free (by simp);exact I.step (g':=s.gens) (d':=s.drawn) (ch:=[]) (λ_ z=>nomatch z) (λb o _ hb _ e n=>u.keep b o e n hb (by simp)) (λb o _ hb _ e n=>u.slot b o e n hb (by simp)) (λb o _ e n=>u.free b o e n (by simp)) (λb o _ e=>u.there b o e (by simp)) u.pP u.nH u.qa (λm' hm=>by
  obtain⟨o',es',ep',ho',r'⟩:=hm;rw[ho] at ho';cases ho';exact⟨_,es',ep',hL,r'⟩) aZ I.bare
theorem Inv.call{g':Array GenState}{t':Nat}{d':Drawn}{ch:List Addr}(I:Inv X UP σ H s)(u:Un (km X.stack) ch H H' s.heap h')(aZ:gA X.prog X.w H' h')(hg:AllBare g')(hch:∀b∈ch,(b∈X.ex\/X.nO.heap.objs.size<=b)/\b≠X.env.locals/\(∀x c,X.env.cells.lookup x=some c->c≠b)/\∀p∈X.pn++UP,p.1≠b):
  Inv X UP σ H' {s with heap:=h',gens:=g',drawn:=d',toks:=t'}:=by
 obtain⟨m,⟨o,es,ep,ho,r⟩,_⟩:=id I.loc;obtain⟨sl,hL⟩:=u.any ho I.free λz=>(hch _ z).2.1 rfl;exact I.step (ch:=ch) hch (λb o hL hb hc e n=>u.keep b o e n (λz=>(List.mem_cons.mp (I.wc b z)).elim hL hb) hc) (λb o _ _ hc e n=>u.any e n hc) (λb o hc e n=>u.free b o e n hc) (λb o hc e=>u.there b o e hc) u.pP u.nH u.qa (λm' hm=>by
  obtain⟨o',es',ep',ho',r'⟩:=hm;rw[ho] at ho';cases ho';exact⟨_,es',ep',hL,r'⟩) aZ hg
theorem Inv.turned{t':Nat}{it:Addr}(I:Inv X UP σ H s)(k:∀b o,b≠it->s.heap.get? b=some o->h'.get? b=some o)(hn:H it=none)(hL:it≠X.env.locals)(h1:it∈X.ex\/X.nO.heap.objs.size<=it)(h2:∀x c,X.env.cells.lookup x=some c->c≠it)(h3:∀p∈X.pn++UP,p.1≠it):Inv X UP σ H {s with heap:=h',toks:=t'}:=by
 have nit:∀b u,H b=some u->b≠it:=λb u e z=>by rw[z,hn] at e;cases e
 refine I.step (g':=s.gens) (d':=s.drawn) (ch:=[it]) (λb hb=>?_) (λb o _ _ hc e _=>k b o (λz=>hc (by simp[z])) e) (λb o _ _ hc e _=>⟨o.slots,k b o (λz=>hc (by simp[z])) e⟩) (λ_ _ _ _ n=>n)
  (λb o hc e=>⟨o,k b o (λz=>hc (by simp[z])) e⟩) (λ_ _ e=>e) (λ_ _ _ e=>e) (λb ps e=>⟨#[],by rw[e];simp⟩) (λm hm=>?_) (λb u e=>?_) I.bare
 ·have e:b=it:=by simpa using hb
  subst e;exact⟨h1,hL,h2,h3⟩
 ·obtain⟨o,es,ep,ho,r⟩:=hm;exact⟨o,es,ep,k _ o (Ne.symm hL) ho,r⟩
 ·refine(I.aZ b u e).zM (λc v hc q=>k c v ?_ q) (λ_ q=>q) λ_ _ q=>q;rcases hc with z|z
  ·rw[z];exact nit b u e
  ·exact nit c _ z
theorem Inv.tok(I:Inv X UP σ H s)(t:Nat):Inv X UP σ H {s with toks:=t}:=I.un (h':=s.heap) (t':=t) Un.refl I.aZ
theorem Inv.kept{t':Nat}(I:Inv X UP σ H s)(k:∀b u,s.heap.get? b=some u->h'.get? b=some u):Inv X UP σ H {s with heap:=h',toks:=t'}:=I.un (Un.kept k) (I.aZ.kept k)
theorem Inv.laid{o:HO}{t':Nat}(I:Inv X UP σ H s)(k:∀b u,s.heap.get? b=some u->h'.get? b=some u)(hp:s.heap.objs.size<=a)(new:bK X.prog X.w (upd H a o) h' a o):
  Inv X UP σ (upd H a o) {s with heap:=h',toks:=t'}:=I.un (Un.laid k hp (I.aZ.fresh hp)) (I.aZ.laid k hp new)
theorem Inv.write{x e:Addr}{o:HO}{t':Nat}(I:Inv X UP σ H s)(mu:Pe (H x))(he:e=x\/H e=some (.own x))(k:∀b u,b≠e->s.heap.get? b=some u->h'.get? b=some u)(heo:∃u,h'.get? e=some u)(new:bK X.prog X.w (upd H x o) h' x o):Inv X UP σ (upd H x o) {s with heap:=h',toks:=t'}:=I.un (Un.write mu he k heo) (I.aZ.write mu he k heo new)
theorem Inv.weak{σ':List (Option V)}(I:Inv X UP σ H s)(hl:σ'.length=σ.length)(w:∀(i:Nat) v,σ'[i]?=some (some v)->σ[i]?=some (some v)):Inv X UP σ' H s:=
 ⟨I.ok,I.os,I.bare,I.base,let⟨m,hn,hl'⟩:=I.loc;⟨m,hn,λi x v e1 e2 e3=>hl' i x v e1 (w i v e2) e3⟩,I.cell,I.free,I.fm,I.pin,I.aZ,hl.trans I.len⟩
theorem Inv.qx{pins':List (Addr×Obj)}(I:Inv X UP σ H s)(h:∀p∈pins',s.heap.get? p.1=some p.2/\H p.1=none/\p.1≠X.env.locals/\p.1∉X.fs/\∀v,p.2.data≠.cell v):Inv X pins' σ H s:=
 ⟨I.ok,I.os,I.bare,I.base,I.loc,I.cell,I.free,I.fm,λp hp=>(List.mem_append.mp hp).elim (λz=>I.pin p (List.mem_append_left _ z)) (h p),I.aZ,I.len⟩
theorem qB{N:List Str}(hN:N.Nodup){i j:Nat}(a:N[i]?=some x)(b:N[j]?=some x):i=j:=by obtain⟨h1,e1⟩:=List.getElem?_eq_some_iff.mp a;obtain⟨h2,e2⟩:=List.getElem?_eq_some_iff.mp b;exact(List.getElem_inj hN).mp (e1.trans e2.symm)
theorem Ea{M:Model}{i:Nat}{v:V}{Q:Unit->Shared->Prop}(I:Inv X UP σ H s)(hN:X.N.Nodup)(hi:X.N[i]?=some x)(hx:Loc X.env.scope x)(r:RelV v u)(h:∀s',Inv X UP (σ.set i (some v)) H s'->(∃a,Heap.SameBut a s.heap s'.heap/\(a=X.env.locals\/X.env.cells.lookup x=some a))->Q () s')(hf:X.fn x=true\/X.env.scope.names.lookup x=some .local:=by first|exact .inl rfl|exact .inr rfl|assumption):wpAny M A (storeName X.env x u) Q E s:=by
 obtain⟨m,hn,hl⟩:=id I.loc;have hcls:(X.env.scope.kind==.class||(X.env.scope.kind==.module&&X.env.locals != X.env.globals))=false:=by rw[I.ok.kind];rfl
 have hiσ:i<σ.length:=by rw[I.len];exact(List.getElem?_eq_some_iff.mp hi).1
 have L9:=I.L9;have tracked:∀{a:Addr}{h':Heap},(∃o,s.heap.get? a=some o/\H a=none)->Heap.SameBut a s.heap h'->gA X.prog X.w H h':=λ{a h'} ha hs b ob e=>by
  obtain⟨_,_,hfree⟩:=ha;refine(I.aZ b ob e).zM (λc w' hc q=>(hs.2 c ?_).trans q) (λ_ q=>q) λ_ _ q=>q;rintro rfl;rcases hc with rfl|hc
  ·rw[hfree] at e;cases e
  ·rw[hfree] at hc;cases hc
 rcases hx with hk|hk
 ·refine wpAny_storeName_local hk hn (λh' hn' hs=>?_) hcls;obtain⟨oL,_,_,hoL,_⟩:=id hn;refine h _ ⟨I.ok,I.os,I.bare,⟨λb o e n hb hx=>?_,λb o e n hb hx=>?_,I.base.free,λb o e hx=>?_,I.base.pP,I.base.nH,I.base.qa⟩,⟨_,hn',λj y v' e1 e2 e3=>?_⟩,λy c e=>?_,I.free,I.fm,λp hp=>?_,tracked ⟨oL,hoL,I.free⟩ hs,by simpa using I.len⟩ ⟨_,hs,.inl rfl⟩
  ·exact(hs.2 b (Nat.ne_of_lt (Nat.lt_of_lt_of_le (Heap.lt_size e) I.ok.above))).trans (I.base.keep b o e n hb hx)
  ·obtain⟨sl,e1⟩:=I.base.slot b o e n hb hx;exact⟨sl,(hs.2 b (Nat.ne_of_lt (Nat.lt_of_lt_of_le (Heap.lt_size e) I.ok.above))).trans e1⟩
  ·obtain⟨o',e1⟩:=I.base.there b o e hx;exact⟨o',(hs.2 b (Nat.ne_of_lt (Nat.lt_of_lt_of_le (Heap.lt_size e) I.ok.above))).trans e1⟩
  ·by_cases hj:j=i
   ·subst hj;rw[hi] at e1;cases e1;rw[List.getElem?_set_self hiσ] at e2;cases e2;exact⟨u,r,.inl ⟨hk,by simp⟩⟩
   ·rw[List.getElem?_set_ne (Ne.symm hj)] at e2;obtain⟨u',r',q⟩:=hl j y v' e1 e2 e3;refine⟨u',r',?_⟩;rcases q with⟨k,e⟩|⟨k,c,e,z⟩
    ·refine .inl ⟨k,?_⟩;have:y≠x:=λe=>hj (qB hN e1 (e▸hi));simp[this,e]
    ·exact .inr ⟨k,c,e,z.sameBut hs (L9 y c e)⟩
  ·obtain⟨w',z⟩:=I.cell y c e;exact⟨w',z.sameBut hs (L9 y c e)⟩
  ·obtain⟨e,n,ne,nf,d⟩:=I.pin p hp;exact⟨(hs.2 p.1 ne).trans e,n,ne,nf,d⟩
 ·have hfn:X.fn x=true:=by
   rcases hf with z|z
   ·exact z
   ·rw[z] at hk;cases hk
  obtain⟨c,hc⟩:=I.ok.has x (.inl hk);obtain⟨w',z⟩:=I.cell x c hc;refine wpAny_storeName_cell I.ok.kind hk hc z (λh' hc' hs=>?_);obtain⟨oc,hoc,hocd⟩:=id z;refine h {s with heap:=h'} ⟨I.ok,I.os,I.bare,⟨λb o e n hb hx=>?_,λb o e n hb hx=>?_,I.base.free,λb o e hx=>?_,I.base.pP,I.base.nH,I.base.qa⟩,⟨m,hn.sameBut hs (Ne.symm (L9 x c hc)),λj y v' e1 e2 e3=>?_⟩,λy c' e=>?_,I.free,I.fm,λp hp=>?_,tracked ⟨oc,hoc,I.fm x c hc⟩ hs,by simpa using I.len⟩ ⟨c,hs,.inr hc⟩
  ·exact(hs.2 b (Nat.ne_of_lt (Nat.lt_of_lt_of_le (Heap.lt_size e) (I.ok.OO x c hfn hc)))).trans (I.base.keep b o e n hb hx)
  ·obtain⟨sl,e1⟩:=I.base.slot b o e n hb hx;exact⟨sl,(hs.2 b (Nat.ne_of_lt (Nat.lt_of_lt_of_le (Heap.lt_size e) (I.ok.OO x c hfn hc)))).trans e1⟩
  ·obtain⟨o',e1⟩:=I.base.there b o e hx;exact⟨o',(hs.2 b (Nat.ne_of_lt (Nat.lt_of_lt_of_le (Heap.lt_size e) (I.ok.OO x c hfn hc)))).trans e1⟩
  ·by_cases hj:j=i
   ·subst hj;rw[hi] at e1;cases e1;rw[List.getElem?_set_self hiσ] at e2;cases e2;exact⟨u,r,.inr ⟨.inl hk,c,hc,hc'⟩⟩
   ·rw[List.getElem?_set_ne (Ne.symm hj)] at e2;obtain⟨u',r',q⟩:=hl j y v' e1 e2 e3;refine⟨u',r',?_⟩;rcases q with q|⟨k,c',e,z'⟩
    ·exact .inl q
    ·refine .inr ⟨k,c',e,z'.sameBut hs ?_⟩;rintro rfl;exact hj (qB hN e1 (I.ok.inj _ _ _ e hc▸hi))
  ·by_cases hcc:c'=c
   ·subst hcc;exact⟨_,hc'⟩
   ·obtain⟨w2,z2⟩:=I.cell y c' e;exact⟨w2,z2.sameBut hs hcc⟩
  ·obtain⟨e,n,ne,nf,d⟩:=I.pin p hp;refine⟨(hs.2 p.1 ?_).trans e,n,ne,nf,d⟩;intro q;rw[q,hoc] at e;have q':oc=p.2:=Option.some.inj e;exact d w' (by rw[<-q'];exact hocd)
theorem kO{M:Model}{i:Nat}{v:V}{Q:Unit->Shared->Prop}(I:Inv X UP σ H s)(hN:X.N.Nodup)(hi:X.N[i]?=some x)(hx:Loc X.env.scope x)(r:RelV v u)(h:∀s',Inv X UP (σ.set i (some v)) H s'->Q () s')(hf:X.fn x=true\/X.env.scope.names.lookup x=some .local:=by first|exact .inl rfl|exact .inr rfl|assumption):wpAny M A (storeName X.env x u) Q E s:=
 Ea I hN hi hx r (λs' I' _=>h s' I') hf
theorem Inv.LP{s':Shared}{ch:List Addr}(I:Inv X UP σ H s)(ho:s'.os=s.os)(u:Un (km X.stack) ch H H' s.heap s'.heap)(aZ:gA X.prog X.w H' s'.heap)(hg:AllBare s'.gens)(hch:∀b∈ch,(b∈X.ex\/X.nO.heap.objs.size<=b)/\b≠X.env.locals/\(∀x c,X.env.cells.lookup x=some c->c≠b)/\∀p∈X.pn++UP,p.1≠b):Inv X UP σ H' s':=by obtain⟨h',g',d',t',o'⟩:=s';have e:o'=s.os:=ho;subst e;exact I.call (g':=g') (t':=t') (d':=d') u aZ hg hch
end
abbrev XK:=Value->Option Addr->Hp->Prop
abbrev St:=List (Option V)
abbrev VK:=V->Hp->Prop
abbrev TE:=St->Hp->VK->Prop
abbrev TT:=St->Hp->(Bool->Hp->Prop)->Prop
abbrev TA:=St->Hp->(List V->Hp->Prop)->Prop
structure Ends where
 nx:St->Hp->Prop
 rt:VK
 bk:St->Hp->Prop:=λ_ _=>False
 ct:St->Hp->Prop:=λ_ _=>False
abbrev TS:=Ends->St->Hp->Prop
inductive EP(X:Cx)(UP:List (Addr×Obj))(σ:St)(Q:VK)(u:Value)(s':Shared):Prop
 |mk(v:_) (H':_) (_:Inv X UP σ H' s') (_:RelV v u) (_:Q v H')
inductive TP(X:Cx)(UP:List (Addr×Obj))(σ:St)(Q:Bool->Hp->Prop)(b:Bool)(s':Shared):Prop
 |mk(H':_) (_:Inv X UP σ H' s') (_:Q b H')
inductive AP(X:Cx)(UP:List (Addr×Obj))(σ:St)(Q:List V->Hp->Prop)(us:List Value)(s':Shared):Prop
 |mk(vs:_) (H':_) (_:Inv X UP σ H' s') (_:Vals vs us) (_:Q vs H')
def SP(X:Cx)(UP:List (Addr×Obj))(D:Ends)(f:Flow)(s':Shared):Prop:=
 match f with
 | .next=>∃σ' H',Inv X UP σ' H' s'/\D.nx σ' H'
 | .brk=>∃σ' H',Inv X UP σ' H' s'/\D.bk σ' H'
 | .cont=>∃σ' H',Inv X UP σ' H' s'/\D.ct σ' H'
 | .ret u=>∃v σ' H',Inv X UP σ' H' s'/\RelV v u/\D.rt v H'
def PE(X:Cx)(e:Expr)(t:TE):Prop:=
 ∀(UP:List (Addr×Obj))(s:Shared)(σ:St)(H:Hp)(Q:VK),Inv X UP σ H s->t σ H Q->wpAny (model X.prog X.w) X.A (eval e X.env) (EP X UP σ Q) X.xe s
def PT(X:Cx)(e:Expr)(t:TT):Prop:=
 ∀(UP:List (Addr×Obj))(s:Shared)(σ:St)(H:Hp)(Q:Bool->Hp->Prop),Inv X UP σ H s->t σ H Q->wpAny (model X.prog X.w) X.A (isTrue e X.env (eval e X.env)) (TP X UP σ Q) X.xe s
def PW(X:Cx)(e:Expr)(t:TT):Prop:=
 ∀(whole:Sem Value)(UP:List (Addr×Obj))(s:Shared)(σ:St)(H:Hp)(Q:Bool->Hp->Prop),Inv X UP σ H s->t σ H Q->wpAny (model X.prog X.w) X.A (isTrue e X.env whole) (TP X UP σ Q) X.xe s
theorem PW.pt{X:Cx}{e:Expr}{t:TT}(h:PW X e t):PT X e t:=h _
def PA(X:Cx)(es:List Expr)(t:TA):Prop:=
 ∀(pos:Pos)(UP:List (Addr×Obj))(s:Shared)(σ:St)(H:Hp)(Q:List V->Hp->Prop),Inv X UP σ H s->t σ H Q->wpAny (model X.prog X.w) X.A (spliced (backTo pos (starEach es X.env))) (AP X UP σ Q) X.xe s
def PS(X:Cx)(st:Stmt)(t:TS):Prop:=
 ∀(UP:List (Addr×Obj))(s:Shared)(σ:St)(H:Hp)(D:Ends),Inv X UP σ H s->t D σ H->wpAny (model X.prog X.w) X.A (exec st X.env) (SP X UP D) X.xe s
def rT(X:Cx)(st:List Stmt)(t:TS):Prop:=
 ∀(UP:List (Addr×Obj))(s:Shared)(σ:St)(H:Hp)(D:Ends),Inv X UP σ H s->t D σ H->wpAny (model X.prog X.w) X.A (execs st X.env) (SP X UP D) X.xe s
theorem br{α:Type}{t:Sem α}{Q Q':α->Shared->Prop}{M:Model}(h:wpAny M A t Q E s)(hQ:∀a s,Q a s->Q' a s):wpAny M A t Q' E s:=wpAny_mono h hQ λ_ _ x=>x
section
variable{X:Cx}
inductive Qz(o:Option (Option V))(Q:VK)(H:Hp):Prop
 |mk(v:V) (_:o=some (some v)) (_:Q v H)
def df(i:Nat):TE:=λσ H Q=>Qz σ[i]? Q H
def tC(v:V):TE:=λ_ H Q=>Q v H
theorem GA{i:Nat}{pos:Pos}(hN:X.N[i]?=some x)(hv:Ni X.env.scope x)(hd:(x==("__debug__":Str))=false:=by decide)(hcd:(x==("__classdict__":Str))=false:=by decide):PE X (.Name x pos) (df i):=by
 intro UP s σ H Q I h;obtain⟨v,e,h⟩:=h;obtain⟨m,hn,hl⟩:=I.loc;obtain⟨u,r,l⟩:=hl i x v hN e hv;have fin:EP X UP σ Q u s:=⟨v,H,I,r,h⟩
 rcases l with⟨hk,hm⟩|⟨hk,c,hc,hcell⟩
 ·exact wpAny_Name (wpAny_loadName_local I.ok.kind hk hn hm fin) hd
 ·rcases hk with hk|hk
  ·exact wpAny_Name (wpAny_loadName_cell I.ok.kind hk hc hcell fin) hd
  ·exact wpAny_Name (wpAny_loadName_free I.ok.kind hk hc hcell fin hcd) hd
theorem aw{i j pos}:PE X (.Constant (.int i) j pos) (tC (.int i)):=λ_ _ _ H _ I h=>wpAny_Constant_int ⟨.int i,H,I.tok _,⟨_,rfl⟩,h⟩
theorem Ij{b j pos}:PE X (.Constant (.bool b) j pos) (tC (.bl b)):=λ_ _ _ H _ I h=>Constant_bool ⟨.bl b,H,I,rfl,h⟩
theorem BB{j pos}:PE X (.Constant .none j pos) (tC .bH):=λ_ _ _ H _ I h=>Constant_none ⟨.bH,H,I,rfl,h⟩
theorem bO{x j pos}:PE X (.Constant (.str x) j pos) (tC (.str x)):=λ_ _ _ H _ I h=>Calls.Constant_str ⟨.str x,H,I.tok _,⟨_,rfl⟩,h⟩
def Gl(X:Cx)(x:Str):Prop:=X.env.kindOf x=some .globalImplicit
theorem dY{pos:Pos}(I:Inv X UP σ H s)(hg:Gl X x)(hm:X.mg x=some u)(h:Q u s)(hd:(x==("__debug__":Str))=false:=by decide):wpAny (model X.prog X.w) X.A (eval (.Name x pos) X.env) Q E s:=
 Calls.Name_function_global I.ok.kind hg (Calls.loadGlobal_global (by rw[I.ok.glob];exact I.mod.glob.keeps I.bk) hm h) hd
theorem x9{pos:Pos}(I:Inv X UP σ H s)(hg:Gl X x)(hm:X.mg x=none)(hv:bootBuiltins x=some u)(h:Q u s)(hn:x≠"__name__":=by decide)(hd:(x==("__debug__":Str))=false:=by decide):wpAny (model X.prog X.w) X.A (eval (.Name x pos) X.env) Q E s:=by obtain⟨mb,h1,h2⟩:=I.mod.blt;exact Calls.Name_function_global I.ok.kind hg (Calls.loadGlobal_builtin (by rw[I.ok.glob];exact I.mod.glob.keeps I.bk) hm (by rw[I.ok.blt];exact h1.keeps I.bk) ((h2 x hn).trans hv) h) hd
theorem wO{v:V}{pos:Pos}(hg:Gl X x)(hm:X.mg x=some u)(r:RelV v u)(hd:(x==("__debug__":Str))=false:=by decide):PE X (.Name x pos) (tC v):=
 λ_ _ _ H _ I h=>dY I hg hm ⟨v,H,I,r,h⟩ hd
theorem C4{v:V}{pos:Pos}(hg:Gl X x)(hm:X.mg x=none)(hv:bootBuiltins x=some u)(r:RelV v u)(hn:x≠"__name__":=by decide)(hd:(x==("__debug__":Str))=false:=by decide):PE X (.Name x pos) (tC v):=
 λ_ _ _ H _ I h=>x9 I hg hm hv ⟨v,H,I,r,h⟩ hn hd
variable{a b:Expr}{ta tb:TE}{pos:Pos}
def PC(X:Cx)(op:CmpOp)(a b:Expr)(t:TE):Prop:=
 ∀(UP:List (Addr×Obj))(s:Shared)(σ:St)(H:Hp)(Q:VK),Inv X UP σ H s->t σ H Q->
  wpAny (model X.prog X.w) X.A (eval a X.env) (λv s₁=>wpAny (model X.prog X.w) X.A (eval b X.env) (λu s₂=>wpAny (model X.prog X.w) X.A (compareOp op v u) (EP X UP σ Q) X.xe s₂) X.xe s₁) X.xe s
def tB(t:TE):TT:=λσ H Q=>t σ H λx H1=>∃c,x= .bl c/\Q c H1
theorem F0{op:CmpOp}{t:TE}(h:PC X op a b t)(h1:behindInMarks op b=false:=by first|exact R8 _ ↑0 (↑0)|rfl):PT X (.Compare a [op] [b] pos) (tB t):=by intro UP s σ H Q I hw;refine wpAny_isTrue_Compare1 (br (h UP s σ H _ I hw) λv s1 h1=>br h1 λu s2 h2=>br h2 λc s3 ⟨x,H1,I1,r1,q1⟩=>?_) h1;obtain⟨d,rfl,q⟩:=q1;cases r1;exact wpAny_truthy_bool ⟨H1,I1,q⟩
theorem dr{e:Expr}{t:TE}(h:PE X e t)(he:∀whole,isTrue e X.env whole=(do let v<-whole;standAt e.pos;holding [v] (truthy v)):=by intro _;rfl):PT X e (tB t):=by intro UP s σ H Q I hw;refine isTrue_plain (br (h UP s σ H _ I hw) λv s1 ⟨x,H1,I1,r1,q1⟩=>?_) (he _);obtain⟨d,rfl,q⟩:=q1;cases r1;exact wpAny_truthy_bool ⟨H1,I1,q⟩
variable{tA tB':TT}{rest:List Expr}
def Td(t u:TT):TT:=λσ H Q=>t σ H λc H1=>if c=true then u σ H1 Q else Q false H1
def SA(t u:TT):TT:=λσ H Q=>t σ H λc H1=>if c=true then Q true H1 else u σ H1 Q
def Sy(t:TT):TT:=λσ H Q=>t σ H λc H1=>Q (!c) H1
theorem i9(ha:PT X a tA):PW X (.BoolOp .And [a] pos) tA:=by
 intro wh UP s σ H Q I h;refine isTrue_and (br (ha UP s σ H Q I h) λc s1 e=>?_);cases c with
 |true=>exact isTrue_and_nil e
 |false=>exact e
theorem Ge(ha:PT X a tA):PW X (.BoolOp .Or [a] pos) tA:=by
 intro wh UP s σ H Q I h;refine isTrue_or (br (ha UP s σ H Q I h) λc s1 e=>?_);cases c with
 |false=>exact isTrue_or_nil e
 |true=>exact e
theorem nU(ha:PT X a tA)(hb:PW X (.BoolOp .And (b::rest) pos) tB'):PW X (.BoolOp .And (a::b::rest) pos) (Td tA tB'):=by
 intro wh UP s σ H Q I h;refine isTrue_and (br (ha UP s σ H _ I h) λc s1 ⟨H1,I1,q1⟩=>?_);cases c with
 |true=>exact hb wh UP s1 σ H1 Q I1 q1
 |false=>exact⟨H1,I1,q1⟩
theorem L7(ha:PT X a tA)(hb:PW X (.BoolOp .Or (b::rest) pos) tB'):PW X (.BoolOp .Or (a::b::rest) pos) (SA tA tB'):=by
 intro wh UP s σ H Q I h;refine isTrue_or (br (ha UP s σ H _ I h) λc s1 ⟨H1,I1,q1⟩=>?_);cases c with
 |true=>exact⟨H1,I1,q1⟩
 |false=>exact hb wh UP s1 σ H1 Q I1 q1
theorem Hw(ha:PT X a tA):PT X (.UnaryOp .Not a pos) (Sy tA):=by intro UP s σ H Q I h;exact isTrue_not (br (ha UP s σ H (λc H1=>Q (!c) H1) I h) λ_ _ ⟨H1,I1,q⟩=>⟨H1,I1,q⟩)
def Di(ta tb:TE):TE:=λσ H Q=>ta σ H λx H1=>∃c,x= .bl c/\if c=true then tb σ H1 Q else Q (.bl false) H1
def Sq(ta tb:TE):TE:=λσ H Q=>ta σ H λx H1=>∃c,x= .bl c/\if c=true then Q (.bl true) H1 else tb σ H1 Q
def L6(ta:TE):TE:=λσ H Q=>ta σ H λx H1=>∃c,x= .bl c/\Q (.bl (!c)) H1
theorem gQ{op}{t:TE}(h:PE X a t):PE X (.BoolOp op [a] pos) t:=λUP s σ H Q I hw=>BoolOp_one (h UP s σ H Q I hw)
theorem tJ(ha:PE X a ta)(hb:PE X (.BoolOp .And (b::rest) pos) tb):PE X (.BoolOp .And (a::b::rest) pos) (Di ta tb):=by
 intro UP s σ H Q I h;refine BoolOp_and (br (ha UP s σ H _ I h) λv s1 ⟨x,H1,I1,r1,q1⟩=>?_);obtain⟨c,rfl,q1⟩:=q1;cases r1;refine wpAny_truthy_bool ?_;cases c with
 |true=>exact hb UP s1 σ H1 Q I1 q1
 |false=>exact⟨.bl false,H1,I1,rfl,q1⟩
theorem zS(ha:PE X a ta)(hb:PE X (.BoolOp .Or (b::rest) pos) tb):PE X (.BoolOp .Or (a::b::rest) pos) (Sq ta tb):=by
 intro UP s σ H Q I h;refine BoolOp_or (br (ha UP s σ H _ I h) λv s1 ⟨x,H1,I1,r1,q1⟩=>?_);obtain⟨c,rfl,q1⟩:=q1;cases r1;refine wpAny_truthy_bool ?_;cases c with
 |false=>exact hb UP s1 σ H1 Q I1 q1
 |true=>exact⟨.bl true,H1,I1,rfl,q1⟩
theorem Nq(ha:PE X a ta):PE X (.UnaryOp .Not a pos) (L6 ta):=by intro UP s σ H Q I h;refine UnaryOp_ (br (ha UP s σ H _ I h) λv s1 ⟨x,H1,I1,r1,q1⟩=>?_);obtain⟨c,rfl,q1⟩:=q1;cases r1;exact not_of (wpAny_truthy_bool ⟨.bl (!c),H1,I1,rfl,q1⟩)
def Ur(t:TT)(ta tb:TE):TE:=λσ H Q=>t σ H λc H1=>if c=true then ta σ H1 Q else tb σ H1 Q
theorem qY{c:Expr}(hc:PT X c tA)(ha:PE X a ta)(hb:PE X b tb):PE X (.IfExp c a b pos) (Ur tA ta tb):=by
 intro UP s σ H Q I h;refine wpAny_IfExp (br (hc UP s σ H _ I h) λd s1 ⟨H1,I1,q1⟩=>?_);cases d with
 |true=>exact ha UP s1 σ H1 Q I1 q1
 |false=>exact hb UP s1 σ H1 Q I1 q1
end
def bh(K:Frag)(H:Hp)(a:Addr)(xs:List V):Prop:=
 Rd H a (.lst xs)\/
  ∃(o:Obj)(its:Array Value)(n:Nat),K.lookup a=some o/\o.cls= .type "list"/\o.dict=none/\o.data= .seq its n/\its.size<=sizeLine/\Vals xs its.toList
def fN(K:Frag)(H:Hp)(a:Addr)(xs:List V):Prop:=
 Rd H a (.tup xs)\/
  ∃(o:Obj)(its:Array Value)(n:Nat),K.lookup a=some o/\o.cls= .type "tuple"/\o.data= .seq its n/\its.size<=sizeLine/\Vals xs its.toList
def SE:Value->Option V
 | .none=>some .bH
 | .bool b=>some (.bl b)
 | .int i _=>some (.int i)
 | .str x _=>some (.str x)
 | .bytes b _=>some (.bW b)
 | .float b _=>some (.JB b)
 | .ref a=>some (.ref a)
 | .type n=>some (.ty n)
 |_=>none
theorem RelV.abs{x:V}(r:RelV x u):SE u=some x:=by
 cases x with
 |bH=>cases r;rfl
 |bl _=>cases r;rfl
 |int _=>obtain⟨t,rfl⟩:=r;rfl
 |str _=>obtain⟨t,rfl⟩:=r;rfl
 |bW _=>obtain⟨t,rfl⟩:=r;rfl
 |JB _=>obtain⟨t,rfl⟩:=r;rfl
 |ref _=>cases r;rfl
 |ty _=>cases r;rfl
theorem RelV.inj{x y:V}(r:RelV x u)(q:RelV y u):x=y:=Option.some.inj (r.abs.symm.trans q.abs)
theorem Vals.inj:∀{xs ys:List V}{us:List Value},Vals xs us->Vals ys us->xs=ys
 |_,_,_,.nil,.nil=>rfl
 |_,_,_,.cons r t,.cons r' t'=>by rw[r.inj r',Vals.inj t t']
section
variable{X:Cx}{UP:List (Addr×Obj)}{σ:St}{H:Hp}{s:Shared}{a:Addr}{xs ys:List V}
theorem bh.of(h:H a=some (.lst xs)):bh K H a xs:=.inl (.inl h)
theorem fN.of(h:H a=some (.tup xs)):fN K H a xs:=.inl (.inl h)
theorem Inv.list(I:Inv X UP σ H s)(h:bh X.K H a xs):∃its:List Value,Vals xs its/\PlainL s.heap a its.toArray/\xs.length<=sizeLine:=by
 rcases h with h|⟨o,its,n,hk,hc,hd,hs,hz,r⟩
 ·obtain⟨z,its,n,r,e⟩:=h.ok I.aZ;exact⟨its,r,⟨_,n,e,rfl,rfl,rfl⟩,z⟩
 ·refine⟨its.toList,r,⟨o,n,I.dZ a o hk,hc,hd,by simpa using hs⟩,?_⟩;have e:=r.length;simp only[Array.length_toList] at e;omega
theorem Inv.tuple(I:Inv X UP σ H s)(h:fN X.K H a xs):∃its:List Value,Vals xs its/\IsTup s.heap a its.toArray/\xs.length<=sizeLine:=by
 rcases h with h|⟨o,its,n,hk,hc,hs,hz,r⟩
 ·obtain⟨z,its,r,p⟩:=h.ok I.aZ;exact⟨its,r,p,z⟩
 ·refine⟨its.toList,r,⟨o,I.dZ a o hk,hc,n,by simpa using hs⟩,?_⟩;have e:=r.length;simp only[Array.length_toList] at e;omega
theorem Inv.IT(I:Inv X UP σ H s)(h:bh X.K H a xs)(h':bh X.K H a ys):xs=ys:=by
 obtain⟨its,r,⟨o,n,e,_,_,d⟩,_⟩:=I.list h;obtain⟨its',r',⟨o',n',e',_,_,d'⟩,_⟩:=I.list h';rw[e] at e';cases e';rw[d] at d';injection d' with d1 _
 have:its=its':=by simpa using congrArg Array.toList d1
 subst this;exact r.inj r'
theorem Inv.Ef(I:Inv X UP σ H s)(h:fN X.K H a xs)(h':fN X.K H a ys):xs=ys:=by
 obtain⟨its,r,⟨o,e,_,n,d⟩,_⟩:=I.tuple h;obtain⟨its',r',⟨o',e',_,n',d'⟩,_⟩:=I.tuple h';rw[e] at e';cases e';rw[d] at d';injection d' with d1 _
 have:its=its':=by simpa using congrArg Array.toList d1
 subst this;exact r.inj r'
end
abbrev Cx.kr(X:Cx)(E:Value->Shared->Prop):Cx:={X with xe:=E}
abbrev Cx.LL(X:Cx):Cx:=X.kr λ_ _=>False
theorem Cx.Ok.kr{X:Cx}(ok:X.Ok)(E:Value->Shared->Prop):(X.kr E).Ok:=
 ⟨ok.mod,ok.kind,ok.glob,ok.blt,ok.above,ok.inj,ok.has,ok.OO,ok.hd,ok.frames,ok.OF,ok.Pn,ok.bs,ok.FE,ok.Ba,ok.AD,ok.jQ,ok.Ju⟩
theorem Cx.Ok.dU{X:Cx}(ok:(X.kr E).Ok):X.Ok:=
 ⟨ok.mod,ok.kind,ok.glob,ok.blt,ok.above,ok.inj,ok.has,ok.OO,ok.hd,ok.frames,ok.OF,ok.Pn,ok.bs,ok.FE,ok.Ba,ok.AD,ok.jQ,ok.Ju⟩
section
variable{X:Cx}{UP:List (Addr×Obj)}{σ:St}{H:Hp}{s:Shared}{E:Value->Shared->Prop}
theorem Inv.kr(I:Inv X UP σ H s)(E:Value->Shared->Prop):Inv (X.kr E) UP σ H s:=⟨I.ok.kr E,I.os,I.bare,I.base,I.loc,I.cell,I.free,I.fm,I.pin,I.aZ,I.len⟩
theorem Inv.dU(I:Inv (X.kr E) UP σ H s):Inv X UP σ H s:=⟨I.ok.dU,I.os,I.bare,I.base,I.loc,I.cell,I.free,I.fm,I.pin,I.aZ,I.len⟩
theorem SP.dU{D:Ends}{f:Flow}{s':Shared}(h:SP (X.kr E) UP D f s'):SP X UP D f s':=by
 cases f with
 |next=>obtain⟨σ',H',I,q⟩:=h;exact⟨σ',H',I.dU,q⟩
 |brk=>obtain⟨σ',H',I,q⟩:=h;exact⟨σ',H',I.dU,q⟩
 |cont=>obtain⟨σ',H',I,q⟩:=h;exact⟨σ',H',I.dU,q⟩
 |ret u=>obtain⟨v,σ',H',I,r,q⟩:=h;exact⟨v,σ',H',I.dU,r,q⟩
theorem rT.LL{st:List Stmt}{t:TS}(h:rT X.LL st t):rT X st t:=λUP s σ H D I hw=>
 wpAny_mono (h UP s σ H D (I.kr _) hw) (λ_ _ q=>q.dU) λ_ _ z=>False.elim z
end
section
variable{X:Cx}{st:Stmt}{rest:List Stmt}{t u:TS}{e:Expr}{te:TE}{pos:Pos}
def z9:TS:=λD σ H=>D.nx σ H
def AS(t u:TS):TS:=λD σ H=>t {D with nx:=u D} σ H
theorem aL:rT X [] z9:=λ_ _ σ H _ I h=>wpAny_execs_nil ⟨σ,H,I,h⟩
theorem aj(h1:PS X st t)(h2:rT X rest u):rT X (st::rest) (AS t u):=by
 intro UP s σ H D I h;refine wpAny_execs_cons (br (h1 UP s σ H {D with nx:=u D} I h) λf s1 q=>?_);cases f with
 |next=>
  obtain⟨σ',H',I',q⟩:=q;exact h2 UP s1 σ' H' D I' q
 |ret v=>exact q
 |brk=>exact q
 |cont=>exact q
theorem ai(h1:PS X st t):rT X [st] t:=by
 intro UP s σ H D I h;refine wpAny_execs_cons (br (h1 UP s σ H D I h) λf s1 q=>?_);cases f with
 |next=>exact wpAny_execs_nil q
 |ret v=>exact q
 |brk=>exact q
 |cont=>exact q
theorem Inv.quiet(I:Inv X UP σ H s):interactive X.env=false:=by simp[interactive,I.ok.kind]
def Ro(te:TE):TS:=λD σ H=>te σ H λ_ H1=>D.nx σ H1
theorem aS(he:PE X e te)(hs:swapsWith e none pos.line X.env=pure false:=by rfl):PS X (.Expr e pos) (Ro te):=by intro UP s σ H D I h;exact wpAny_Expr_any (br (he UP s σ H _ I h) λv s1 ⟨x,H1,I1,r1,q1⟩=>⟨σ,H1,I1,q1⟩) I.quiet hs
def pD(te:TE):TS:=λD σ H=>te σ H D.rt
theorem aB(he:PE X e te):PS X (.Return (some e) pos) (pD te):=by intro UP s σ H D I h;exact wpAny_Return_some (br (he UP s σ H _ I h) λv s1 ⟨x,H1,I1,r1,q1⟩=>⟨x,σ,H1,I1,r1,q1⟩)
def Hi(c:TT)(t u:TS):TS:=λD σ H=>c σ H λb H1=>if b=true then t D σ H1 else u D σ H1
theorem aR{c:Expr}{a b:List Stmt}{tc:TT}(hc:PT X c tc)(ha:rT X a t)(hb:rT X b u):PS X (.If c a b pos) (Hi tc t u):=by
 intro UP s σ H D I h;refine wpAny_If (br (hc UP s σ H _ I h) λd s1 ⟨H1,I1,q1⟩=>?_);cases d with
 |true=>exact ha UP s1 σ H1 D I1 q1
 |false=>exact hb UP s1 σ H1 D I1 q1
end
abbrev TG:=V->St->Hp->(St->Hp->Prop)->Prop
abbrev MH:=List V->St->Hp->(St->Hp->Prop)->Prop
def PG(X:Cx)(target:Expr)(t:TG):Prop:=
 ∀(UP:List (Addr×Obj))(s:Shared)(σ:St)(H:Hp)(v:V)(u:Value)(Q:St->Hp->Prop),Inv X UP σ H s->RelV v u->t v σ H Q->
  wpAny (model X.prog X.w) X.A (assign target X.env u) (λ_ s'=>∃σ' H',Inv X UP σ' H' s'/\Q σ' H') X.xe s
def Sg(X:Cx)(ts:List Expr)(t:MH):Prop:=
 ∀(UP:List (Addr×Obj))(s:Shared)(σ:St)(H:Hp)(vs:List V)(us:List Value)(Q:St->Hp->Prop),Inv X UP σ H s->Vals vs us->t vs σ H Q->
  wpAny (model X.prog X.w) X.A (assignInOrder ((assignEach ts X.env).map (·.2)) us) (λ_ s'=>∃σ' H',Inv X UP σ' H' s'/\Q σ' H') X.xe s
abbrev FV:=V->V->V->Hp->(Hp->Prop)->Prop
def MW(X:Cx)(t:FV):Prop:=
 ∀(UP:List (Addr×Obj))(s:Shared)(σ:St)(H:Hp)(o i v:V)(ov iv u:Value)(Q:Hp->Prop),Inv X UP σ H s->RelV o ov->RelV i iv->RelV v u->t o i v H Q->
  wpAny (model X.prog X.w) X.A (setItem ov iv u) (λ_ s'=>∃H',Inv X UP σ H' s'/\Q H') X.xe s
abbrev Pf:=V->V->Hp->VK->Prop
def Se(X:Cx)(op:Operator)(t:Pf):Prop:=
 ∀(UP:List (Addr×Obj))(s:Shared)(σ:St)(H:Hp)(x y:V)(v u:Value)(Q:VK),Inv X UP σ H s->RelV x v->RelV y u->t x y H Q->
  wpAny (model X.prog X.w) X.A (inplaceOp op v u) (EP X UP σ Q) X.xe s
section
variable{X:Cx}{pos:Pos}
def LS(i:Nat):TG:=λv σ H Q=>Q (σ.set i (some v)) H
theorem fM{i:Nat}(hN:X.N.Nodup)(hi:X.N[i]?=some x)(hx:Loc X.env.scope x)(hf:X.fn x=true\/X.env.scope.names.lookup x=some .local:=by first|exact .inl rfl|exact .inr rfl|assumption):PG X (.Name x pos) (LS i):=by intro UP s σ H v u Q I r h;exact wpAny_assign_Name (kO I hN hi hx r (λs' I'=>⟨_,H,I',h⟩) hf)
def Tt:MH:=λvs σ H Q=>vs=[]/\Q σ H
def R4(t:TG)(u:MH):MH:=λvs σ H Q=>∃v r,vs=v::r/\t v σ H λσ' H'=>u r σ' H' Q
theorem Km:Sg X [] Tt:=by intro UP s σ H vs us Q I r h;obtain⟨e,h⟩:=h;subst e;cases r;exact assignInOrder_nil ⟨σ,H,I,h⟩
theorem zG{e:Expr}{es:List Expr}{t:TG}{u:MH}(h1:PG X e t)(h2:Sg X es u)(hs:(assignEach (e::es) X.env).map (·.2)=assign e X.env::(assignEach es X.env).map (·.2):=by rfl):Sg X (e::es) (R4 t u):=by
 intro UP s σ H vs us Q I r h;obtain⟨v,vr,e1,h⟩:=h;subst e1;cases r with
 |cons r rr=>
  rw[hs];refine assignInOrder_cons (br (h1 UP s σ H _ _ _ I r h) λ_ s1 ⟨σ1,H1,I1,q1⟩=>?_);exact h2 UP s1 σ1 H1 _ _ Q I1 rr q1
def Tj(K:Frag)(n:Nat)(t:MH):TG:=λv σ H Q=>∃a xs,v= .ref a/\fN K H a xs/\xs.length=n/\t xs σ H Q
theorem Mt{es:List Expr}{k:Nat}{t:MH}{n:Nat}(hc:X.calm=true)(h:Sg X es t)(hn:(assignEach es X.env).length=n:=by rfl)(hst:(assignEach es X.env).findIdx? (·.1)=none:=by rfl):PG X (.Tuple es k pos) (Tj X.K n t):=by intro UP s σ H v u Q I r hw;obtain⟨a,xs,e1,hq,hl,hw⟩:=hw;subst e1;cases r;obtain⟨its,rv,ht,hz⟩:=I.tuple hq;refine assign_Tuple_tuple (I.ok.hd hc) ht (by simp[hn,<-hl,rv.length]) hst λh' hx=>?_;have I1:Inv X UP σ H {s with heap:=h'}:=I.kept (t':=s.toks) λb o e=>hx b o (Nat.ne_of_lt (Heap.lt_size e)) e;exact h UP _ σ H xs _ Q I1 (by simpa using rv) hw
def T'(to ti:TE)(t:FV):TG:=λv σ H Q=>to σ H λo H1=>ti σ H1 λi H2=>t o i v H2 λH3=>Q σ H3
theorem NH{o i:Expr}{to ti:TE}{t:FV}(ho:PE X o to)(hi:PE X i ti)(hs:MW X t)(ha:∀v,assign (.Subscript o i pos) X.env v=(do
   let ov<-holding [v] (eval o X.env)
   let iv<-holding [v,ov] (eval i X.env)
   standAt pos
   holding [v,ov,iv] (setItem ov iv v)
   release [v,ov,iv] []):=by intro _;rfl):PG X (.Subscript o i pos) (T' to ti t):=by
 intro UP s σ H v u Q I r h;rw[ha];refine wpAny_bind (wpAny_holding (br (ho UP s σ H _ I h) λov s1 ⟨x,H1,I1,r1,q1⟩=>?_));refine wpAny_bind (wpAny_holding (br (hi UP s1 σ H1 _ I1 q1) λiv s2 ⟨y,H2,I2,r2,q2⟩=>?_));refine wpAny_bind (wpAny_standAt (wpAny_bind (wpAny_holding (br (hs UP s2 σ H2 x y v ov iv u _ I2 r1 r2 r q2) λ_ s3 ⟨H3,I3,q3⟩=>?_))));exact wpAny_release ⟨σ,H3,I3,q3⟩
def QA(te:TE)(g:TG):TS:=λD σ H=>te σ H λx H1=>g x σ H1 D.nx
theorem Nm{tg e:Expr}{te:TE}{g:TG}(he:PE X e te)(hg:PG X tg g)(hs:swapsWithSole [tg] e pos.line X.env=pure false:=by rfl)(hw:swappedStores [tg] e X.env=pure none:=by rfl)(h1:(assignEach [tg] X.env).map (·.2)=[assign tg X.env]:=by rfl):PS X (.Assign [tg] e pos) (QA te g):=by intro UP s σ H D I h;refine wpAny_Assign_stores (br (he UP s σ H _ I h) λv s1 ⟨x,H1,I1,r1,q1⟩=>?_) hs hw;rw[h1];exact br (hg UP s1 σ H1 x v _ I1 r1 q1) λ_ s2 q=>q
theorem aN{i:Nat}{e:Expr}{te:TE}{pos':Pos}(hN:X.N.Nodup)(hi:X.N[i]?=some x)(hx:Loc X.env.scope x)(he:PE X e te)(hs:swapsWith e (some (.Name x pos')) pos.line X.env=pure false:=by rfl)(hf:X.fn x=true\/X.env.scope.names.lookup x=some .local:=by first|exact .inl rfl|exact .inr rfl|assumption):
  PS X (.Assign [.Name x pos'] e pos) (QA te (LS i)):=by
 intro UP s σ H D I h;refine wpAny_Assign_Name (br (he UP s σ H _ I h) λv s1 ⟨y,H1,I1,r1,q1⟩=>?_) hs;exact kO I1 hN hi hx r1 (λs2 I2=>⟨_,H1,I2,q1⟩) hf
def TU(i:Nat)(te:TE)(ti:Pf):TS:=λD σ H=>∃x,σ[i]?=some (some x)/\te σ H λy H1=>ti x y H1 λz H2=>D.nx (σ.set i (some z)) H2
theorem iE{i:Nat}{e:Expr}{te:TE}{op:Operator}{ti:Pf}{pos':Pos}(hN:X.N.Nodup)(hi:X.N[i]?=some x)(hx:Loc X.env.scope x)(he:PE X e te)(ho:Se X op ti)(hf:X.fn x=true\/X.env.scope.names.lookup x=some .local:=by first|exact .inl rfl|exact .inr rfl|assumption):
  PS X (.AugAssign (.Name x pos') op e pos) (TU i te ti):=by
 intro UP s σ H D I h;obtain⟨v,e1,h⟩:=h;obtain⟨m,hn,hl⟩:=I.loc;have vis:Ni X.env.scope x:=by rcases hx with k|k;exact .inl k;exact .inr (.inl k)
 obtain⟨u,r,l⟩:=hl i x v hi e1 vis;refine wpAny_AugAssign_Name ?_;have go:wpAny (model X.prog X.w) X.A (eval e X.env) (λw s₂=>wpAny (model X.prog X.w) X.A (inplaceOp op u w) (λr s₃=>wpAny (model X.prog X.w) X.A (storeName X.env x r) (λ_=>SP X UP D .next) X.xe s₃) X.xe s₂) X.xe s:=by
  refine br (he UP s σ H _ I h) λw s1 ⟨y,H1,I1,r1,q1⟩=>?_;refine br (ho UP s1 σ H1 v y u w _ I1 r r1 q1) λz s2 ⟨zv,H2,I2,r2,q2⟩=>?_;exact kO I2 hN hi hx r2 (λs3 I3=>⟨_,H2,I3,q2⟩) hf
 rcases l with⟨hk,hm⟩|⟨hk,c,hc,hcell⟩
 ·exact wpAny_loadName_local I.ok.kind hk hn hm go
 ·rcases hk with hk|hk
  ·exact wpAny_loadName_cell I.ok.kind hk hc hcell go
  ·rcases hx with k|k
   ·have:X.env.scope.names.lookup x=some .free:=hk;rw[k] at this;cases this
   ·have:X.env.scope.names.lookup x=some .free:=hk;rw[k] at this;cases this
def LZ(to ti te:TE)(tget:V->V->Hp->VK->Prop)(tip:Pf)(tset:FV):TS:=λD σ H=>to σ H λo H1=>ti σ H1 λi H2=>tget o i H2 λx H3=>te σ H3 λy H4=>tip x y H4 λz H5=>tset o i z H5 λH6=>D.nx σ H6
def Q5(X:Cx)(t:V->V->Hp->VK->Prop):Prop:=
 ∀(UP:List (Addr×Obj))(s:Shared)(σ:St)(H:Hp)(o i:V)(ov iv:Value)(Q:VK),Inv X UP σ H s->RelV o ov->RelV i iv->t o i H Q->
  wpAny (model X.prog X.w) X.A (getItem ov iv) (EP X UP σ Q) X.xe s
theorem Dk{o i e:Expr}{to ti te:TE}{tget:V->V->Hp->VK->Prop}{tip:Pf}{tset:FV}{op:Operator}{tpos:Pos}(ho:PE X o to)(hi:PE X i ti)(hg:Q5 X tget)(he:PE X e te)(hp:Se X op tip)(hs:MW X tset)(ha:∀ov iv new,augStore i ov iv new=(do holding [new,ov,iv] (setItem ov iv new);release [new,ov,iv] [];pure .next):=by intros;rfl):PS X (.AugAssign (.Subscript o i tpos) op e pos) (LZ to ti te tget tip tset):=by intro UP s σ H D I h;refine wpAny_AugAssign_SubscriptAny (br (ho UP s σ H _ I h) λov s1 ⟨x1,H1,I1,r1,q1⟩=>?_) ha;refine br (hi UP s1 σ H1 _ I1 q1) λiv s2 ⟨x2,H2,I2,r2,q2⟩=>?_;refine br (hg UP s2 σ H2 x1 x2 ov iv _ I2 r1 r2 q2) λold s3 ⟨x3,H3,I3,r3,q3⟩=>?_;refine br (he UP s3 σ H3 _ I3 q3) λv s4 ⟨x4,H4,I4,r4,q4⟩=>?_;refine br (hp UP s4 σ H4 x3 x4 old v _ I4 r3 r4 q4) λnew s5 ⟨x5,H5,I5,r5,q5⟩=>?_;exact br (hs UP s5 σ H5 x1 x2 x5 ov iv new _ I5 r1 r2 r5 q5) λ_ s6 ⟨H6,I6,q6⟩=>⟨σ,H6,I6,q6⟩
def Sw(f:Int->Int->Int):Pf:=λx y H Q=>∃i j,x= .int i/\y= .int j/\Q (.int (f i j)) H
theorem gX:Se X .Add (Sw λi j=>i+j):=by intro UP s σ H x y v u Q I r1 r2 h;obtain⟨i,j,e1,e2,q⟩:=h;subst e1;subst e2;obtain⟨t,rfl⟩:=r1;obtain⟨t',rfl⟩:=r2;exact iadd_int ⟨.int _,H,I.tok _,⟨_,rfl⟩,q⟩
theorem ND:Se X .Sub (Sw λi j=>i - j):=by intro UP s σ H x y v u Q I r1 r2 h;obtain⟨i,j,e1,e2,q⟩:=h;subst e1;subst e2;obtain⟨t,rfl⟩:=r1;obtain⟨t',rfl⟩:=r2;exact isub_int ⟨.int _,H,I.tok _,⟨_,rfl⟩,q⟩
end
section
variable{X:Cx}{pos:Pos}
def Nv(c:TT)(tb:TS):TS:=λD σ H=>∃W:Nat->St->Hp->Prop,(∃m,W m σ H)/\∀m σ H,W m σ H->
 c σ H λb H1=>if b=true then ∃N:St->Hp->Prop,(∀σ' H',N σ' H'->∃m',m'<m/\W m' σ' H')/\tb {D with nx:=N,ct:=N,bk:=D.nx} σ H1 else D.nx σ H1
theorem fj{c:Expr}{body:List Stmt}{tc:TT}{tb:TS}(hp:PassesOwn (model X.prog X.w) X.A X.env X.xe)(hc:PT X c tc)(hb:rT X body tb):PS X (.While c body [] pos) (Nv tc tb):=by
 intro UP s σ H D I h;obtain⟨W,⟨m0,w0⟩,turn⟩:=h;refine wpAny_While (codeAny_whileLoop (λn s'=>∃σ' H',Inv X UP σ' H' s'/\W n σ' H') ?_ m0 ⟨σ,H,I,w0⟩);rintro n s1 ⟨σ1,H1,I1,w1⟩;refine wpAny_passesOwn hp (br (hc UP s1 σ1 H1 _ I1 (turn n σ1 H1 w1)) λb s2 ⟨H2,I2,q2⟩=>?_);cases b with
 |true=>
  obtain⟨N,hN,q2⟩:=q2;rw[if_pos rfl];refine wpAny_passesOwn hp (br (hb UP s2 σ1 H2 _ I2 q2) λf s3 q3=>?_);cases f with
  |next=>
   obtain⟨σ3,H3,I3,n3⟩:=q3;obtain⟨m',hm,w3⟩:=hN σ3 H3 n3;exact⟨m',hm,σ3,H3,I3,w3⟩
  |cont=>
   obtain⟨σ3,H3,I3,n3⟩:=q3;obtain⟨m',hm,w3⟩:=hN σ3 H3 n3;exact⟨m',hm,σ3,H3,I3,w3⟩
  |brk=>exact q3
  |ret v=>exact q3
 |false=>
  rw[if_neg Bool.false_ne_true];exact wpAny_execs_nil ⟨σ1,H2,I2,q2⟩
end
structure It where
 go:Nat->Hp->Prop
 LN:Nat->Hp->V->Hp->Prop
 stop:Nat->Hp->Prop
def uo(X:Cx)(UP:List (Addr×Obj))(H:Hp)(b:Addr):Prop:=
 H b=none/\b≠X.env.locals/\b∉X.fs/\(b∈X.ex\/X.nO.heap.objs.size<=b)/\(∀x c,X.env.cells.lookup x=some c->c≠b)/\∀p∈X.pn++UP,p.1≠b
theorem Inv.HB{X:Cx}{H':Hp}(I:Inv X UP σ H s)(hb:s.heap.objs.size<=b)(hn:H' b=none):uo X UP H' b:=by
 refine⟨hn,Nat.ne_of_gt (Nat.lt_of_lt_of_le I.lt hb),I.SO hb,.inr (Nat.le_trans I.sz hb),λx c e z=>?_,λp hp z=>?_⟩
 ·obtain⟨v,q⟩:=I.cell x c e;exact absurd (Nat.lt_of_lt_of_le q.lt (by rw[z];exact hb)) (Nat.lt_irrefl _)
 ·exact absurd (Nat.lt_of_lt_of_le (Heap.lt_size (I.pin p hp).1) (by rw[z];exact hb)) (Nat.lt_irrefl _)
structure Turn(P:Program)(w:World)(K:Frag)(tg:Expr)(J:It)(fp:List Addr)(it:Addr)(tn:Nat->Heap->Prop):Prop where
 mem:it∈fp
 obj:∀i h,tn i h->∀b∈fp,∃o,h.get? b=some o/\∀v,o.data≠.cell v
 keep:∀i h h',tn i h->(∀b∈fp,∀o,h.get? b=some o->h'.get? b=some o)->tn i h'
 item:∀(X:Cx),X.prog=P->X.w=w->X.K=K->X.calm=true->∀(i:Nat)(UP:List (Addr×Obj))(s:Shared)(σ:St)(H:Hp)(E:Value->Shared->Prop),Inv X UP σ H s->(∀b∈fp,uo X UP H b)->tn i s.heap->J.go i H->
  wpAny (model P w) X.A (pyNext (.ref it)) (λr s1=>∃u,r=some u/\
   wpAny (model P w) X.A (letOwnedTupleGo tg (.ref it) u) (λ_ s2=>∃x H',Inv X UP σ H' s2/\RelV x u/\J.LN i H x H'/\tn (i+1) s2.heap/\∀b∈fp,H' b=none) E s1) E s
 done:∀(X:Cx),X.prog=P->X.w=w->X.K=K->X.calm=true->∀(i:Nat)(UP:List (Addr×Obj))(s:Shared)(σ:St)(H:Hp)(E:Value->Shared->Prop),Inv X UP σ H s->(∀b∈fp,uo X UP H b)->tn i s.heap->J.stop i H->
  wpAny (model P w) X.A (pyNext (.ref it)) (λr s1=>r=none/\Inv X UP σ H s1) E s
 self:∀(A:Around)(i:Nat)(s:Shared)(Q:Value->Shared->Prop)(E:Value->Shared->Prop),tn i s.heap->Q (.ref it) s->wpAny (model P w) A (pyIter (.ref it)) Q E s
abbrev TI:=St->Hp->(It->Hp->Prop)->Prop
def Tv(X:Cx)(UP:List (Addr×Obj))(σ:St)(tg:Expr)(R:It->Hp->Prop)(itv:Value)(s2:Shared):Prop:=
 ∃(it:Addr)(fp:List Addr)(tn:Nat->Heap->Prop)(J:It)(H':Hp),itv= .ref it/\Inv X UP σ H' s2/\Turn X.prog X.w X.K tg J fp it tn/\tn 0 s2.heap/\(∀b∈fp,uo X UP H' b)/\R J H'
def PI(X:Cx)(tg iter:Expr)(wi:TI):Prop:=
 ∀(UP:List (Addr×Obj))(s:Shared)(σ:St)(H:Hp)(R:It->Hp->Prop),Inv X UP σ H s->wi σ H R->
  wpAny (model X.prog X.w) X.A (eval iter X.env) (λv s1=>wpAny (model X.prog X.w) X.A (pyIter v) (Tv X UP σ tg R) X.xe s1) X.xe s
theorem Dh{M:Model}{tg:Expr}{it:Addr}{o:Obj}{n:String}{vs:Array Value}{Q:Unit->Shared->Prop}(ho:s.heap.get? it=some o)(hc:o.cls= .type n)(hd:o.data= .fields vs)(hn:["enumerate","zip","dict_itemiterator","dict_reverseitemiterator","odict_iterator","itertools.zip_longest","itertools.pairwise"].contains n=false)(hQ:Q () s):wpAny M A (letOwnedTupleGo tg (.ref it) u) Q E s:=by
  unfold letOwnedTupleGo;cases tg <;> first
    |exact wpAny_pure hQ
    |(cases u <;> first
        |exact wpAny_pure hQ
        | (refine wpAny_bind (wpAny_load ho ?_)
           rw[hc,hd];show wpAny M A (if(["enumerate","zip","dict_itemiterator","dict_reverseitemiterator","odict_iterator","itertools.zip_longest","itertools.pairwise"].contains n&&vs[0]?==some (rawInt _))=true then _ else _) Q E s;rw[if_neg (by intro h;rw[hn,Bool.false_and] at h;cases h)];exact wpAny_pure hQ))
def LG(K:Frag)(a:Addr):It:=
 ⟨λi H=>∃xs x,bh K H a xs/\xs[i]?=some x,λi H x H'=>H'=H/\∀xs,bh K H a xs->xs[i]?=some x,λi H=>∃xs,bh K H a xs/\xs.length<=i⟩
def Rp(K:Frag)(a:Addr):It:=
 ⟨λi H=>∃xs x,fN K H a xs/\xs[i]?=some x,λi H x H'=>H'=H/\∀xs,fN K H a xs->xs[i]?=some x,λi H=>∃xs,fN K H a xs/\xs.length<=i⟩
def Pl(lo:Int)(n:Nat):It:=⟨λi _=>i<n,λi H x H'=>H'=H/\x= .int (lo+i),λi _=>n<=i⟩
theorem Fl{tg:Expr}(a it:Addr):Turn P w K tg (LG K a) [it] it (λi h=>h.IsListIter it a i) where
 mem:=by simp
 obj:=λi h st b hb=>by
  have e:b=it:=by simpa using hb
  subst e;obtain⟨o,e,c,d⟩:=st;exact⟨o,e,λv z=>by rw[d] at z;cases z⟩
 keep:=λi h h' st k=>st.at λo e=>k it (by simp) o e
 item:=by
  intro X hP hw hK hc i UP s σ H E I hf st hg;subst hP hw hK;obtain⟨xs,x,hq,hx⟩:=hg;obtain⟨its,rv,p,hz⟩:=I.list hq;obtain⟨u,hu,ru⟩:=rv.get hx;obtain⟨f0,f1,f2,f3,f4,f5⟩:=hf it (by simp);refine wpAny_pyNext_list_item st p.isList (x:=u) (by simpa using hu) λh' st' sb=>?_;have I1:Inv X UP σ H {s with heap:=h'}:=I.turned (t':=s.toks) (λb o hb e=>(sb.2 b hb).trans e) f0 f1 f3 f4 f5;obtain⟨o,e,c,d⟩:=id st';exact⟨u,rfl,Dh (s:={s with heap:=h'}) e c d ↑0 ⟨x,H,I1,ru,⟨rfl,λys hy=>by rw[I.IT hy hq];exact hx⟩,st',λb hb=>(hf b hb).1⟩⟩
 done:=by
  intro X hP hw hK hc i UP s σ H E I hf st hg;subst hP hw hK;obtain⟨xs,hq,hx⟩:=hg;obtain⟨its,rv,p,hz⟩:=I.list hq;obtain⟨f0,f1,f2,f3,f4,f5⟩:=hf it (by simp);have hl:=rv.length;exact wpAny_pyNext_list_end (I.ok.hd hc) st p.isList (by simp;omega) λh' eb=>⟨rfl,I.turned (t':=s.toks) (λb o hb e=>eb b o hb e) f0 f1 f3 f4 f5⟩
 self:=λ_ _ _ _ _ st h=>wpAny_pyIter_listiter st h
theorem B1{tg:Expr}(a it:Addr):Turn P w K tg (Rp K a) [it] it (λi h=>h.IsTupleIter it a i) where
 mem:=by simp
 obj:=λi h st b hb=>by
  have e:b=it:=by simpa using hb
  subst e;obtain⟨o,e,c,d⟩:=st;exact⟨o,e,λv z=>by rw[d] at z;cases z⟩
 keep:=λi h h' st k=>st.at λo e=>k it (by simp) o e
 item:=by
  intro X hP hw hK hc i UP s σ H E I hf st hg;subst hP hw hK;obtain⟨xs,x,hq,hx⟩:=hg;obtain⟨its,rv,p,hz⟩:=I.tuple hq;obtain⟨u,hu,ru⟩:=rv.get hx;obtain⟨f0,f1,f2,f3,f4,f5⟩:=hf it (by simp);refine wpAny_pyNext_tuple_item st (show s.heap.IsTuple a its.toArray from p) (x:=u) (by simpa using hu) λh' st' sb=>?_;have I1:Inv X UP σ H {s with heap:=h'}:=I.turned (t':=s.toks) (λb o hb e=>(sb.2 b hb).trans e) f0 f1 f3 f4 f5;obtain⟨o,e,c,d⟩:=id st';exact⟨u,rfl,Dh (s:={s with heap:=h'}) e c d ↑0 ⟨x,H,I1,ru,⟨rfl,λys hy=>by rw[I.Ef hy hq];exact hx⟩,st',λb hb=>(hf b hb).1⟩⟩
 done:=by
  intro X hP hw hK hc i UP s σ H E I hf st hg;subst hP hw hK;obtain⟨xs,hq,hx⟩:=hg;obtain⟨its,rv,p,hz⟩:=I.tuple hq;obtain⟨f0,f1,f2,f3,f4,f5⟩:=hf it (by simp);have hl:=rv.length;exact wpAny_pyNext_tuple_end (I.ok.hd hc) st (show s.heap.IsTuple a its.toArray from p) (by simp;omega) λh' eb=>⟨rfl,I.turned (t':=s.toks) (λb o hb e=>eb b o hb e) f0 f1 f3 f4 f5⟩
 self:=λ_ _ _ _ _ st h=>wpAny_pyIter_tupleiter st h
theorem A'{tg:Expr}(it:Addr)(lo:Int)(n:Nat):Turn P w K tg (Pl lo n) [it] it (λi h=>IsRangeIter h it (lo+(i:Nat)*1) ((n:Int) - (i:Nat)) 1) where
 mem:=by simp
 obj:=λi h st b hb=>by
  have e:b=it:=by simpa using hb
  subst e;exact⟨_,st,λv z=>by
   have z':Data.fields _=Data.cell v:=z;cases z'⟩
 keep:=λi h h' st k=>k it (by simp) _ st
 item:=by
  intro X hP hw hK hc i UP s σ H E I hf st hg;subst hP hw hK;obtain⟨f0,f1,f2,f3,f4,f5⟩:=hf it (by simp);have W:=Walks.range (prog:=X.prog) (w:=X.w) (I.ok.hd hc) it lo 1 n;refine W.item i s _ _ hg st λv h' tk hv st' kk=>?_;obtain⟨t,rfl⟩:=hv;have I1:Inv X UP σ H {s with heap:=h',toks:=tk}:=I.turned (λb o hb e=>kk b o (by simpa using hb) e) f0 f1 f3 f4 f5;refine⟨_,rfl,Dh (s:={s with heap:=h',toks:=tk}) (n:="range_iterator") st' rfl rfl ↑0 ⟨.int (lo+i),H,I1,⟨t,?_⟩,⟨rfl,rfl⟩,st',λb hb=>(hf b hb).1⟩⟩;rw[Int.mul_one]
 done:=by
  intro X hP hw hK hc i UP s σ H E I hf st hg;subst hP hw hK;obtain⟨f0,f1,f2,f3,f4,f5⟩:=hf it (by simp);exact wpAny_pyNext_range_end (I.ok.hd hc) st (by have:n<=i:=hg;omega) λh' eb=>⟨rfl,I.turned (t':=s.toks) (λb o hb e=>eb b o hb e) f0 f1 f3 f4 f5⟩
 self:=λ_ _ _ _ _ st h=>wpAny_pyIter_rangeiter st h
section
variable{X:Cx}{tg:Expr}
def Pz(K:Frag)(tl:TE):TI:=λσ H R=>tl σ H λx H1=>∃a,x= .ref a/\(∃xs,bh K H1 a xs)/\R (LG K a) H1
def Tf(K:Frag)(tl:TE):TI:=λσ H R=>tl σ H λx H1=>∃a,x= .ref a/\(∃xs,fN K H1 a xs)/\R (Rp K a) H1
theorem qd{l:Expr}{tl:TE}(hl:PE X l tl):PI X tg l (Pz X.K tl):=by
 intro UP s σ H R I h;refine br (hl UP s σ H _ I h) λv s1 ⟨x,H1,I1,r1,q1⟩=>?_;obtain⟨a,e,⟨xs,hq⟩,q⟩:=q1;subst e;cases r1;obtain⟨its,rv,p,hz⟩:=I1.list hq;refine wpAny_pyIter_list p.isList ?_;refine⟨s1.heap.objs.size,[s1.heap.objs.size],_,_,H1,rfl,I1.kept (t':=s1.toks) λb o e=>Heap.get?_push_of_some _ e,Fl a _,⟨_,Heap.get?_push_size _ rfl,rfl,rfl⟩,λb hb=>?_,q⟩;have e:b=s1.heap.objs.size:=by simpa using hb
 subst e;exact I1.HB (Nat.le_refl _) (I1.aZ.fresh (Nat.le_refl _))
theorem Ow{l:Expr}{tl:TE}(hl:PE X l tl):PI X tg l (Tf X.K tl):=by
 intro UP s σ H R I h;refine br (hl UP s σ H _ I h) λv s1 ⟨x,H1,I1,r1,q1⟩=>?_;obtain⟨a,e,⟨xs,hq⟩,q⟩:=q1;subst e;cases r1;obtain⟨its,rv,p,hz⟩:=I1.tuple hq;refine wpAny_pyIter_tuple (show s1.heap.IsTuple a its.toArray from p) ?_;refine⟨s1.heap.objs.size,[s1.heap.objs.size],_,_,H1,rfl,I1.kept (t':=s1.toks) λb o e=>Heap.get?_push_of_some _ e,B1 a _,⟨_,Heap.get?_push_size _ rfl,rfl,rfl⟩,λb hb=>?_,q⟩;have e:b=s1.heap.objs.size:=by simpa using hb
 subst e;exact I1.HB (Nat.le_refl _) (I1.aZ.fresh (Nat.le_refl _))
theorem GW{R:It->Hp->Prop}{lo hi:Int}{t u v:Tok}{tk:Nat}(I:Inv X UP σ H s)(h1: -(2 ^ 62)<=lo)(h2:lo<2 ^ 62)(h3: -(2 ^ 62)<=hi)(h4:hi<2 ^ 62)(q:R (Pl lo (hi - lo).toNat) H):wpAny (model X.prog X.w) X.A (pyIter (.ref s.heap.objs.size)) (Tv X UP σ tg R) E {s with heap:=s.heap.push {cls:=.type "range",data:=.fields #[.int lo t,.int hi u,.int 1 v]},toks:=tk}:=by
 refine wpAny_pyIter_range (IsRange.new ..) (small_one h1 h2 h3 h4) ?_;have I1:Inv X UP σ H {s with heap:=s.heap.push {cls:=.type "range",data:=.fields #[.int lo t,.int hi u,.int 1 v]},toks:=tk}:=I.kept λb o e=>Heap.get?_push_of_some _ e;refine⟨(s.heap.push {cls:=.type "range",data:=.fields #[.int lo t,.int hi u,.int 1 v]}).objs.size,[(s.heap.push {cls:=.type "range",data:=.fields #[.int lo t,.int hi u,.int 1 v]}).objs.size],_,_,H,rfl,
  I1.kept (t':=tk) λb o e=>Heap.get?_push_of_some _ e,A' _ lo (hi - lo).toNat,?_,λb hb=>?_,q⟩
 ·have e1:lo+((0:Nat):Int)*1=lo:=by simp
  have e2:(((hi - lo).toNat:Nat):Int) - ((0:Nat):Int)=Builtin.Range.rangeSize lo hi 1:=by rw[rangeSize_one];split <;> omega
  show IsRangeIter _ _ (lo+((0:Nat):Int)*1) ((((hi - lo).toNat:Nat):Int) - ((0:Nat):Int)) 1;rw[e1,e2];exact Heap.get?_push_size _ rfl
 ·have e:b=(s.heap.push {cls:=.type "range",data:=.fields #[.int lo t,.int hi u,.int 1 v]}).objs.size:=by simpa using hb
  subst e;exact I1.HB (Nat.le_refl _) (I1.aZ.fresh (Nat.le_refl _))
def RQ(ta:TA):TI:=λσ H R=>ta σ H λvs H1=>∃j:Int,vs=[.int j]/\ -(2 ^ 62)<=j/\j<2 ^ 62/\R (Pl 0 j.toNat) H1
theorem D'{a:Expr}{ta:TA}{p pos:Pos}(hg:Gl X "range")(hm:X.mg "range"=none)(ha:PA X [a] ta)(hs:starEach [a] X.env=[(false,eval a X.env)]:=by rfl):PI X tg (.Call (.Name "range" p) [a] [] pos) (RQ ta):=by
 intro UP s σ H R I h;refine Call_ (x9 I hg hm boot_range (PyProof.Rows.callWith_type1 (br (ha pos UP s σ H _ I h) λus s1 ⟨vs,H1,I1,r1,q1⟩=>?_) hs rfl));obtain⟨j,e,q1,q2,q⟩:=q1;subst e;cases r1 with
 |cons r rr=>
  cases rr;obtain⟨t,rfl⟩:=r;exact call_range_1 (GW I1 ↑2 ↑2 q1 q2 (by simpa using q))
def SK(wi:TI)(g:TG)(tb:TS):TS:=λD σ H=>wi σ H λJ H1=>∃W:Nat->Nat->St->Hp->Prop,(∃m,W 0 m σ H1)/\∀i m σ H,W i m σ H->
 (J.stop i H/\D.nx σ H)\/(J.go i H/\∃N:St->Hp->Prop,(∀σ' H',N σ' H'->∃m',m'<m/\W (i+1) m' σ' H')/\∀x H',J.LN i H x H'->g x σ H' λσ2 H2=>tb {D with nx:=N,ct:=N,bk:=D.nx} σ2 H2)
def tH(fp:List Addr)(h:Heap):List (Addr×Obj):=fp.filterMap λb=>(h.get? b).map λo=>(b,o)
theorem jG{fp:List Addr}{h:Heap}{o:Obj}(hb:b∈fp)(e:h.get? b=some o):(b,o)∈tH fp h:=List.mem_filterMap.mpr ⟨b,hb,by rw[e];rfl⟩
theorem Ei{fp:List Addr}{h:Heap}{p:Addr×Obj}(hp:p∈tH fp h):p.1∈fp/\h.get? p.1=some p.2:=by
 obtain⟨b,hb,e⟩:=List.mem_filterMap.mp hp;cases q:h.get? b with
 |none=>rw[q] at e;cases e
 |some o=>
  rw[q] at e;have e':(b,o)=p:=Option.some.inj e;subst e';exact⟨hb,q⟩
theorem Inv.pinned{fp:List Addr}(I:Inv X UP σ H s)(hf:∀b∈fp,uo X UP H b)(ho:∀b∈fp,∃o,s.heap.get? b=some o/\∀v,o.data≠.cell v):Inv X (UP++tH fp s.heap) σ H s:=
 I.qx λp hp=>(List.mem_append.mp hp).elim (λz=>I.pin p (List.mem_append_right _ z)) λz=>by
  obtain⟨hb,e⟩:=Ei z;obtain⟨f0,f1,f2,_⟩:=hf p.1 hb;obtain⟨o,e',d⟩:=ho p.1 hb;rw[e] at e';cases e';exact⟨e,f0,f1,f2,d⟩
theorem Inv.kJ{pl:List (Addr×Obj)}(I:Inv X (UP++pl) σ H s):Inv X UP σ H s:=I.qx λp hp=>I.pin p (List.mem_append_right _ (List.mem_append_left _ hp))
theorem rm{iter:Expr}{body:List Stmt}{wi:TI}{g:TG}{tb:TS}{pos:Pos}(hp:PassesOwn (model X.prog X.w) X.A X.env X.xe)(hc:X.calm=true)(hi:PI X tg iter wi)(hg:PG X tg g)(hb:rT X body tb)(hs:∀x,foldedSetIterable iter X.env x=pure x:=by intro _;rfl):PS X (.For tg iter body [] pos) (SK wi g tb):=by
 intro UP s σ H D I h;refine wpAny_For (br (hi UP s σ H _ I h) λv s1 h1=>br h1 λitv s2 h2=>?_) hs;obtain⟨it,fp,tn,J,H2,e,I2,T,st2,f2,W,⟨m0,w0⟩,turn⟩:=h2;subst e;have stat:∀{H':Hp},(∀b∈fp,H' b=none)->∀b∈fp,uo X UP H' b:=λhn b hb=>⟨hn b hb,(f2 b hb).2⟩
 refine codeAny_forLoop_any (λn s'=>∃i σ' H',Inv X UP σ' H' s'/\tn i s'.heap/\(∀b∈fp,H' b=none)/\W i n σ' H') ?_ m0 ⟨0,σ,H2,I2,st2,λb hb=>(f2 b hb).1,w0⟩;rintro n s3 ⟨i,σ3,H3,I3,st3,fr3,w3⟩;rcases turn i n σ3 H3 w3 with⟨stop,qn⟩|⟨go,N,hN,step⟩
 ·refine wpAny_passesOwn hp (br (T.done X rfl rfl rfl hc i UP s3 σ3 H3 X.xe I3 (stat fr3) st3 stop) λr s4 ⟨hr,I4⟩=>?_);subst hr;exact wpAny_execs_nil ⟨σ3,H3,I4,qn⟩
 ·refine wpAny_passesOwn hp (br (T.item X rfl rfl rfl hc i UP s3 σ3 H3 X.xe I3 (stat fr3) st3 go) λr s4 ⟨u,hr,h4⟩=>?_);subst hr;refine wpAny_passesOwn hp (br h4 λ_ s5 ⟨x,H5,I5,r5,y5,st5,fr5⟩=>?_);have I5':=I5.pinned (stat fr5) (T.obj _ _ st5);refine wpAny_passesOwn hp (br (hg _ s5 σ3 H5 x u _ I5' r5 (step x H5 y5)) λ_ s6 ⟨σ6,H6,I6,q6⟩=>?_);refine wpAny_passesOwn hp (br (hb _ s6 σ6 H6 _ I6 q6) λf s7 q7=>?_);have again:∀{σ7:St}{H7:Hp},Inv X (UP++tH fp s5.heap) σ7 H7 s7->N σ7 H7->∃m,m<n/\∃i σ' H',Inv X UP σ' H' s7/\tn i s7.heap/\(∀b∈fp,H' b=none)/\W i m σ' H':=λ{σ7 H7} I7 n7=>by
   obtain⟨m',hm,w7⟩:=hN σ7 H7 n7;refine⟨m',hm,i+1,σ7,H7,I7.kJ,T.keep _ _ _ st5 λb hb o e=>(I7.pin (b,o) (List.mem_append_right _ (List.mem_append_right _ (jG hb e)))).1,λb hb=>?_,w7⟩;obtain⟨o,e,d⟩:=T.obj _ _ st5 b hb;exact(I7.pin (b,o) (List.mem_append_right _ (List.mem_append_right _ (jG hb e)))).2.1
  cases f with
  |next=>obtain⟨σ7,H7,I7,n7⟩:=q7;exact again I7 n7
  |cont=>obtain⟨σ7,H7,I7,n7⟩:=q7;exact again I7 n7
  |brk=>obtain⟨σ7,H7,I7,q7⟩:=q7;exact⟨σ7,H7,I7.kJ,q7⟩
  |ret v=>obtain⟨x7,σ7,H7,I7,r7,q7⟩:=q7;exact⟨x7,σ7,H7,I7.kJ,r7,q7⟩
end
theorem As{xs:List V}{g:TG}{tb:TS}{D:Ends}(Pv:Nat->St->Hp->Prop)(h0:Pv 0 σ H)(hl:∀i σ H,i<=xs.length->Pv i σ H->bh K H a xs)(hs:∀i x σ H,xs[i]?=some x->Pv i σ H->g x σ H λσ2 H2=>tb {D with nx:=Pv (i+1),ct:=Pv (i+1),bk:=D.nx} σ2 H2)(hd:∀σ H,Pv xs.length σ H->D.nx σ H):
  ∃W:Nat->Nat->St->Hp->Prop,(∃m,W 0 m σ H)/\∀i m σ H,W i m σ H->
   ((LG K a).stop i H/\D.nx σ H)\/((LG K a).go i H/\∃N:St->Hp->Prop,(∀σ' H',N σ' H'->∃m',m'<m/\W (i+1) m' σ' H')/\∀x H',(LG K a).LN i H x H'->g x σ H' λσ2 H2=>tb {D with nx:=N,ct:=N,bk:=D.nx} σ2 H2):=by
 refine⟨λi m σ H=>m=xs.length - i/\i<=xs.length/\Pv i σ H,⟨xs.length,by simp,Nat.zero_le _,h0⟩,?_⟩;rintro i m σ H ⟨rfl,hi,p⟩;have q:=hl i σ H hi p;by_cases hlt:i<xs.length
 ·refine .inr ⟨⟨xs,xs[i],q,by simp[hlt]⟩,Pv (i+1),λσ' H' p'=>⟨xs.length - (i+1),↑2,rfl,hlt,p'⟩,λx H' y=>?_⟩;obtain⟨e,y⟩:=y;subst e;exact hs i x σ _ (y xs q) p
 ·have e:i=xs.length:=↑2
  subst e;exact .inl ⟨⟨xs,q,Nat.le_refl _⟩,hd σ H p⟩
theorem JC{xs:List V}{g:TG}{tb:TS}{D:Ends}(Pv:Nat->St->Hp->Prop)(h0:Pv 0 σ H)(hl:∀i σ H,i<=xs.length->Pv i σ H->fN K H a xs)(hs:∀i x σ H,xs[i]?=some x->Pv i σ H->g x σ H λσ2 H2=>tb {D with nx:=Pv (i+1),ct:=Pv (i+1),bk:=D.nx} σ2 H2)(hd:∀σ H,Pv xs.length σ H->D.nx σ H):
  ∃W:Nat->Nat->St->Hp->Prop,(∃m,W 0 m σ H)/\∀i m σ H,W i m σ H->
   ((Rp K a).stop i H/\D.nx σ H)\/((Rp K a).go i H/\∃N:St->Hp->Prop,(∀σ' H',N σ' H'->∃m',m'<m/\W (i+1) m' σ' H')/\∀x H',(Rp K a).LN i H x H'->g x σ H' λσ2 H2=>tb {D with nx:=N,ct:=N,bk:=D.nx} σ2 H2):=by
 refine⟨λi m σ H=>m=xs.length - i/\i<=xs.length/\Pv i σ H,⟨xs.length,by simp,Nat.zero_le _,h0⟩,?_⟩;rintro i m σ H ⟨rfl,hi,p⟩;have q:=hl i σ H hi p;by_cases hlt:i<xs.length
 ·refine .inr ⟨⟨xs,xs[i],q,by simp[hlt]⟩,Pv (i+1),λσ' H' p'=>⟨xs.length - (i+1),↑2,rfl,hlt,p'⟩,λx H' y=>?_⟩;obtain⟨e,y⟩:=y;subst e;exact hs i x σ _ (y xs q) p
 ·have e:i=xs.length:=↑2
  subst e;exact .inl ⟨⟨xs,q,Nat.le_refl _⟩,hd σ H p⟩
theorem Fu{lo:Int}{n:Nat}{g:TG}{tb:TS}{D:Ends}(Pv:Nat->St->Hp->Prop)(h0:Pv 0 σ H)(hs:∀i σ H,i<n->Pv i σ H->g (.int (lo+i)) σ H λσ2 H2=>tb {D with nx:=Pv (i+1),ct:=Pv (i+1),bk:=D.nx} σ2 H2)(hd:∀σ H,Pv n σ H->D.nx σ H):
  ∃W:Nat->Nat->St->Hp->Prop,(∃m,W 0 m σ H)/\∀i m σ H,W i m σ H->
   ((Pl lo n).stop i H/\D.nx σ H)\/((Pl lo n).go i H/\∃N:St->Hp->Prop,(∀σ' H',N σ' H'->∃m',m'<m/\W (i+1) m' σ' H')/\∀x H',(Pl lo n).LN i H x H'->g x σ H' λσ2 H2=>tb {D with nx:=N,ct:=N,bk:=D.nx} σ2 H2):=by
 refine⟨λi m σ H=>m=n - i/\i<=n/\Pv i σ H,⟨n,by simp,Nat.zero_le _,h0⟩,?_⟩;rintro i m σ H ⟨rfl,hi,p⟩;by_cases hlt:i<n
 ·refine .inr ⟨hlt,Pv (i+1),λσ' H' p'=>⟨n - (i+1),↑2,rfl,hlt,p'⟩,λx H' y=>?_⟩;obtain⟨e,y⟩:=y;subst e y;exact hs i σ _ hlt p
 ·have e:i=n:=↑2
  subst e;exact .inl ⟨Nat.le_refl _,hd σ H p⟩
abbrev R2:=V->V->Hp->VK->Prop
def jh(X:Cx)(f:Value->Value->Sem Value)(r:R2):Prop:=
 ∀(UP:List (Addr×Obj))(s:Shared)(σ:St)(H:Hp)(x y:V)(v u:Value)(Q:VK),Inv X UP σ H s->RelV x v->RelV y u->r x y H Q->
  wpAny (model X.prog X.w) X.A (f v u) (EP X UP σ Q) X.xe s
def SN(X:Cx)(f:Value->Sem Value)(r:V->Hp->VK->Prop):Prop:=
 ∀(UP:List (Addr×Obj))(s:Shared)(σ:St)(H:Hp)(x:V)(v:Value)(Q:VK),Inv X UP σ H s->RelV x v->r x H Q->
  wpAny (model X.prog X.w) X.A (f v) (EP X UP σ Q) X.xe s
def q_(X:Cx)(f:Value)(r:List V->Hp->VK->Prop):Prop:=
 ∀(UP:List (Addr×Obj))(s:Shared)(σ:St)(H:Hp)(xs:List V)(us:List Value)(Q:VK),Inv X UP σ H s->Vals xs us->r xs H Q->
  wpAny (model X.prog X.w) X.A (call f us) (EP X UP σ Q) X.xe s
def AB(r:R2)(ta tb:TE):TE:=λσ H Q=>ta σ H λx H1=>tb σ H1 λy H2=>r x y H2 Q
def Ud(r:V->Hp->VK->Prop)(ta:TE):TE:=λσ H Q=>ta σ H λx H1=>r x H1 Q
inductive rI(C:Int->Int->Prop)(g:Int->Int->V)(x:V)(y:V)(H:Hp)(Q:VK):Prop
 |mk(i:_) (j:_) (_:x= .int i) (_:y= .int j) (_:C i j) (_:Q (g i j) H)
inductive CA(g:Int->Int->V)(x:V)(y:V)(H:Hp)(Q:VK):Prop
 |mk(i:_) (j:_) (_:x= .int i) (_:y= .int j) (_:Q (g i j) H)
inductive rU(g:Int->V)(x:V)(H:Hp)(Q:VK):Prop
 |mk(i:_) (_:x= .int i) (_:Q (g i) H)
section
variable{X:Cx}{a b c:Expr}{ta tb tc:TE}{pos:Pos}
theorem NC(ha:PE X a ta)(hb:PE X b tb){R:V->V->Hp->Prop}(I:Inv X UP σ H s)(h:ta σ H λx H1=>tb σ H1 λy H2=>R x y H2){f:Value->Value->Sem Value}(hf:∀v u s2 x y H2,Inv X UP σ H2 s2->RelV x v->RelV y u->R x y H2->wpAny (model X.prog X.w) X.A (f v u) Q X.xe s2):
  wpAny (model X.prog X.w) X.A (eval a X.env) (λv s₁=>wpAny (model X.prog X.w) X.A (eval b X.env) (λu s₂=>wpAny (model X.prog X.w) X.A (f v u) Q X.xe s₂) X.xe s₁) X.xe s:=by
 refine br (ha UP s σ H _ I h) λv s1 ⟨x,H1,I1,r1,q1⟩=>?_;refine br (hb UP s1 σ H1 _ I1 q1) λu s2 ⟨y,H2,I2,r2,q2⟩=>?_;exact hf v u s2 x y H2 I2 r1 r2 q2
theorem bz{op:Operator}{r:R2}(ho:jh X (binaryOp op) r)(ha:PE X a ta)(hb:PE X b tb):PE X (.BinOp a op b pos) (AB r ta tb):=by intro UP s σ H Q I h;exact wpAny_BinOp (NC ha hb I h λv u s2 x y H2 I2 rx ry q=>ho UP s2 σ H2 x y v u Q I2 rx ry q)
theorem gy{op:UnaryOp}{r:V->Hp->VK->Prop}(ho:SN X (unaryOp op) r)(ha:PE X a ta):PE X (.UnaryOp op a pos) (Ud r ta):=by intro UP s σ H Q I h;exact UnaryOp_ (br (ha UP s σ H _ I h) λv s1 ⟨x,H1,I1,r1,q1⟩=>ho UP s1 σ H1 x v Q I1 r1 q1)
theorem S9{f:Value->Value->Sem Value}{C:Int->Int->Prop}{g:Int->Int->Int}(rule:∀(i j:Int)(t u:Tok)(s:Shared)(Q:Value->Shared->Prop)(E:Value->Shared->Prop),C i j->Q (.int (g i j) s.toks) {s with toks:=s.toks+1}->wpAny (model X.prog X.w) X.A (f (.int i t) (.int j u)) Q E s):
  jh X f (rI C λi j=>.int (g i j)):=by
 intro UP s σ H x y v u Q I rx ry h;obtain⟨i,j,rfl,rfl,hc,q⟩:=h;obtain⟨t,rfl⟩:=rx;obtain⟨t',rfl⟩:=ry;exact rule i j t t' s _ _ hc ⟨.int (g i j),H,I.tok _,⟨_,rfl⟩,q⟩
theorem JN{f:Value->Value->Sem Value}{g:Int->Int->Int}(rule:∀(i j:Int)(t u:Tok)(s:Shared)(Q:Value->Shared->Prop)(E:Value->Shared->Prop),Q (.int (g i j) s.toks) {s with toks:=s.toks+1}->wpAny (model X.prog X.w) X.A (f (.int i t) (.int j u)) Q E s):
  jh X f (CA λi j=>.int (g i j)):=by
 intro UP s σ H x y v u Q I rx ry h;obtain⟨i,j,rfl,rfl,q⟩:=h;obtain⟨t,rfl⟩:=rx;obtain⟨t',rfl⟩:=ry;exact rule i j t t' s _ _ ⟨.int (g i j),H,I.tok _,⟨_,rfl⟩,q⟩
theorem Ov{f:Value->Value->Sem Value}{g:Int->Int->Bool}(rule:∀(i j:Int)(t u:Tok)(s:Shared)(Q:Value->Shared->Prop)(E:Value->Shared->Prop),Q (.bool (g i j)) s->wpAny (model X.prog X.w) X.A (f (.int i t) (.int j u)) Q E s):
  jh X f (CA λi j=>.bl (g i j)):=by
 intro UP s σ H x y v u Q I rx ry h;obtain⟨i,j,rfl,rfl,q⟩:=h;obtain⟨t,rfl⟩:=rx;obtain⟨t',rfl⟩:=ry;exact rule i j t t' s _ _ ⟨.bl (g i j),H,I,rfl,q⟩
def S_(i j:Int):Prop:=0<=j/\j<=1000000/\i.natAbs<2 ^ 64
def OC(i j:Int):Prop:=(-(2 ^ 64)<i/\i<2 ^ 64)\/(-(2 ^ 64)<j/\j<2 ^ 64)
theorem OC.ok{i j:Int}(h:OC i j):IntMulOk i j:=by
 rcases h with⟨h1,h2⟩|⟨h1,h2⟩
 ·exact .of_left (intBits_le_64 h1 h2)
 ·exact .of_right (intBits_le_64 h1 h2)
theorem A5(k:Nat):(0:Int)<=2 ^ k:=by rw[two_pow_cast];exact Int.natCast_nonneg _
theorem cy:jh X (binaryOp .Add) (CA λi j=>.int (i+j)):=JN λ_ _ _ _ _ _ _ q=>add_int q
theorem jV:jh X (binaryOp .Sub) (CA λi j=>.int (i - j)):=JN λ_ _ _ _ _ _ _ q=>sub_int q
theorem GL:jh X (binaryOp .Mult) (rI OC λi j=>.int (i*j)):=S9 λ_ _ _ _ _ _ _ hc q=>mul_int q hc.ok
theorem Oo:jh X (binaryOp .LShift) (rI S_ λi j=>.int (i*2 ^ j.toNat)):=S9 λ_ _ _ _ _ _ _ hc q=>lshift_int_small hc.1 hc.2.1 hc.2.2 q
theorem Nu:jh X (binaryOp .RShift) (rI (λ_ j=>0<=j) λi j=>.int (i / 2 ^ j.toNat)):=S9 λi j _ _ _ _ _ hc q=>
 rshift_int hc (by rw[Int.fdiv_eq_ediv_of_nonneg i (A5 _)];exact q)
theorem MF:jh X (binaryOp .BitAnd) (CA λi j=>.int (Builtin.bitAnd i j)):=JN λ_ _ _ _ _ _ _ q=>and_int q
theorem Qx:jh X (binaryOp .BitOr) (CA λi j=>.int (Builtin.bitOr i j)):=JN λ_ _ _ _ _ _ _ q=>or_int q
theorem Uz{f:Value->Sem Value}{g:Int->Int}(rule:∀(i:Int)(t:Tok)(s:Shared)(Q:Value->Shared->Prop)(E:Value->Shared->Prop),Q (.int (g i) s.toks) {s with toks:=s.toks+1}->wpAny (model X.prog X.w) X.A (f (.int i t)) Q E s):
  SN X f (rU λi=>.int (g i)):=by
 intro UP s σ H x v Q I rx h;obtain⟨i,rfl,q⟩:=h;obtain⟨t,rfl⟩:=rx;exact rule i t s _ _ ⟨.int (g i),H,I.tok _,⟨_,rfl⟩,q⟩
theorem eg:SN X (unaryOp .USub) (rU λi=>.int (-i)):=Uz λ_ _ _ _ _ q=>neg_int q
end
def Hv:V->V->Bool
 | .bH,.bH=>true| .bH,.int _=>true| .int _,.bH=>true| .bH,.bl _=>true| .bl _,.bH=>true| .bH,.str _=>true| .str _,.bH=>true
 | .int _,.int _=>true| .bl _,.bl _=>true| .str _,.str _=>true| .bW _,.bW _=>true
 | .int _,.str _=>true| .str _,.int _=>true| .bl _,.str _=>true| .str _,.bl _=>true
 |_,_=>false
def Sa:R2:=λx y H Q=>Hv x y=true/\Q (.bl (decide (x=y))) H
def UI:R2:=λx y H Q=>Hv x y=true/\Q (.bl (!decide (x=y))) H
theorem De{i j:Int}:decide (V.int i=V.int j)=(i==j):=by rw[Bool.eq_iff_iff];simp
theorem He{i j:Bool}:decide (V.bl i=V.bl j)=(i==j):=by rw[Bool.eq_iff_iff];simp
theorem Dj{i j:Str}:decide (V.str i=V.str j)=(i==j):=by rw[Bool.eq_iff_iff];simp
theorem Dq{i j:Array UInt8}:decide (V.bW i=V.bW j)=(i.toList==j.toList):=by rw[Bool.eq_iff_iff];cases i;cases j;simp
section
variable{X:Cx}{a b c:Expr}{ta tb tc:TE}{pos:Pos}
theorem bc{Q:VK}{k k':Bool}(I:Inv X UP σ H s)(q:Q (.bl k) H)(e:k=k'):EP X UP σ Q (.bool k') s:=by subst e;exact⟨.bl k,H,I,rfl,q⟩
theorem cG:jh X (compareOp .Eq) Sa:=by
 intro UP s σ H x y v u Q I rx ry h;obtain⟨hs,q⟩:=h;cases x with
 |bH=>
  cases rx;cases y with
  |bH=>cases ry;exact PySem.EqNone.eq_none_none (bc I q (by simp))
  |bl j=>cases ry;exact PySem.EqNone.eq_none_bool (bc I q (by simp))
  |int j=>obtain⟨t',rfl⟩:=ry;exact PySem.EqNone.eq_none_int (bc I q (by simp))
  |str j=>obtain⟨t',rfl⟩:=ry;exact PySem.EqNone.eq_none_str (bc I q (by simp))
  |_=>exact absurd (show false=true from hs) Bool.false_ne_true
 |bl i=>
  cases rx;cases y with
  |bH=>cases ry;exact PySem.EqNone.eq_bool_none (bc I q (by simp))
  |bl j=>cases ry;exact eq_bool (bc I q He)
  |str j=>obtain⟨t',rfl⟩:=ry;exact PySem.EqMixed.eq_bool_str (bc I q (by simp))
  |_=>exact absurd (show false=true from hs) Bool.false_ne_true
 |int i=>
  obtain⟨t,rfl⟩:=rx;cases y with
  |bH=>cases ry;exact PySem.EqNone.eq_int_none (bc I q (by simp))
  |int j=>obtain⟨t',rfl⟩:=ry;exact eq_int (bc I q De)
  |str j=>obtain⟨t',rfl⟩:=ry;exact PySem.EqMixed.eq_int_str (bc I q (by simp))
  |_=>exact absurd (show false=true from hs) Bool.false_ne_true
 |str i=>
  obtain⟨t,rfl⟩:=rx;cases y with
  |bH=>cases ry;exact PySem.EqNone.eq_str_none (bc I q (by simp))
  |bl j=>cases ry;exact PySem.EqMixed.eq_str_bool (bc I q (by simp))
  |int j=>obtain⟨t',rfl⟩:=ry;exact PySem.EqMixed.eq_str_int (bc I q (by simp))
  |str j=>obtain⟨t',rfl⟩:=ry;exact eq_str (bc I q Dj)
  |_=>exact absurd (show false=true from hs) Bool.false_ne_true
 |bW i=>
  obtain⟨t,rfl⟩:=rx;cases y with
  |bW j=>obtain⟨t',rfl⟩:=ry;exact PySem.W.eq_bytes (bc I q Dq)
  |_=>exact absurd (show false=true from hs) Bool.false_ne_true
 |_=>cases y <;> exact absurd (show false=true from hs) Bool.false_ne_true
theorem LX:jh X (compareOp .NotEq) UI:=by
 intro UP s σ H x y v u Q I rx ry h;obtain⟨hs,q⟩:=h;cases x with
 |bH=>
  cases rx;cases y with
  |bH=>cases ry;exact PySem.EqNone.ne_none_none (bc I q (by simp))
  |bl j=>cases ry;exact PySem.EqNone.ne_none_bool (bc I q (by simp))
  |int j=>obtain⟨t',rfl⟩:=ry;exact PySem.EqNone.ne_none_int (bc I q (by simp))
  |str j=>obtain⟨t',rfl⟩:=ry;exact PySem.EqNone.ne_none_str (bc I q (by simp))
  |_=>exact absurd (show false=true from hs) Bool.false_ne_true
 |bl i=>
  cases rx;cases y with
  |bH=>cases ry;exact PySem.EqNone.ne_bool_none (bc I q (by simp))
  |bl j=>cases ry;exact ne_bool (bc I q (congrArg not He))
  |str j=>obtain⟨t',rfl⟩:=ry;exact PySem.EqMixed.ne_bool_str (bc I q (by simp))
  |_=>exact absurd (show false=true from hs) Bool.false_ne_true
 |int i=>
  obtain⟨t,rfl⟩:=rx;cases y with
  |bH=>cases ry;exact PySem.EqNone.ne_int_none (bc I q (by simp))
  |int j=>obtain⟨t',rfl⟩:=ry;exact ne_int (bc I q (congrArg not De))
  |str j=>obtain⟨t',rfl⟩:=ry;exact PySem.EqMixed.ne_int_str (bc I q (by simp))
  |_=>exact absurd (show false=true from hs) Bool.false_ne_true
 |str i=>
  obtain⟨t,rfl⟩:=rx;cases y with
  |bH=>cases ry;exact PySem.EqNone.ne_str_none (bc I q (by simp))
  |bl j=>cases ry;exact PySem.EqMixed.ne_str_bool (bc I q (by simp))
  |int j=>obtain⟨t',rfl⟩:=ry;exact PySem.EqMixed.ne_str_int (bc I q (by simp))
  |str j=>obtain⟨t',rfl⟩:=ry;exact ne_str (bc I q (congrArg not Dj))
  |_=>exact absurd (show false=true from hs) Bool.false_ne_true
 |bW i=>
  obtain⟨t,rfl⟩:=rx;cases y with
  |bW j=>obtain⟨t',rfl⟩:=ry;exact PySem.W.ne_bytes (bc I q (congrArg not Dq))
  |_=>exact absurd (show false=true from hs) Bool.false_ne_true
 |_=>cases y <;> exact absurd (show false=true from hs) Bool.false_ne_true
theorem pb:jh X (compareOp .Lt) (CA λi j=>.bl (decide (i<j))):=Ov λ_ _ _ _ _ _ _ q=>lt_int q
theorem g8:jh X (compareOp .LtE) (CA λi j=>.bl (decide (i<=j))):=Ov λ_ _ _ _ _ _ _ q=>le_int q
theorem oV:jh X (compareOp .Gt) (CA λi j=>.bl (decide (j<i))):=Ov λ_ _ _ _ _ _ _ q=>gt_int q
theorem Hg:jh X (compareOp .Is) (λx y H Q=>y= .bH/\Q (.bl (decide (x= .bH))) H):=by
 intro UP s σ H x y v u Q I rx ry h;obtain⟨rfl,q⟩:=h;cases ry;refine is_none_gen (bc I q ?_);cases x <;> first
  |(cases rx;rfl)
  |(obtain⟨t,rfl⟩:=rx;rfl)
theorem aJ(b:Expr){op:CmpOp}(h:op≠.In:=by decide)(h2:op≠.NotIn:=by decide):behindInMarks op b=false:=by
 have e1:(op==CmpOp.In)=false:=by cases op <;> first|rfl|exact absurd rfl h
 have e2:(op==CmpOp.NotIn)=false:=by cases op <;> first|rfl|exact absurd rfl h2
 cases b <;> simp[behindInMarks,e1,e2]
theorem dW{op:CmpOp}{r:R2}(ho:jh X (compareOp op) r)(ha:PE X a ta)(hb:PE X b tb)(hm:behindInMarks op b=false):PE X (.Compare a [op] [b] pos) (AB r ta tb):=by intro UP s σ H Q I h;exact wpAny_Compare1 (NC ha hb I h λv u s2 x y H2 I2 rx ry q=>ho UP s2 σ H2 x y v u Q I2 rx ry q) hm
inductive Uy(Q:Bool->Hp->Prop)(x:V)(H:Hp):Prop
 |mk(k:Bool) (_:x= .bl k) (_:Q k H)
def qV(t:TE):TT:=λσ H Q=>t σ H λx H'=>Uy Q x H'
theorem aD{op:CmpOp}{r:R2}(ho:jh X (compareOp op) r)(ha:PE X a ta)(hb:PE X b tb)(hm:behindInMarks op b=false):PT X (.Compare a [op] [b] pos) (qV (AB r ta tb)):=by
 intro UP s σ H Q I h;refine wpAny_isTrue_Compare1 (br (ha UP s σ H _ I h) λv s1 ⟨x,H1,I1,r1,q1⟩=>br (hb UP s1 σ H1 _ I1 q1) λu s2 ⟨y,H2,I2,r2,q2⟩=>
  br (ho UP s2 σ H2 x y v u _ I2 r1 r2 q2) λc s3 ⟨z,H3,I3,r3,k,e,q3⟩=>?_) hm
 subst e;cases r3;exact wpAny_truthy_bool ⟨H3,I3,q3⟩
def Hq(r r':R2)(ta tb tc:TE):TE:=λσ H Q=>ta σ H λx H1=>tb σ H1 λy H2=>r x y H2 λz H3=>∃k,z= .bl k/\
 (if k=true then tc σ H3 λw' H4=>r' y w' H4 Q else Q (.bl false) H3)
theorem kD{op op':CmpOp}{r r':R2}(ho:jh X (compareOp op) r)(ho':jh X (compareOp op') r')(ha:PE X a ta)(hb:PE X b tb)(hc:PE X c tc)(hm:lastMarks [op,op'] [b,c]=false:=by with_unfolding_all rfl):PE X (.Compare a [op,op'] [b,c] pos) (Hq r r' ta tb tc):=by
 intro UP s σ H Q I h;refine Compare_chain (br (ha UP s σ H _ I h) λv s1 ⟨x,H1,I1,r1,q1⟩=>chain_link (br (hb UP s1 σ H1 _ I1 q1) λu s2 ⟨y,H2,I2,r2,q2⟩=>
  br (ho UP s2 σ H2 x y v u _ I2 r1 r2 q2) λd s3 ⟨z,H3,I3,r3,k,e,q3⟩=>?_)) hm
 subst e;cases r3;refine wpAny_truthy_bool ?_;cases k with
 |false=>exact ite_ff ⟨.bl false,H3,I3,rfl,q3⟩
 |true=>exact ite_tt (chain_last (br (hc UP s3 σ H3 _ I3 q3) λw' s4 ⟨z',H4,I4,r4,q4⟩=>ho' UP s4 σ H4 y z' u w' Q I4 r2 r4 q4))
theorem GB{op op':CmpOp}{r r':R2}(ho:jh X (compareOp op) r)(ho':jh X (compareOp op') r')(ha:PE X a ta)(hb:PE X b tb)(hc:PE X c tc)(hm:lastMarks [op,op'] [b,c]=false:=by with_unfolding_all rfl):PT X (.Compare a [op,op'] [b,c] pos) (qV (Hq r r' ta tb tc)):=by
 intro UP s σ H Q I h;refine isTrue_chain (br (ha UP s σ H _ I h) λv s1 ⟨x,H1,I1,r1,q1⟩=>test_link (br (hb UP s1 σ H1 _ I1 q1) λu s2 ⟨y,H2,I2,r2,q2⟩=>
  br (ho UP s2 σ H2 x y v u _ I2 r1 r2 q2) λd s3 ⟨z,H3,I3,r3,k,e,q3⟩=>?_)) hm
 subst e;cases r3;refine wpAny_truthy_bool ?_;cases k with
 |false=>
  obtain⟨k',e',q'⟩:=q3;cases e';exact ite_ff ⟨H3,I3,q'⟩
 |true=>
  refine ite_tt (test_last (br (hc UP s3 σ H3 _ I3 q3) λw' s4 ⟨z',H4,I4,r4,q4⟩=>br (ho' UP s4 σ H4 y z' u w' _ I4 r2 r4 q4) λd' s5 ⟨z2,H5,I5,r5,k2,e2,q5⟩=>?_));subst e2;cases r5;exact wpAny_truthy_bool ⟨H5,I5,q5⟩
theorem nW:(sizeLine:Nat)<2 ^ 63:=by rw[sizeLine_eq];decide
theorem vals1{x:V}(r:Vals [x] us):∃u,us=[u]/\RelV x u:=by
 cases r with
 |cons r1 r2=>cases r2;exact⟨_,rfl,r1⟩
theorem vals2{x y:V}(r:Vals [x,y] us):∃u w',us=[u,w']/\RelV x u/\RelV y w':=by
 cases r with
 |cons r1 r2=>
  cases r2 with
  |cons r3 r4=>cases r4;exact⟨_,_,rfl,r1,r3⟩
theorem uV(hc:X.calm=true):q_ X (.builtin "max") (λxs H Q=>∃i j,xs=[.int i,.int j]/\Q (.int (if j>i then j else i)) H):=by
 intro UP s σ H xs us Q I r h;obtain⟨i,j,rfl,q⟩:=h;obtain⟨u,w',rfl,⟨t,rfl⟩,⟨t',rfl⟩⟩:=vals2 r;refine max_two_ints (I.ok.hd hc) λh' tk k=>⟨_,H,I.kept k,?_,q⟩
 by_cases hj:j>i
 ·rw[if_pos hj,if_pos hj];exact⟨_,rfl⟩
 ·rw[if_neg hj,if_neg hj];exact⟨_,rfl⟩
end
structure BY(h:Heap)(x dx C:Addr)(mA:Str->Option Value):Prop where
 obj:h.get? x=some (PySem.W.instObj C dx)
 ns:h.Ns1 dx mA
 ne:dx≠x
theorem vD{h:Heap}{dx:Addr}{mA:Str->Option Value}(n:h.Ns1 dx mA):∃od,h.get? dx=some od/\∀name,PySem.W.lookIn name od=some (mA name):=by
 obtain⟨o,es,ep,ho,hd,hk,_,hm⟩:=n;refine⟨o,ho,λname=>?_⟩;have e:=hm name;unfold nsFind findBy at e;rw[<-Array.find?_toList] at e;unfold PySem.W.lookIn;rw[hd];dsimp only;split
 ·rename_i y q;rw[q] at e;exact congrArg some e
 ·rename_i q;rw[q] at e;have a:es.toList.any (·.refKey)=false:=by
   rw[List.any_eq_false];intro y hy;obtain⟨z,t,hkey⟩:=hk y (Array.mem_toList_iff.mp hy);simp[DictEntry.refKey,hkey]
  have a':¬es.toList.any (·.refKey)=true:=by rw[a];exact Bool.false_ne_true
  rw[if_neg a'];exact congrArg some e
theorem BY.look{h:Heap}{x dx C:Addr}{mA:Str->Option Value}(I:BY h x dx C mA):∃od,PySem.W.InstAt h x (PySem.W.instObj C dx) C (some od)/\∀name,PySem.W.lookIn name od=some (mA name):=
 let⟨od,ho,hl⟩:=vD I.ns
 ⟨od,⟨I.obj,rfl,rfl,ho⟩,hl⟩
section
variable{prog:Program}{w:World}{A:Around}{E:Value->Shared->Prop}{s:Shared}{K:Frag}{x dx C f:Addr}{mA:Str->Option Value}{name:Str}{v:Value}
theorem get_map{expr:Bool}(X:K.In s.heap)(I:BY s.heap x dx C mA)(hg:PySem.W.plainGet K C name=true)(hh:PySem.W.hasDictIn K C=true)(ha:PySem.W.findIn K (.ref C) name=some none)(hv:mA name=some v)(hv':PySem.W.handedIn v=true)(h:Q v {s with toks:=s.toks+1}):
  wpAny (model prog w) A (getAttr (.ref x) name expr) Q E s:=by
 obtain⟨od,J,hl⟩:=I.look;exact PySem.W.get_value X J (PySem.W.plainGet_of hg).1 (PySem.W.findObj_own hh ha rfl (by rw[hl,hv])) hv' h
theorem G9{pl:Sem Bool}{Q:Value×List Value->Shared->Prop}(X:K.In s.heap)(I:BY s.heap x dx C mA)(hg:PySem.W.plainGet K C name=true)(hf:PySem.W.findIn K (.ref C) name=some (some (.ref f)))(ht:PySem.W.isFn K (.ref f)=true)(hv:mA name=none)(h:Q (.ref f,[.ref x]) s):
  wpAny (model prog w) A (getMethod (.ref x) name pl) Q E s:=by
 obtain⟨od,J,hl⟩:=I.look;exact PySem.W.method_fn X J (PySem.W.plainGet_of hg).1 (PySem.W.plainGet_of hg).2 hf (beq_iff_eq.mp ht) (by show(PySem.W.lookIn name od).map (·.isSome)=some false;rw[hl,hv];rfl) h
theorem Kn{ns:List Str}{Q:Unit->Shared->Prop}(X:K.In s.heap)(I:BY s.heap x dx C mA)(hs:PySem.W.findIn K (.ref C) "__setattr__"=some (some (.builtin "object.__setattr__")))(hp:PySem.W.plainOver K C=true)(ht:PySem.W.takerIn K C name=some none)(hh:PySem.W.hasDictIn K C=true)(hw:PySem.Within mA ns)(hsz:ns.length<=sizeLine)(h:∀h',BY h' x dx C (λy=>if y=name then some v else mA y)->Heap.SameBut dx s.heap h'->Q () {s with heap:=h',toks:=s.toks+2}):
  wpAny (model prog w) A (setAttr (.ref x) name v) Q E s:=by
 obtain⟨od,J,hl⟩:=I.look;refine PySem.W.set_plain X J hs (PySem.W.osa_open (s:={s with toks:=s.toks+1}) (r:=none) X J hp ht λb=>?_);obtain⟨cd,hc,hd'⟩:=PySem.W.any_some hh;have hx:s.heap.get? x=some ⟨.ref C,some dx,.plain,#[]⟩:=I.obj;refine wpAny_bind (wpAny_pure (wpAny_bind (wpAny_bind (wpAny_loadPart hx (wpAny_bind (PySem.W.Looks.here (s:={s with toks:=s.toks+1}) (PySem.W.looks_clsIn X hc) ?_))))));rw[hd'];refine wpAny_pure (a:=some dx) (wpAny_bind (wpAny_pure (wpAny_bind ?_)));refine wpAny_nsSet1 (s:={s with toks:=s.toks+1}) I.ns λh' hn2 hs2=>?_;obtain⟨oD,esD,epD,hoD,hdD,hcD⟩:=hn2.count (PySem.Within.cons name v hw);refine wpAny_bind (wpAny_lookBehind hoD (by rw[hdD];exact pastItsLine_dict (Nat.le_trans hcD (by rw[List.length_cons];omega))) ?_);exact wpAny_pure (h _ ⟨(hs2.2 _ (Ne.symm I.ne)).trans I.obj,hn2,I.ne⟩ hs2)
theorem zQ{R:Result->Shared->Prop}{vs:List Value}{kw:List (Str×Value)}(X:K.In s.heap)(hm:PySem.W.makesIn K C=true)(hi:PySem.W.findIn K (.ref C) "__init__"=some (some (.ref f)))(hf:PySem.W.typeIn K (.ref f)=some (.type "function"))(h:codeAny (model prog w) (A.under (.builtin "type.__call__" ⟨.ref C::vs,kw⟩)) (.call (.ref f) ⟨.ref (s.heap.objs.size+1)::vs,kw⟩) (PySem.W.InitBack (s.heap.objs.size+1) R)
   {s with heap:=(s.heap.push PySem.W.emptyDict).push (PySem.W.instObj C s.heap.objs.size)}):
  codeAny (model prog w) A (.call (.ref C) ⟨vs,kw⟩) R s:=by
 obtain⟨hh,g,d,t,os⟩:=s;exact PySem.W.make_core (PySem.W.makes_of X hm) (PySem.W.looks_findIn X hi) (λself=>PySem.W.bind_fn X self hf) (.inl rfl) h
end
def aW(f:Str)(v:V):List (Str×V)->List (Str×V)
 |[]=>[(f,v)]
 |(g,x)::r=>if g=f then(g,v)::r else(g,x)::aW f v r
theorem aA(f g:Str)(v:V):∀fs:List (Str×V),(aW f v fs).lookup g=if g=f then some v else fs.lookup g
 |[]=>by
  show List.lookup g [(f,v)]=_;by_cases h:g=f
  ·have hb:(g==f)=true:=beq_iff_eq.mpr h;simp only[List.lookup,hb,if_pos h]
  ·have hb:(g==f)=false:=beq_eq_false_iff_ne.mpr h;simp only[List.lookup,hb,if_neg h]
 |(k,x)::r=>by
  have ih:=aA f g v r;rw[show aW f v ((k,x)::r)=(if k=f then(k,v)::r else(k,x)::aW f v r) from rfl];by_cases hk:k=f
  ·rw[if_pos hk];by_cases h:g=k
   ·have hb:(g==k)=true:=beq_iff_eq.mpr h;simp only[List.lookup,hb,if_pos (h.trans hk)]
   ·have hb:(g==k)=false:=beq_eq_false_iff_ne.mpr h;simp only[List.lookup,hb,if_neg (λe:g=f=>h (e.trans hk.symm))]
  ·rw[if_neg hk];by_cases h:g=k
   ·have hb:(g==k)=true:=beq_iff_eq.mpr h;simp only[List.lookup,hb,if_neg (λe:g=f=>hk (h.symm.trans e))]
   ·have hb:(g==k)=false:=beq_eq_false_iff_ne.mpr h;simp only[List.lookup,hb];exact ih
theorem f_(f:Str)(v:V):∀fs:List (Str×V),f∈(aW f v fs).map (·.1)/\∀g,g∈fs.map (·.1)->g∈(aW f v fs).map (·.1)
 |[]=>⟨by simp[aW],λg h=>by simp at h⟩
 |(k,x)::r=>by
  obtain⟨i1,i2⟩:=f_ f v r;rw[show aW f v ((k,x)::r)=(if k=f then(k,v)::r else(k,x)::aW f v r) from rfl];by_cases hk:k=f
  ·rw[if_pos hk];subst hk;exact⟨by simp,λg h=>by simpa using h⟩
  ·rw[if_neg hk];refine⟨?_,λg h=>?_⟩
   ·rw[List.map_cons];exact List.mem_cons_of_mem _ i1
   ·rw[List.map_cons] at h ⊢;rcases List.mem_cons.mp h with e|e
    ·exact List.mem_cons.mpr (.inl e)
    ·exact List.mem_cons_of_mem _ (i2 g e)
theorem aG(f:Str)(v:V):∀fs:List (Str×V),(aW f v fs).length<=fs.length+1
 |[]=>by simp[aW]
 |(k,x)::r=>by
  have ih:=aG f v r;rw[show aW f v ((k,x)::r)=(if k=f then(k,v)::r else(k,x)::aW f v r) from rfl];by_cases hk:k=f
  ·rw[if_pos hk,List.length_cons,List.length_cons];omega
  ·rw[if_neg hk,List.length_cons,List.length_cons];omega
theorem d5.some_of{v:V}{o:Option Value}(r:d5 (some v) o):∃u,o=some u/\RelV v u:=by
 cases o with
 |none=>exact(show False from r).elim
 |some u=>exact⟨u,rfl,r⟩
theorem d5.none_of{o:Option Value}(r:d5 none o):o=none:=by
 cases o with
 |none=>rfl
 |some u=>exact(show False from r).elim
theorem vo{v:V}(r:RelV v u):PySem.W.handedIn u=true:=by
 cases v with
 |bH=>cases(show u=Value.none from r);rfl
 |bl b=>cases(show u=Value.bool b from r);rfl
 |int i=>obtain⟨t,e⟩:=(show ∃t,u=Value.int i t from r);cases e;rfl
 |str x=>obtain⟨t,e⟩:=(show ∃t,u=Value.str x t from r);cases e;rfl
 |bW b=>obtain⟨t,e⟩:=(show ∃t,u=Value.bytes b t from r);cases e;rfl
 |JB b=>obtain⟨t,e⟩:=(show ∃t,u=Value.float b t from r);cases e;rfl
 |ref a=>cases(show u=Value.ref a from r);rfl
 |ty n=>cases(show u=Value.type n from r);rfl
section
variable{P:Program}{w:World}{H H':Hp}{h h':Heap}{a C dx:Addr}{fs fs':List (Str×V)}
theorem qr(aZ:gA P w H h)(e:H a=some (.ins C dx fs)):∃mA,BY h a dx C mA/\(∀f,d5 (fs.lookup f) (mA f))/\PySem.Within mA (fs.map (·.1))/\fs.length<=1000/\H dx=some (.own a):=by
 obtain⟨d,z,ne,ob,mA,n,r,q⟩:=(show bK P w H h a (.ins C dx fs) from aZ a _ e)
 exact⟨mA,⟨ob,n,ne⟩,r,q,z,d⟩
end
structure tV(K:Frag)(C:Addr):Prop where
 pg:PySem.W.plainGet K C Str.empty=true
 hd:PySem.W.hasDictIn K C=true
 po:PySem.W.plainOver K C=true
 sa:PySem.W.findIn K (.ref C) "__setattr__"=some (some (.builtin "object.__setattr__"))
theorem tV.get{C:Addr}(c:tV K C)(f:Str):PySem.W.plainGet K C f=true:=c.pg
def aE(K:Frag)(C:Addr)(f:Str):Prop:=PySem.W.findIn K (.ref C) f=some none
theorem aE.G5{C:Addr}{f:Str}(n:aE K C f):PySem.W.takerIn K C f=some none:=by unfold PySem.W.takerIn;rw[show PySem.W.findIn K (.ref C) f=some none from n];rfl
structure Meth(K:Frag)(C:Addr)(m:Str)(f:Addr):Prop where
 at_:PySem.W.findIn K (.ref C) m=some (some (.ref f))
 fn:PySem.W.isFn K (.ref f)=true
 kp:PySem.W.keepIn K (.ref f)=true
section
variable{X:Cx}{UP:List (Addr×Obj)}{σ:St}{H:Hp}{s:Shared}{a C dx:Addr}{fs:List (Str×V)}{f:Str}{v:V}{A:Around}{E:Value->Shared->Prop}
theorem qU{b:Bool}(I:Inv X UP σ H s)(e:H a=some (.ins C dx fs))(c:tV X.K C)(n:aE X.K C f)(l:fs.lookup f=some v)(h:∀u s',Inv X UP σ H s'->RelV v u->Q u s'):wpAny (model X.prog X.w) A (getAttr (.ref a) f b) Q E s:=by obtain⟨mA,O,r,_,_,_⟩:=qr I.aZ e;obtain⟨u,hu,ru⟩:=d5.some_of (v:=v) (o:=mA f) (by rw[<-l];exact r f);exact get_map I.dZ O (c.get f) c.hd n hu (vo ru) (h u _ (I.tok _) ru)
theorem gT{m:Str}{g:Addr}{pl:Sem Bool}{Q:Value×List Value->Shared->Prop}(I:Inv X UP σ H s)(e:H a=some (.ins C dx fs))(c:tV X.K C)(k:Meth X.K C m g)(l:fs.lookup m=none)(h:Q (.ref g,[.ref a]) s):wpAny (model X.prog X.w) A (getMethod (.ref a) m pl) Q E s:=by obtain⟨mA,O,r,_,_,_⟩:=qr I.aZ e;have hn:mA m=none:=d5.none_of (by rw[<-l];exact r m);exact G9 I.dZ O (c.get m) k.at_ k.fn hn h
theorem sA{y:V}{Q:Unit->Shared->Prop}(I:Inv X UP σ H s)(e:H a=some (.ins C dx fs))(c:tV X.K C)(n:aE X.K C f)(hl:fs.length<1000)(ry:RelV y u)(h:∀s',Inv X UP σ (upd H a (.ins C dx (aW f y fs))) s'->Q () s'):wpAny (model X.prog X.w) A (setAttr (.ref a) f u) Q E s:=by
 obtain⟨mA,O,r,wi,_,ho⟩:=qr I.aZ e;have hz:(fs.map (·.1)).length<=sizeLine:=by rw[List.length_map,sizeLine_eq];omega
 refine Kn I.dZ O c.sa c.po n.G5 c.hd wi hz λh' O' sb=>h _ ?_;have hd:∃o,h'.get? dx=some o:=let⟨o,_,_,e',_⟩:=O'.ns;⟨o,e'⟩;refine I.write (x:=a) (e:=dx) (by rw[e];exact True.intro) (.inr ho) (λb q hb z=>(sb.2 b hb).trans z) hd ?_;refine⟨by rw[ah O.ne];exact ho,?_,O.ne,O'.obj,_,O'.ns,λg=>?_,λg hg=>?_⟩
 ·have:=aG f y fs;omega
 ·show d5 ((aW f y fs).lookup g) (if g=f then some u else mA g);rw[aA];by_cases q:g=f
  ·rw[if_pos q,if_pos q];exact ry
  ·rw[if_neg q,if_neg q];exact r g
 ·by_cases q:g=f
  ·rw[q];exact(f_ f y fs).1
  ·refine(f_ f y fs).2 g (wi g λz=>hg ?_);show(if g=f then some u else mA g)=none;rw[if_neg q];exact z
theorem Inv.made(I:Inv X UP σ H s):Inv X UP σ (upd (upd H s.heap.objs.size (.own (s.heap.objs.size+1))) (s.heap.objs.size+1) (.ins C s.heap.objs.size []))
  {s with heap:=(s.heap.push PySem.W.emptyDict).push (PySem.W.instObj C s.heap.objs.size)}:=by
 have e1:(s.heap.push PySem.W.emptyDict).get? s.heap.objs.size=some PySem.W.emptyDict:=Heap.get?_push_size s.heap rfl;have e2:((s.heap.push PySem.W.emptyDict).push (PySem.W.instObj C s.heap.objs.size)).get? (s.heap.objs.size+1)=some (PySem.W.instObj C s.heap.objs.size):=by
  have:=Heap.get?_push_size (s.heap.push PySem.W.emptyDict) (o:=PySem.W.instObj C s.heap.objs.size) rfl
  rwa [Heap.size_push] at this
 have e3:(s.heap.push PySem.W.emptyDict).Ns s.heap.objs.size (λ_=>none):=⟨PySem.W.emptyDict,#[],_,e1,rfl,(λe he=>absurd he (by simp)),λ_=>rfl⟩
 have I1:=I.laid (a:=s.heap.objs.size) (o:=.own (s.heap.objs.size+1)) (h':=s.heap.push PySem.W.emptyDict) (t':=s.toks) (λb u q=>Heap.get?_push_of_some _ q) (Nat.le_refl _) ⟨_,e1⟩;refine I1.laid (a:=s.heap.objs.size+1) (o:=.ins C s.heap.objs.size []) (t':=s.toks) (λb u q=>Heap.get?_push_of_some _ q) (Nat.le_of_eq (Heap.size_push _ _)) ?_;have ne:s.heap.objs.size≠s.heap.objs.size+1:=Nat.ne_of_lt (Nat.lt_succ_self _);refine⟨by rw[ah ne,ag],Nat.zero_le _,ne,e2,λ_=>none,(Heap.Ns1.of_empty e3).at λo q=>Heap.get?_push_of_some _ q,λ_=>True.intro,λy hy=>absurd rfl hy⟩
theorem DF{prog:Program}{env:Env}{e:Expr}{f:Str}{pos:Pos}{s:Shared}(hb:attributeBase e f env (eval e env)=eval e env)(h:wpAny (model prog w) A (eval e env) (λo s₁=>wpAny (model prog w) A (getAttr o f true) Q E s₁) E s):wpAny (model prog w) A (eval (.Attribute e f pos) env) Q E s:=
 Attribute_any_ h (by rw[arm_eval_Attribute,hb])
end
inductive RY(K:Frag)(f:Str)(Q:VK)(x:V)(H:Hp):Prop
 |mk(a C dx:Addr) (fs:List (Str×V)) (v:V) (_:x= .ref a) (_:H a=some (.ins C dx fs)) (_:tV K C) (_:aE K C f) (_:fs.lookup f=some v) (_:Q v H)
def Bp(K:Frag)(ta:TE)(f:Str):TE:=λσ H Q=>ta σ H λx H1=>RY K f Q x H1
inductive QW(K:Frag)(f:Str)(R:Hp->Prop)(y x:V)(H:Hp):Prop
 |mk(a C dx:Addr) (fs:List (Str×V)) (_:x= .ref a) (_:H a=some (.ins C dx fs)) (_:tV K C) (_:aE K C f) (_:fs.length<1000) (_:R (upd H a (.ins C dx (aW f y fs))))
def SH(K:Frag)(ta tv:TE)(f:Str):TS:=λD σ H=>tv σ H λy H1=>ta σ H1 λx H2=>QW K f (λH=>D.nx σ H) y x H2
def QX(X:Cx)(op:Operator)(rd:V->V->Hp->VK->Prop):Prop:=
 ∀(UP:List (Addr×Obj))(s:Shared)(σ:St)(H:Hp)(x y:V)(u v:Value)(Q:VK),Inv X UP σ H s->RelV x u->RelV y v->rd x y H Q->wpAny (model X.prog X.w) X.A (inplaceOp op u v) (EP X UP σ Q) X.xe s
def DZ(K:Frag)(ta tv:TE)(rd:V->V->Hp->VK->Prop)(f:Str):TS:=λD σ H=>ta σ H λx H1=>∃a C dx fs v,x= .ref a/\H1 a=some (.ins C dx fs)/\tV K C/\aE K C f/\fs.lookup f=some v/\
 tv σ H1 λy H2=>rd v y H2 λz H3=>∃dx' fs',H3 a=some (.ins C dx' fs')/\fs'.length<1000/\D.nx σ (upd H3 a (.ins C dx' (aW f z fs')))
section
variable{X:Cx}{o e value:Expr}{f:Str}{pos pos' tpos:Pos}{ta tv:TE}
theorem ay(he:PE X e ta)(hb:attributeBase e f X.env (eval e X.env)=eval e X.env):PE X (.Attribute e f pos) (Bp X.K ta f):=by intro UP s σ H Q I h;refine DF hb (br (he UP s σ H _ I h) λu s1 ⟨x,H1,I1,rx,a,C,dx,fs,v,ex,ea,c,n,l,q⟩=>?_);subst ex;obtain rfl:u=Value.ref a:=rx;exact qU I1 ea c n l λu' s2 I2 ru=>⟨v,H1,I2,ru,q⟩
theorem bE(ha:PE X o ta)(hv:PE X value tv)(hs:swapsWith value (some (.Attribute o f pos')) pos.line X.env=pure false):PS X (.Assign [.Attribute o f pos'] value pos) (SH X.K ta tv f):=by intro UP s σ H D I h;refine plainObj_wpAny_Assign_Attribute (br (hv UP s σ H _ I h) λu s1 ⟨y,H1,I1,ry,q⟩=>br (ha UP s1 σ H1 _ I1 q) λov s2 ⟨x,H2,I2,rx,a,C,dx,fs,ex,ea,c,n,l,q2⟩=>?_) hs;subst ex;obtain rfl:ov=Value.ref a:=rx;exact sA I2 ea c n l ry λs3 I3=>⟨σ,_,I3,q2⟩
theorem Fo{op:Operator}{rd:V->V->Hp->VK->Prop}(ha:PE X o ta)(hv:PE X value tv)(hop:QX X op rd):PS X (.AugAssign (.Attribute o f tpos) op value pos) (DZ X.K ta tv rd f):=by intro UP s σ H D I h;refine wpAny_AugAssign_AttributeAny (br (ha UP s σ H _ I h) λov s1 ⟨x,H1,I1,rx,a,C,dx,fs,v,ex,ea,c,n,l,q⟩=>?_);subst ex;obtain rfl:ov=Value.ref a:=rx;refine qU I1 ea c n l λu s2 I2 ru=>br (hv UP s2 σ H1 _ I2 q) λw3 s3 ⟨y,H2,I3,ry,q3⟩=>br (hop UP s3 σ H2 v y u w3 _ I3 ru ry q3) λw4 s4 ⟨z,H3,I4,rz,dx',fs',ea',l',q4⟩=>?_;exact sA I4 ea' c n l' rz λs5 I5=>⟨σ,_,I5,q4⟩
inductive Rv(x:V)(y:V)(H:Hp)(Q:VK):Prop
 |mk(i:_) (j:_) (_:x= .int i) (_:y= .int j) (_:Q (.int (i+j)) H)
theorem M3:QX X .Add Rv:=by
 rintro UP s σ H x y u v Q I rx ry ⟨i,j,rfl,rfl,q⟩;obtain⟨t,rfl⟩:=(show ∃t,u=Value.int i t from rx)
 obtain⟨t',rfl⟩:=(show ∃t',v=Value.int j t' from ry)
 exact PyProof.Rows.iadd_int ⟨.int (i+j),H,I.tok _,⟨_,rfl⟩,q⟩
end
section
variable{X:Cx}{UP:List (Addr×Obj)}{σ:St}{H:Hp}{s:Shared}{A:Around}{E:Value->Shared->Prop}{Q:Value->Shared->Prop}{c:Value}{b:Bool}
inductive n9(K:Frag)(H:Hp):V->Value->Prop where
 |bH:n9 K H .bH (.type "NoneType")
 |bl(x:Bool):n9 K H (.bl x) (.type "bool")
 |int(i:Int):n9 K H (.int i) (.type "int")
 |str(x:Str):n9 K H (.str x) (.type "str")
 |JB(x:UInt64):n9 K H (.JB x) (.type "float")
 |lst{a:Addr} {xs:List V} (e:H a=some (.lst xs)):n9 K H (.ref a) (.type "list")
 |rZ{a:Addr} {o:Obj} {xs:List V} (e:H a=some (.rZ o (.lst xs))):n9 K H (.ref a) (.type "list")
 |tup{a:Addr} {xs:List V} (e:H a=some (.tup xs)):n9 K H (.ref a) (.type "tuple")
 |dK{a:Addr} {kvs:List (Key×V)} (e:H a=some (.dK kvs)):n9 K H (.ref a) (.type "dict")
 |dT{a:Addr} {kvs:List (List Key×V)} (e:H a=some (.dT kvs)):n9 K H (.ref a) (.type "dict")
 |ins{a C dx:Addr} {fs:List (Str×V)} (e:H a=some (.ins C dx fs)) (cl:tV K C) (ha:PySem.W.findIn K (.ref C) "__class__"=some (some (.builtin "object.__class__")))
   (hn:PySem.W.specialIn K (.builtin "object.__class__") "__get__"=some (some (.builtin "getset_descriptor.__get__"))) (htk:PySem.W.takesIn K (.builtin "object.__class__")=some true)
   (hm:PySem.W.mroIn K C (.type "object")=some true):n9 K H (.ref a) (.ref C)
theorem Ex{x:V}{t:Value}(I:Inv X UP σ H s)(rx:RelV x u)(ty:n9 X.K H x t)(e:PySem.W.kitOne X.K t c=some b)(h:∀tk,Q (.bool b) {s with toks:=tk}):
  wpAny (model X.prog X.w) A (call (.builtin "isinstance") [u,c]) Q E s:=by
 cases ty with
 |bH=>cases(show u=Value.none from rx);exact PySem.W.kia_one PySem.W.kitx_none I.dZ True.intro e (λz=>nomatch z) h
 |bl y=>cases(show u=Value.bool y from rx);exact PySem.W.kia_one PySem.W.kitx_bool I.dZ True.intro e (λz=>nomatch z) h
 |int i=>obtain⟨t,q⟩:=(show ∃t,u=Value.int i t from rx);cases q;exact PySem.W.kia_one PySem.W.kitx_int I.dZ True.intro e (λz=>nomatch z) h
 |str y=>obtain⟨t,q⟩:=(show ∃t,u=Value.str y t from rx);cases q;exact PySem.W.kia_one PySem.W.kitx_str I.dZ True.intro e (λz=>nomatch z) h
 |JB y=>obtain⟨t,q⟩:=(show ∃t,u=Value.float y t from rx);cases q;exact PySem.W.kia_one PySem.W.kitx_float I.dZ True.intro e (λz=>nomatch z) h
 |@lst a xs ea=>
  cases(show u=Value.ref a from rx);obtain⟨_,_,n,_,h1⟩:=(show bK X.prog X.w H s.heap a (.lst xs) from I.aZ a _ ea)
  exact PySem.W.kia_one PySem.W.kitx_list I.dZ ⟨_,h1,rfl⟩ e (λz=>nomatch z) h
 |@rZ a ob xs ea=>
  cases(show u=Value.ref a from rx);obtain⟨_,_,_,n,_,h1⟩:=(show bK X.prog X.w H s.heap a (.rZ ob (.lst xs)) from I.aZ a _ ea)
  exact PySem.W.kia_one PySem.W.kitx_list I.dZ ⟨_,h1,rfl⟩ e (λz=>nomatch z) h
 |@tup a xs ea=>
  cases(show u=Value.ref a from rx);obtain⟨_,_,_,p⟩:=(show bK X.prog X.w H s.heap a (.tup xs) from I.aZ a _ ea)
  obtain⟨o,h1,h2,_⟩:=p;exact PySem.W.kia_one PySem.W.kitx_tuple I.dZ ⟨o,h1,h2⟩ e (λz=>nomatch z) h
 |@dK a kvs ea=>
  cases(show u=Value.ref a from rx);obtain⟨_,_,vs,_,p⟩:=(show bK X.prog X.w H s.heap a (.dK kvs) from I.aZ a _ ea)
  obtain⟨o,es,ep,h1,h2,_⟩:=p;exact PySem.W.kia_one PySem.W.kitx_dict I.dZ ⟨o,h1,h2.1⟩ e (λz=>nomatch z) h
 |@dT a kvs ea=>
  cases(show u=Value.ref a from rx);obtain⟨_,_,xs,_,o,es,ep,h1,h2,_⟩:=(show bK X.prog X.w H s.heap a (.dT kvs) from I.aZ a _ ea)
  exact PySem.W.kia_one PySem.W.kitx_dict I.dZ ⟨o,h1,h2.1⟩ e (λz=>nomatch z) h
 |@ins a C dx fs ea cl ha hn htk hm=>
  cases(show u=Value.ref a from rx);obtain⟨mA,O,_⟩:=qr I.aZ ea;obtain⟨od,J,_⟩:=O.look;exact PySem.W.kia_one (PySem.W.kitx_own (cl.get _) cl.hd ha hn htk hm) I.dZ J e (λz=>nomatch z) h
end
structure bC(k:Nat)(A:Around):Prop where
 hd:A.handled=none
 dp:A.depth+3*k+5<recursionLimit
 un:A.units+16*k+200<cLine
theorem bC.mono{j k:Nat}(r:bC k A)(h:j<=k):bC j A:=⟨r.hd,by have:=r.dp;omega,by have:=r.un;omega⟩
theorem bC.deeper{k:Nat}(r:bC (k+1) A)(env:Env):bC k (A.deeper env):=
 ⟨r.hd,by have:=r.dp;show A.depth+1+3*k+5<_;omega,by have:=r.un;show A.units+3+16*k+200<_;omega⟩
theorem rj{C:Addr}{kw:List (Str×Value)}:(A.under (.builtin "type.__call__" ⟨.ref C::us,kw⟩)).depth=A.depth+1:=by first|rfl|simp[Around.under,Code.weight,Code.isCreation,Code.isGuard,Code.isCaller,Code.frames,Code.isFrame,guardIds]
theorem rP{C:Addr}{kw:List (Str×Value)}:(A.under (.builtin "type.__call__" ⟨.ref C::us,kw⟩)).units=A.units+1:=by first|rfl|simp[Around.under,Code.cUnits,Code.frames,Code.isFrame]
theorem bC.make{k:Nat}(r:bC (k+1) A)(C:Addr)(us:List Value)(kw:List (Str×Value)):bC k (A.under (.builtin "type.__call__" ⟨.ref C::us,kw⟩)):=
 ⟨r.hd,by have:=r.dp;rw[rj];omega,by have:=r.un;rw[rP];omega⟩
theorem bC.depth{k:Nat}(r:bC k A):A.depth<recursionLimit:=by have:=r.dp;omega
theorem bC.units{k:Nat}(r:bC k A):A.units+64<cLine:=by have:=r.un;omega
def d4:TA:=λ_ H Q=>Q [] H
def bT(ta:TE)(tr:TA):TA:=λσ H Q=>ta σ H λx H1=>tr σ H1 λxs H2=>Q (x::xs) H2
section
variable{X:Cx}{e:Expr}{es:List Expr}{te:TE}{t:TA}{pos:Pos}
theorem ao:PA X [] d4:=λ_ _ _ _ H Q I h=>Calls.spliced_nil ⟨[],H,I,.nil,h⟩
theorem aa(ha:PE X e te)(hr:PA X es t)(hs:starEach (e::es) X.env=(false,eval e X.env)::starEach es X.env:=by rfl):PA X (e::es) (bT te t):=by intro pos UP s σ H Q I h;rw[hs];show wpAny _ _ (spliced ((false,eval e X.env)::backTo pos (starEach es X.env))) _ _ s;refine Calls.spliced_cons (br (ha UP s σ H _ I h) λu s1 ⟨x,H1,I1,r1,q1⟩=>?_);exact br (hr pos UP s1 σ H1 _ I1 q1) λus s2 ⟨xs,H2,I2,r2,q2⟩=>⟨x::xs,H2,I2,.cons r1 r2,q2⟩
def Lb(t:TA):TE:=λσ H Q=>t σ H λxs H1=>xs.length<=sizeLine/\∀p,H1 p=none->Q (.ref p) (upd H1 p (.tup xs))
def NO(t:TA):TE:=λσ H Q=>t σ H λxs H1=>xs.length<=sizeLine/\∀p,H1 p=none->Q (.ref p) (upd H1 p (.lst xs))
theorem fW{x1}(h:PA X es t):PE X (.Tuple es x1 pos) (Lb t):=by intro UP s σ H Q I hq;refine wpAny_Tuple_spliced (br (h pos UP s σ H _ I hq) λus s1 ⟨xs,H1,I1,r,z,q⟩=>⟨by rw[<-r.length];exact z,?_⟩);have hf:H1 s1.heap.objs.size=none:=I1.aZ.fresh (Nat.le_refl _);refine⟨.ref s1.heap.objs.size,upd H1 s1.heap.objs.size (.tup xs),I1.laid (t':=s1.toks) (λb u e=>Heap.get?_push_of_some _ e) (Nat.le_refl _) ?_,rfl,q _ hf⟩;exact⟨z,us,r,⟨_,Heap.get?_push_size _ rfl,rfl,_,rfl⟩⟩
theorem bx(h:PA X es t):PE X (.List es pos) (NO t):=by intro UP s σ H Q I hq;refine wpAny_List_spliced (br (h pos UP s σ H _ I hq) λus s1 ⟨xs,H1,I1,r,z,q⟩=>⟨by rw[<-r.length];exact z,?_⟩);have hf:H1 s1.heap.objs.size=none:=I1.aZ.fresh (Nat.le_refl _);refine⟨.ref s1.heap.objs.size,upd H1 s1.heap.objs.size (.lst xs),I1.laid (t':=s1.toks) (λb u e=>Heap.get?_push_of_some _ e) (Nat.le_refl _) ?_,rfl,q _ hf⟩;exact⟨z,us,0,r,Heap.get?_push_size _ rfl⟩
end
abbrev Sp:=List V->Hp->VK->XK->Prop
abbrev yA:=List Env->Hp->Shared->XK->Value->Shared->Prop
structure xk(P:Program)(w:World)(K:Frag)(mg:Str->Option Value)(base:Heap)(A:Around)(outer:List Env)(s:Shared)(H:Hp):Prop where
 frames:A.frames=some outer
 mod:Mod K mg base
 bs:∀b o,base.get? b=some o->s.heap.get? b=some o/\H b=none
 FE:base.objs.size<=s.heap.objs.size
 jQ:s.heap.FunFrames base outer
 Ju:∀b∈km outer,H b=none
 aZ:gA P w H s.heap
 bare:AllBare s.gens
def CE(outer:List Env)(P:Program)(w:World)(H:Hp)(s:Shared)(Q:VK)(u:Value)(s':Shared):Prop:=
 ∃v H',s'.os=s.os/\AllBare s'.gens/\Un (km outer) [] H H' s.heap s'.heap/\gA P w H' s'.heap/\RelV v u/\Q v H'
def CR(CX:yA)(outer:List Env)(P:Program)(w:World)(H:Hp)(s:Shared)(Q:VK)(E:XK)(r:Result)(s':Shared):Prop:=
 match r with
 | .ok (.ret u)=>CE outer P w H s Q u s'
 | .ok _=>False
 | .error e=>CX outer H s E e s'
structure bY(P:Program)(w:World)(K:Frag)(mg:Str->Option Value)(base:Heap)(CX:yA)(k:Nat)(f:Addr)(fd:FuncData)(ps:List Str)(sp:Sp):Prop where
 len:∀vs H Q E,sp vs H Q E->vs.length=ps.length
 run:∀(A:Around)(outer:List Env)(s:Shared)(H:Hp)(args:Args)(us:List Value)(vs:List V)(Q:VK)(E:XK),bC k A->xk P w K mg base A outer s H->BindsTo s fd args (ps.zip us)->Vals vs us->sp vs H Q E->
  codeAny (model P w) A (.call (.ref f) args) (CR CX outer P w H s Q E) s
theorem bY.mono{mg:Str->Option Value}{base:Heap}{CX:yA}{j k:Nat}{f:Addr}{fd:FuncData}{ps:List Str}{sp:Sp}(F:bY P w K mg base CX j f fd ps sp)(h:j<=k):
  bY P w K mg base CX k f fd ps sp:=⟨F.len,λA outer s H args us vs Q E hr=>F.run A outer s H args us vs Q E (hr.mono h)⟩
theorem xk.make{mg:Str->Option Value}{base:Heap}{outer:List Env}(e:xk P w K mg base A outer s H)(C:Addr)(us:List Value)(kw:List (Str×Value)):
  xk P w K mg base (A.under (.builtin "type.__call__" ⟨.ref C::us,kw⟩)) outer s H:=⟨by first|exact e.frames|(simpa[Around.under,Code.envs,Code.isFrame,pushEnvs] using e.frames),e.mod,e.bs,e.FE,e.jQ,e.Ju,e.aZ,e.bare⟩
section
variable{X:Cx}{UP:List (Addr×Obj)}{σ:St}{H:Hp}{s s':Shared}
theorem Inv.EJ(I:Inv X UP σ H s):xk X.prog X.w X.K X.mg X.base X.A X.stack s H:=
 ⟨I.ok.frames,I.ok.mod,I.bs,Nat.le_trans I.ok.FE I.sz,I.stack,I.vF,I.aZ,I.bare⟩
theorem Inv.after{Q:VK}(I:Inv X UP σ H s)(h:CE X.stack X.prog X.w H s Q u s'):EP X UP σ Q u s':=by obtain⟨v,H',os,bare,un,aZ,r,q⟩:=h;obtain⟨hh,g,d,t,os'⟩:=s';obtain rfl:os'=s.os:=os;exact⟨v,H',I.call (h':=hh) (g':=g) (d':=d) (t':=t) (ch:=[]) un aZ bare (λb z=>absurd z (by simp)),r,q⟩
end
def iT(sp:Sp)(dvs:List V)(E:XK)(t:TA):TE:=λσ H Q=>t σ H λvs H1=>sp (vs++dvs) H1 Q E
inductive Q3(C:Addr)(m:Str)(R:Hp->Prop)(x:V)(H:Hp):Prop
 |mk(a dx:Addr) (fs:List (Str×V)) (_:x= .ref a) (_:H a=some (.ins C dx fs)) (_:fs.lookup m=none) (_:R H)
def zy(C:Addr)(m:Str)(sp:Sp)(dvs:List V)(E:XK)(ta:TE)(t:TA):TE:=λσ H Q=>ta σ H λx H1=>Q3 C m (λH1=>t σ H1 λvs H2=>sp (x::(vs++dvs)) H2 Q E) x H1
def uH(C:Addr)(sp:Sp)(dvs:List V)(E:XK)(t:TA):TE:=λσ H Q=>t σ H λvs H1=>∀x dx,H1 x=none->H1 dx=none->dx≠x->
 sp (.ref x::(vs++dvs)) (upd (upd H1 dx (.own x)) x (.ins C dx [])) (λv H2=>v= .bH/\Q (.ref x) H2) E
def Binds(K:Frag)(fd:FuncData)(ps:List Str)(ds:List Value):Prop:=
 ∀(s:Shared)(us:List Value),K.In s.heap->(us++ds).length=ps.length->BindsTo s fd ⟨us,[]⟩ (ps.zip (us++ds))
theorem Binds.all{fd:FuncData}{ps:List Str}(h:∀us:List Value,us.length=ps.length->bindArgs fd ⟨us,[]⟩=pure (ps.zip us)):Binds K fd ps []:=λs us _ hl=>by
 rw[List.append_nil] at hl ⊢;exact .of_eq (h us hl)
def Passes(CX:yA)(X:Cx)(E:XK):Prop:=∀(UP:List (Addr×Obj))(σ:St)(H:Hp)(s:Shared)(e:Value)(s':Shared),Inv X UP σ H s->CX X.stack H s E e s'->X.xe e s'
section
variable{X:Cx}{CX:yA}{k:Nat}{f C:Addr}{fd:FuncData}{ps:List Str}{sp:Sp}{dvs:List V}{ds:List Value}{E:XK}{x m:Str}{p pos apos:Pos}{e o:Expr}{es:List Expr}{ta:TE}{t:TA}
theorem oo{Q:VK}{vs:List V}(F:bY X.prog X.w X.K X.mg X.base CX k f fd ps sp)(hr:bC k X.A)(hb:Binds X.K fd ps ds)(hd:Vals dvs ds)(hx:Passes CX X E)(I:Inv X UP σ H s)(r:Vals vs us)(h:sp (vs++dvs) H Q E):wpAny (model X.prog X.w) X.A (call (.ref f) us) (EP X UP σ Q) X.xe s:=by
 have r2:Vals (vs++dvs) (us++ds):=r.append hd;have hl:(us++ds).length=ps.length:=by rw[<-r2.length];exact F.len _ _ _ _ h
 refine wpAny_call (codeAny_mono (F.run X.A X.stack s H ⟨us,[]⟩ (us++ds) (vs++dvs) Q E hr I.EJ (hb s us I.dZ hl) r2 h) λr s' hq=>?_);cases r with
 |error e=>exact hx UP σ H s e s' I hq
 |ok fl=>
  cases fl with
  |ret u=>exact I.after hq
  |next=>exact False.elim hq
  |brk=>exact False.elim hq
  |cont=>exact False.elim hq
theorem Lv(F:bY X.prog X.w X.K X.mg X.base CX k f fd ps sp)(hr:bC k X.A)(hg:Gl X x)(hm:X.mg x=some (.ref f))(hk:PySem.W.keepIn X.K (.ref f)=true)(hb:Binds X.K fd ps ds)(hd:Vals dvs ds)(hx:Passes CX X E)(ha:PA X (e::es) t)(hdb:(x==("__debug__":Str))=false:=by decide)(he:starEach (e::es) X.env=(false,eval e X.env)::starEach es X.env:=by rfl)(hpl:(backTo pos (starEach es X.env)).any (·.1)=false:=by rfl):
  PE X (.Call (.Name x p) (e::es) [] pos) (iT sp dvs E t):=by
 intro UP s σ H Q I h;refine wpAny_Call_Name_kw (dY I hg hm ?_ hdb);refine PySem.W.callWith_K (h₀:=X.base) I.ok.mod.EW hk (br (ha pos UP s σ H _ I h) λus s1 ⟨vs,H1,I1,r,q⟩=>⟨I1.dZ,?_⟩) he hpl;exact oo F hr hb hd hx I1 r q
theorem HF(F:bY X.prog X.w X.K X.mg X.base CX k f fd ps sp)(hr:bC k X.A)(hg:Gl X x)(hm:X.mg x=some (.ref f))(hk:PySem.W.keepIn X.K (.ref f)=true)(hb:Binds X.K fd ps ds)(hd:Vals dvs ds)(hx:Passes CX X E)(hdb:(x==("__debug__":Str))=false:=by decide):PE X (.Call (.Name x p) [] [] pos) (iT sp dvs E d4):=by intro UP s σ H Q I h;refine wpAny_Call_Name_kw (dY I hg hm ?_ hdb);exact PySem.W.callWith_K0 I.dZ hk (oo (us:=[]) F hr hb hd hx I .nil h)
theorem JW{pl:Sem Bool}(he:PE X o ta)(c:tV X.K C)(hm:Meth X.K C m f)(F:bY X.prog X.w X.K X.mg X.base CX k f fd ps sp)(hr:bC k X.A)(hb:Binds X.K fd ps ds)(hd:Vals dvs ds)(hx:Passes CX X E)(ha:PA X (e::es) t)(hst:starEach (e::es) X.env=(false,eval e X.env)::starEach es X.env:=by rfl)(hpl:(backTo pos (starEach es X.env)).any (·.1)=false:=by rfl)(ht:eval (.Call (.Attribute o m apos) (e::es) [] pos) X.env=(do
   let ov<-eval o X.env
   standAt apos.atName
   let(f,first)<-holding [ov] (getMethod ov m pl)
   callWith pos f first (backTo pos (starEach (e::es) X.env)) (backToKw pos (keywordEach [] X.env))):=by rfl):
  PE X (.Call (.Attribute o m apos) (e::es) [] pos) (zy C m sp dvs E ta t):=by
 intro UP s σ H Q I h;refine PySem.W.methodCall_KW (pl:=pl) (br (he UP s σ H _ I h) λu s1 ⟨x,H1,I1,rx,a,dx,fs,ex,ea,l,q⟩=>?_) ht;subst ex;obtain rfl:u=Value.ref a:=rx;refine gT I1 ea c hm l ?_;refine PySem.W.callWith_K (first:=[.ref a]) (h₀:=X.base) I.ok.mod.EW hm.kp (br (ha pos UP s1 σ H1 _ I1 q) λus s2 ⟨vs,H2,I2,r,q2⟩=>⟨I2.dZ,?_⟩) hst hpl;exact oo (us:=.ref a::us) (vs:=.ref a::vs) F hr hb hd hx I2 (.cons rfl r) q2
theorem Iv{pl:Sem Bool}(he:PE X o ta)(c:tV X.K C)(hm:Meth X.K C m f)(F:bY X.prog X.w X.K X.mg X.base CX k f fd ps sp)(hr:bC k X.A)(hb:Binds X.K fd ps ds)(hd:Vals dvs ds)(hx:Passes CX X E)(ht:eval (.Call (.Attribute o m apos) [] [] pos) X.env=(do
   let ov<-eval o X.env
   standAt apos.atName
   let(f,first)<-holding [ov] (getMethod ov m pl)
   callWith pos f first (backTo pos (starEach [] X.env)) (backToKw pos (keywordEach [] X.env))):=by rfl):
  PE X (.Call (.Attribute o m apos) [] [] pos) (zy C m sp dvs E ta d4):=by
 intro UP s σ H Q I h;refine PySem.W.methodCall_KW (pl:=pl) (br (he UP s σ H _ I h) λu s1 ⟨x,H1,I1,rx,a,dx,fs,ex,ea,l,q⟩=>?_) ht;subst ex;obtain rfl:u=Value.ref a:=rx;refine gT I1 ea c hm l ?_;exact PySem.W.callWith_K0 (first:=[.ref a]) I1.dZ hm.kp (oo (us:=[.ref a]) (vs:=[.ref a]) F hr hb hd hx I1 (.cons rfl .nil) q)
structure Mk(K:Frag)(C f:Addr):Prop where
 makes:PySem.W.makesIn K C=true
 init:PySem.W.findIn K (.ref C) "__init__"=some (some (.ref f))
 fn:PySem.W.isFn K (.ref f)=true
 kp:PySem.W.keepIn K (.ref C)=true
theorem zf{Q:VK}{vs:List V}(M:Mk X.K C f)(F:bY X.prog X.w X.K X.mg X.base CX k f fd ps sp)(hr:bC (k+1) X.A)(hb:Binds X.K fd ps ds)(hd:Vals dvs ds)(hx:Passes CX X E)(I:Inv X UP σ H s)(r:Vals vs us)(h:∀x dx,H x=none->H dx=none->dx≠x->sp (.ref x::(vs++dvs)) (upd (upd H dx (.own x)) x (.ins C dx [])) (λv H2=>v= .bH/\Q (.ref x) H2) E):
  wpAny (model X.prog X.w) X.A (call (.ref C) us) (EP X UP σ Q) X.xe s:=by
 have hq:=h (s.heap.objs.size+1) s.heap.objs.size (I.aZ.fresh (Nat.le_succ _)) (I.aZ.fresh (Nat.le_refl _)) (Nat.ne_of_lt (Nat.lt_succ_self _));have I2:=Inv.made (C:=C) I;have r2:Vals (V.ref (s.heap.objs.size+1)::(vs++dvs)) (Value.ref (s.heap.objs.size+1)::(us++ds)):=.cons rfl (r.append hd);have hl:(Value.ref (s.heap.objs.size+1)::us++ds).length=ps.length:=by
  have e:=r2.length;rw[F.len _ _ _ _ hq] at e;exact e.symm
 refine wpAny_call (zQ (f:=f) I.dZ M.makes M.init (beq_iff_eq.mp M.fn) (codeAny_mono (F.run _ X.stack _ _ ⟨Value.ref (s.heap.objs.size+1)::us,[]⟩ (Value.ref (s.heap.objs.size+1)::(us++ds)) _ _ E (hr.make C us [])
  (I2.EJ.make C us []) (hb _ (Value.ref (s.heap.objs.size+1)::us) I2.dZ hl) r2 hq) λr s' hq'=>?_))
 cases r with
 |error e=>exact hx UP σ _ _ e s' I2 hq'
 |ok fl=>
  cases fl with
  |ret u=>
   obtain⟨v,H',I3,rv,ev,q3⟩:=I2.after hq';subst ev;exact⟨rv,⟨V.ref (s.heap.objs.size+1),H',I3,rfl,q3⟩⟩
  |next=>exact False.elim hq'
  |brk=>exact False.elim hq'
  |cont=>exact False.elim hq'
theorem Kx(M:Mk X.K C f)(F:bY X.prog X.w X.K X.mg X.base CX k f fd ps sp)(hr:bC (k+1) X.A)(hg:Gl X x)(hm:X.mg x=some (.ref C))(hb:Binds X.K fd ps ds)(hd:Vals dvs ds)(hx:Passes CX X E)(ha:PA X (e::es) t)(hdb:(x==("__debug__":Str))=false:=by decide)(he:starEach (e::es) X.env=(false,eval e X.env)::starEach es X.env:=by rfl)(hpl:(backTo pos (starEach es X.env)).any (·.1)=false:=by rfl):
  PE X (.Call (.Name x p) (e::es) [] pos) (uH C sp dvs E t):=by
 intro UP s σ H Q I h;refine wpAny_Call_Name_kw (dY I hg hm ?_ hdb);refine PySem.W.callWith_K (h₀:=X.base) I.ok.mod.EW M.kp (br (ha pos UP s σ H _ I h) λus s1 ⟨vs,H1,I1,r,q⟩=>⟨I1.dZ,?_⟩) he hpl;exact zf M F hr hb hd hx I1 r q
theorem Iy(M:Mk X.K C f)(F:bY X.prog X.w X.K X.mg X.base CX k f fd ps sp)(hr:bC (k+1) X.A)(hg:Gl X x)(hm:X.mg x=some (.ref C))(hb:Binds X.K fd ps ds)(hd:Vals dvs ds)(hx:Passes CX X E)(hdb:(x==("__debug__":Str))=false:=by decide):PE X (.Call (.Name x p) [] [] pos) (uH C sp dvs E d4):=by intro UP s σ H Q I h;refine wpAny_Call_Name_kw (dY I hg hm ?_ hdb);exact PySem.W.callWith_K0 I.dZ M.kp (zf (us:=[]) M F hr hb hd hx I .nil h)
end
section
variable{X:Cx}{CX:yA}{k:Nat}{f C:Addr}{fd:FuncData}{ps ks:List Str}{sp:Sp}{E:XK}{x m:Str}{p pos apos kpos:Pos}{e o:Expr}{es:List Expr}{kws:List Keyword}{te ta:TE}{t tk:TA}{nm:Option Str}
variable{g:List Value->List Value->List Value}{gV:List V->List V->List V}
end
structure ax(N P:List Str)(sc:Scope):Prop where
 kind:sc.kind= .function
 co:sc.isCoroutine=false
 gen:sc.isGenerator=false
 nd:N.Nodup
 pre:N.take P.length=P
 par:∀x∈P,sc.names.lookup x=some .local\/sc.names.lookup x=some .cell
 OE:∀y∈sc.names,y.2≠.free
theorem vB{kindOf:Str->Option NameKind}:∀{binds:List (Str×Value)}{m:Str->Option Value},(∀v,(x,v)∉binds)->bindL kindOf binds m x=m x
 |[],_,_=>rfl
 |(n,v)::r,m,h=>by
  unfold bindL;rw[vB λw hw=>h w (List.mem_cons_of_mem _ hw)];split
  ·have:x≠n:=by rintro rfl;exact h v List.mem_cons_self
   simp[this]
  ·rfl
theorem vw{kindOf:Str->Option NameKind}:∀{binds:List (Str×Value)}{m:Str->Option Value},(∀v,(x,v)∉binds)->bindC kindOf binds m x=m x
 |[],_,_=>rfl
 |(n,v)::r,m,h=>by
  unfold bindC;rw[vw λw hw=>h w (List.mem_cons_of_mem _ hw)];split
  ·rfl
  ·have:x≠n:=by rintro rfl;exact h v List.mem_cons_self
   simp[this]
theorem vi{kindOf:Str->Option NameKind}{v:Value}:∀{P:List Str}{vs:List Value}{i:Nat}{m:Str->Option Value},P.Nodup->P[i]?=some x->vs[i]?=some v->kindOf x=some .local->
  bindL kindOf (P.zip vs) m x=some v
 |[],_,_,_,_,h,_,_=>by simp at h
 |_::_,[],_,_,_,_,h,_=>by simp at h
 |p::P,w::vs,0,m,nd,h1,h2,hk=>by
  simp at h1 h2;subst h1;subst h2;show bindL kindOf ((p,w)::P.zip vs) m p=_;unfold bindL;rw[vB λv hv=>(List.nodup_cons.mp nd).1 (List.of_mem_zip hv).1,if_pos hk];simp
 |p::P,w::vs,i+1,m,nd,h1,h2,hk=>by
  show bindL kindOf ((p,w)::P.zip vs) m x=_;unfold bindL;exact vi (i:=i) (List.nodup_cons.mp nd).2 (by simpa using h1) (by simpa using h2) hk
theorem uX{kindOf:Str->Option NameKind}{v:Value}:∀{P:List Str}{vs:List Value}{i:Nat}{m:Str->Option Value},P.Nodup->P[i]?=some x->vs[i]?=some v->kindOf x≠some .local->
  bindC kindOf (P.zip vs) m x=some v
 |[],_,_,_,_,h,_,_=>by simp at h
 |_::_,[],_,_,_,_,h,_=>by simp at h
 |p::P,w::vs,0,m,nd,h1,h2,hk=>by
  simp at h1 h2;subst h1;subst h2;show bindC kindOf ((p,w)::P.zip vs) m p=_;unfold bindC;rw[vw λv hv=>(List.nodup_cons.mp nd).1 (List.of_mem_zip hv).1,if_neg hk];simp
 |p::P,w::vs,i+1,m,nd,h1,h2,hk=>by
  show bindC kindOf ((p,w)::P.zip vs) m x=_;unfold bindC;exact uX (i:=i) (List.nodup_cons.mp nd).2 (by simpa using h1) (by simpa using h2) hk
def start(N:List Str)(vs:List V):St:=vs.map some++List.replicate (N.length - vs.length) none
def iQ(CX:yA)(P:Program)(w:World)(K:Frag)(mg:Str->Option Value)(base:Heap)(N:List Str)(qual:Str)(scope:Scope)(f:Addr)(cd:Value)(A:Around)(outer:List Env)(s:Shared)(H:Hp)(E:XK):Cx where
 prog:=P
 w:=w
 K:=K
 mg:=mg
 base:=base
 A:=A.deeper (envOfC qual scope s.heap.objs.size f cd)
 N:=N
 nO:=s
 Rx:=H
 env:=envOfC qual scope s.heap.objs.size f cd
 outer:=outer
 stack:=envOfC qual scope s.heap.objs.size f cd::outer
 ex:=[]
 calm:=true
 fn:=λ_=>true
 pn:=[]
 xe:=λe s'=>wpAny (model P w) (A.deeper (envOfC qual scope s.heap.objs.size f cd)) (leaving (envOfC qual scope s.heap.objs.size f cd) e) (λ_ s''=>CX outer H s E e s'') (λe' s''=>CX outer H s E e' s'') s'
theorem yD{sc:Scope}{n:Nat}(h:sc.names.lookup x=some .cell):∃c,(cellsFrom n sc.names []).lookup x=some c:=by have q:=PySem.W.cellsFrom_some sc.names n [] (.inl h);exact Option.isSome_iff_exists.mp q
theorem n8{CX:yA}{mg:Str->Option Value}{base:Heap}{N ps:List Str}{qual:Str}{scope:Scope}{f:Addr}{cd:Value}{outer:List Env}{s1:Shared}{E:XK}{vs:List V}(S:ax N ps scope)(hd:A.handled=none)(e0:xk P w K mg base A outer s H)(hl:vs.length=ps.length)(r:Vals vs us)(x:InCallC s s.heap.objs.size (bindL (envOfC qual scope s.heap.objs.size f cd).kindOf (ps.zip us) λ_=>none) (cellsFrom (s.heap.objs.size+1) scope.names []) (bindC (envOfC qual scope s.heap.objs.size f cd).kindOf (ps.zip us) λ_=>none) s1):
  Inv (iQ CX P w K mg base N qual scope f cd A outer s H E) [] (start N vs) H s1:=by
 have hpl:ps.length<=N.length:=by have:=congrArg List.length S.pre;rw[List.length_take] at this;omega
 obtain⟨h1,tk,rfl,hk⟩:=x.done;have noA:∀b:Addr,b∉(iQ CX P w K mg base N qual scope f cd A outer s H E).ex:=λb z=>absurd (show b∈([]:List Addr) from z) (by simp);refine⟨⟨e0.mod,S.kind,rfl,rfl,Nat.le_refl _,λy z c h1 h2=>?_,λy hy=>?_,λy c _ h=>?_,λ_=>hd,Around.frames_deeper e0.frames,.inr ⟨rfl,rfl⟩,λb z=>absurd z (noA b),e0.bs,e0.FE,λb _ _=>noA b,λb z=>absurd z (noA b),e0.jQ,e0.Ju⟩,
  rfl,e0.bare,Un.kept hk,⟨_,x.toInCall.ns,λi y v h1 h2 h3=>?_⟩,λy c h=>⟨_,x.cell y c h⟩,e0.aZ.fresh (Nat.le_refl _),λy c h=>?_,λp hp=>absurd (show p∈([]:List (Addr×Obj)) from hp) (by simp),e0.aZ.kept hk,?_⟩
 ·exact name_of_addr x.apart (PySem.mem_of_lookup h1) (PySem.mem_of_lookup h2)
 ·have hy:scope.names.lookup y=some .cell\/scope.names.lookup y=some .free:=hy;rcases hy with hy|hy
  ·exact yD hy
  ·exact absurd rfl (S.OE _ (PySem.mem_of_lookup hy))
 ·exact Nat.le_of_lt (x.above y c (PySem.mem_of_lookup h))
 ·have hi:i<vs.length:=by
   unfold start at h2;by_cases hi:i<vs.length
   ·exact hi
   ·rw[List.getElem?_append_right (by simpa using hi)] at h2;rw[List.getElem?_replicate] at h2;split at h2 <;> cases h2
  have ha:vs[i]?=some v:=by
   unfold start at h2;rw[List.getElem?_append_left (by simpa using hi),List.getElem?_map] at h2;cases e:vs[i]? with
   |none=>rw[e] at h2;cases h2
   |some a=>rw[e] at h2;cases h2;rfl
  obtain⟨u,hu,rv⟩:=r.get ha;have hp:ps[i]?=some y:=by
   rw[<-S.pre,List.getElem?_take_of_lt ↑2];exact h1
  have ndP:ps.Nodup:=by rw[<-S.pre];exact S.nd.sublist (List.take_sublist _ _)
  refine⟨u,rv,?_⟩;rcases S.par y (List.mem_of_getElem? hp) with k|k
  ·exact .inl ⟨k,vi ndP hp hu k⟩
  ·obtain⟨c,e⟩:=yD (n:=s.heap.objs.size+1) k;refine .inr ⟨.inl k,c,e,?_⟩;have q:=x.cell y c e;rw[uX ndP hp hu (by show scope.names.lookup y≠_;rw[k];decide)] at q;exact q
 ·exact e0.aZ.fresh (Nat.le_of_lt (x.above y c (PySem.mem_of_lookup h)))
 ·unfold start;show _=N.length;rw[List.length_append,List.length_map,List.length_replicate];omega
theorem Mc{CX:yA}{mg:Str->Option Value}{base:Heap}{k:Nat}{f:Addr}{name qual:Str}{params:Arguments}{body:List Stmt}{scope:Scope}{dV kV doc pm UQ ct oc:Value}{an od:Option Addr}{osl:Array (Option Value)}{N ps:List Str}{sp:Sp}(lk:K.lookup f=some ⟨oc,od,.func (PySem.W.fnOf name qual params body scope dV kV doc pm an UQ ct),osl⟩)(hcd:PySem.W.codeIn K UQ qual=true)(S:ax N ps scope)(len:∀vs H Q E,sp vs H Q E->vs.length=ps.length)(hbody:∀(A:Around)(outer:List Env)(s:Shared)(H:Hp)(vs:List V)(Q:VK)(E:XK),bC k (A.deeper (envOfC qual scope s.heap.objs.size f UQ))->sp vs H Q E->
   ∃t,rT (iQ CX P w K mg base N qual scope f UQ A outer s H E) body t/\t {nx:=λ_ H'=>Q .bH H',rt:=Q} (start N vs) H):
  bY P w K mg base CX (k+1) f (PySem.W.fnOf name qual params body scope dV kV doc pm an UQ ct) ps sp:=by
 refine⟨len,λA outer s H args us vs Q E hr e0 hb r hsp=>?_⟩;have hl:=len _ _ _ _ hsp;have KX:K.In s.heap:=e0.mod.EW.keeps λb o e=>(e0.bs b o e).1;have lim:s.heap.NoLimit:=e0.mod.nolimit.keeps λb o e=>(e0.bs b o e).1;have hkind:∀y∈ps.zip us,scope.names.lookup y.1=some .local\/(scope.names.lookup y.1=some .cell/\((cellsFrom (s.heap.objs.size+1) scope.names []).lookup y.1).isSome=true):=λ⟨n,v⟩ hy=>by
  rcases S.par n (List.of_mem_zip hy).1 with q|q
  ·exact .inl q
  ·exact .inr ⟨q,PySem.W.cellsFrom_some _ _ _ (.inl q)⟩
 refine codeAny_call_function hr.depth (KX _ _ lk) rfl S.co S.gen rfl (PySem.W.codeRec_of KX hcd) (hb _ _ _ _ ?_);refine wpAny_newFunctionEnv_cells S.kind hkind λenv he s1 x=>?_;subst he;refine⟨lim.keeps x.toInCall.keep,codeAny_func ?_⟩;obtain⟨t,ht,hq⟩:=hbody A outer s H vs Q E (hr.deeper _) hsp;have I:Inv (iQ CX P w K mg base N qual scope f UQ A outer s H E) [] (start N vs) H s1:=n8 S hr.hd e0 hl r x;refine wpAny_mono (ht [] s1 (start N vs) H _ I hq) (λfl s' hs=>?_) λe s' hs=>hs;have fin:∀{σ':St}{H':Hp}{v:V}{u:Value},Inv (iQ CX P w K mg base N qual scope f UQ A outer s H E) [] σ' H' s'->RelV v u->Q v H'->CE outer P w H s Q u s':=
  λ{σ' H' v u} J rv q=>⟨v,H',J.os,J.bare,J.base,J.aZ,rv,q⟩
 cases fl with
 |ret u=>
  obtain⟨v,σ',H',J,rv,q⟩:=hs;exact fin J rv q
 |next=>
  obtain⟨σ',H',J,q⟩:=hs;exact fin (v:=V.bH) (u:=Value.none) J rfl q
 |brk=>
  obtain⟨_,_,_,q⟩:=hs;exact False.elim q
 |cont=>
  obtain⟨_,_,_,q⟩:=hs;exact False.elim q
section
variable{X:Cx}{x:Str}{p pos:Pos}{e:Expr}{es:List Expr}{t:TA}{id T:String}{r:List V->Hp->VK->Prop}
def LA(r:List V->Hp->VK->Prop)(t:TA):TE:=λσ H Q=>t σ H λvs H1=>r vs H1 Q
theorem eB(hc:q_ X (.builtin id) r)(hg:Gl X x)(hm:X.mg x=none)(hv:bootBuiltins x=some (.builtin id))(ha:PA X (e::es) t)(hn:x≠"__name__":=by decide)(hdb:(x==("__debug__":Str))=false:=by decide)(he:starEach (e::es) X.env=(false,eval e X.env)::starEach es X.env:=by rfl)(hpl:(backTo pos (starEach es X.env)).any (·.1)=false:=by rfl):PE X (.Call (.Name x p) (e::es) [] pos) (LA r t):=by intro UP s σ H Q I h;refine wpAny_Call_Name_kw (x9 I hg hm hv ?_ hn hdb);exact PyProof.Rows.callWith_builtin1 (br (ha pos UP s σ H _ I h) λus s1 ⟨vs,H1,I1,r1,q1⟩=>hc UP s1 σ H1 vs us Q I1 r1 q1) he hpl
theorem ED(hc:q_ X (.type T) r)(hg:Gl X x)(hm:X.mg x=none)(hv:bootBuiltins x=some (.type T))(ha:PA X (e::es) t)(hn:x≠"__name__":=by decide)(hdb:(x==("__debug__":Str))=false:=by decide)(he:starEach (e::es) X.env=(false,eval e X.env)::starEach es X.env:=by rfl)(hpl:(backTo pos (starEach es X.env)).any (·.1)=false:=by rfl):PE X (.Call (.Name x p) (e::es) [] pos) (LA r t):=by intro UP s σ H Q I h;refine wpAny_Call_Name_kw (x9 I hg hm hv ?_ hn hdb);exact PyProof.Rows.callWith_type1 (br (ha pos UP s σ H _ I h) λus s1 ⟨vs,H1,I1,r1,q1⟩=>hc UP s1 σ H1 vs us Q I1 r1 q1) he hpl
end
end L2
namespace HT
open PySem PyProof.Rows
section
open PySem.SeqAt
open PySem.AutoSeq1 (wpAny_loadPart')
open PySem.MeetsSeq PySem.MeetsSeq2 PySem.MeetsSeq3
end
section
variable{prog:Program}{w:World}{A:Around}{E:Value->Shared->Prop}{s:Shared}
def zD(n d:Nat):Option Int->Nat
 |none=>d
 |some v=>if v<0 then(v+(n:Int)).toNat else min v.toNat n
theorem HL(n d:Nat):zD n d none=d:=rfl
theorem kP(n d k:Nat):zD n d (some (k:Int))=min k n:=by show(if(k:Int)<0 then((k:Int)+(n:Int)).toNat else min (k:Int).toNat n)=min k n;rw[if_neg ↑2,Int.toNat_natCast]
theorem jX{v:Value}{o:Option Int}{Q:Option Int->Shared->Prop}(p:IsPart v o)(h:Q o s):wpAny (model prog w) A (Builtin.Slice.slicePartIndex v) Q E s:=by
 cases p with
 |none=>exact slicePart_none h
 |int i t=>exact slicePart_int h
end
end HT
namespace L2
open PySem PySem.Spec PyProof.Rows
variable{UP:List (Addr×Obj)}{H:Hp}{s:Shared}{A:Around}{w:World}{Q:Value->Shared->Prop}{kvs:List (List Key×V)}
abbrev TO:=St->Hp->(Option Int->Hp->Prop)->Prop
def PO(X:Cx)(e:Option Expr)(t:TO):Prop:=
 ∀(UP:List (Addr×Obj))(s:Shared)(σ:St)(H:Hp)(Q:Option Int->Hp->Prop),Inv X UP σ H s->t σ H Q->
  wpAny (model X.prog X.w) X.A (evalPart e X.env) (λu s'=>∃o H',Inv X UP σ H' s'/\IsPart u o/\Q o H') X.xe s
def Kt:TO:=λ_ H Q=>Q none H
def RD(t:TE):TO:=λσ H Q=>t σ H λx H1=>∃i,x= .int i/\Q (some i) H1
section
variable{X:Cx}{e:Expr}{te:TE}{lo hi:Option Expr}{tl th:TO}{pos p2:Pos}
theorem DQ:PO X none Kt:=by intro UP s σ H Q I h;rw[evalPart_none];exact wpAny_pure ⟨none,H,I,.none,h⟩
theorem bV(h:PE X e te):PO X (some e) (RD te):=by intro UP s σ H Q I hw;rw[evalPart_some];refine br (h UP s σ H _ I hw) λu s1 ⟨x,H1,I1,r1,q1⟩=>?_;obtain⟨i,rfl,q⟩:=q1;obtain⟨t,rfl⟩:=r1;exact⟨some i,H1,I1,.int i t,q⟩
def Uj(X:Cx)(r:V->Option Int->Option Int->Hp->VK->Prop):Prop:=
 ∀(UP:List (Addr×Obj))(s:Shared)(σ:St)(H:Hp)(x:V)(v vl vu:Value)(lo hi:Option Int)(sl:Addr)(Q:VK),Inv X UP σ H s->RelV x v->s.heap.IsSliceOf sl vl vu .none->IsPart vl lo->IsPart vu hi->r x lo hi H Q->
  ∃T id,typeLookup (.type T) "__getitem__"=pure (some (.builtin id))/\s.TypeIs v T/\wpAny (model X.prog X.w) X.A (getItem v (.ref sl)) (EP X UP σ Q) X.xe s
def Uo(r:V->Option Int->Option Int->Hp->VK->Prop)(te:TE)(tl th:TO):TE:=λσ H Q=>te σ H λx H1=>tl σ H1 λl H2=>th σ H2 λu H3=>r x l u H3 Q
theorem dE{r:V->Option Int->Option Int->Hp->VK->Prop}(hr:Uj X r)(he:PE X e te)(hl:PO X lo tl)(hu:PO X hi th):PE X (.Subscript e (.Slice lo hi none p2) pos) (Uo r te tl th):=by intro UP s σ H Q I h;refine Subscript_ (br (he UP s σ H _ I h) λv s1 ⟨x,H1,I1,r1,q1⟩=>?_);refine wpAny_Slice (br (hl UP s1 σ H1 _ I1 q1) λvl s2 ⟨l,H2,I2,pl,q2⟩=>br (hu UP s2 σ H2 _ I2 q2) λvu s3 ⟨u,H3,I3,pu,q3⟩=>?_);rw[evalPart_none];refine wpAny_pure ?_;have I4:Inv X UP σ H3 {s3 with heap:=s3.heap.push {cls:=.type "slice",data:=.fields #[vl,vu,.none]}}:=I3.kept (t':=s3.toks) λb ob q=>Heap.get?_push_of_some _ q;obtain⟨T,id,hT,ht,hg⟩:=hr UP {s3 with heap:=s3.heap.push {cls:=.type "slice",data:=.fields #[vl,vu,.none]}} σ H3 x v vl vu l u s3.heap.objs.size Q I4 r1 (Heap.IsSliceOf.new ..) pl pu q3;show wpAny (model X.prog X.w) X.A (subscriptTail e (.Slice lo hi none p2) v (.ref s3.heap.objs.size)) (EP X UP σ Q) X.xe {s3 with heap:=s3.heap.push {cls:=.type "slice",data:=.fields #[vl,vu,.none]}};exact tail_any (ops:=[.ref s3.heap.objs.size,v]) ht hT hg (by with_unfolding_all rfl)
def gB(xs:List V)(lo hi:Option Int):List V:=(xs.drop (HT.zD xs.length 0 lo)).take (HT.zD xs.length xs.length hi - HT.zD xs.length 0 lo)
theorem oU(xs:List V)(lo hi:Option Int):(gB xs lo hi).length<=xs.length:=by unfold gB;rw[List.length_take,List.length_drop];omega
end
def FF(n:Nat)(i:Int):Option Nat:=if 0<=i then(if i<n then some i.toNat else none) else if -(n:Int)<=i then some (i+n).toNat else none
def vt{α:Type}(xs:List α)(i:Int):Option α:=(FF xs.length i).bind λj=>xs[j]?
theorem C5{n:Nat}{i:Int}{j:Nat}(h:FF n i=some j):seqIndex? i n=some j/\j<n/\ -(n:Int)<=i/\i<n:=by
 unfold FF at h;by_cases h0:0<=i
 ·rw[if_pos h0] at h;by_cases h1:i<n
  ·rw[if_pos h1] at h;have e:i.toNat=j:=Option.some.inj h;exact⟨by rw[seqIndex_of h0 h1,e],↑2,↑2,h1⟩
  ·rw[if_neg h1] at h;cases h
 ·rw[if_neg h0] at h;by_cases h1: -(n:Int)<=i
  ·rw[if_pos h1] at h;have e:(i+n).toNat=j:=Option.some.inj h;exact⟨by rw[seqIndex_neg ↑2 h1,e],↑2,h1,↑2⟩
  ·rw[if_neg h1] at h;cases h
theorem qv{α:Type}{xs:List α}{i:Int}{v:α}(h:vt xs i=some v):∃j,seqIndex? i xs.length=some j/\xs[j]?=some v/\j<xs.length/\ -(xs.length:Int)<=i/\i<xs.length:=by
 unfold vt at h;cases e:FF xs.length i with
 |none=>rw[e] at h;cases h
 |some j=>
  rw[e] at h;obtain⟨h1,h2,h3,h4⟩:=C5 e;exact⟨j,h1,h,h2,h3,h4⟩
theorem K6{α:Type}{xs:List α}{j:Nat}{v:α}(h:xs[j]?=some v):vt xs (j:Int)=some v:=by
 have hj:j<xs.length:=(List.getElem?_eq_some_iff.mp h).1;have e:FF xs.length (j:Int)=some j:=by
  unfold FF;rw[if_pos ↑2,if_pos ↑2];simp
 unfold vt;rw[e];exact h
def KW(b:Expr):Prop:=∀o i,subscripted b false o i=operate [o,i] (getItem o i)
def Pg(X:Cx)(r:R2):Prop:=
 ∀(value UR:Expr)(UP:List (Addr×Obj))(s:Shared)(σ:St)(H:Hp)(x y:V)(v u:Value)(Q:VK),Inv X UP σ H s->RelV x v->RelV y u->r x y H Q->
  subscripted UR false v u=operate [v,u] (getItem v u)->wpAny (model X.prog X.w) X.A (subscriptTail value UR v u) (EP X UP σ Q) X.xe s
def Sf(X:Cx)(id:String)(r:V->List V->Hp->VK->Prop):Prop:=
 ∀(UP:List (Addr×Obj))(s:Shared)(σ:St)(H:Hp)(x:V)(xs:List V)(v:Value)(us:List Value)(Q:VK),Inv X UP σ H s->RelV x v->Vals xs us->r x xs H Q->
  wpAny (model X.prog X.w) X.A (call (.builtin id) (v::us)) (EP X UP σ Q) X.xe s
section
variable{X:Cx}{a b:Expr}{ta tb:TE}{pos:Pos}
theorem bA{r:R2}(hr:Pg X r)(ha:PE X a ta)(hb:PE X b tb)(hs:KW b):PE X (.Subscript a b pos) (AB r ta tb):=by intro UP s σ H Q I h;exact Subscript_ (NC ha hb I h λv u s2 x y H2 I2 rx ry q=>hr a b UP s2 σ H2 x y v u Q I2 rx ry q (hs _ _))
inductive Kl(K:Frag)(x:V)(y:V)(H:Hp)(Q:VK):Prop
 |mk(p:_) (xs:_) (i:_) (v:_) (_:x= .ref p) (_:y= .int i) (_:bh K H p xs) (_:vt xs i=some v) (_:Q v H)
inductive Su(K:Frag)(x:V)(y:V)(H:Hp)(Q:VK):Prop
 |mk(p:_) (xs:_) (i:_) (v:_) (_:x= .ref p) (_:y= .int i) (_:fN K H p xs) (_:vt xs i=some v) (_:Q v H)
inductive TV(x:V)(y:V)(H:Hp)(Q:VK):Prop
 |mk(z:_) (i:_) (c:_) (_:x= .str z) (_:y= .int i) (_:z.length<=sizeLine) (_:vt z.cps.toList i=some c) (_:Q (.str ⟨#[c]⟩) H)
theorem aX:Pg X (Kl X.K):=by
 intro value UR UP s σ H x y v u Q I rx ry h hs;obtain⟨p,xs,i,z,rfl,rfl,hq,he,q⟩:=h;cases rx;obtain⟨t,rfl⟩:=ry;obtain⟨its,r,pl,hz⟩:=I.list hq;obtain⟨j,h1,h2,h3,h4,h5⟩:=qv he;obtain⟨w,ew,rw'⟩:=r.get h2;have hl:=r.length;have hn:=nW;have fin:EP X UP σ Q w s:=⟨z,H,I,rw',q⟩
 by_cases h0:0<=i
 ·have hj:i.toNat=j:=by
   rw[seqIndex_of h0 h5] at h1;exact Option.some.inj h1
  exact item_listR pl.isList h0 ↑2 (by rw[hj];simpa using ew) fin hs
 ·have hj:(i+(its.toArray.size:Int)).toNat=j:=by
   rw[seqIndex_neg ↑2 h4] at h1;rw[List.size_toArray,<-hl];exact Option.some.inj h1
  exact subscriptTail_builtinR (x:=w) pl.isList.typeIs slot_list_getitem.lookup
   (wpAny_getItem_list_neg (Q:=λr s'=>r=w/\EP X UP σ Q r s') pl.isList ↑2 (by rw[List.size_toArray] <;> omega) ↑2 (by rw[hj];simpa using ew) ⟨rfl,fin⟩) hs
theorem vX:Pg X (Su X.K):=by
 intro value UR UP s σ H x y v u Q I rx ry h hs;obtain⟨p,xs,i,z,rfl,rfl,hq,he,q⟩:=h;cases rx;obtain⟨t,rfl⟩:=ry;obtain⟨its,r,pl,hz⟩:=I.tuple hq;obtain⟨j,h1,h2,h3,h4,h5⟩:=qv he;obtain⟨w,ew,rw'⟩:=r.get h2;have hl:=r.length;have hn:=nW;have fin:EP X UP σ Q w s:=⟨z,H,I,rw',q⟩
 exact subscriptTail_builtinR (x:=w) pl.typeIs slot_tuple_getitem.lookup
  (getItem_tuple (j:=j) (Q:=λr s'=>r=w/\EP X UP σ Q r s') pl ↑2 ↑2 (by rw[List.size_toArray,<-hl];exact h1) (by simpa using ew) ⟨rfl,fin⟩) hs
theorem O6:Pg X TV:=by
 intro value UR UP s σ H x y v u Q I rx ry h hs;obtain⟨z,i,c,rfl,rfl,hz,he,q⟩:=h;obtain⟨t,rfl⟩:=rx;obtain⟨t',rfl⟩:=ry;obtain⟨j,h1,h2,h3,h4,h5⟩:=qv he;have hl:z.cps.toList.length=z.length:=by simp[Str.length]
 rw[hl] at h1 h4 h5;have hn:=nW;exact tail_any (typeIs_str s z t) slot_str_getitem.lookup (getItem_str (c:=c) (by
  have e1:decide (i< -(2 ^ 63:Int))=false:=decide_eq_false ↑2;have e2:decide (i≥2 ^ 63)=false:=decide_eq_false ↑2;rw[e1,e2,Bool.or_false]) (by rw[h1];simpa using h2) ⟨.str ⟨#[c]⟩,H,I.tok _,⟨_,rfl⟩,q⟩) hs
theorem BV(its:List Value)(n j:Nat)(u:Value):Obj.mapSeq (·.setIfInBounds j u) {cls:=.type "list",data:=.seq its.toArray n}={cls:=.type "list",data:=.seq (its.set j u).toArray n}:=by simp[Obj.mapSeq]
theorem Inv.lst{σ:St}{p:Addr}{xs:List V}(I:Inv X UP σ H s)(h:H p=some (.lst xs)):
  ∃(its:List Value)(n:Nat),Vals xs its/\s.heap.get? p=some {cls:=.type "list",data:=.seq its.toArray n}/\xs.length<=sizeLine:=by
 obtain⟨z,its,n,r,e⟩:=I.aZ p _ h;exact⟨its,n,r,e,z⟩
theorem Inv.Nh{σ:St}{p:Addr}{xs ys:List V}{its its':List Value}{n n':Nat}{f:Obj->Obj}(I:Inv X UP σ H s)(h:H p=some (.lst xs))(ho:s.heap.get? p=some {cls:=.type "list",data:=.seq its.toArray n})(hf:f {cls:=.type "list",data:=.seq its.toArray n}={cls:=.type "list",data:=.seq its'.toArray n'})(r:Vals ys its')(hz:ys.length<=sizeLine)(t:Nat):
  Inv X UP σ (upd H p (.lst ys)) {s with heap:=s.heap.update p f,toks:=t}:=by
 have e:(s.heap.update p f).get? p=some {cls:=.type "list",data:=.seq its'.toArray n'}:=by
  rw[Heap.get?_update_self f ho (by rw[hf] <;> rfl),hf]
 refine I.write (x:=p) (e:=p) (by rw[h];trivial) (.inl rfl) (λb u hb q=>(Heap.get?_update_other _ _ (Ne.symm hb)).trans q) ⟨_,e⟩ ?_;exact⟨hz,its',n',r,e⟩
inductive LU(o:V)(i:V)(v:V)(H:Hp)(Q:(Hp->Prop)):Prop
 |mk(p:_) (xs:_) (k:_) (j:_) (_:o= .ref p) (_:i= .int k) (_:H p=some (.lst xs)) (_:FF xs.length k=some j) (_:Q (upd H p (.lst (xs.set j v))))
theorem set_list:MW X LU:=by
 intro UP s σ H o i v ov iv u Q I ro ri rv h;obtain⟨p,xs,k,j,rfl,rfl,hp,hj,q⟩:=h;cases ro;obtain⟨t,rfl⟩:=ri;obtain⟨its,n,r,ho,hz⟩:=I.lst hp;obtain⟨h1,h2,h3,h4⟩:=C5 hj;have hl:=r.length;have hn:=nW;have I':Inv X UP σ (upd H p (.lst (xs.set j v))) {s with heap:=s.heap.update p (Obj.mapSeq (·.setIfInBounds j u))}:=
  I.Nh hp ho (BV its n j u) (r.set rv j) (by rw[List.length_set];exact hz) s.toks
 by_cases h0:0<=k
 ·have hk:k.toNat=j:=by
   rw[seqIndex_of h0 h4] at h1;exact Option.some.inj h1
  exact PySem.W.ki_setAt ho h0 ↑2 (by rw[List.size_toArray,<-hl];exact h4) (by rw[hk];exact⟨_,I',q⟩)
 ·have hk:(k+(its.toArray.size:Int)).toNat=j:=by
   rw[seqIndex_neg ↑2 h3] at h1;rw[List.size_toArray,<-hl];exact Option.some.inj h1
  exact PySem.W.ki_setBack ho ↑2 (by rw[List.size_toArray,<-hl];exact h3) ↑2 (by rw[hk];exact⟨_,I',q⟩)
theorem wG(lo hi:Option Int)(n:Nat):(sliceBounds lo hi none n).1=((HT.zD n 0 lo:Nat):Int)/\(sliceBounds lo hi none n).2.1=((HT.zD n n hi:Nat):Int)/\(sliceBounds lo hi none n).2.2=1:=by
 refine⟨?_,?_,rfl⟩
 ·cases lo with
  |none=>simp[sliceBounds,HT.zD]
  |some i=>
   simp only[sliceBounds,HT.zD,Option.getD_none,show(1:Int)>0 by decide,if_true];by_cases h:i<0
   ·simp only[h,if_true] <;> omega
   ·simp only[h,if_false] <;> omega
 ·cases hi with
  |none=>simp[sliceBounds,HT.zD]
  |some i=>
   simp only[sliceBounds,HT.zD,Option.getD_none,show(1:Int)>0 by decide,if_true];by_cases h:i<0
   ·simp only[h,if_true] <;> omega
   ·simp only[h,if_false] <;> omega
theorem t8(its:List Value)(lo hi:Option Int):slicePick its.toArray lo hi none=((its.drop (HT.zD its.length 0 lo)).take (HT.zD its.length its.length hi - HT.zD its.length 0 lo)).toArray:=by obtain⟨h1,h2,h3⟩:=wG lo hi its.toArray.size;unfold slicePick;rw[h1,h2,h3];simp only[sliceRange_one,pick_run,List.size_toArray] <;> rfl
inductive SF(K:Frag)(x:V)(lo:Option Int)(hi:Option Int)(H:Hp)(Q:VK):Prop
 |mk(a:_) (xs:_) (_:x= .ref a) (_:bh K H a xs) (_:∀p,H p=none->Q (.ref p) (upd H p (.lst (gB xs lo hi))))
theorem eS:Uj X (SF X.K):=by intro UP s σ H x v vl vu lo hi sl Q I rx hs pl pu h;obtain⟨a,xs,rfl,hx,q⟩:=h;cases rx;obtain⟨its,r,ht,hz⟩:=I.list hx;have hlen:=r.length;refine⟨"list",_,slot_list_getitem.lookup,ht.isList.typeIs,?_⟩;refine wpAny_getItem_list_slice ht.isList hs pl pu .none (by simp) ?_ (by rw[List.size_toArray] <;> omega);rw[t8,<-hlen];refine⟨.ref s.heap.objs.size,_,I.laid (t':=s.toks) (o:=.lst (gB xs lo hi)) (λb ob q=>Heap.get?_push_of_some _ q) (Nat.le_refl _) ?_,rfl,q _ (I.aZ.fresh (Nat.le_refl _))⟩;exact⟨Nat.le_trans (oU xs lo hi) hz,_,0,(r.drop (HT.zD xs.length 0 lo)).take (HT.zD xs.length xs.length hi - HT.zD xs.length 0 lo),Heap.get?_push_size _ rfl⟩
def iP:V->Bool
 | .bH=>true
 | .bl _=>true
 | .int _=>true
 | .str _=>true
 |_=>false
def Fc:V->V->Bool
 | .bH,.bH=>true
 | .bl a,.bl b=>a==b
 | .bl a,.int b=>(if a then 1 else 0)==b
 | .int a,.bl b=>a==(if b then 1 else 0)
 | .int a,.int b=>a==b
 | .str a,.str b=>a==b
 |_,_=>false
theorem Ob{y x:V}{u v:Value}(ry:RelV y u)(rx:RelV x v)(fy:iP y=true)(fx:iP x=true):SeqAt.EqAt A s u v (Fc y x):=by
 cases y with
 |bH=>
  cases ry;cases x with
  |bH=>cases rx;exact SeqAt.EqAt.same _
  |bl b=>cases rx;exact SeqAt.EqAt.none_bool b
  |int b=>obtain⟨t,rfl⟩:=rx;exact SeqAt.EqAt.none_int b t
  |str b=>obtain⟨t,rfl⟩:=rx;exact SeqAt.EqAt.none_str b t
  |_=>exact absurd (show false=true from fx) Bool.false_ne_true
 |bl a=>
  cases ry;cases x with
  |bH=>cases rx;exact SeqAt.EqAt.bool_none a
  |bl b=>cases rx;exact SeqAt.EqAt.bool_bool a b
  |int b=>obtain⟨t,rfl⟩:=rx;exact SeqAt.EqAt.bool_int a b t
  |str b=>obtain⟨t,rfl⟩:=rx;exact SeqAt.EqAt.bool_str a b t
  |_=>exact absurd (show false=true from fx) Bool.false_ne_true
 |int a=>
  obtain⟨t',rfl⟩:=ry;cases x with
  |bH=>cases rx;exact SeqAt.EqAt.int_none a t'
  |bl b=>cases rx;exact SeqAt.EqAt.int_bool a t' b
  |int b=>obtain⟨t,rfl⟩:=rx;exact SeqAt.EqAt.int_int a t' b t
  |str b=>obtain⟨t,rfl⟩:=rx;exact SeqAt.EqAt.int_str a t' b t
  |_=>exact absurd (show false=true from fx) Bool.false_ne_true
 |str a=>
  obtain⟨t',rfl⟩:=ry;cases x with
  |bH=>cases rx;exact SeqAt.EqAt.str_none a t'
  |bl b=>cases rx;exact SeqAt.EqAt.str_bool a t' b
  |int b=>obtain⟨t,rfl⟩:=rx;exact SeqAt.EqAt.str_int a t' b t
  |str b=>obtain⟨t,rfl⟩:=rx;exact SeqAt.EqAt.str_str a t' b t
  |_=>exact absurd (show false=true from fx) Bool.false_ne_true
 |_=>exact absurd (show false=true from fy) Bool.false_ne_true
def BQ(x:V)(u:Value):Bool:=match u with
 | .none=>Fc .bH x
 | .bool b=>Fc (.bl b) x
 | .int i _=>Fc (.int i) x
 | .str z _=>Fc (.str z) x
 |_=>false
theorem Gr{x y:V}{u:Value}(r:RelV y u)(f:iP y=true):BQ x u=Fc y x:=by
 cases y with
 |bH=>cases r;rfl
 |bl b=>cases r;rfl
 |int i=>obtain⟨t,rfl⟩:=r;rfl
 |str z=>obtain⟨t,rfl⟩:=r;rfl
 |_=>exact absurd (show false=true from f) Bool.false_ne_true
theorem lq{x:V}:∀{xs:List V}{us:List Value},Vals xs us->xs.all iP=true->us.any (BQ x)=xs.any λy=>Fc y x
 |_,_,.nil,_=>rfl
 |y::xs,u::us,.cons r t,f=>by
  rw[List.all_cons,Bool.and_eq_true] at f;rw[List.any_cons,List.any_cons,Gr r f.1,lq t f.2]
theorem iz{x:V}{v:Value}(rx:RelV x v)(fx:iP x=true):∀{xs:List V}{us:List Value},Vals xs us->xs.all iP=true->∀u∈us,SeqAt.EqAt A s u v (BQ x u)
 |_,_,.nil,_=>λu hu=>by cases hu
 |y::xs,u::us,.cons r t,f=>λu' hu=>by
  rw[List.all_cons,Bool.and_eq_true] at f;rcases List.mem_cons.mp hu with rfl|hu
  ·rw[Gr r f.1];exact Ob r rx f.1 fx
  ·exact iz rx fx t f.2 u' hu
def CZ(x:V)(xs:List V):Bool:=xs.any λy=>Fc y x
inductive Ui(K:Frag)(neg:Bool)(x:V)(y:V)(H:Hp)(Q:VK):Prop
 |mk(p:_) (xs:_) (_:y= .ref p) (_:(bh K H p xs\/fN K H p xs)) (_:iP x=true) (_:xs.all iP=true) (_:Q (.bl (if neg then !CZ x xs else CZ x xs)) H)
theorem fh:jh X (compareOp .In) (Ui X.K false):=by
 intro UP s σ H x y v u Q I rx ry h;obtain⟨p,xs,rfl,hq,fx,fs,q⟩:=h;cases ry;rcases hq with hq|hq
 ·obtain⟨its,r,pl,hz⟩:=I.list hq;refine SeqAt.in_listAt (BQ x) pl.isList (λw hw=>iz rx fx r fs w (by simpa using hw)) ⟨.bl _,H,I,rfl,?_⟩;rw[show its.toArray.any (BQ x)=its.any (BQ x) by simp,lq r fs];exact q
 ·obtain⟨its,r,pl,hz⟩:=I.tuple hq;refine SeqAt.in_tupleAt (BQ x) pl (λw hw=>iz rx fx r fs w (by simpa using hw)) ⟨.bl _,H,I,rfl,?_⟩;rw[show its.toArray.any (BQ x)=its.any (BQ x) by simp,lq r fs];exact q
theorem xh:jh X (compareOp .NotIn) (Ui X.K true):=by
 intro UP s σ H x y v u Q I rx ry h;obtain⟨p,xs,rfl,hq,fx,fs,q⟩:=h;cases ry;rcases hq with hq|hq
 ·obtain⟨its,r,pl,hz⟩:=I.list hq;refine SeqAt.notIn_listAt (BQ x) pl.isList (λw hw=>iz rx fx r fs w (by simpa using hw)) ⟨.bl _,H,I,rfl,?_⟩;rw[show its.toArray.any (BQ x)=its.any (BQ x) by simp,lq r fs];exact q
 ·obtain⟨its,r,pl,hz⟩:=I.tuple hq;refine SeqAt.notIn_tupleAt (BQ x) pl (λw hw=>iz rx fx r fs w (by simpa using hw)) ⟨.bl _,H,I,rfl,?_⟩;rw[show its.toArray.any (BQ x)=its.any (BQ x) by simp,lq r fs];exact q
inductive zC(K:Frag)(xs:List V)(H:Hp)(Q:VK):Prop
 |mk(p:Addr) (ys:List V) (_:xs=[.ref p]) (_:bh K H p ys\/fN K H p ys) (_:Q (.int ys.length) H)
theorem vH:q_ X (.builtin "len") (zC X.K):=by
 intro UP s σ H xs us Q I r h;obtain⟨p,ys,rfl,hq,q⟩:=h;obtain⟨u,rfl,rx⟩:=vals1 r;cases rx;have hn:=nW;rcases hq with hq|hq
 ·obtain⟨its,r',pl,hz⟩:=I.list hq;have hlen:=r'.length;exact Calls.call_len_list pl.isList (by simp only[List.size_toArray] <;> omega) ⟨.int ys.length,H,I.tok _,⟨s.toks+1,by rw[List.size_toArray,hlen]⟩,q⟩
 ·obtain⟨its,r',pl,hz⟩:=I.tuple hq;have hlen:=r'.length;exact len_tuple pl (by simp only[List.size_toArray] <;> omega) ⟨.int ys.length,H,I.tok _,⟨s.toks+1,by rw[List.size_toArray,hlen]⟩,q⟩
theorem wy:q_ X (.type "list") (λxs H Q=>∃p ys,xs=[.ref p]/\(bh X.K H p ys\/fN X.K H p ys)/\∀l,H l=none->Q (.ref l) (upd H l (.lst ys))):=by
 intro UP s σ H xs us Q I r h;obtain⟨p,ys,rfl,hq,q⟩:=h;obtain⟨u,rfl,rx⟩:=vals1 r;cases rx;have fin:∀(its:List Value),Vals ys its->ys.length<=sizeLine->∀(h':Heap)(c':Nat),(∀b o',s.heap.get? b=some o'->h'.get? b=some o')->
   h'.get? s.heap.objs.size=some {cls:=.type "list",dict:=none,data:=.seq its.toArray c',slots:=#[]}->EP X UP σ Q (.ref s.heap.objs.size) {s with heap:=h'}:=λits r' hz h' c' kp e=>
  ⟨.ref s.heap.objs.size,_,I.laid (t':=s.toks) kp (Nat.le_refl _) (show bK X.prog X.w _ h' _ (.lst ys) from⟨hz,its,c',r',e⟩),rfl,q _ (I.aZ.fresh (Nat.le_refl _))⟩
 rcases hq with hq|hq
 ·obtain⟨its,r',pl,hz⟩:=I.list hq;have hlen:=r'.length;obtain⟨o,ho,hc,n,hd⟩:=pl.isList;exact call_list_seq p (.inl rfl) ho hc hd (λh' c' kp e=>fin its r' hz h' c' kp e) (by simp only[List.size_toArray] <;> omega)
 ·obtain⟨its,r',pl,hz⟩:=I.tuple hq;have hlen:=r'.length;obtain⟨o,ho,hc,n,hd⟩:=pl;exact call_list_seq p (.inr rfl) ho hc hd (λh' c' kp e=>fin its r' hz h' c' kp e) (by simp only[List.size_toArray] <;> omega)
def Te(K:Frag)(T:String)(x:V)(H:Hp):Prop:=match x with
 | .str _=>T="str"
 | .int _=>T="int"
 | .ref p=>(T="list"/\∃xs,bh K H p xs)\/(T="tuple"/\∃o,K.lookup p=some o/\o.cls= .type "tuple"/\o.dict=none)\/
   (T="dict"/\((∃kvs,H p=some (.dK kvs))\/∃kvs,H p=some (.dT kvs)))\/(T="set"/\∃S n,H p=some (.set S n))
 |_=>False
theorem Hd{σ:St}{T:String}{x:V}{v:Value}(I:Inv X UP σ H s)(r:RelV x v)(ty:Te X.K T x H):
  s.TypeIs v T/\∀a,v= .ref a->∃ob,s.heap.get? a=some ob/\ob.dict=none:=by
 cases x with
 |str z=>
  obtain⟨t,rfl⟩:=r;cases(show T="str" from ty);exact⟨typeIs_str s z t,λ_ e=>nomatch e⟩
 |int i=>
  obtain⟨t,rfl⟩:=r;cases(show T="int" from ty);exact⟨typeIs_int s i t,λ_ e=>nomatch e⟩
 |ref p=>
  cases r;rcases ty with⟨rfl,xs,hq⟩|⟨rfl,o,hk,hc,hd⟩|⟨rfl,hk⟩|⟨rfl,S,n,hk⟩
  ·obtain⟨its,_,pl,_⟩:=I.list hq;refine⟨pl.isList.typeIs,λa e=>?_⟩;cases e;obtain⟨o,n,e,c,hd,_⟩:=pl;exact⟨o,e,hd⟩
  ·refine⟨⟨o,I.dZ p o hk,hc⟩,λa e=>?_⟩;cases e;exact⟨o,I.dZ _ o hk,hd⟩
  ·have z:∃o,s.heap.get? p=some o/\o.ExactDict:=by
    rcases hk with⟨kvs,hk⟩|⟨kvs,hk⟩
    ·obtain⟨_,_,_,_,o,_,_,e,ex,_⟩:=I.aZ p _ hk;exact⟨o,e,ex⟩
    ·obtain⟨_,_,_,_,o,_,_,e,ex,_⟩:=I.aZ p _ hk;exact⟨o,e,ex⟩
   obtain⟨o,e,ex⟩:=z;refine⟨⟨o,e,ex.1⟩,λa e2=>?_⟩;cases e2;exact⟨o,e,ex.2.1⟩
  ·obtain⟨o,_,_,_,e,ex,_⟩:=I.aZ p _ hk;refine⟨⟨o,e,ex.1⟩,λa e2=>?_⟩;cases e2;exact⟨o,e,ex.2.1⟩
 |_=>exact False.elim ty
def SR(K:Frag)(T:String)(r:V->List V->Hp->VK->Prop)(to:TE):TE:=λσ H Q=>to σ H λx H1=>Te K T x H1/\r x [] H1 Q
def UO(K:Frag)(T:String)(r:V->List V->Hp->VK->Prop)(to:TE)(t:TA):TE:=λσ H Q=>to σ H λx H1=>Te K T x H1/\t σ H1 λxs H2=>r x xs H2 Q
variable{o e:Expr}{es:List Expr}{to:TE}{t:TA}{name:Str}{apos cpos:Pos}{T id:String}{r:V->List V->Hp->VK->Prop}
theorem qQ(pa:PlainAttrs T)(slot:Slot T name id)(hty:typeOf (.builtin id)=pure (.type "method_descriptor"))(hm:Sf X id r)(ho:PE X o to)(hbase:attributeBase o name X.env (eval o X.env)=eval o X.env:=by rfl)(hline:(apos.endLine==cpos.line)=true:=by rfl):PE X (.Call (.Attribute o name apos) [] [] cpos) (SR X.K T r to):=by intro UP s σ H Q I h;refine wpAny_Call_method0_late hbase hline (br (ho UP s σ H _ I h) λv s1 ⟨x,H1,I1,r1,ty,q1⟩=>?_);obtain⟨h1,h2⟩:=Hd I1 r1 ty;exact⟨T,id,pa,slot,hty,h1,h2,Calls.callWith_builtin rfl (PySem.evalArgs_none (hm UP s1 σ H1 x [] v [] Q I1 r1 .nil q1))⟩
theorem fK(pa:PlainAttrs T)(slot:Slot T name id)(hty:typeOf (.builtin id)=pure (.type "method_descriptor"))(hm:Sf X id r)(ho:PE X o to)(ha:PA X (e::es) t)(hbase:attributeBase o name X.env (eval o X.env)=eval o X.env:=by rfl)(hfew:((backTo cpos (starEach (e::es) X.env)).all (λx=>!x.1)&&(backToKw cpos (keywordEach [] X.env)).all (λx=>x.1.isSome)
   &&decide ((e::es).length+([]:List Keyword).length+(if([]:List Keyword).isEmpty then 0 else 1)<30))=true:=by rfl)(hline:(apos.endLine==cpos.line)=true:=by rfl)(hs:starEach (e::es) X.env=(false,eval e X.env)::starEach es X.env:=by rfl)(hplain:(backTo cpos (starEach es X.env)).any (·.1)=false:=by rfl):
  PE X (.Call (.Attribute o name apos) (e::es) [] cpos) (UO X.K T r to t):=by
 intro UP s σ H Q I h;refine wpAny_Call_method_late hbase hfew hline rfl (br (ho UP s σ H _ I h) λv s1 ⟨x,H1,I1,r1,ty,q1⟩=>?_);obtain⟨h1,h2⟩:=Hd I1 r1 ty;refine⟨T,id,pa,slot,hty,h1,h2,?_⟩;have hA:=ha cpos UP s1 σ H1 _ I1 q1;rw[hs] at hA ⊢;refine Calls.callWith_builtin (by show(false||(backTo cpos (starEach es X.env)).any (·.1))=false;rw[hplain] <;> rfl) (Calls.evalArgs_plain ?_);exact br hA λus s2 ⟨vs,H2,I2,r2,q2⟩=>hm UP s2 σ H2 x vs v us Q I2 r1 r2 q2
end
def Sn(X:Cx)(id:String)(r:V->List V->Hp->VK->Prop):Prop:=
 ∀(UP:List (Addr×Obj))(s:Shared)(σ:St)(H:Hp)(x:V)(xs:List V)(v:Value)(us:List Value)(Q:VK),Inv X UP σ H s->RelV x v->Vals xs us->r x xs H Q->
  wpAny (model X.prog X.w) X.A (call (.builtin id) (v::us)) (EP X UP σ Q) X.xe s
def RG(us:List Value):List V->Prop
 |[]=>us=[]
 |x::xs=>∃u us',us=u::us'/\RelV x u/\Vals xs us'
theorem Vals.ri{xs:List V}{us:List Value}(h:Vals xs us):RG us xs:=by
 cases h with
 |nil=>rfl
 |cons r q=>exact⟨_,_,rfl,r,q⟩
theorem Vals.one{x:V}{us:List Value}(h:Vals [x] us):∃u,us=[u]/\RelV x u:=by obtain⟨u,us,rfl,r,q⟩:=h.ri;exact⟨u,congrArg _ q.ri,r⟩
theorem Vals.zero:∀{us:List Value},Vals [] us->us=[]
 |_,.nil=>rfl
theorem Vals.dropLast{xs:List V}{us:List Value}(h:Vals xs us):Vals xs.dropLast us.dropLast:=by
 induction h with
 |nil=>exact .nil
 |cons r t ih=>
  cases t with
  |nil=>exact .nil
  |cons q t'=>exact .cons r ih
theorem Vals.reverse{xs:List V}{us:List Value}(h:Vals xs us):Vals xs.reverse us.reverse:=by
 induction h with
 |nil=>exact .nil
 |cons r t ih=>rw[List.reverse_cons,List.reverse_cons];exact Vals.append ih (.cons r .nil)
theorem Bx{α:Type}(l:List α):l.eraseIdx (l.length - 1)=l.dropLast:=by
 induction l with
 |nil=>rfl
 |cons a r ih=>
  cases r with
  |nil=>rfl
  |cons b r=>
   have e:(a::b::r).length - 1=((b::r).length - 1)+1:=by
    have h1:(a::b::r).length=r.length+2:=rfl;have h2:(b::r).length=r.length+1:=rfl;omega
   rw[e,List.eraseIdx_cons_succ,ih]
   all_goals rfl
section
variable{X:Cx}{UP:List (Addr×Obj)}{σ:St}{H:Hp}{s:Shared}{l b:Addr}{xs ys zs:List V}
theorem Inv.Lo{its its':List Value}{n:Nat}{f:Array Value->Array Value}{t':Nat}(I:Inv X UP σ H s)(hH:H l=some (.lst xs))(e:s.heap.get? l=some {cls:=.type "list",data:=.seq its.toArray n})(hf:f its.toArray=its'.toArray)(hv:Vals ys its')(hz:ys.length<=sizeLine):
  Inv X UP σ (upd H l (.lst ys)) {s with heap:=s.heap.update l (Obj.mapSeq f),toks:=t'}:=by
 have q:=PySem.IsL.update e f;rw[hf] at q;refine I.write (x:=l) (e:=l) (by rw[hH];exact trivial) (.inl rfl) (λb' u hb hu=>(Heap.get?_update_other s.heap (Obj.mapSeq f) (Ne.symm hb)).trans hu) ⟨_,q⟩ ?_;exact⟨hz,its',_,hv,q⟩
theorem Inv.Tq{its:List Value}{t':Nat}(I:Inv X UP σ H s)(hv:Vals ys its)(hz:ys.length<=sizeLine):
  Inv X UP σ (upd H s.heap.objs.size (.lst ys)) {s with heap:=s.heap.push {cls:=.type "list",data:=.seq its.toArray},toks:=t'}:=
 I.laid (λ_ _ q=>Heap.get?_push_of_some _ q) (Nat.le_refl _) ⟨hz,its,0,hv,Heap.get?_push_size _ rfl⟩
theorem Inv.fresh(I:Inv X UP σ H s):H s.heap.objs.size=none:=I.aZ.fresh (Nat.le_refl _)
theorem Inv.BM(I:Inv X UP σ H s)(hH:H l=some (.lst xs)):xs.length<=sizeLine/\∃(its:List Value)(n:Nat),Vals xs its/\xs.length=its.length/\s.heap.get? l=some {cls:=.type "list",data:=.seq its.toArray n}:=by obtain⟨z,its,n,r,e⟩:=I.aZ l _ hH;exact⟨z,its,n,r,r.length,e⟩
theorem yU{n:Nat}(h:n<=sizeLine):Builtin.List.listTooLong n=false:=by unfold Builtin.List.listTooLong;exact decide_eq_false ↑2
end
section
variable{X:Cx}
inductive Kj(x:V)(vs:List V)(H:Hp)(Q:VK):Prop
 |mk(l:_) (xs:_) (y:_) (_:x= .ref l) (_:vs=[y]) (_:H l=some (.lst xs)) (_:xs.length<sizeLine) (_:Q .bH (upd H l (.lst (xs++[y]))))
theorem cZ:Sn X "list.append" Kj:=by intro UP s σ H x vs v us Q I rx rv h;obtain⟨l,xs,y,rfl,rfl,hH,hz,q⟩:=h;cases rx;obtain⟨u,rfl,ru⟩:=rv.one;obtain⟨z,its,n,r,hl,e⟩:=I.BM hH;refine call_meets F.slot_list_append ⟨_,e,rfl⟩ F.entry_list_append (F.args_list_append_2 _ _) (PySem.list_append l its.toArray n u (by rw[List.size_toArray];omega)) ⟨e,?_⟩;refine⟨.bH,_,I.Lo (its':=its++[u]) hH e (by simp) (r.append (.cons ru .nil)) ?_,rfl,q⟩;rw[List.length_append,List.length_singleton];omega
inductive KG(x:V)(vs:List V)(H:Hp)(Q:VK):Prop
 |mk(l:_) (b:_) (xs:_) (zs:_) (_:x= .ref l) (_:vs=[.ref b]) (_:H l=some (.lst xs)) (_:H b=some (.lst zs)) (_:xs.length+zs.length<=sizeLine) (_:Q .bH (upd H l (.lst (xs++zs))))
theorem oj:Sn X "list.extend" KG:=by
 intro UP s σ H x vs v us Q I rx rv h;obtain⟨l,b,xs,zs,rfl,rfl,hH,hB,hz,q⟩:=h;cases rx;obtain⟨u,rfl,ru⟩:=rv.one;cases ru;obtain⟨z,its,n,r,hl,e⟩:=I.BM hH;obtain⟨z2,its2,n2,r2,hl2,e2⟩:=I.BM hB;have hsz:its.toArray.size+its2.toArray.size<=sizeLine:=by rw[List.size_toArray,List.size_toArray];omega
 have hlong:¬(!its.toArray.isEmpty&&Builtin.List.listTooLong (its.toArray.size+its2.toArray.size))=true:=by
  rw[yU hsz,Bool.and_false];exact Bool.false_ne_true
 refine call_meets F.slot_list_extend ⟨_,e,rfl⟩ F.entry_list_extend (F.args_list_extend_2 _ _)
  (AutoSeq1.list_extend_list_list_0 l its.toArray n b its2.toArray n2 hlong (by rw[List.size_toArray];omega) ↑2) ⟨e,e2,?_⟩
 refine⟨.bH,_,I.Lo (its':=its++its2) hH e (by simp) (r.append r2) ?_,rfl,q⟩;rw[List.length_append];omega
inductive TM(x:V)(vs:List V)(H:Hp)(Q:VK):Prop
 |mk(l:_) (xs:_) (y:_) (_:x= .ref l) (_:vs=[]) (_:H l=some (.lst xs)) (_:xs[xs.length - 1]?=some y) (_:Q y (upd H l (.lst xs.dropLast)))
theorem rF:Sn X "list.pop" TM:=by
 intro UP s σ H x vs v us Q I rx rv h;obtain⟨l,xs,y,rfl,rfl,hH,hy,q⟩:=h;cases rx;have hus:=rv.zero;subst hus;obtain⟨z,its,n,r,hl,e⟩:=I.BM hH;obtain⟨u,hu,ru⟩:=r.get hy;have hy':its.toArray[its.toArray.size - 1]?=some u:=by
  show its.toArray[its.length - 1]?=some u;rw[<-Array.getElem?_toList,<-hl];exact hu
 refine call_meets F.slot_list_pop ⟨_,e,rfl⟩ F.entry_list_pop (F.args_list_pop_1 _) (MeetsSeq.list_pop_last l its.toArray n u hy' (by rw[List.size_toArray];omega)) ⟨e,?_⟩;refine⟨y,_,I.Lo (its':=its.dropLast) hH e ?_ r.dropLast ?_,ru,q⟩
 ·show its.toArray.eraseIdxIfInBounds (its.toArray.size - 1)=its.dropLast.toArray;rw[List.size_toArray,List.eraseIdxIfInBounds_toArray,Bx]
 ·rw[List.length_dropLast];omega
inductive SI(x:V)(y:V)(H:Hp)(Q:VK):Prop
 |mk(l:_) (b:_) (xs:_) (zs:_) (_:x= .ref l) (_:y= .ref b) (_:H l=some (.lst xs)) (_:H b=some (.lst zs)) (_:xs.length+zs.length<=sizeLine) (_:∀p,H p=none->Q (.ref p) (upd H p (.lst (xs++zs))))
theorem Cd:jh X (binaryOp .Add) SI:=by
 intro UP s σ H x y v u Q I rx ry h;obtain⟨l,b,xs,zs,rfl,rfl,hH,hB,hz,q⟩:=h;cases rx;cases ry;obtain⟨z,its,n,r,hl,e⟩:=I.BM hH;obtain⟨z2,its2,n2,r2,hl2,e2⟩:=I.BM hB;refine PySem.P.add_list e e2 ?_ (by rw[List.size_toArray,List.size_toArray];omega);have ea:its.toArray++its2.toArray=(its++its2).toArray:=by simp
 rw[ea];exact⟨.ref _,_,I.Tq (t':=s.toks) (r.append r2) (by rw[List.length_append];omega),rfl,q _ I.fresh⟩
end
section
variable{prog:Program}{w:World}{A:Around}{E:Value->Shared->Prop}{s:Shared}
set_option maxRecDepth 100000 in
end
section
variable{X:Cx}
end
theorem Vals.Ua:∀{bs:List Bool}{us:List Value},Vals (bs.map V.bl) us->us=bs.map Value.bool
 |[],us,h=>by
  rw[List.map_nil] at h;cases h;rfl
 |b::bs,us,h=>by
  rw[List.map_cons] at h;cases h with
  |cons r t=>
   cases r;rw[Vals.Ua t,List.map_cons]
theorem Vals.Tu{a:Addr}{us:List Value}(r:Vals [V.ref a] us):us=[Value.ref a]:=by
 cases r with
 |cons r t=>
  cases t;cases r;rfl
section
variable{prog:Program}{w:World}{A:Around}{E:Value->Shared->Prop}{s:Shared}{l:Addr}{its:List Value}{ns:List Int}{Q:Value->Shared->Prop}
end
section
variable{X:Cx}
end
section
variable{X:Cx}
end
section
variable{X:Cx}
end
theorem Ib{prog:Program}{E:Value->Shared->Prop}{l:Addr}{items:Array Value}(hl:s.heap.IsList l items)(h:∀s₂:Shared,s₂={s with heap:=s.heap.push {cls:=.type "list_iterator",data:=.fields #[.ref l,.int 0 0]}}->
   (s₂.heap.IsListIter s.heap.objs.size l 0/\s₂.heap.IsList l items)->l≠s.heap.objs.size->Q (.ref s.heap.objs.size) s₂):wpAny (model prog w) A (pyIter (.ref l)) Q E s:=by
 have hlt:l<s.heap.objs.size:=by obtain⟨_,e,_⟩:=hl;exact Heap.lt_size e
 exact wpAny_pyIter_list hl (h _ rfl ⟨⟨_,Heap.get?_push_size _ rfl,rfl,rfl⟩,hl.push _⟩ (Nat.ne_of_lt hlt))
theorem zg{prog:Program}{bs:List Bool}{its:List Value}(e:its=bs.map Value.bool):
  TruthOf prog w A (λi v=>its.toArray[i]?=some v) (λi=>bs.getD i false):=λi v s Q E hv hq=>by
 have hv':its[i]?=some v:=by simpa using hv
 rw[e,List.getElem?_map] at hv';obtain⟨b,hb,rfl⟩:=Option.map_eq_some_iff.mp hv';have hg:bs.getD i false=b:=by rw[List.getD_eq_getElem?_getD,hb] <;> rfl
 have hq':Q (bs.getD i false) s:=hq;rw[hg] at hq';exact wpAny_truthy_bool hq'
theorem all_range:∀bs:List Bool,(List.range bs.length).all (λi=>bs.getD i false)=bs.all id
 |[]=>rfl
 |b::bs=>by
  rw[List.length_cons,List.range_succ_eq_map,List.all_cons,List.all_map,List.all_cons,<-all_range bs]
  all_goals rfl
section
variable{X:Cx}
inductive Tz(K:Frag)(vs:List V)(H:Hp)(Q:VK):Prop
 |mk(a:Addr) (bs:List Bool) (_:vs=[V.ref a]) (_:bh K H a (bs.map V.bl)) (_:Q (.bl (bs.all id)) H)
theorem MM(hc:X.calm=true):q_ X (.builtin "all") (Tz X.K):=by
 intro UP s σ H vs us Q I r h;obtain⟨a,bs,rfl,hs,q⟩:=h;obtain⟨its,rv,hl,_⟩:=I.list hs;rw[Vals.Tu r];have hb:=rv.Ua;refine call_all_walk (Ib hl.isList λs₂ e2 st hne=>?_);subst e2;refine⟨_,_,_,_,_,_,_,rfl,Walks.list (A:=X.A.in1) (I.ok.hd hc) _ a hne its.toArray,st,zg hb,λh' tk hk=>?_⟩;refine⟨.bl _,H,I.kept λb o eo=>hk b o (λhmem=>?_) (Heap.get?_push_of_some _ eo),?_,q⟩
 ·rcases List.mem_cons.mp hmem with e1|hmem
  ·exact absurd (e1▸Heap.lt_size eo) (Nat.lt_irrefl _)
  ·cases hmem
 ·show Value.bool _=Value.bool _;rw[<-all_range,hb,List.size_toArray,List.length_map]
end
mutual
inductive Dp(K:Frag)(H:Hp):V->PyData->Prop
 |bH:Dp K H .bH .none
 |bl(b:Bool):Dp K H (.bl b) (.bool b)
 |int(i:Int):Dp K H (.int i) (.int i)
 |str(x:Str):Dp K H (.str x) (.str x)
 |lst{a:Addr} {xs:List V} {ds:List PyData}:bh K H a xs->rR K H xs ds->Dp K H (.ref a) (.list ds)
 |tup{a:Addr} {xs:List V} {ds:List PyData}:fN K H a xs->rR K H xs ds->Dp K H (.ref a) (.tuple ds)
inductive rR(K:Frag)(H:Hp):List V->List PyData->Prop
 |nil:rR K H [] []
 |cons{v:V} {vs:List V} {d:PyData} {ds:List PyData}:Dp K H v d->rR K H vs ds->rR K H (v::vs) (d::ds)
end
section
variable{X:Cx}{UP:List (Addr×Obj)}{σ:St}{H:Hp}{s:Shared}
mutual
theorem Dp.reads(I:Inv X UP σ H s):∀(d:PyData)(v:V)(u:Value),Dp X.K H v d->RelV v u->∃as,Reads s.heap u d as
 | .none,_,_,h,r=>by
  cases h;cases r;exact⟨_,Reads.none⟩
 | .bool b,_,_,h,r=>by
  cases h;cases r;exact⟨_,Reads.bool b⟩
 | .int i,_,_,h,r=>by
  cases h;obtain⟨t,rfl⟩:=r;exact⟨_,Reads.int i t⟩
 | .str x,_,_,h,r=>by
  cases h;obtain⟨t,rfl⟩:=r;exact⟨_,Reads.str x t⟩
 | .list ds,_,_,h,r=>by
  cases h with
  |lst hs ha=>
   cases r;obtain⟨its,rv,⟨o,n,ho,hc,_,hd⟩,_⟩:=I.list hs;obtain⟨as,hr⟩:=Dp.readsAll I ds _ its ha rv;exact⟨_,Reads.list ho hc hd hr⟩
 | .tuple ds,_,_,h,r=>by
  cases h with
  |tup hs ha=>
   cases r;obtain⟨its,rv,⟨o,ho,hc,n,hd⟩,_⟩:=I.tuple hs;obtain⟨as,hr⟩:=Dp.readsAll I ds _ its ha rv;exact⟨_,Reads.tuple ho hc hd hr⟩
 | .dict _,_,_,h,_=>by cases h
theorem Dp.readsAll(I:Inv X UP σ H s):∀(ds:List PyData)(vs:List V)(us:List Value),rR X.K H vs ds->Vals vs us->∃as,ReadsAll s.heap us ds as
 |[],_,_,h,r=>by
  cases h;cases r;exact⟨_,ReadsAll.nil⟩
 |d::ds,_,_,h,r=>by
  cases h with
  |cons h1 h2=>
   cases r with
   |cons r1 r2=>
    obtain⟨as,q1⟩:=Dp.reads I d _ _ h1 r1;obtain⟨bs,q2⟩:=Dp.readsAll I ds _ _ h2 r2;exact⟨_,ReadsAll.cons q1 q2⟩
end
end
section
variable{X:Cx}
inductive S2(K:Frag)(x:V)(y:V)(H:Hp)(Q:VK):Prop
 |mk(d:_) (e:_) (_:Dp K H x d) (_:Dp K H y e) (_:SeqAt.shaped d=true) (_:SeqAt.shaped e=true) (_:Q (.bl (PyData.eqv d e)) H)
inductive TY(K:Frag)(x:V)(y:V)(H:Hp)(Q:VK):Prop
 |mk(d:_) (e:_) (_:Dp K H x d) (_:Dp K H y e) (_:SeqAt.shaped d=true) (_:SeqAt.shaped e=true) (_:Q (.bl (!PyData.eqv d e)) H)
theorem NN(hu:X.A.units+64<cLine):jh X (compareOp .Eq) (S2 X.K):=by intro UP s σ H x y v u Q I rx ry h;obtain⟨d,e,hd,he,sd,se,q⟩:=h;obtain⟨as,r1⟩:=Dp.reads I d x v hd rx;obtain⟨bs,r2⟩:=Dp.reads I e y u he ry;exact SeqAt.compareEq_shaped r1 r2 sd se hu ⟨.bl _,H,I,rfl,q⟩
theorem OW(hu:X.A.units+64<cLine):jh X (compareOp .NotEq) (TY X.K):=by intro UP s σ H x y v u Q I rx ry h;obtain⟨d,e,hd,he,sd,se,q⟩:=h;obtain⟨as,r1⟩:=Dp.reads I d x v hd rx;obtain⟨bs,r2⟩:=Dp.reads I e y u he ry;exact SeqAt.compareNe_shaped r1 r2 sd se hu ⟨.bl _,H,I,rfl,q⟩
end
abbrev Gx(h:Heap)(c:Addr)(v:Option Value):Prop:=h.IsCell c v
def SJ(scope sc:Scope):Scope:=
 {scope with names:=scope.names.map λ(n,k)=>if(k==.free&&sc.kind==.function&&sc.names.lookup n==some .cell) then(n,.cell) else(n,k)}
def bu(cells:List (Str×Addr)):List (Str×NameKind)->List (Str×Addr)->List (Str×Addr)
 |[],acc=>acc
 |(n,k)::r,acc=>if k==.free then bu cells r ((n,(cells.lookup n).getD 0)::acc) else bu cells r acc
theorem kE(env:Env)(f:Str×NameKind->List (Str×Addr)->Sem (ForInStep (List (Str×Addr))))(hf:∀n k c,f (n,k) c=if k==.free then(do let a<-cellOf env n;pure (.yield ((n,a)::c))) else pure (.yield c)):
  ∀(names:List (Str×NameKind))(acc:List (Str×Addr)),(∀y∈names,y.2= .free->∃c,env.cells.lookup y.1=some c)->forIn names acc f=pure (bu env.cells names acc)
 |[],acc,_=>by rw[List.forIn_nil];rfl
 |(n,k)::r,acc,h=>by
  rw[List.forIn_cons,hf];have ih:=λacc=>kE env f hf r acc λy hy=>h y (List.mem_cons_of_mem _ hy);unfold bu;by_cases hk:(k==NameKind.free)=true
  ·rw[if_pos hk,if_pos hk];obtain⟨c,hc⟩:=h (n,k) List.mem_cons_self (by simpa using hk);have e:cellOf env n=pure c:=by unfold cellOf;rw[hc]
   rw[e];have e2:(env.cells.lookup n).getD 0=c:=by rw[hc];rfl
   rw[e2];exact ih _
  ·rw[if_neg hk,if_neg hk];exact ih _
theorem B3{scope:Scope}{env:Env}(h:∀y∈scope.names,y.2= .free->∃c,env.cells.lookup y.1=some c):closureFor scope env=pure (bu env.cells scope.names []):=by simp only[closureFor];rw[kE env _ (λn k c=>rfl) scope.names [] h];rfl
theorem mem_lookup{α:Type}:∀{l:List (Str×α)}{n:Str}{c:α},(n,c)∈l->∃c',l.lookup n=some c'
 |(k,v)::r,n,c,h=>by
  rw[List.lookup_cons];cases hb:n==k with
  |true=>exact⟨_,rfl⟩
  |false=>
   rcases List.mem_cons.mp h with e|h
   ·cases e;simp at hb
   ·exact mem_lookup h
theorem fG{cells:List (Str×Addr)}:∀{names:List (Str×NameKind)}{acc:List (Str×Addr)}{n:Str}{c:Addr},(n,c)∈bu cells names acc->(n,c)∈acc\/((n,.free)∈names/\c=(cells.lookup n).getD 0)
 |[],_,_,_,h=>.inl h
 |(m,k)::r,acc,n,c,h=>by
  unfold bu at h;split at h
  ·rename_i hk;have hk:k= .free:=by simpa using hk
   rcases fG h with h|⟨h1,h2⟩
   ·rcases List.mem_cons.mp h with e|h
    ·cases e;exact .inr ⟨hk▸List.mem_cons_self,rfl⟩
    ·exact .inl h
   ·exact .inr ⟨List.mem_cons_of_mem _ h1,h2⟩
  ·rcases fG h with h|⟨h1,h2⟩
   ·exact .inl h
   ·exact .inr ⟨List.mem_cons_of_mem _ h1,h2⟩
theorem iF{cells:List (Str×Addr)}:∀{names:List (Str×NameKind)}{acc:List (Str×Addr)}{p:Str×Addr},p∈acc->p∈bu cells names acc
 |[],_,_,h=>h
 |(m,k)::r,acc,p,h=>by
  unfold bu;split
  ·exact iF (List.mem_cons_of_mem _ h)
  ·exact iF h
theorem iS{cells:List (Str×Addr)}:∀{names:List (Str×NameKind)}{acc:List (Str×Addr)}{n:Str},(n,.free)∈names->(n,(cells.lookup n).getD 0)∈bu cells names acc
 |(m,k)::r,acc,n,h=>by
  unfold bu;rcases List.mem_cons.mp h with e|h
  ·cases e;exact iF List.mem_cons_self
  ·split
   ·exact iS h
   ·exact iS h
theorem f7:∀{names:List (Str×NameKind)}{h:Heap}{acc:List (Str×Addr)}{x:Str}{c:Addr},(x,c)∈cellsFrom h.objs.size names acc->
  (x,c)∈acc\/((x,.cell)∈names/\h.objs.size<=c/\Gx (pushCells h names) c none)
 |[],_,_,_,_,h=>.inl h
 |(n,k)::r,h,acc,x,c,hm=>by
  unfold cellsFrom at hm;unfold pushCells;split at hm
  ·rename_i hk;rw[if_pos hk];have hk:k= .cell:=by simpa using hk
   rw[<-Heap.size_push h {cls:=.type "cell",data:=.cell none}] at hm;rcases f7 hm with hm|⟨h1,h2,h3⟩
   ·rcases List.mem_cons.mp hm with e|hm
    ·cases e;exact .inr ⟨hk▸List.mem_cons_self,Nat.le_refl _,_,pushCells_keeps r _ _ _ (Heap.get?_push_size _ rfl),rfl⟩
    ·exact .inl hm
   ·rw[Heap.size_push] at h2;exact .inr ⟨List.mem_cons_of_mem _ h1,Nat.le_of_succ_le h2,h3⟩
  ·rename_i hk;rw[if_neg hk];rcases f7 hm with hm|⟨h1,h2,h3⟩
   ·exact .inl hm
   ·exact .inr ⟨List.mem_cons_of_mem _ h1,h2,h3⟩
theorem i7:∀{names:List (Str×NameKind)}{n:Nat}{acc:List (Str×Addr)}{p:Str×Addr},p∈acc->p∈cellsFrom n names acc
 |[],_,_,_,h=>h
 |(m,k)::r,n,acc,p,h=>by
  unfold cellsFrom;split
  ·exact i7 (List.mem_cons_of_mem _ h)
  ·exact i7 h
theorem nV:∀{names:List (Str×NameKind)}{n:Nat}{acc:List (Str×Addr)}{x:Str},(x,.cell)∈names->∃c,(x,c)∈cellsFrom n names acc
 |(m,k)::r,n,acc,x,h=>by
  unfold cellsFrom;rcases List.mem_cons.mp h with e|h
  ·cases e;exact⟨n,i7 List.mem_cons_self⟩
  ·split
   ·exact nV h
   ·exact nV h
theorem nz:∀{names:List (Str×NameKind)}{h:Heap}{acc:List (Str×Addr)}{x y:Str}{c:Addr},(∀p∈acc,p.2<h.objs.size)->(∀x y c,(x,c)∈acc->(y,c)∈acc->x=y)->
  (x,c)∈cellsFrom h.objs.size names acc->(y,c)∈cellsFrom h.objs.size names acc->x=y
 |[],_,_,_,_,_,_,hi,h1,h2=>hi _ _ _ h1 h2
 |(n,k)::r,h,acc,x,y,c,hl,hi,h1,h2=>by
  unfold cellsFrom at h1 h2;split at h1
  ·rename_i hk;rw[if_pos hk] at h2;rw[<-Heap.size_push h {cls:=.type "cell",data:=.cell none}] at h1 h2;refine nz (h:=h.push _) (λp hp=>?_) (λx y c a b=>?_) h1 h2
   ·rw[Heap.size_push];rcases List.mem_cons.mp hp with rfl|hp
    ·exact Nat.lt_succ_self _
    ·exact Nat.lt_succ_of_lt (hl p hp)
   ·rcases List.mem_cons.mp a with e|a <;> rcases List.mem_cons.mp b with e'|b
    ·cases e;cases e';rfl
    ·cases e;exact absurd (hl _ b) (Nat.lt_irrefl _)
    ·cases e';exact absurd (hl _ a) (Nat.lt_irrefl _)
    ·exact hi _ _ _ a b
  ·rename_i hk;rw[if_neg hk] at h2;exact nz hl hi h1 h2
theorem Al{M:Model}{E:Value->Shared->Prop}{scope:Scope}{globals:Addr}{closure:List (Str×Addr)}{qual:Str}{func:Option Addr}{code:Value}{around:Env}{builtins:Addr}{Q:Env->Shared->Prop}(h:Q (newEnv scope s.heap.objs.size globals (cellsFrom (s.heap.objs.size+1) scope.names closure) qual func code (some around) builtins)
   {s with heap:=pushCells (s.heap.push {cls:=.type "dict",data:=.dict #[]}) scope.names}):
  wpAny M A (newFunctionEnv scope globals closure [] qual func code (some around) builtins) Q E s:=by
 simp only[newFunctionEnv,Option.isSome_some,if_true];refine wpAny_bind (wpAny_alloc ?_);refine wpAny_bind (wpAny_layCells _ (λn k c=>rfl) scope.names closure _ _ ?_);rw[show({s with heap:=s.heap.push {cls:=.type "dict",data:=.dict #[]}}:Shared).heap.objs.size=s.heap.objs.size+1 from Heap.size_push ..];rw[List.forIn_nil];exact wpAny_bind (wpAny_pure (wpAny_pure h))
theorem iH{sc:Scope}:∀{names:List (Str×NameKind)}{x:Str}{k:NameKind},
  (names.map λ(n,k)=>if(k==NameKind.free&&sc.kind==.function&&sc.names.lookup n==some .cell) then(n,NameKind.cell) else(n,k)).lookup x=some k->
  ∃k',names.lookup x=some k'/\(k=k'\/(k'= .free/\k= .cell))
 |[],_,_,h=>by simp at h
 |(n,k₀)::r,x,k,h=>by
  have ih:=@iH sc r x k;have h':List.lookup x ((if(k₀==NameKind.free&&sc.kind==.function&&sc.names.lookup n==some .cell)=true then(n,NameKind.cell) else(n,k₀))::(r.map _))=some k:=h;cases hx:x==n with
  |true=>
   simp only[List.lookup_cons,hx];by_cases hc:(k₀==NameKind.free&&sc.kind==.function&&sc.names.lookup n==some .cell)=true
   ·rw[if_pos hc] at h';simp only[List.lookup_cons,hx] at h';cases h';simp only[Bool.and_eq_true,beq_iff_eq] at hc;exact⟨k₀,rfl,.inr ⟨hc.1.1,rfl⟩⟩
   ·rw[if_neg hc] at h';simp only[List.lookup_cons,hx] at h';cases h';exact⟨_,rfl,.inl rfl⟩
  |false=>
   simp only[List.lookup_cons,hx];by_cases hc:(k₀==NameKind.free&&sc.kind==.function&&sc.names.lookup n==some .cell)=true
   ·rw[if_pos hc] at h';simp only[List.lookup_cons,hx] at h';exact ih h'
   ·rw[if_neg hc] at h';simp only[List.lookup_cons,hx] at h';exact ih h'
structure u7(N:List Str)(sc scope:Scope)(own:List (Str×Nat)):Prop where
 kind:scope.kind= .function
 uniq:∀y∈scope.names,scope.names.lookup y.1=some y.2
 ix:∀p∈own,N[p.2]?=some p.1
 free:∀y∈scope.names,y.2= .free->sc.names.lookup y.1=some .cell\/sc.names.lookup y.1=some .free
 own:∀y∈scope.names,y.2= .local\/y.2= .cell->y.1∈own.map (·.1)\/y.1∉N
def wipe(σ:St):List Nat->St
 |[]=>σ
 |v::vs=>(wipe σ vs).set v none
theorem iY(σ:St):∀vs:List Nat,(wipe σ vs).length=σ.length
 |[]=>rfl
 |v::vs=>by unfold wipe;rw[List.length_set,iY σ vs]
theorem oa{σ:St}{i:Nat}{x:V}:∀{vs:List Nat},(wipe σ vs)[i]?=some (some x)->σ[i]?=some (some x)/\i∉vs
 |[],h=>⟨h,by simp⟩
 |v::vs,h=>by
  unfold wipe at h;by_cases hi:v=i
  ·subst hi;by_cases hv:v<(wipe σ vs).length
   ·rw[List.getElem?_set_self hv] at h;cases h
   ·rw[List.getElem?_eq_none (by simpa using hv)] at h;cases h
  ·rw[List.getElem?_set_ne hi] at h;obtain⟨h1,h2⟩:=oa h;exact⟨h1,by simp only[List.mem_cons,not_or];exact⟨λe=>hi e.symm,h2⟩⟩
abbrev Cx.AA(X:Cx)(s:Shared)(H:Hp)(scope:Scope)(cenv:Env)(fp:List Addr):Cx:={X with nO:=s,Rx:=H,env:=cenv,outer:=X.stack,ex:=fp,fn:=λx=>scope.names.lookup x==some .cell,pn:=[],xe:=λ_ _=>False}
section
variable{X:Cx}{UP:List (Addr×Obj)}{σ:St}{H:Hp}{s:Shared}
theorem zW{scope:Scope}{own:List (Str×Nat)}{fp:List Addr}(I:Inv X UP σ H s)(ok:u7 X.N X.env.scope scope own)(hN:X.N.Nodup)(hfp:∀b∈fp,uo X UP H b/\b<s.heap.objs.size):
  Inv (X.AA s H scope (compEnvC scope (cellsFrom (s.heap.objs.size+1) scope.names (bu X.env.cells scope.names [])) s.heap.objs.size X.env) fp) [] (wipe σ (own.map (·.2))) H {s with heap:=pushCells (s.heap.push {cls:=.type "dict",data:=.dict #[]}) scope.names}:=by
 have hfree:∀y∈scope.names,y.2= .free->∃c,X.env.cells.lookup y.1=some c:=λy hy e=>by
  rcases ok.free y hy e with k|k
  ·exact I.ok.has _ (.inl k)
  ·exact I.ok.has _ (.inr k)
 generalize hcenv:compEnvC scope (cellsFrom (s.heap.objs.size+1) scope.names (bu X.env.cells scope.names [])) s.heap.objs.size X.env=cenv;have kp:∀b o,s.heap.get? b=some o->(pushCells (s.heap.push {cls:=.type "dict",data:=.dict #[]}) scope.names).get? b=some o:=λb o e=>pushCells_keeps _ _ _ _ (Heap.get?_push_of_some _ e);have hL:cenv.locals=s.heap.objs.size:=by rw[<-hcenv];rfl
 have hcl:cenv.cells=cellsFrom (s.heap.objs.size+1) scope.names (bu X.env.cells scope.names []):=by rw[<-hcenv];rfl
 have hsc:cenv.scope=SJ scope X.env.scope:=by rw[<-hcenv];rfl
 rw[<-Heap.size_push s.heap {cls:=.type "dict",data:=.dict #[]}] at hcl;have cm:∀{y c},(y,c)∈bu X.env.cells scope.names []->X.env.cells.lookup y=some c/\c<s.heap.objs.size:=λ{y c} hm=>by
  rcases fG hm with hm|⟨h1,rfl⟩
  ·cases hm
  ·obtain⟨c,hc⟩:=hfree _ h1 rfl;rw[hc];obtain⟨w,z⟩:=I.cell _ _ hc;exact⟨rfl,z.lt⟩
 have mem:∀{y c},cenv.cells.lookup y=some c->(X.env.cells.lookup y=some c/\c<s.heap.objs.size)\/(s.heap.objs.size+1<=c/\Gx (pushCells (s.heap.push {cls:=.type "dict",data:=.dict #[]}) scope.names) c none):=λ{y c} e=>by
  rw[hcl] at e;rcases f7 (PySem.mem_of_lookup e) with hm|⟨_,h2,h3⟩
  ·exact .inl (cm hm)
  ·rw[Heap.size_push] at h2;exact .inr ⟨h2,h3⟩
 have look:∀{y},scope.names.lookup y=some .free->∃c,cenv.cells.lookup y=some c/\X.env.cells.lookup y=some c:=λ{y} hl=>by
  have hy:(y,NameKind.free)∈scope.names:=PySem.mem_of_lookup hl;obtain⟨c',e'⟩:=mem_lookup (i7 (names:=scope.names) (n:=(s.heap.push {cls:=.type "dict",data:=.dict #[]}).objs.size) (iS (cells:=X.env.cells) (acc:=[]) hy));rw[<-hcl] at e';refine⟨c',e',?_⟩;rw[hcl] at e';rcases f7 (PySem.mem_of_lookup e') with hm|⟨h1,_,_⟩
  ·exact(cm hm).1
  ·have:=ok.uniq _ h1;rw[hl] at this;cases this
 have okB:(X.AA s H scope cenv fp).Ok:=by
  refine⟨I.ok.mod,by show cenv.scope.kind=_;rw[hsc];exact ok.kind,by show cenv.globals=_;rw[<-hcenv];exact I.ok.glob,by show cenv.builtins=_;rw[<-hcenv];exact I.ok.blt,by show s.heap.objs.size<=cenv.locals;rw[hL];exact Nat.le_refl _,
   λy z c e1 e2=>?_,λy hy=>?_,λy c z e=>?_,I.ok.hd,I.ok.frames,.inl rfl,λb hb=>⟨?_,λy c e z=>?_⟩,I.bs,Nat.le_trans I.ok.FE I.sz,λb o e hb=>?_,λb hb z=>?_,I.stack,I.vF⟩
  ·have e1:cenv.cells.lookup y=some c:=e1;have e2:cenv.cells.lookup z=some c:=e2;rw[hcl] at e1 e2;refine nz (λp hp=>?_) (λy z c a b=>I.ok.inj y z c (cm a).1 (cm b).1) (PySem.mem_of_lookup e1) (PySem.mem_of_lookup e2);rw[Heap.size_push];exact Nat.lt_succ_of_lt (cm (y:=p.1) (c:=p.2) hp).2
  ·show ∃c,cenv.cells.lookup y=some c;have key:∀k,cenv.kindOf y=some k->(k= .cell\/k= .free)->∃c,cenv.cells.lookup y=some c:=λk hk hk'=>by
    unfold Env.kindOf at hk;rw[hsc] at hk;obtain⟨k',e,r⟩:=iH hk;have:k'= .cell\/k'= .free:=by
     rcases r with rfl|⟨rfl,_⟩
     ·exact hk'
     ·exact .inr rfl
    rcases this with rfl|rfl
    ·obtain⟨c,hm⟩:=nV (n:=(s.heap.push {cls:=.type "dict",data:=.dict #[]}).objs.size) (acc:=bu X.env.cells scope.names []) (PySem.mem_of_lookup e);obtain⟨c',e'⟩:=mem_lookup hm;exact⟨c',by rw[hcl];exact e'⟩
    ·obtain⟨c,h1,_⟩:=look e;exact⟨c,h1⟩
   rcases hy with hy|hy
   ·exact key _ hy (.inl rfl)
   ·exact key _ hy (.inr rfl)
  ·have z:(scope.names.lookup y==some NameKind.cell)=true:=z;have z:scope.names.lookup y=some .cell:=by simpa using z
   have e:cenv.cells.lookup y=some c:=e;rw[hcl] at e;rcases f7 (PySem.mem_of_lookup e) with hm|⟨_,h2,_⟩
   ·rcases fG hm with hm|⟨h1,_⟩
    ·cases hm
    ·have q:=ok.uniq _ h1;rw[z] at q;cases q
   ·rw[Heap.size_push] at h2;exact Nat.le_of_succ_le h2
  ·show b≠cenv.locals;rw[hL];exact Nat.ne_of_lt (hfp b hb).2
  ·have e:cenv.cells.lookup y=some c:=e;rcases mem e with⟨h1,_⟩|⟨h1,_⟩
   ·exact(hfp b hb).1.2.2.2.2.1 y c h1 z
   ·have h2:s.heap.objs.size+1<=b:=by rw[<-z];exact h1
    exact absurd (Nat.lt_of_lt_of_le (hfp b hb).2 (Nat.le_of_succ_le h2)) (Nat.lt_irrefl _)
  ·rcases(hfp b hb).1.2.2.2.1 with z|z
   ·exact I.ok.Ba b o e z
   ·exact absurd (Nat.lt_of_lt_of_le (Heap.lt_size e) (Nat.le_trans I.ok.FE z)) (Nat.lt_irrefl _)
  ·rcases List.mem_cons.mp (I.wc b z) with z|z
   ·exact(hfp b hb).1.2.1 z
   ·exact(hfp b hb).1.2.2.1 z
 refine⟨okB,rfl,I.bare,Un.kept kp,⟨λ_=>none,?_,λi y av e1 e2 e3=>?_⟩,λy c e=>?_,?_,λy c e=>?_,λp hp=>?_,I.aZ.kept kp,by rw[iY];exact I.len⟩
 ·show Heap.Ns _ cenv.locals _;rw[hL];exact Heap.Ns.keeps (Heap.Ns.new ..) λb o e=>pushCells_keeps _ _ _ _ e
 ·obtain⟨e2,hne⟩:=oa e2;have hfr:scope.names.lookup y=some .free/\(cenv.kindOf y=some .cell\/cenv.kindOf y=some .free):=by
   have key:∀k,cenv.scope.names.lookup y=some k->k= .local\/k= .cell\/k= .free->scope.names.lookup y=some .free/\(cenv.kindOf y=some .cell\/cenv.kindOf y=some .free):=λk hk hk'=>by
    have hk0:=hk;rw[hsc] at hk;obtain⟨k',e,r⟩:=iH hk;have no:¬(k'= .local\/k'= .cell):=λhh=>by
     rcases ok.own _ (PySem.mem_of_lookup e) hh with e'|e'
     ·obtain⟨p,hp,hpy⟩:=List.mem_map.mp e';have e3:=ok.ix p hp;have:p.1=y:=hpy;rw[this] at e3;exact hne (List.mem_map.mpr ⟨p,hp,qB hN e3 e1⟩)
     ·exact e' (List.mem_of_getElem? e1)
    rcases r with rfl|⟨rfl,rfl⟩
    ·rcases hk' with rfl|rfl|rfl
     ·exact absurd (.inl rfl) no
     ·exact absurd (.inr rfl) no
     ·exact⟨e,.inr hk0⟩
    ·exact⟨e,.inl hk0⟩
   have e3:Ni cenv.scope y:=e3;rcases e3 with e3|e3|e3
   ·exact key _ e3 (.inl rfl)
   ·exact key _ e3 (.inr (.inl rfl))
   ·exact key _ e3 (.inr (.inr rfl))
  obtain⟨m,hn,hl⟩:=I.loc;have hvis:Ni X.env.scope y:=(ok.free _ (PySem.mem_of_lookup hfr.1) rfl).elim (λk=>.inr (.inl k)) (λk=>.inr (.inr k));obtain⟨w,r,q⟩:=hl i y av e1 e2 hvis;refine⟨w,r,.inr ⟨hfr.2,?_⟩⟩;obtain⟨c,h1,h2⟩:=look hfr.1;rcases q with⟨k,_⟩|⟨_,c',e',z⟩
  ·have k:X.env.scope.names.lookup y=some .local:=k;rcases ok.free _ (PySem.mem_of_lookup hfr.1) rfl with k'|k' <;> rw[show X.env.scope.names.lookup y=_ from k'] at k <;> cases k
  ·rw[h2] at e';cases e';exact⟨c,h1,z.keeps kp⟩
 ·have e:cenv.cells.lookup y=some c:=e;rcases mem e with⟨h1,_⟩|⟨_,z⟩
  ·obtain⟨w,z⟩:=I.cell y c h1;exact⟨w,z.keeps kp⟩
  ·exact⟨_,z⟩
 ·show H cenv.locals=none;rw[hL];exact I.aZ.fresh (Nat.le_refl _)
 ·have e:cenv.cells.lookup y=some c:=e;rcases mem e with⟨h1,_⟩|⟨h1,_⟩
  ·exact I.fm y c h1
  ·exact I.aZ.fresh (Nat.le_of_succ_le h1)
 ·exact absurd (show p∈([]:List (Addr×Obj))++[] from hp) (by simp)
theorem Ms{E:Value->Shared->Prop}{D:Addr}{xs:List V}{y:V}{v:Value}(I:Inv X UP σ H s)(hD:H D=some (.lst xs))(hz:xs.length<sizeLine)(r:RelV y v)(h:∀s',Inv X UP σ (upd H D (.lst (xs++[y]))) s'->Q .none s'):wpAny (model X.prog X.w) X.A (call (.builtin "list.append") [.ref D,v]) Q E s:=by obtain⟨hz',its,n,ri,e⟩:=I.aZ D _ hD;have hl:=ri.length;refine append_at (hsz:=by rw[List.size_toArray];omega) e λh' sb ho'=>?_;refine h {s with heap:=h'} (I.write (t':=s.toks) (by rw[hD];trivial) (.inl rfl) (λb u hb q=>(sb.2 b hb).trans q) ⟨_,ho'⟩ ⟨by rw[List.length_append];exact hz,its++[v],n+1,ri.append (.cons r .nil),?_⟩);rw[ho'];simp
def Sx(X:Cx)(ifs:List Expr)(t:TT):Prop:=
 ∀(UP:List (Addr×Obj))(s:Shared)(σ:St)(H:Hp)(Q:Bool->Hp->Prop),Inv X UP σ H s->t σ H Q->
  wpAny (model X.prog X.w) X.A (forIn ifs true λc r=>if r=true then do let ok<-isTrue c X.env (eval c X.env);pure (ForInStep.yield ok) else pure (ForInStep.yield r)) (TP X UP σ Q) X.xe s
def RK:TT:=λ_ H Q=>Q true H
theorem DR:Sx X [] RK:=λ_ _ _ H _ I h=>wpAny_tests_nil ⟨H,I,h⟩
end
theorem Fx{α:Type}{t:Sem α}{Q Q':α->Shared->Prop}{M:Model}{E:Value->Shared->Prop}(h:wpAny M A t Q (λ_ _=>False) s)(hQ:∀a s,Q a s->Q' a s):wpAny M A t Q' E s:=wpAny_mono h hQ λ_ _ z=>False.elim z
theorem wA{prog:Program}{R:Result->Shared->Prop}{elt target iter:Expr}{ifs:List Expr}{scope:Scope}{pos:Pos}{it acc:Value}{env:Env}(I:Nat->Shared->Prop)(turn:∀n s,I n s->wpAny (model prog w) A (pyNext it) (λr s₁=>match r with
   |none=>R (.ok .next) s₁
   |some v=>wpAny (model prog w) A (letOwnedTupleGo target it v) (λ_ s₁'=>wpAny (model prog w) A (assign target env v) (λ_ s₂=>
     wpAny (model prog w) A (forIn ifs true λc r=>if r=true then do let ok<-isTrue c env (eval c env);pure (ForInStep.yield ok) else pure (ForInStep.yield r)) (λok s₃=>
      if ok=true then wpAny (model prog w) A (eval elt env) (λx s₄=>
       wpAny (model prog w) A (call (.builtin "list.append") [acc,x]) (λ_ s₅=>∃m,m<n/\I m s₅) (notedBy (model prog w) A env λe s'=>R (.error e) s') s₄) (notedBy (model prog w) A env λe s'=>R (.error e) s') s₃
      else ∃m,m<n/\I m s₃) (notedBy (model prog w) A env λe s'=>R (.error e) s') s₂) (notedBy (model prog w) A env λe s'=>R (.error e) s') s₁') (notedBy (model prog w) A env λe s'=>R (.error e) s') s₁) (notedBy (model prog w) A env λe s'=>R (.error e) s') s)(n:Nat)(h:I n s):
  codeAny (model prog w) A (.compLoop (.ListComp elt [⟨target,iter,ifs,0⟩] scope pos) 0 it acc env) R s:=by
 refine codeAny_loop rfl I (λn s hI=>?_) n h;show wpAny _ A ((compTurn (.ListComp elt [⟨target,iter,ifs,0⟩] scope pos) 0 it acc env).onRaise (λx=>do noteFrame x env;theTreesLotGoes x)) _ _ s;refine wpAny_noted ?_;rw[compTurn_list];refine wpAny_bind (wpAny_standAt (wpAny_bind (wpAny_mono (turn n s hI) (λr s₁ h₁=>?_) λ_ _ h'=>h')));cases r with
 |none=>exact wpAny_pure h₁
 |some v=>
  refine wpAny_bind (wpAny_mono h₁ (λ_ s₁' h₁'=>?_) λ_ _ h'=>h');refine wpAny_bind (wpAny_mono h₁' (λ_ s₂ h₂=>wpAny_bind (wpAny_mono h₂ (λok s₃ h₃=>?_) λ_ _ h'=>h')) λ_ _ h'=>h');cases ok with
  |false=>exact wpAny_pure ⟨rfl,h₃⟩
  |true=>
   exact wpAny_bind (wpAny_bind (wpAny_mono h₃ (λx s₄ h₄=>wpAny_bind (wpAny_mono h₄ (λ_ s₅ h₅=>wpAny_pure (wpAny_pure ⟨rfl,h₅⟩)) λ_ _ h'=>h')) λ_ _ h'=>h'))
section
variable{X:Cx}
def Ue(wi:TI)(g:TG)(tt:TT)(te:TE)(vs:List Nat):TE:=λσ H Q=>wi σ H λJ H1=>∀D,H1 D=none->∃W:Nat->Nat->Hp->Prop,(∃m,W 0 m (upd H1 D (.lst [])))/\∀i m H,W i m H->
 (J.stop i H/\Q (.ref D) H)\/(J.go i H/\∃Nx:Hp->Prop,(∀H',Nx H'->∃m',m'<m/\W (i+1) m' H')/\∀x H',J.LN i H x H'->g x (wipe σ vs) H' λσ2 H2=>wipe σ2 vs=wipe σ vs/\tt σ2 H2 λb H3=>
  if b=true then te σ2 H3 λy H4=>∃acc,H4 D=some (.lst acc)/\acc.length<sizeLine/\Nx (upd H4 D (.lst (acc++[y]))) else Nx H3)
theorem Ku{σ:St}{Q:VK}{elt tg iter:Expr}{ifs:List Expr}{scope:Scope}{own:List (Str×Nat)}{pos pos':Pos}{wi:TI}{g:TG}{tt:TT}{te:TE}{use:Option (Value->Sem Unit)}{Qf:Value->Shared->Prop}(hc:X.calm=true)(hN:X.N.Nodup)(I:Inv X UP σ H s)(hi:PI X tg iter wi)(ok:u7 X.N X.env.scope scope own)(hg:∀(s:Shared)(H:Hp)(C:Addr)(cl:List (Str×Addr))(fp:List Addr),PG (X.AA s H scope (compEnvC scope cl C X.env) fp) tg g)(ht:∀(s:Shared)(H:Hp)(C:Addr)(cl:List (Str×Addr))(fp:List Addr),Sx (X.AA s H scope (compEnvC scope cl C X.env) fp) ifs tt)(he:∀(s:Shared)(H:Hp)(C:Addr)(cl:List (Str×Addr))(fp:List Addr),PE (X.AA s H scope (compEnvC scope cl C X.env) fp) elt te)(hs:∀x,foldedSetIterable iter X.env x=pure x)(h:Ue wi g tt te (own.map (·.2)) σ H Q)(hRR:∀D C s' m H',Inv X UP σ H' s'->Q (.ref D) H'->s'.heap.Ns C m->uo X UP H' C->compPost (model X.prog X.w) X.A X.xe use Qf (.ref D) C (.ok .next) s'):
  wpAny (model X.prog X.w) X.A (comprehension (.ListComp elt [⟨tg,iter,ifs,0⟩] scope pos) scope X.env pos' (newList []) false (eval iter X.env) use) Qf X.xe s:=by
 have hfree:∀y∈scope.names,y.2= .free->∃c,X.env.cells.lookup y.1=some c:=λy hy e=>by
  rcases ok.free y hy e with k|k
  ·exact I.ok.has _ (.inl k)
  ·exact I.ok.has _ (.inr k)
 refine wpAny_comprehension_free (use:=use) rfl hs (B3 hfree) ok.kind (λy hy e=>by rw[ok.uniq y hy,e])
  (br (hi UP s σ H _ I h) λxv s1 hx=>br hx λitv s2 h2=>?_)
 obtain⟨it,fp,tn,J,H2,e,I2,T,st2,f2,q⟩:=h2;subst e;refine wpAny_newObj_type (Al ?_) (by show 0<=sizeLine;decide);generalize hD:s2.heap.objs.size=D;have hDn:H2 D=none:=I2.aZ.fresh (Nat.le_of_eq hD);obtain⟨W,⟨m0,w0⟩,turn⟩:=q D hDn;generalize hs3:({s2 with heap:=s2.heap.push {cls:=.type "list",data:=.seq ([]:List Value).toArray}}:Shared)=s3;have I3:Inv X UP σ (upd H2 D (.lst [])) s3:=by
  rw[<-hs3];refine I2.laid (t':=s2.toks) (λb o e=>Heap.get?_push_of_some _ e) (Nat.le_of_eq hD) ⟨Nat.zero_le _,[],0,.nil,?_⟩;rw[<-hD];exact Heap.get?_push_size _ rfl
 have h3:s3.heap=s2.heap.push {cls:=.type "list",data:=.seq ([]:List Value).toArray}:=by rw[<-hs3]
 have sz:∀b∈fp,b<s2.heap.objs.size:=λb hb=>by
  obtain⟨o,e,_⟩:=T.obj _ _ st2 b hb;exact Heap.lt_size e
 have f3:∀b∈fp,uo X UP (upd H2 D (.lst [])) b/\b<s3.heap.objs.size:=λb hb=>by
  have hlt:=sz b hb;refine⟨⟨?_,(f2 b hb).2⟩,by rw[h3,Heap.size_push];exact Nat.lt_succ_of_lt hlt⟩;rw[ah (by rw[<-hD];exact Nat.ne_of_lt hlt)];exact(f2 b hb).1
 have st3:tn 0 s3.heap:=T.keep _ _ _ st2 λb _ o e=>by rw[h3];exact Heap.get?_push_of_some _ e
 have I4:=zW I3 ok hN f3;have pg:=hg s3 (upd H2 D (.lst [])) s3.heap.objs.size (cellsFrom (s3.heap.objs.size+1) scope.names (bu X.env.cells scope.names [])) fp;have pt:=ht s3 (upd H2 D (.lst [])) s3.heap.objs.size (cellsFrom (s3.heap.objs.size+1) scope.names (bu X.env.cells scope.names [])) fp;have pe:=he s3 (upd H2 D (.lst [])) s3.heap.objs.size (cellsFrom (s3.heap.objs.size+1) scope.names (bu X.env.cells scope.names [])) fp;show codeAny _ _ (.compStart (.ListComp elt [⟨tg,iter,ifs,0⟩] scope pos) 0 (.ref it) (.ref D) (compEnvC scope (cellsFrom (s3.heap.objs.size+1) scope.names (bu X.env.cells scope.names [])) s3.heap.objs.size X.env)) (compPost (model X.prog X.w) X.A X.xe use Qf (.ref D) s3.heap.objs.size) {s3 with heap:=pushCells (s3.heap.push {cls:=.type "dict",data:=.dict #[]}) scope.names};have nfp:∀b∈fp,(upd H2 D (.lst [])) b=none:=λb hb=>(f3 b hb).1.1;generalize hce:compEnvC scope (cellsFrom (s3.heap.objs.size+1) scope.names (bu X.env.cells scope.names [])) s3.heap.objs.size X.env=ce at I4 pg pt pe ⊢;have cL:ce.locals=s3.heap.objs.size:=by subst hce;rfl
 generalize hH3:upd H2 D (.lst [])=H3 at I3 I4 pg pt pe w0 nfp f3;generalize hs4:({s3 with heap:=pushCells (s3.heap.push {cls:=.type "dict",data:=.dict #[]}) scope.names}:Shared)=s4 at I4 ⊢;have st4:tn 0 s4.heap:=T.keep _ _ _ st3 λb _ o e=>by rw[<-hs4];exact pushCells_keeps _ _ _ _ (Heap.get?_push_of_some _ e)
 have stat:∀{σ':St}{H':Hp}{s':Shared},Inv (X.AA s3 H3 scope ce fp) [] σ' H' s'->(∀b∈fp,H' b=none)->∀b∈fp,uo (X.AA s3 H3 scope ce fp) [] H' b:=λ{σ' H' s'} I' hn b hb=>
  ⟨hn b hb,(I'.ok.Pn b hb).1,I'.ok.AD b hb,.inl hb,λx c e=>(I'.ok.Pn b hb).2 x c e,λp hp=>absurd (show p∈([]:List (Addr×Obj))++[] from hp) (by simp)⟩
 have loop:codeAny (model X.prog X.w) X.A (.compLoop (.ListComp elt [⟨tg,iter,ifs,0⟩] scope pos) 0 (.ref it) (.ref D) ce) (compPost (model X.prog X.w) X.A X.xe use Qf (.ref D) s3.heap.objs.size) s4:=by
  refine wA (λn s'=>∃i H',Inv (X.AA s3 H3 scope ce fp) [] (wipe σ (own.map (·.2))) H' s'/\tn i s'.heap/\(∀b∈fp,H' b=none)/\W i n H') ?_ m0 ⟨0,H3,I4,st4,nfp,w0⟩;rintro n s5 ⟨i,H5,I5,st5,n5,w5⟩;rcases turn i n H5 w5 with⟨stop,qq⟩|⟨go,Nx,hNx,step⟩
  ·have td:=T.done (X.AA s3 H3 scope ce fp) rfl rfl rfl hc i [] s5 _ H5 (λ_ _=>False) I5 (stat I5 n5) st5 stop;refine Fx td λr s6 ⟨hr,I6⟩=>?_;subst hr;have I7:Inv X UP σ H5 s6:=I3.LP (ch:=fp) I6.os I6.base I6.aZ I6.bare λb hb=>⟨(f3 b hb).1.2.2.2.1,(f3 b hb).1.2.1,(f3 b hb).1.2.2.2.2.1,(f3 b hb).1.2.2.2.2.2⟩
   have nC:H5 s3.heap.objs.size=none:=by
    have z:H5 ce.locals=none:=I6.free;rw[cL] at z;exact z
   obtain⟨m,hn,_⟩:=I6.loc;have hn:s6.heap.Ns ce.locals m:=hn;rw[cL] at hn;exact hRR D s3.heap.objs.size s6 m H5 I7 qq hn (I3.HB (Nat.le_refl _) nC)
  ·have ti:=T.item (X.AA s3 H3 scope ce fp) rfl rfl rfl hc i [] s5 _ H5 (λ_ _=>False) I5 (stat I5 n5) st5 go;refine Fx ti λr s6 ⟨u,hr,h6⟩=>?_;subst hr;refine Fx h6 λ_ s7 ⟨x,H7,I7,r7,y7,st7,n7⟩=>?_;have I7':=I7.pinned (stat I7 n7) (T.obj _ _ st7);refine Fx (pg _ s7 _ H7 x u _ I7' r7 (step x H7 y7)) λ_ s8 ⟨σ8,H8,I8,hw8,q8⟩=>?_;refine Fx (pt _ s8 σ8 H8 _ I8 q8) λb s9 ⟨H9,I9,q9⟩=>?_;have fin:∀{s':Shared}{H':Hp},Inv (X.AA s3 H3 scope ce fp) ([]++tH fp s7.heap) σ8 H' s'->Nx H'->∃m,m<n/\∃i H',Inv (X.AA s3 H3 scope ce fp) [] (wipe σ (own.map (·.2))) H' s'/\tn i s'.heap/\(∀b∈fp,H' b=none)/\W i m H':=λ{s' H'} I' nx=>by
    obtain⟨m',hm,w'⟩:=hNx H' nx;have pin':∀b∈fp,∀o,s7.heap.get? b=some o->s'.heap.get? b=some o/\H' b=none:=λb hb o e=>
     let z:=I'.pin (b,o) (List.mem_append_right _ (List.mem_append_right _ (jG hb e)))
     ⟨z.1,z.2.1⟩
    have hl:(wipe σ (own.map (·.2))).length=σ8.length:=by rw[<-hw8,iY]
    refine⟨m',hm,i+1,H',(I'.kJ (UP:=[])).weak hl (λj v e=>?_),T.keep _ _ _ st7 λb hb o e=>(pin' b hb o e).1,λb hb=>?_,w'⟩
    ·rw[<-hw8] at e;exact(oa e).1
    ·obtain⟨o,e,_⟩:=T.obj _ _ st7 b hb;exact(pin' b hb o e).2
   cases b with
   |false=>
    simp only[Bool.false_eq_true,if_false] at q9 ⊢;exact fin I9 q9
   |true=>
    simp only[if_true] at q9 ⊢;refine Fx (pe _ s9 σ8 H9 _ I9 q9) λz s10 ⟨yv,H10,I10,r10,acc,hD10,hz10,nx⟩=>?_;exact Ms (X:=X.AA s3 H3 scope ce fp) I10 hD10 hz10 r10 λs11 I11=>fin I11 nx
 exact codeAny_compStart_list loop (T.self X.A 0 _ _ _ st4 loop)
theorem L_{elt tg iter:Expr}{ifs:List Expr}{scope:Scope}{own:List (Str×Nat)}{pos:Pos}{wi:TI}{g:TG}{tt:TT}{te:TE}(hc:X.calm=true)(hN:X.N.Nodup)(hi:PI X tg iter wi)(ok:u7 X.N X.env.scope scope own)(hg:∀(s:Shared)(H:Hp)(C:Addr)(cl:List (Str×Addr))(fp:List Addr),PG (X.AA s H scope (compEnvC scope cl C X.env) fp) tg g)(ht:∀(s:Shared)(H:Hp)(C:Addr)(cl:List (Str×Addr))(fp:List Addr),Sx (X.AA s H scope (compEnvC scope cl C X.env) fp) ifs tt)(he:∀(s:Shared)(H:Hp)(C:Addr)(cl:List (Str×Addr))(fp:List Addr),PE (X.AA s H scope (compEnvC scope cl C X.env) fp) elt te)(hs:∀x,foldedSetIterable iter X.env x=pure x:=by intro _;rfl):
  PE X (.ListComp elt [⟨tg,iter,ifs,0⟩] scope pos) (Ue wi g tt te (own.map (·.2))):=by
 intro UP s σ H Q I h;rw[eval_ListComp];refine Ku hc hN I hi ok hg ht he hs h λD C s' m H' I' q hn f=>⟨m,hn,λh'' sb=>?_⟩
 obtain⟨f0,f1,f2,f3,f4,f5⟩:=f;exact⟨.ref D,H',I'.turned (t':=s'.toks) (λb o hb e=>(sb.2 b hb).trans e) f0 f1 f3 f4 f5,rfl,q⟩
end
theorem CB{K:Frag}{a:Addr}{xs:List V}{g:TG}{tt:TT}{te:TE}{vs:List Nat}{σ:St}{H1:Hp}{D:Addr}{Qd:Hp->Prop}(Pv:Nat->Hp->Prop)(h0:Pv 0 (upd H1 D (.lst [])))(hl:∀i H,i<=xs.length->Pv i H->bh K H a xs)(hs:∀i x H,xs[i]?=some x->Pv i H->g x (wipe σ vs) H λσ2 H2=>wipe σ2 vs=wipe σ vs/\tt σ2 H2 λb H3=>
   if b=true then te σ2 H3 λy H4=>∃acc,H4 D=some (.lst acc)/\acc.length<sizeLine/\Pv (i+1) (upd H4 D (.lst (acc++[y]))) else Pv (i+1) H3)(hd:∀H,Pv xs.length H->Qd H):
  ∃W:Nat->Nat->Hp->Prop,(∃m,W 0 m (upd H1 D (.lst [])))/\∀i m H,W i m H->
   ((LG K a).stop i H/\Qd H)\/((LG K a).go i H/\∃Nx:Hp->Prop,(∀H',Nx H'->∃m',m'<m/\W (i+1) m' H')/\∀x H',(LG K a).LN i H x H'->g x (wipe σ vs) H' λσ2 H2=>wipe σ2 vs=wipe σ vs/\tt σ2 H2 λb H3=>
    if b=true then te σ2 H3 λy H4=>∃acc,H4 D=some (.lst acc)/\acc.length<sizeLine/\Nx (upd H4 D (.lst (acc++[y]))) else Nx H3):=by
 refine⟨λi m H=>m=xs.length - i/\i<=xs.length/\Pv i H,⟨xs.length,by simp,Nat.zero_le _,h0⟩,?_⟩;rintro i m H ⟨rfl,hi,p⟩;have q:=hl i H hi p;by_cases hlt:i<xs.length
 ·refine .inr ⟨⟨xs,xs[i],q,by simp[hlt]⟩,Pv (i+1),λH' p'=>⟨xs.length - (i+1),↑2,rfl,hlt,p'⟩,λx H' y=>?_⟩;obtain⟨e,y⟩:=y;subst e;exact hs i x _ (y xs q) p
 ·have e:i=xs.length:=↑2
  subst e;exact .inl ⟨⟨xs,q,Nat.le_refl _⟩,hd H p⟩
def R1(N:List Str)(sc scope:Scope)(own:List (Str×Nat)):Bool:=
 (match scope.kind with| .function=>true|_=>false)&&(scope.names.all λy=>decide (scope.names.lookup y.1=some y.2))&&(own.all λp=>decide (N[p.2]?=some p.1))&&
  (scope.names.all λy=>match y.2 with
   | .free=>(match sc.names.lookup y.1 with|some .cell=>true|some .free=>true|_=>false)
   | .local=>decide (y.1∈own.map (·.1))||decide (y.1∉N)
   | .cell=>decide (y.1∈own.map (·.1))||decide (y.1∉N)
   |_=>true)
theorem yC{N:List Str}{sc scope:Scope}{own:List (Str×Nat)}(h:R1 N sc scope own=true):u7 N sc scope own:=by
 unfold R1 at h;simp only[Bool.and_eq_true,List.all_eq_true,decide_eq_true_eq] at h;obtain⟨⟨⟨h1,h2⟩,h3⟩,h4⟩:=h;refine⟨?_,h2,h3,λy hy e=>?_,λy hy e=>?_⟩
 ·split at h1
  ·assumption
  ·cases h1
 ·have q:=h4 y hy;simp only[e] at q;split at q <;> first|exact .inl (by assumption)|exact .inr (by assumption)|cases q
 ·have q:=h4 y hy;rcases e with e|e <;> (simp only[e,Bool.or_eq_true,decide_eq_true_eq] at q;exact q)
section
variable{prog:Program}{w:World}{A:Around}{R:Result->Shared->Prop}{s:Shared}{elt t0 i0 t1 i1:Expr}{ifs0 ifs1:List Expr}{scope:Scope}{pos:Pos}{it acc:Value}{env:Env}
end
section
variable{X:Cx}
end
section
variable{κ:Type}[DecidableEq κ]
def jw(kvs:List (κ×V))(k:κ):Option V:=(kvs.find? λkv=>decide (kv.1=k)).map (·.2)
def putK(kvs:List (κ×V))(k:κ)(v:V):List (κ×V):=
 if(kvs.any λkv=>decide (kv.1=k))=true then kvs.map (λkv=>if kv.1=k then(kv.1,v) else kv) else kvs++[(k,v)]
theorem kT{p:κ×V}{r:List (κ×V)}{k:κ}(e:p.1=k):jw (p::r) k=some p.2:=by simp[jw,List.find?_cons,e]
theorem ll{p:κ×V}{r:List (κ×V)}{k:κ}(e:¬p.1=k):jw (p::r) k=jw r k:=by simp[jw,List.find?_cons,e]
theorem tK(k:κ):∀kvs:List (κ×V),(kvs.any λkv=>decide (kv.1=k))=(jw kvs k).isSome
 |[]=>rfl
 |p::r=>by
  rw[List.any_cons];by_cases e:p.1=k
  ·simp only[kT e,decide_eq_true e,Bool.true_or,Option.isSome_some]
  ·rw[ll e,decide_eq_false e,Bool.false_or];exact tK k r
theorem oY(kvs:List (κ×V))(k:κ)(v:V):(putK kvs k v).length<=kvs.length+1:=by
 unfold putK;split
 ·rw[List.length_map];omega
 ·rw[List.length_append,List.length_cons,List.length_nil];omega
theorem Hu{kvs:List (κ×V)}{k:κ}(v:V)(h:jw kvs k=none):putK kvs k v=kvs++[(k,v)]:=by unfold putK;rw[tK,h];exact if_neg ↑0
theorem d5.nq{o:Option V}{u:Option Value}(r:d5 o u):o.isSome=u.isSome:=by
 cases o with
 |none=>cases u with
  |none=>rfl
  |some _=>exact(show False from r).elim
 |some _=>cases u with
  |none=>exact(show False from r).elim
  |some _=>rfl
theorem KV.val{kvs:List (κ×V)}{vs:List (κ×Value)}(r:KV kvs vs)(k:κ):d5 (jw kvs k) (valueAt vs k):=by
 unfold KV at r;induction r with
 |nil=>exact True.intro
 |@cons p q ps qs h t ih=>
  obtain⟨h1,h2⟩:=h;by_cases e:p.1=k
  ·have e':q.1=k:=h1.symm.trans e;have b:valueAt (q::qs) k=some q.2:=by simp[valueAt,List.find?_cons,e']
   rw[kT e,b];exact h2
  ·have e':¬q.1=k:=λz=>e (h1.trans z);have b:valueAt (q::qs) k=valueAt qs k:=by simp[valueAt,List.find?_cons,e']
   rw[ll e,b];exact ih
theorem KV.any{kvs:List (κ×V)}{vs:List (κ×Value)}(r:KV kvs vs)(k:κ):(kvs.any λkv=>decide (kv.1=k))=vs.any λkv=>decide (kv.1=k):=by
 unfold KV at r;induction r with
 |nil=>rfl
 |cons h t ih=>rw[List.any_cons,List.any_cons,ih,h.1]
theorem KV.N3{kvs:List (κ×V)}{vs:List (κ×Value)}(r:KV kvs vs)(k:κ){y:V}{u:Value}(ry:RelV y u):
  KV (kvs.map λkv=>if kv.1=k then(kv.1,y) else kv) (vs.map λkv=>if kv.1=k then(kv.1,u) else kv):=by
 unfold KV at r ⊢;induction r with
 |nil=>exact .nil
 |@cons p q ps qs h t ih=>
  rw[List.map_cons,List.map_cons];refine .cons ?_ ih;obtain⟨h1,h2⟩:=h;by_cases e:p.1=k
  ·rw[if_pos e,if_pos (h1.symm.trans e)];exact⟨h1,ry⟩
  ·rw[if_neg e,if_neg (λz=>e (h1.trans z))];exact⟨h1,h2⟩
theorem KV.put{kvs:List (κ×V)}{vs:List (κ×Value)}(r:KV kvs vs)(k:κ){y:V}{u:Value}(ry:RelV y u):KV (putK kvs k y) (stored vs k u):=by
 unfold putK stored;rw[r.any k];by_cases e:(vs.any λkv=>decide (kv.1=k))=true
 ·rw[if_pos e,if_pos e];exact r.N3 k ry
 ·rw[if_neg e,if_neg e];exact Paired.snoc r ⟨rfl,ry⟩
theorem KV.length{kvs:List (κ×V)}{vs:List (κ×Value)}(r:KV kvs vs):kvs.length=vs.length:=Paired.length r
end
theorem C3{P:Program}{k:Key}{u:Value}(r:RelV (kV k) u):(cY P w).is k u=true:=by
 cases k with
 |inl i=>obtain⟨t,e⟩:=(show ∃t,u=Value.int i t from r);subst e;exact yG P w i t
 |inr x=>obtain⟨t,e⟩:=(show ∃t,u=Value.str x t from r);subst e;exact Ac P w x t
theorem vb{P:Program}:∀{ks:List Key}{us:List Value},Vals (ks.map kV) us->ItemsAre (cY P w) ks us
 |[],_,r=>by rw[List.map_nil] at r;cases r;exact .nil
 |k::ks,_,r=>by
  rw[List.map_cons] at r;cases r with
  |cons h t=>exact .cons (C3 h) (vb t)
abbrev KT(H:Hp):List (List Key×V)->List (List Key×Addr×Value)->Prop:=Paired λp q=>p.1=q.1/\H q.2.1=some (.tup (p.1.map kV))/\RelV p.2 q.2.2
theorem KT.val{xs:List (List Key×Addr×Value)}(r:KT H kvs xs)(k:List Key):d5 (jw kvs k) ((atKey xs k).map (·.2)):=by
 induction r with
 |nil=>exact True.intro
 |@cons p q ps qs h t ih=>
  obtain⟨h1,_,h2⟩:=h;by_cases e:p.1=k
  ·have e':q.1=k:=h1.symm.trans e;have b:atKey (q::qs) k=some q.2:=by simp[atKey,List.find?_cons,e']
   rw[kT e,b];exact h2
  ·have e':¬q.1=k:=λz=>e (h1.trans z);have b:atKey (q::qs) k=atKey qs k:=by simp[atKey,List.find?_cons,e']
   rw[ll e,b];exact ih
theorem KT.N3{xs:List (List Key×Addr×Value)}(r:KT H kvs xs)(k:List Key){y:V}{u:Value}(ry:RelV y u):
  KT H (kvs.map λkv=>if kv.1=k then(kv.1,y) else kv) (xs.map (putAt k u)):=by
 induction r with
 |nil=>exact .nil
 |@cons p q ps qs h t ih=>
  rw[List.map_cons,List.map_cons];refine .cons ?_ ih;obtain⟨h1,h2,h3⟩:=h;unfold putAt;by_cases e:p.1=k
  ·rw[if_pos e,if_pos (h1.symm.trans e)];exact⟨h1,h2,ry⟩
  ·rw[if_neg e,if_neg (λz=>e (h1.trans z))];exact⟨h1,h2,h3⟩
theorem KT.put{xs:List (List Key×Addr×Value)}(r:KT H kvs xs)(k:List Key){b:Addr}{y:V}{u:Value}(hb:H b=some (.tup (k.map kV)))(ry:RelV y u):
  KT H (putK kvs k y) (storedH xs k b u):=by
 have e:(kvs.any λkv=>decide (kv.1=k))=(atKey xs k).isSome:=by
  rw[tK,(r.val k).nq,Option.isSome_map]
 unfold putK storedH;rw[e];by_cases q:(atKey xs k).isSome=true
 ·rw[if_pos q,if_pos q];exact r.N3 k ry
 ·rw[if_neg q,if_neg q];exact Paired.snoc r ⟨rfl,hb,ry⟩
theorem KT.keeps{H':Hp}{xs:List (List Key×Addr×Value)}(r:KT H kvs xs)(ht:∀b ys,H b=some (.tup ys)->H' b=some (.tup ys)):KT H' kvs xs:=
 Paired.JT r λ_ _ z=>⟨z.1,ht _ _ z.2.1,z.2.2⟩
section
variable{P:Program}{w:World}{H:Hp}{h:Heap}{a:Addr}
theorem LI{u:HO}(ok:gA P w H h)(e:Rd H a u):bK P w H h a u:=e.ok ok
theorem CK{kvs:List (Key×V)}(ok:gA P w H h)(e:Rd H a (.dK kvs)):kvs.length<=sizeLine/\(a==sysModules)=false/\∃vs,KV kvs vs/\h.DictOf (cY P w) a vs:=
 show bK P w H h a (.dK kvs) from LI ok e
theorem Q4{kvs:List (Key×V)}(ok:gA P w H h)(e:H a=some (.dK kvs)):kvs.length<=sizeLine/\(a==sysModules)=false/\∃vs,KV kvs vs/\h.DictOf (cY P w) a vs:=CK ok (.inl e)
theorem xB{ks:List Key}(ok:gA P w H h)(e:H a=some (.tup (ks.map kV))):(tupleKind (cY P w)).is h ks a:=by
 obtain⟨_,its,r,o,h1,h2,n,h3⟩:=(show bK P w H h a (.tup (ks.map kV)) from ok a _ e)
 exact⟨o,its.toArray,n,h1,h2,h3,by simpa using vb r⟩
theorem CH(ok:gA P w H h)(e:Rd H a (.dT kvs)):kvs.length<=sizeLine/\(a==sysModules)=false/\
  ∃xs,KT H kvs xs/\h.DictOfH (tupleKind (cY P w)) a xs:=by
 obtain⟨z,y,xs,r,o,es,ep,h1,h2,h3,h4,h5⟩:=(show bK P w H h a (.dT kvs) from LI ok e)
 refine⟨z,y,xs,r,o,es,ep,h1,h2,h3,h4,λx hx=>?_,h5⟩;have all:∀{l:List (List Key×V)}{m:List (List Key×Addr×Value)},KT H l m->∀x∈m,(tupleKind (cY P w)).is h x.1 x.2.1:=by
  intro l m q;induction q with
  |nil=>intro x hx;exact nomatch hx
  |@cons p q ps qs hq t ih=>
   intro x hx;rcases List.mem_cons.mp hx with e|hx
   ·subst e;exact xB ok (by rw[<-hq.1];exact hq.2.1)
   ·exact ih x hx
 exact all r x hx
theorem QM(ok:gA P w H h)(e:H a=some (.dT kvs)):kvs.length<=sizeLine/\(a==sysModules)=false/\
  ∃xs,KT H kvs xs/\h.DictOfH (tupleKind (cY P w)) a xs:=CH ok (.inl e)
end
def qO(H:Hp)(a:Addr)(y:V)(r:Option V):Prop:=
 (∃kvs k,Rd H a (.dK kvs)/\y=kV k/\r=jw kvs k)\/∃kvs k b,Rd H a (.dT kvs)/\y= .ref b/\H b=some (.tup (k.map kV))/\r=jw kvs k
def Ih(H:Hp)(a:Addr)(y v:V)(H':Hp):Prop:=
 (∃kvs k,H a=some (.dK kvs)/\y=kV k/\kvs.length<sizeLine/\H'=upd H a (.dK (putK kvs k v)))\/
 ∃kvs k b,H a=some (.dT kvs)/\y= .ref b/\H b=some (.tup (k.map kV))/\kvs.length<sizeLine/\H'=upd H a (.dT (putK kvs k v))
theorem qO.t{a b:Addr}{k:List Key}(e:H a=some (.dT kvs))(eb:H b=some (.tup (k.map kV))):qO H a (.ref b) (jw kvs k):=.inr ⟨kvs,k,b,.inl e,rfl,eb,rfl⟩
theorem Ih.t{a b:Addr}{k:List Key}{v:V}(e:H a=some (.dT kvs))(eb:H b=some (.tup (k.map kV)))(hl:kvs.length<sizeLine):
  Ih H a (.ref b) v (upd H a (.dT (putK kvs k v))):=.inr ⟨kvs,k,b,e,rfl,eb,hl,rfl⟩
section
variable{X:Cx}{UP:List (Addr×Obj)}{σ:St}{H:Hp}{s:Shared}{a:Addr}{y v:V}{u r:Value}{o:Option V}{A:Around}{E:Value->Shared->Prop}
theorem Inv.big(I:Inv X UP σ H s):sysModules<s.heap.objs.size:=by have h:mainGlobals<s.heap.objs.size:=(I.mod.glob.keeps I.bk).lt;exact Nat.lt_trans ↑0 h
theorem D7(hu:A.units+1<cLine)(I:Inv X UP σ H s)(g:qO H a y (some v))(ry:RelV y u)(h:∀w' s',Inv X UP σ H s'->RelV v w'->Q w' s'):
  wpAny (model X.prog X.w) A (getItem (.ref a) u) Q E s:=by
 rcases g with⟨kvs,k,e,ey,l⟩|⟨kvs,k,b,e,ey,eb,l⟩
 ·subst ey;obtain⟨z,hd,vs,rel,dd⟩:=CK I.aZ e;obtain⟨w',hw,rw'⟩:=d5.some_of (v:=v) (o:=valueAt vs k) (by rw[l];exact rel.val k);exact wpAny_getItem_of (C3 ry) dd.mapOf hw (h w' _ (I.tok _) rw')
 ·subst ey;cases(show u=Value.ref b from ry);obtain⟨z,hd,xs,rel,dd⟩:=CH I.aZ e;obtain⟨w',hw,rw'⟩:=d5.some_of (v:=v) (o:=(atKey xs k).map (·.2)) (by rw[l];exact rel.val k);obtain⟨p,hp,hp2⟩:=Option.map_eq_some_iff.mp hw;refine wpAny_getItem_heap (tupleKind_room_in1 hu) (xB I.aZ eb) dd hp ?_;rw[hp2];exact h w' _ (I.tok _) rw'
theorem Sv(hu:A.units+1<cLine)(I:Inv X UP σ H s)(g:qO H a y o)(ry:RelV y u)(h:∀s',Inv X UP σ H s'->Q (.bool o.isSome) s'):
  wpAny (model X.prog X.w) A (compareOp .In u (.ref a)) Q E s:=by
 rcases g with⟨kvs,k,e,ey,l⟩|⟨kvs,k,b,e,ey,eb,l⟩
 ·subst ey;obtain⟨z,hd,vs,rel,dd⟩:=CK I.aZ e;refine wpAny_in_of (C3 ry) hd dd.mapOf ?_;rw[<-(rel.val k).nq,<-l];exact h _ (I.tok _)
 ·subst ey;cases(show u=Value.ref b from ry);obtain⟨z,hd,xs,rel,dd⟩:=CH I.aZ e;refine wpAny_in_heap (tupleKind_room_in1 hu) (xB I.aZ eb) hd dd ?_;have q:=(rel.val k).nq;rw[Option.isSome_map] at q;rw[<-q,<-l];exact h _ (I.tok _)
theorem CP{h':Heap}{t':Nat}{ob:HO}(I:Inv X UP σ H s)(mu:Pe (H a))(hs:Heap.SameBut a s.heap h')(he:∃q,h'.get? a=some q)(new:bK X.prog X.w (upd H a ob) h' a ob):
  Inv X UP σ (upd H a ob) {s with heap:=h',toks:=t'}:=
 I.write (x:=a) (e:=a) mu (.inl rfl) (λb q hb z=>(hs.2 b hb).trans z) he new
theorem MI{P:Program}{H':Hp}{h':Heap}{kvs:List (Key×V)}{vs:List (Key×Value)}(z:kvs.length<=sizeLine)(hd:(a==sysModules)=false)(rel:KV kvs vs)(dd:h'.DictOf (cY P w) a vs):
  bK P w H' h' a (.dK kvs):=⟨z,hd,vs,rel,dd⟩
theorem EV{H':Hp}{Q:Unit->Shared->Prop}(hu:A.units+1<cLine)(I:Inv X UP σ H s)(g:Ih H a y v H')(ry:RelV y u)(rv:RelV v r)(h:∀s',Inv X UP σ H' s'->Q () s'):
  wpAny (model X.prog X.w) A (setItem (.ref a) u r) Q E s:=by
 rcases g with⟨kvs,k,e,ey,l,eH⟩|⟨kvs,k,b,e,ey,eb,l,eH⟩
 ·subst ey eH;obtain⟨z,hd,vs,rel,dd⟩:=Q4 I.aZ e;have hz:vs.length<=sizeLine:=by rw[<-rel.length];exact z
  have hl:(putK kvs k v).length<=sizeLine:=by have:=oY kvs k v;omega
  refine wpAny_setItem_pairs (hsz:=hz) (C3 ry) dd λh' dd' hs=>h _ ?_;have he:∃q,h'.get? a=some q:=let⟨q,_,_,hq,_⟩:=dd';⟨q,hq⟩;exact CP I (by rw[e];exact True.intro) hs he (MI hl hd (rel.put k rv) dd')
 ·subst ey eH;cases(show u=Value.ref b from ry);obtain⟨z,hd,xs,rel,dd⟩:=QM I.aZ e;have hz:xs.length<=sizeLine:=by rw[<-Paired.length rel];exact z
  have hl:(putK kvs k v).length<=sizeLine:=by have:=oY kvs k v;omega
  refine wpAny_setItem_heap (hsz:=hz) (tupleKind_room_in1 hu) (xB I.aZ eb) dd λh' dd' hs=>h _ ?_;obtain⟨q,es,ep,hq,h2,h3,h4,_,h5⟩:=dd';refine CP I (by rw[e];exact True.intro) hs ⟨q,hq⟩ ⟨hl,hd,_,(rel.put k eb rv).keeps λc ys ec=>?_,q,es,ep,hq,h2,h3,h4,h5⟩;rw[ah (dA ec e (λz=>nomatch z))];exact ec
end
section
variable{X:Cx}{UP:List (Addr×Obj)}{σ:St}{H:Hp}{s:Shared}{a:Addr}{kvs:List (Key×V)}{k:Key}{u:Value}{A:Around}{E:Value->Shared->Prop}
end
def QT(i:Expr):Prop:=∀ov iv,subscripted i false ov iv=operate [ov,iv] (getItem ov iv)
theorem Kc{prog:Program}{E:Value->Shared->Prop}{env:Env}{value UR:Expr}{pos:Pos}{T id:String}(hl:typeLookup (.type T) "__getitem__"=pure (some (.builtin id)))(hs:QT UR)(h:wpAny (model prog w) A (eval value env) (λo s₁=>wpAny (model prog w) A (eval UR env) (λi s₂=>s₂.TypeIs o T/\wpAny (model prog w) A (getItem o i) Q E s₂) E s₁) E s):
  wpAny (model prog w) A (eval (.Subscript value UR pos) env) Q E s:=by
 refine Subscript_ (wpAny_mono h (λo s₁ h₁=>wpAny_mono h₁ (λi s₂ h₂=>?_) λ_ _ x=>x) λ_ _ x=>x);obtain⟨hT,h₂⟩:=h₂;unfold subscriptTail;refine wpAny_bind ?_;rw[getitemInPython_of_ne hT.not_modules];refine wpAny_bind (wpAny_specialOf hT hl ?_);have fin:wpAny (model prog w) A (subscripted UR false o i) (λr s₃=>wpAny (model prog w) A (letTemporaryGo value o r>>=λ_=>pure r) Q E s₃) E s₂:=by
  rw[hs o i];exact wpAny_operating (wpAny_mono h₂ (λr s₃ h₃=>wpAny_bind (wpAny_letTemporaryGo (wpAny_pure h₃))) λ_ _ x=>x)
 first
  |exact wpAny_pure (wpAny_bind fin)
  |exact wpAny_bind (wpAny_pure (wpAny_bind fin))
  |exact wpAny_bind fin
theorem Ab{X:Cx}{σ:St}{a:Addr}{y:V}{o:Option V}(I:Inv X UP σ H s)(g:qO H a y o):s.TypeIs (.ref a) "dict":=by
 rcases g with⟨kvs,k,e,_,_⟩|⟨kvs,k,b,e,_,_,_⟩
 ·obtain⟨_,_,vs,_,dd⟩:=CK I.aZ e;exact dd.typeIs
 ·obtain⟨_,_,xs,_,dd⟩:=CH I.aZ e;exact dd.typeIs
def Rl(td ty:TE):TE:=λσ H Q=>td σ H λx H1=>ty σ H1 λy H2=>∃a v,x= .ref a/\qO H2 a y (some v)/\Q v H2
def S'(ty td:TE):TE:=λσ H Q=>ty σ H λy H1=>td σ H1 λx H2=>∃a o,x= .ref a/\qO H2 a y o/\Q (.bl o.isSome) H2
def Qt(td ty tv:TE):TS:=λD σ H=>tv σ H λv H1=>td σ H1 λx H2=>ty σ H2 λy H3=>∃a H4,x= .ref a/\Ih H3 a y v H4/\D.nx σ H4
section
variable{X:Cx}{o i e value:Expr}{pos pos' tpos:Pos}{td ty tv:TE}
theorem DY(hu:X.A.units+1<cLine)(ho:PE X o td)(hi:PE X i ty)(hs:QT i):PE X (.Subscript o i pos) (Rl td ty):=by intro UP s σ H Q I h;refine Kc PySem.F.slot_dict_getitem.lookup hs (br (ho UP s σ H _ I h) λu s1 ⟨x,H1,I1,rx,q1⟩=>br (hi UP s1 σ H1 _ I1 q1) λiv s2 ⟨y,H2,I2,ry,a,v,ex,g,q2⟩=>?_);subst ex;obtain rfl:u=Value.ref a:=rx;exact⟨Ab I2 g,D7 hu I2 g ry λw' s3 I3 rw'=>⟨v,H2,I3,rw',q2⟩⟩
theorem HN(hu:X.A.units+1<cLine)(hi:PE X i ty)(ho:PE X o td):PC X .In i o (S' ty td):=by intro UP s σ H Q I h;refine br (hi UP s σ H _ I h) λiv s1 ⟨y,H1,I1,ry,q1⟩=>br (ho UP s1 σ H1 _ I1 q1) λu s2 ⟨x,H2,I2,rx,a,ov,ex,g,q2⟩=>?_;subst ex;obtain rfl:u=Value.ref a:=rx;exact Sv hu I2 g ry λs3 I3=>⟨.bl ov.isSome,H2,I3,rfl,q2⟩
theorem JI(hu:X.A.units+1<cLine)(ho:PE X o td)(hi:PE X i ty)(hv:PE X value tv)(hs:swapsWith value (some (.Subscript o i pos')) pos.line X.env=pure false):
  PS X (.Assign [.Subscript o i pos'] value pos) (Qt td ty tv):=by
 intro UP s σ H D I h;refine wpAny_Assign_Subscript (br (hv UP s σ H _ I h) λr s1 ⟨v,H1,I1,rv,q1⟩=>br (ho UP s1 σ H1 _ I1 q1) λu s2 ⟨x,H2,I2,rx,q2⟩=>br (hi UP s2 σ H2 _ I2 q2) λiv s3 ⟨y,H3,I3,ry,a,H4,ex,g,q3⟩=>?_) hs;subst ex;obtain rfl:u=Value.ref a:=rx;exact EV hu I3 g ry rv λs4 I4=>⟨σ,H4,I4,q3⟩
end
theorem HJ{P:Program}(h:Heap)(hb:sysModules<h.objs.size):bK P w H (h.push {cls:=.type "dict",data:=.dict #[]}) h.objs.size (.dT []):=
 ⟨Nat.zero_le _,beq_eq_false_iff_ne.mpr (Ne.symm (Nat.ne_of_lt hb)),[],.nil,_,#[],0,Heap.get?_push_size _ rfl,⟨rfl,rfl,rfl⟩,rfl,rfl,List.nodup_nil⟩
def N9:TE:=λ_ H Q=>∀p,H p=none->Q (.ref p) (upd H p (.dT []))
section
variable{X:Cx}{pos:Pos}
theorem Hf:PE X (.Dict [] [] pos) N9:=λUP s σ H Q I h=>
 wpAny_Dict_empty ⟨.ref s.heap.objs.size,_,I.laid (a:=s.heap.objs.size) (o:=.dT []) (t':=s.toks) (λ_ _ q=>Heap.get?_push_of_some _ q) (Nat.le_refl _) (HJ s.heap I.big),rfl,h _ (I.aZ.fresh (Nat.le_refl _))⟩
end
section
variable{X:Cx}{UP:List (Addr×Obj)}{σ:St}{H:Hp}{s:Shared}{a:Addr}{y d:V}{u r:Value}{o:Option V}{A:Around}{E:Value->Shared->Prop}
end
section
variable{X:Cx}{o e f:Expr}{apos cpos:Pos}{td ty tx:TE}
end
section
variable{X:Cx}{UP:List (Addr×Obj)}{σ:St}{H:Hp}{s:Shared}{a:Addr}{kvs:List (Key×V)}{A:Around}{E:Value->Shared->Prop}
end
section
variable{X:Cx}{UP:List (Addr×Obj)}{σ:St}{H:Hp}{s:Shared}{a:Addr}{y:V}{u:Value}{A:Around}{E:Value->Shared->Prop}
end
section
variable{prog:Program}{w:World}{A:Around}{E:Value->Shared->Prop}
end
section
variable{X:Cx}
end
section
variable{X:Cx}{UP:List (Addr×Obj)}{σ:St}{H:Hp}{s:Shared}{h':Heap}
end
section
variable{X:Cx}
theorem OL{tg:Expr}{σ:St}{R:It->Hp->Prop}{J:It}{tn:Nat->Heap->Prop}{tk:Nat}(I:Inv X UP σ H s)(o:Obj)(T:Turn X.prog X.w X.K tg J [s.heap.objs.size] s.heap.objs.size tn)(st:tn 0 (s.heap.push o))(q:R J H):Tv X UP σ tg R (.ref s.heap.objs.size) {s with heap:=s.heap.push o,toks:=tk}:=by
 refine⟨s.heap.objs.size,[s.heap.objs.size],tn,J,H,rfl,I.kept λb ob e=>Heap.get?_push_of_some _ e,T,st,λb hb=>?_,q⟩;have e:b=s.heap.objs.size:=by simpa using hb
 subst e;exact I.HB (Nat.le_refl _) (I.aZ.fresh (Nat.le_refl _))
end
section
variable{X:Cx}{tg:Expr}
end
section
variable{X:Cx}{tg:Expr}
end
section
variable{prog:Program}{w:World}{A:Around}{E:Value->Shared->Prop}{s:Shared}
theorem Em{d:Addr}{o:Obj}{es:Array DictEntry}{ep:Nat}(hd:(d==sysModules)=false)(ho:s.heap.get? d=some o)(hc:o.ExactDict)(hdat:o.data= .dict es ep)(hQ:Q (.ref s.heap.objs.size) {s with heap:=s.heap.push {cls:=.type "dict_keyiterator",data:=.fields #[.ref d,.int 0 0,.int es.size 0,.int ep 0]}}):
  wpAny (model prog w) A (pyIter (.ref d)) Q E s:=by
 have hT:s.TypeIs (.ref d) "dict":=⟨o,ho,hc.1⟩
 refine wpAny_pyIter_slot hT F.slot_dict_iter (wpAny_call_entry F.slot_dict_iter hT F.entry_dict_iter ?_ (F.args_dict_iter_1 _));unfold Builtin.«dict.__iter__»;refine wpAny_bind ?_;unfold Builtin.Dict.dictSlotNone;refine wpAny_bind (wpAny_notOrdered_dict hT ?_);show wpAny _ _ (pure (Value.ref d)) _ _ s;refine wpAny_pure ?_;show wpAny _ _ (Builtin.Dict.showsAll d>>=_) _ _ s;unfold Builtin.Dict.showsAll;rw[if_neg (by rw[hd];exact Bool.false_ne_true)];refine wpAny_bind (wpAny_pure ?_);refine wpAny_bind (wpAny_dictEntries ho hdat ?_);refine wpAny_bind (wpAny_dictEpoch ho hdat ?_);refine wpAny_bind (wpAny_newObj_type (wpAny_pure ⟨_,rfl,"dict_keyiterator",_,⟨_,Heap.get?_push_size _ rfl,rfl⟩,F.slot_dict_keyiterator_next.lookup,?_⟩));simpa[rawInt] using hQ
theorem tX{it d:Addr}{i n ep:Nat}{od:Obj}{es:Array DictEntry}{en:DictEntry}{Q:Option Value->Shared->Prop}(hit:s.heap.IsKeyIter it d i n ep)(hod:s.heap.get? d=some od)(hdd:od.data= .dict es ep)(hsz:es.size=n)(hx:es[i]?=some en)(hQ:∀h',h'.IsKeyIter it d (i+1) n ep->Heap.SameBut it s.heap h'->Q (some en.key) {s with heap:=h'}):wpAny (model prog w) A (pyNext (.ref it)) Q E s:=by
 obtain⟨o,ho,hc,hd⟩:=id hit;unfold pyNext;refine wpAny_bind (wpAny_attempt (wpAny_callSpecial?_slot (name:=Str.ofString "__next__") hit.typeIs F.slot_dict_keyiterator_next
  (wpAny_call_entry F.slot_dict_keyiterator_next hit.typeIs F.entry_dict_keyiterator_next ?_ (F.args_dict_keyiterator_next_1 _))))
 refine wpAny_bind (wpAny_pure ?_);refine wpAny_bind ?_;refine wpAny_bind ?_;first|refine wpAny_bind (wpAny_typeNameOfWhole_keyiter hit.typeIs (wpAny_pure ?_))|refine wpAny_bind (wpAny_typeNameOf_keyiter hit.typeIs (wpAny_pure ?_))
 refine wpAny_bind (wpAny_fieldsOf ho hd ?_);have hown:Builtin.Dict_items.ownsTuple "dict_keyiterator"=false:=↑0
 simp only[hown,Bool.false_eq_true,if_false];show wpAny _ _ (if(Value.ref d==Value.none)=true then _ else _) _ _ s;rw[if_neg (show ¬((Value.ref d==Value.none)=true) from Bool.false_ne_true)];refine wpAny_bind (wpAny_pure ?_);refine wpAny_bind (wpAny_dictEntries hod hdd ?_);rw[if_neg (by rw[hsz];simp)];refine wpAny_bind (wpAny_pure ?_);refine wpAny_bind (wpAny_dictEpoch hod hdd ?_);rw[if_neg (by simp)];refine wpAny_pure ?_;obtain⟨hlt',hen⟩:=Array.getElem?_eq_some_iff.mp hx;simp only[show ¬((i:Int)<0) from ↑2,if_false,Int.toNat_natCast,Array.getElem?_eq_getElem hlt'];refine wpAny_bind ?_;first|refine wpAny_bind (wpAny_typeNameOfWhole_keyiter hit.typeIs (wpAny_pure ?_))|refine wpAny_bind (wpAny_typeNameOf_keyiter hit.typeIs (wpAny_pure ?_))
 refine wpAny_bind (wpAny_isOneOf_keyiter hit.typeIs ?_);show wpAny _ _ (setField (.ref it) 1 (rawInt ((i:Int)+1))>>=_) _ _ s;refine wpAny_bind (wpAny_setField ho hd (by simp) ?_);have hit':(s.heap.update it (Obj.mapFields (·.setIfInBounds 1 (rawInt ((i:Int)+1))))).IsKeyIter it d (i+1) n ep:=
  ⟨_,Heap.get?_update_self _ ho (Obj.isFreed_of_fields (Obj.data_mapFields hd _)),(Obj.cls_mapFields ..).trans hc,by rw[Obj.data_mapFields hd];simp[rawInt]⟩
 refine wpAny_bind (wpAny_holding ?_);refine wpAny_bind (wpAny_isOneOf_keyiter (s:={s with heap:=s.heap.update it (Obj.mapFields (·.setIfInBounds 1 (rawInt ((i:Int)+1))))}) hit'.typeIs ?_);show wpAny _ _ (pure es[i].key) _ _ _;rw[hen];exact wpAny_pure (wpAny_pure ⟨_,rfl,wpAny_pure (hQ _ hit' (Heap.SameBut.update ..))⟩)
theorem v7{it d:Addr}{i n ep:Nat}{od:Obj}{es:Array DictEntry}{Q:Option Value->Shared->Prop}(hh:A.handled=none)(hit:s.heap.IsKeyIter it d i n ep)(hod:s.heap.get? d=some od)(hdd:od.data= .dict es ep)(hsz:es.size=n)(hge:n<=i)(hQ:∀h',Heap.ExtBut it s.heap h'->Q none {s with heap:=h'}):wpAny (model prog w) A (pyNext (.ref it)) Q E s:=by
 obtain⟨o,ho,hc,hd⟩:=id hit;unfold pyNext;refine wpAny_bind (wpAny_attempt (wpAny_callSpecial?_slot (name:=Str.ofString "__next__") hit.typeIs F.slot_dict_keyiterator_next
  (wpAny_call_entry F.slot_dict_keyiterator_next hit.typeIs F.entry_dict_keyiterator_next ?_ (F.args_dict_keyiterator_next_1 _))))
 refine wpAny_bind (wpAny_pure ?_);refine wpAny_bind ?_;refine wpAny_bind ?_;first|refine wpAny_bind (wpAny_typeNameOfWhole_keyiter hit.typeIs (wpAny_pure ?_))|refine wpAny_bind (wpAny_typeNameOf_keyiter hit.typeIs (wpAny_pure ?_))
 refine wpAny_bind (wpAny_fieldsOf ho hd ?_);have hown:Builtin.Dict_items.ownsTuple "dict_keyiterator"=false:=↑0
 simp only[hown,Bool.false_eq_true,if_false];show wpAny _ _ (if(Value.ref d==Value.none)=true then _ else _) _ _ s;rw[if_neg (show ¬((Value.ref d==Value.none)=true) from Bool.false_ne_true)];refine wpAny_bind (wpAny_pure ?_);refine wpAny_bind (wpAny_dictEntries hod hdd ?_);rw[if_neg (by rw[hsz];simp)];refine wpAny_bind (wpAny_pure ?_);refine wpAny_bind (wpAny_dictEpoch hod hdd ?_);rw[if_neg (by simp)];refine wpAny_pure ?_;have hge':es.size<=i:=by rw[hsz];exact hge
 simp only[show ¬((i:Int)<0) from ↑2,if_false,Int.toNat_natCast,Array.getElem?_eq_none hge'];refine wpAny_bind ?_;first|refine wpAny_bind (wpAny_typeNameOfWhole_keyiter hit.typeIs (wpAny_pure ?_))|refine wpAny_bind (wpAny_typeNameOf_keyiter hit.typeIs (wpAny_pure ?_))
 show wpAny _ _ (setField (.ref it) 0 .none>>=_) _ _ s;refine wpAny_bind (wpAny_setField ho hd (by simp) ?_);show wpAny _ _ (newExc (.type "StopIteration") []>>=_) _ _ _;refine wpAny_bind ?_;simp only[newExc,newTuple];refine wpAny_bind (wpAny_newObj_type ?_ (by size_fits));refine wpAny_bind (m:=firstArgMember _ _) (wpAny_of_eq (a:=Value.none) (by first|rfl|(simp only[firstArgMember];rfl)) ?_);refine wpAny_newObj_type ?_ (by size_fits);simp only[raiseNew];refine wpAny_bind (wpAny_handled ?_);rw[show A.in1.handled=none from hh];refine wpAny_bind (wpAny_pure (wpAny_throw ?_));refine wpAny_bind (wpAny_isInstance (T:="StopIteration") (b:=true) ⟨_,Heap.get?_push_size _ rfl,rfl⟩ isSubtype_stop ?_);exact wpAny_pure (hQ _ (((Heap.SameBut.update ..).extBut.push _).push _))
end
theorem jv{α β:Type}{G:α->β->Prop}{l₁:List α}{l₂:List β}(h:Paired G l₁ l₂):∀{i:Nat}{a:α},l₁[i]?=some a->∃b,l₂[i]?=some b/\G a b:=by
 induction h with
 |nil=>intro i a e;simp at e
 |@cons a b l₁ l₂ r t ih=>
  intro i a' e;cases i with
  |zero=>
   simp only[List.getElem?_cons_zero,Option.some.injEq] at e;subst e;exact⟨b,rfl,r⟩
  |succ j=>
   simp only[List.getElem?_cons_succ] at e ⊢;exact ih e
section
variable{X:Cx}{UP:List (Addr×Obj)}{σ:St}{H:Hp}{s:Shared}{d:Addr}{o:Obj}
end
section
variable{P:Program}{w:World}{K:Frag}{tg:Expr}{d:Addr}{o:Obj}{es:Array DictEntry}{ep:Nat}
end
section
variable{X:Cx}{tg e:Expr}{td:TE}{apos cpos:Pos}
end
end L2
namespace SM
open PySem PyProof.Rows
end SM
namespace TL
open PySem PySem.Builtin PySem.Builtin.Str PySem.StrLaws
theorem join_eq(y:Str)(parts:List Str):Txt.join y parts=Str.join y parts:=glued_eq_join y parts
end TL
namespace L2
open PySem PySem.Spec PyProof.Rows
theorem gK:∀{ys:List Str}{us:List Value},Vals (ys.map V.str) us->StrsAre us ys
 |[],_,.nil=>.nil
 |y::ys,_,.cons r t=>by
  obtain⟨k,rfl⟩:=r;exact .cons y k (gK t)
section
variable{X:Cx}{UP:List (Addr×Obj)}{σ:St}{H:Hp}{s:Shared}{Q:VK}
end
section
variable{X:Cx}
theorem J_:Sf X "str.join" (λx xs H Q=>∃a p,∃ys:List Str,x= .str a/\xs=[.ref p]/\(bh X.K H p (ys.map V.str)\/fN X.K H p (ys.map V.str))/\
  (ys.map (·.length)).sum+ys.length*a.length<=16777216/\Q (.str (Txt.join a ys)) H):=by
 intro UP s σ H x xs v us Q I rx rs h;obtain⟨a,p,ys,rfl,rfl,hp,hz,h⟩:=h;obtain⟨t,rfl⟩:=rx;cases rs with
 |cons r1 rs=>
  cases rs;cases r1;rcases hp with hp|hp
  ·obtain⟨its,r,⟨o,n,ho,hc,_,hd⟩,_⟩:=I.list hp;exact PyProof.Rows.join_list (items:=its.toArray) ⟨o,ho,hc,n,hd⟩ (by rw[List.toList_toArray];exact gK r) hz λt' k=>⟨.str _,H,I.tok k,⟨t',rfl⟩,h⟩
  ·obtain⟨its,r,ht,_⟩:=I.tuple hp;exact PyProof.Rows.join_tuple (items:=its.toArray) ht (by rw[List.toList_toArray];exact gK r) hz λt' k=>⟨.str _,H,I.tok k,⟨t',rfl⟩,h⟩
end
section
variable{X:Cx}{o e:Expr}{to te:TE}
def Uk(r:V->List V->Hp->VK->Prop)(to te:TE):TE:=λσ H Q=>to σ H λx H1=>(∃a,x= .str a)/\te σ H1 λy H2=>r x [y] H2 Q
theorem RN{id:String}{name:Str}{apos pos:Pos}{r:V->List V->Hp->VK->Prop}(slot:Slot "str" name id)(ty:typeOf (.builtin id)=pure (.type "method_descriptor"))(rule:Sf X id r)(ho:PE X o to)(he:PE X e te)(hs:starEach [e] X.env=[(false,eval e X.env)]:=by rfl)(hbase:attributeBase o name X.env (eval o X.env)=eval o X.env:=by rfl)(hline:(apos.endLine==pos.line)=true:=by rfl):
  PE X (.Call (.Attribute o name apos) [e] [] pos) (Uk r to te):=by
 intro UP s σ H Q I h;refine PySem.Call_method1 hbase hs hline (br (ho UP s σ H _ I h) λv s1 ⟨x,H1,I1,r1,q1⟩=>?_);obtain⟨⟨a,rfl⟩,q1⟩:=q1;obtain⟨t,rfl⟩:=_root_.id r1;refine⟨"str",_,F.plainAttrs_str,slot,ty,typeIs_str _ _ _,(λ_ e=>nomatch e),Calls.callWith_builtin rfl (Calls.evalArgs_plain (Calls.spliced_cons ?_))⟩;exact br (he UP s1 σ H1 _ I1 q1) λu s2 ⟨y,H2,I2,r2,q2⟩=>Calls.spliced_nil (rule UP s2 σ H2 _ [y] _ [u] Q I2 r1 (.cons r2 .nil) q2)
theorem JF{apos pos:Pos}(ho:PE X o to)(he:PE X e te)(hs:starEach [e] X.env=[(false,eval e X.env)]:=by rfl)(hbase:attributeBase o "join" X.env (eval o X.env)=eval o X.env:=by rfl)(hline:(apos.endLine==pos.line)=true:=by rfl):
  PE X (.Call (.Attribute o "join" apos) [e] [] pos) (Uk (λx xs H Q=>∃a p,∃ys:List Str,x= .str a/\xs=[.ref p]/\(bh X.K H p (ys.map V.str)\/fN X.K H p (ys.map V.str))/\
   (ys.map (·.length)).sum+ys.length*a.length<=16777216/\Q (.str (Txt.join a ys)) H) to te):=
 RN F.slot_str_join F.type_str_join J_ ho he hs hbase hline
end
section
variable{X:Cx}
end
end L2
namespace Uq
open PySem PySem.W PySem.Calls PyProof.Rows
section
variable{prog:Program}{w:World}{A:Around}{E:Value->Shared->Prop}{s:Shared}{K:Frag}
end
end Uq
namespace L2
open PySem PySem.Spec PyProof.Rows
def inClass(s:Stmt)(j:Nat):Stmt:=match s with
 | .ClassDef _ _ _ body _ _ _ _ _ _ _=>body.getD j (.Pass ⟨0,0,0,0⟩)
 |_=>.Pass ⟨0,0,0,0⟩
def el(s:Stmt):Arguments:=match s with
 | .FunctionDef _ a _ _ _ _ _ _ _ _=>a
 |_=>{posonlyargs:=[],args:=[],vararg:=none,kwonlyargs:=[],kw_defaults:=[],kwarg:=none,defaults:=[]}
def bX(s:Stmt):List Stmt:=match s with
 | .FunctionDef _ _ b _ _ _ _ _ _ _=>b
 |_=>[]
def aq(s:Stmt):Scope:=match s with
 | .FunctionDef _ _ _ _ _ _ sc _ _ _=>sc
 |_=>{kind:=.function,names:=[],isGenerator:=false,isCoroutine:=false}
abbrev bf:yA:=λ_ _ _ _ _ _=>False
abbrev E0:XK:=λ_ _ _=>False
theorem hJ{X:Cx}:Passes bf X E0:=λ_ _ _ _ _ _ _ h=>h.elim
structure js(K:Frag)(x qual:Str)(st:Stmt)(f:Addr)(fd:FuncData):Prop where
 ex:∃(oc:Value)(od:Option Addr)(kV doc pm:Value)(an:Option Addr)(UQ ct:Value)(osl:Array (Option Value)),
  fd=PySem.W.fnOf x qual (el st) (bX st) (aq st) .none kV doc pm an UQ ct/\K.lookup f=some ⟨oc,od,.func fd,osl⟩/\PySem.W.codeIn K UQ qual=true
 kp:PySem.W.keepIn K (.ref f)=true
section
variable{P:Program}{w:World}{K:Frag}{mg:Str->Option Value}{base:Heap}
theorem js.ok{x qual:Str}{st:Stmt}{f:Addr}{fd:FuncData}{N ps:List Str}{k:Nat}{sp:Sp}(F:js K x qual st f fd)(S:ax N ps (aq st))(len:∀vs H Q E,sp vs H Q E->vs.length=ps.length)(hbody:∀(UQ:Value)(A:Around)(outer:List Env)(s:Shared)(H:Hp)(vs:List V)(Q:VK)(E:XK),bC k (A.deeper (envOfC qual (aq st) s.heap.objs.size f UQ))->sp vs H Q E->
   ∃t,rT (iQ bf P w K mg base N qual (aq st) f UQ A outer s H E).LL (bX st) t/\t {nx:=λ_ H'=>Q .bH H',rt:=Q} (start N vs) H):bY P w K mg base bf (k+1) f fd ps sp:=by
 obtain⟨oc,od,kV,doc,pm,an,UQ,ct,osl,rfl,lk,hcd⟩:=F.ex;refine Mc lk hcd S len λA outer s H vs Q E hr hsp=>?_;obtain⟨t,h,q⟩:=hbody UQ A outer s H vs Q E hr hsp;exact⟨t,h.LL,q⟩
theorem js.binds{x qual:Str}{st:Stmt}{f:Addr}{fd:FuncData}{ps:List Str}(F:js K x qual st f fd)(h:∀(kV doc pm:Value)(an:Option Addr)(UQ ct:Value)(us:List Value),us.length=ps.length->bindArgs (PySem.W.fnOf x qual (el st) (bX st) (aq st) .none kV doc pm an UQ ct) ⟨us,[]⟩=pure (ps.zip us)):Binds K fd ps []:=by obtain⟨oc,od,kV,doc,pm,an,UQ,ct,osl,rfl,lk,hcd⟩:=F.ex;exact .all (h kV doc pm an UQ ct)
theorem tL{x qual:Str}{st:Stmt}{f:Addr}{oc:Value}{od an:Option Addr}{osl:Array (Option Value)}{kV doc pm UQ ct:Value}(l:K.lookup f=some ⟨oc,od,.func (PySem.W.fnOf x qual (el st) (bX st) (aq st) .none kV doc pm an UQ ct),osl⟩)(c:PySem.W.codeIn K UQ qual=true)(k:PySem.W.keepIn K (.ref f)=true):js K x qual st f (PySem.W.fnOf x qual (el st) (bX st) (aq st) .none kV doc pm an UQ ct):=⟨⟨oc,od,kV,doc,pm,an,UQ,ct,osl,rfl,l,c⟩,k⟩
end
theorem LC{A:Around}{k:Nat}(hr:bC k A):A.units+1<cLine:=Nat.lt_of_le_of_lt (Nat.add_le_add_left (by decide:1<=64) _) hr.units
section
variable{X:Cx}
theorem pv(i:Nat){x:Str}{pos:Pos}(hN:X.N[i]?=some x:=by rfl)(hv:Ni X.env.scope x:=by first|exact Or.inl rfl|exact Or.inr (Or.inl rfl)|exact Or.inr (Or.inr rfl))(hd:(x==("__debug__":Str))=false:=by decide)(hcd:(x==("__classdict__":Str))=false:=by decide):PE X (.Name x pos) (df i):=GA hN hv hd hcd
end
theorem dR{A B:Prop}(h:B):if false=true then A else B:=by rw[if_neg Bool.false_ne_true];exact h
theorem fY{A B:Prop}(h:A):if true=true then A else B:=by rw[if_pos rfl];exact h
theorem aU{c A B:Prop}[Decidable c](h1:c->A)(h2:¬c->B):if c then A else B:=by
 by_cases h:c
 ·rw[if_pos h];exact h1 h
 ·rw[if_neg h];exact h2 h
def aF(H H':Hp):Prop:=∀b o,H b=some o->H' b=some o
theorem aF.refl(H:Hp):aF H H:=λ_ _ h=>h
theorem aF.trans{H H1 H2:Hp}(a:aF H H1)(b:aF H1 H2):aF H H2:=λc o h=>b c o (a c o h)
theorem aF.free{H H':Hp}(e:aF H H'){l:Addr}(h:H' l=Option.none):H l=Option.none:=by
 cases q:H l with
 |none=>rfl
 |some o=>
  rw[e l o q] at h;cases h
theorem aF.seq{K:Frag}{H H':Hp}{a:Addr}{xs:List V}(e:aF H H')(h:bh K H a xs):bh K H' a xs:=by
 rcases h with(h|⟨o,h⟩)|h
 ·exact .inl (.inl (e _ _ h))
 ·exact .inl (.inr ⟨o,e _ _ h⟩)
 ·exact .inr h
section
variable{κ:Type}[DecidableEq κ]
end
theorem at_of{xs:List V}{z:Int}{j:Nat}{v:V}(e:z=(j:Int))(h:xs[j]?=some v):vt xs z=some v:=by rw[e];exact K6 h
theorem aF.made{H H1:Hp}{x dx C:Addr}(nx:H x=Option.none)(nd:H dx=Option.none)(k:∀b o,(upd (upd H dx (.own x)) x (.ins C dx [])) b=some o->b≠x->H1 b=some o):aF H H1:=λb o e=>
 k b o (by rw[ah (au e nx),ah (au e nd)];exact e) (au e nx)
section
open PySem.W (WData Codec OpenSpec Well WellAll ReadsW ReadsAllW)
mutual
inductive Dw(K:Frag)(H:Hp):V->WData->Prop
 |bH:Dw K H .bH .none
 |bl(b:Bool):Dw K H (.bl b) (.bool b)
 |int(i:Int):Dw K H (.int i) (.int i)
 |str(x:Str):Dw K H (.str x) (.str x)
 |bW(b:Array UInt8):Dw K H (.bW b) (.bytes b.toList)
 |lst{a:Addr} {xs:List V} {ds:List WData}:bh K H a xs->gc K H xs ds->Dw K H (.ref a) (.list ds)
 |tup{a:Addr} {xs:List V} {ds:List WData}:fN K H a xs->gc K H xs ds->Dw K H (.ref a) (.tuple ds)
inductive gc(K:Frag)(H:Hp):List V->List WData->Prop
 |nil:gc K H [] []
 |cons{v:V} {vs:List V} {d:WData} {ds:List WData}:Dw K H v d->gc K H vs ds->gc K H (v::vs) (d::ds)
end
theorem D1{K:Frag}{H:Hp}:∀ns:List Int,gc K H (ns.map V.int) (ns.map WData.int)
 |[]=>.nil
 |n::r=>.cons (.int n) (D1 r)
theorem DI{K:Frag}{H:Hp}:∀(ns:List Int)(xs:List V),gc K H xs (ns.map WData.int)->xs=ns.map V.int
 |[],xs,h=>by
  cases h;rfl
 |n::r,xs,h=>by
  cases h with
  |cons h1 h2=>
   cases h1;rw[DI r _ h2] <;> rfl
section
variable{P:Program}{w:World}{K:Frag}{H:Hp}{h:Heap}{R:PySem.W.WRecords}{cl:Str->Option Addr}
theorem Mo{a:Addr}{xs:List V}(aZ:gA P w H h)(KX:K.In h)(q:bh K H a xs):∃(its:List Value)(o:Obj)(n:Nat),Vals xs its/\h.get? a=some o/\o.cls= .type "list"/\o.data= .seq its.toArray n:=by
 rcases q with q|⟨o,its,n,e,hc,_,hd,_,hv⟩
 ·obtain⟨_,its,n,hv,e⟩:=(show bK P w H h a (.lst xs) from q.ok aZ)
  exact⟨its,_,n,hv,e,rfl,rfl⟩
 ·exact⟨its.toList,o,n,hv,KX _ _ e,hc,by simp[hd]⟩
theorem Ny{a:Addr}{xs:List V}(aZ:gA P w H h)(KX:K.In h)(q:fN K H a xs):∃(its:List Value)(o:Obj)(n:Nat),Vals xs its/\h.get? a=some o/\o.cls= .type "tuple"/\o.data= .seq its.toArray n:=by
 rcases q with q|⟨o,its,n,e,hc,hd,_,hv⟩
 ·obtain⟨_,its,hv,o,e,hc,n,hd⟩:=(show bK P w H h a (.tup xs) from q.ok aZ)
  exact⟨its,o,n,hv,e,hc,hd⟩
 ·exact⟨its.toList,o,n,hv,KX _ _ e,hc,by simp[hd]⟩
mutual
theorem Dw.reads(aZ:gA P w H h)(KX:K.In h):∀(d:WData)(v:V)(u:Value),Dw K H v d->RelV v u->∃as,ReadsW R cl h u d as
 | .none,_,_,x,r=>by
  cases x;cases r;exact⟨_,ReadsW.none⟩
 | .bool b,_,_,x,r=>by
  cases x;cases r;exact⟨_,ReadsW.bool b⟩
 | .int i,_,_,x,r=>by
  cases x;obtain⟨t,rfl⟩:=r;exact⟨_,ReadsW.int i t⟩
 | .str s,_,_,x,r=>by
  cases x;obtain⟨t,rfl⟩:=r;exact⟨_,ReadsW.str s t⟩
 | .bytes b,_,_,x,r=>by
  cases x;obtain⟨t,rfl⟩:=r;exact⟨_,ReadsW.bytes _ t⟩
 | .list ds,_,_,x,r=>by
  cases x with
  |lst hs ha=>
   cases r;obtain⟨its,o,n,rv,ho,hc,hd⟩:=Mo aZ KX hs;obtain⟨as,hr⟩:=Dw.readsAll aZ KX ds _ its ha rv;exact⟨_,ReadsW.list ho hc hd hr⟩
 | .tuple ds,_,_,x,r=>by
  cases x with
  |tup hs ha=>
   cases r;obtain⟨its,o,n,rv,ho,hc,hd⟩:=Ny aZ KX hs;obtain⟨as,hr⟩:=Dw.readsAll aZ KX ds _ its ha rv;exact⟨_,ReadsW.tuple ho hc hd hr⟩
 | .float _,_,_,x,_=>by cases x
 | .dict _,_,_,x,_=>by cases x
 | .bytearray _,_,_,x,_=>by cases x
 | .set _,_,_,x,_=>by cases x
 | .frozenset _,_,_,x,_=>by cases x
 | .obj _ _,_,_,x,_=>by cases x
theorem Dw.readsAll(aZ:gA P w H h)(KX:K.In h):∀(ds:List WData)(vs:List V)(us:List Value),gc K H vs ds->Vals vs us->∃as,ReadsAllW R cl h us ds as
 |[],_,_,x,r=>by
  cases x;cases r;exact⟨_,ReadsAllW.nil⟩
 |d::ds,_,_,x,r=>by
  cases x with
  |cons h1 h2=>
   cases r with
   |cons r1 r2=>
    obtain⟨as,q1⟩:=Dw.reads aZ KX d _ _ h1 r1;obtain⟨bs,q2⟩:=Dw.readsAll aZ KX ds _ _ h2 r2;exact⟨_,ReadsAllW.cons q1 q2⟩
end
end
mutual
def Dt:WData->Bool
 | .none=>true
 | .bool _=>true
 | .int _=>true
 | .str _=>true
 | .bytes _=>true
 | .list xs=>pQ xs
 | .tuple xs=>pQ xs
 |_=>false
def pQ:List WData->Bool
 |[]=>true
 |x::r=>Dt x&&pQ r
end
theorem zj{α:Type}{f:α->WData}(h:∀a,Dt (f a)=true):∀l:List α,pQ (l.map f)=true
 |[]=>rfl
 |x::r=>by
  show(Dt (f x)&&pQ (r.map f))=true;rw[h x,zj h r] <;> rfl
theorem ig:∀(c:Codec)(a:c.denote),Dt (c.enc a)=true
 | .unit,_=>rfl
 | .bool,_=>rfl
 | .int _ _,_=>rfl
 | .nat _ _,_=>rfl
 | .u8,_=>rfl
 | .bytes _ _,_=>rfl
 | .text _ _ _ _,_=>rfl
 | .list _ _ c,a=>zj (λx=>ig c x) a
 | .pair c d,a=>by
  show(Dt (c.enc a.1)&&(Dt (d.enc a.2)&&true))=true;rw[ig c a.1,ig d a.2] <;> rfl
 | .triple c d e,a=>by
  show(Dt (c.enc a.1)&&(Dt (d.enc a.2.1)&&(Dt (e.enc a.2.2)&&true)))=true;rw[ig c a.1,ig d a.2.1,ig e a.2.2] <;> rfl
 | .option c,none=>rfl
 | .option c,some x=>ig c x
theorem vm:∀(cs:List Codec)(a:Codec.denoteAll cs),pQ (Codec.encAll cs a)=true
 |[],_=>rfl
 |c::cs,a=>by
  show(Dt (c.enc a.1)&&pQ (Codec.encAll cs a.2))=true;rw[ig c a.1,vm cs a.2] <;> rfl
theorem jx:∀{xs:List WData}{d:WData},d∈xs->d.weight<=WData.weightAll xs
 |[],d,h=>absurd h (by simp)
 |x::r,d,h=>by
  show d.weight<=x.weight+1+WData.weightAll r;rcases List.mem_cons.mp h with e|m
  ·rw[e];omega
  ·have z:=jx m;omega
def toV:Value->V
 | .none=>.bH
 | .bool b=>.bl b
 | .int i _=>.int i
 | .str x _=>.str x
 | .bytes b _=>.bW b
 | .ref a=>.ref a
 |_=>.bH
def EH(A:List Addr):Value->Prop
 | .none=>True
 | .bool _=>True
 | .int _ _=>True
 | .str _ _=>True
 | .bytes _ _=>True
 | .ref a=>a∈A
 |_=>False
theorem EH.mono{A B:List Addr}(h:∀a∈A,a∈B):∀{u:Value},EH A u->EH B u:=λ{u} x=>by
 cases u with
 |ref a=>exact h a x
 |none=>trivial
 |bool b=>trivial
 |int i t=>trivial
 |str s t=>trivial
 |bytes b t=>trivial
 |_=>exact False.elim x
theorem Iq{A:List Addr}{u:Value}(x:EH A u):RelV (toV u) u:=by
 cases u with
 |ref a=>rfl
 |none=>rfl
 |bool b=>rfl
 |int i t=>exact⟨t,rfl⟩
 |str s t=>exact⟨t,rfl⟩
 |bytes b t=>exact⟨t,rfl⟩
 |_=>exact False.elim x
theorem gu{A:List Addr}:∀{vs:List Value},(∀u∈vs,EH A u)->Vals (vs.map toV) vs
 |[],_=>.nil
 |u::r,h=>.cons (Iq (h u (List.mem_cons_self ..))) (gu λx hx=>h x (List.mem_cons_of_mem _ hx))
def hU(h:Heap)(A:List Addr)(a:Addr):Prop:=∃vs:List Value,vs.length<=sizeLine/\(∀u∈vs,EH A u)/\
 (h.get? a=some {cls:=.type "list",data:=.seq vs.toArray}\/h.get? a=some {cls:=.type "tuple",data:=.seq vs.toArray})
theorem hU.mono{h:Heap}{A B:List Addr}{a:Addr}(k:∀a∈A,a∈B)(x:hU h A a):hU h B a:=by obtain⟨vs,h1,h2,h3⟩:=x;exact⟨vs,h1,λu hu=>(h2 u hu).mono k,h3⟩
theorem fO{P:Params}{h:Heap}:∀{vs:List Value}{ds:List WData},WellAll P h vs ds->vs.length=ds.length
 |_,_,.nil=>rfl
 |_,_,.cons _ b=>by
  show _+1=_+1;rw[fO b]
theorem uI{P:Params}{h:Heap}{v:Value}{ds:List WData}(x:Well P h v (.list ds)):∃(a:Addr)(vs:List Value),v= .ref a/\h.get? a=some {cls:=.type "list",data:=.seq vs.toArray}/\WellAll P h vs ds:=by
 cases x with
 |list ho hall=>exact⟨_,_,rfl,ho,hall⟩
theorem sD{P:Params}{h:Heap}{v:Value}{ds:List WData}(x:Well P h v (.tuple ds)):∃(a:Addr)(vs:List Value),v= .ref a/\h.get? a=some {cls:=.type "tuple",data:=.seq vs.toArray}/\WellAll P h vs ds:=by
 cases x with
 |tuple ho hall=>exact⟨_,_,rfl,ho,hall⟩
theorem uK{P:Params}{h:Heap}{us:List Value}{d:WData}{ds:List WData}(x:WellAll P h us (d::ds)):∃(v:Value)(vs:List Value),us=v::vs/\Well P h v d/\WellAll P h vs ds:=by
 cases x with
 |cons a b=>exact⟨_,_,rfl,a,b⟩
theorem C_{n:Nat}(h:n<=1048576):n<=sizeLine:=Nat.le_trans h ↑0
section
variable{P:Params}{h:Heap}
mutual
theorem FO:∀(d:WData)(v:Value),Well P h v d->Dt d=true->d.weight<=1048576->∃A:List Addr,EH A v/\∀a∈A,hU h A a
 | .none,_,x,_,_=>by
  cases x;exact⟨[],trivial,λa m=>absurd m (by simp)⟩
 | .bool b,_,x,_,_=>by
  cases x;exact⟨[],trivial,λa m=>absurd m (by simp)⟩
 | .int i,_,x,_,_=>by
  cases x;exact⟨[],trivial,λa m=>absurd m (by simp)⟩
 | .str s,_,x,_,_=>by
  cases x;exact⟨[],trivial,λa m=>absurd m (by simp)⟩
 | .bytes b,_,x,_,_=>by
  cases x;exact⟨[],trivial,λa m=>absurd m (by simp)⟩
 | .list ds,_,x,p,z=>by
  obtain⟨a,vs,rfl,ho,hall⟩:=uI x;have z2:WData.weightAll ds<=1048576:=z;obtain⟨A,h1,h2⟩:=lb ds _ hall p λd hd=>Nat.le_trans (jx hd) z2;have k:∀b∈A,b∈a::A:=λb hb=>List.mem_cons_of_mem _ hb;refine⟨a::A,List.mem_cons_self ..,λb hb=>?_⟩;rcases List.mem_cons.mp hb with e|m
  ·rw[e];exact⟨vs,C_ (by rw[fO hall];exact Nat.le_trans (PySem.W.length_le_weightAllW ds) z2),λu hu=>(h1 u hu).mono k,.inl ho⟩
  ·exact(h2 b m).mono k
 | .tuple ds,_,x,p,z=>by
  obtain⟨a,vs,rfl,ho,hall⟩:=sD x;have z2:WData.weightAll ds<=1048576:=z;obtain⟨A,h1,h2⟩:=lb ds _ hall p λd hd=>Nat.le_trans (jx hd) z2;have k:∀b∈A,b∈a::A:=λb hb=>List.mem_cons_of_mem _ hb;refine⟨a::A,List.mem_cons_self ..,λb hb=>?_⟩;rcases List.mem_cons.mp hb with e|m
  ·rw[e];exact⟨vs,C_ (by rw[fO hall];exact Nat.le_trans (PySem.W.length_le_weightAllW ds) z2),λu hu=>(h1 u hu).mono k,.inr ho⟩
  ·exact(h2 b m).mono k
 | .float _,_,_,p,_=>Bool.noConfusion (show false=true from p)
 | .dict _,_,_,p,_=>Bool.noConfusion (show false=true from p)
 | .bytearray _,_,_,p,_=>Bool.noConfusion (show false=true from p)
 | .set _,_,_,p,_=>Bool.noConfusion (show false=true from p)
 | .frozenset _,_,_,p,_=>Bool.noConfusion (show false=true from p)
 | .obj _ _,_,_,p,_=>Bool.noConfusion (show false=true from p)
theorem lb:∀(ds:List WData)(vs:List Value),WellAll P h vs ds->pQ ds=true->(∀d∈ds,d.weight<=1048576)->∃A:List Addr,(∀u∈vs,EH A u)/\∀a∈A,hU h A a
 |[],_,x,_,_=>by
  cases x;exact⟨[],λu m=>absurd m (by simp),λa m=>absurd m (by simp)⟩
 |d::ds,_,x,p,z=>by
  obtain⟨v,vs,rfl,x1,x2⟩:=uK x;have q:Dt d=true/\pQ ds=true:=Bool.and_eq_true_iff.mp p;obtain⟨A,a1,a2⟩:=FO d v x1 q.1 (z d (List.mem_cons_self ..));obtain⟨B,b1,b2⟩:=lb ds vs x2 q.2 λe he=>z e (List.mem_cons_of_mem _ he);have kA:∀b∈A,b∈A++B:=λb hb=>List.mem_append.mpr (.inl hb);have kB:∀b∈B,b∈A++B:=λb hb=>List.mem_append.mpr (.inr hb);refine⟨A++B,λu hu=>?_,λb hb=>?_⟩
  ·rcases List.mem_cons.mp hu with e|m
   ·rw[e];exact a1.mono kA
   ·exact(b1 u m).mono kB
  ·rcases List.mem_append.mp hb with m|m
   ·exact(a2 b m).mono kA
   ·exact(b2 b m).mono kB
end
end
def KS(o:Obj):Option HO:=match o.data with
 | .seq vs _=>if(o.cls==Value.type "list")=true then some (.rZ o (.lst (vs.toList.map toV))) else some (.rZ o (.tup (vs.toList.map toV)))
 |_=>none
def gY(K:Frag)(h:Heap)(A:List Addr):Hp:=λb=>if b∈A then(if(K.lookup b).isNone=true then(h.get? b).bind KS else none) else none
def vk(H:Hp):Prop:=∀b,H b=none\/∃o u,H b=some (.rZ o u)
theorem zK(vs:List Value):KS {cls:=.type "list",data:=.seq vs.toArray}=some (.rZ {cls:=.type "list",data:=.seq vs.toArray} (.lst (vs.map toV))):=by show(if(Value.type "list"==Value.type "list")=true then some (HO.rZ {cls:=.type "list",data:=.seq vs.toArray} (.lst (vs.toArray.toList.map toV))) else some (HO.rZ {cls:=.type "list",data:=.seq vs.toArray} (.tup (vs.toArray.toList.map toV))))=_;rw[if_pos (beq_self_eq_true _)]
theorem yS(vs:List Value):KS {cls:=.type "tuple",data:=.seq vs.toArray}=some (.rZ {cls:=.type "tuple",data:=.seq vs.toArray} (.tup (vs.map toV))):=by show(if(Value.type "tuple"==Value.type "list")=true then some (HO.rZ {cls:=.type "tuple",data:=.seq vs.toArray} (.lst (vs.toArray.toList.map toV))) else some (HO.rZ {cls:=.type "tuple",data:=.seq vs.toArray} (.tup (vs.toArray.toList.map toV))))=_;rw[if_neg ↑0]
section
variable{P:Program}{w:World}{K:Frag}{h:Heap}{A:List Addr}
theorem ql{b:Addr}{o:Obj}(hb:b∈A)(hk:K.lookup b=none)(e:h.get? b=some o):gY K h A b=KS o:=by unfold gY;rw[if_pos hb,hk,if_pos (show(none:Option Obj).isNone=true from rfl),e] <;> rfl
theorem Lf{b:Addr}{u:HO}(q:gY K h A b=some u):b∈A/\K.lookup b=none:=by
 unfold gY at q;by_cases hb:b∈A
 ·rw[if_pos hb] at q;cases hk:K.lookup b with
  |none=>exact⟨hb,rfl⟩
  |some o=>
   rw[hk,if_neg (by simp)] at q;cases q
 ·rw[if_neg hb] at q;cases q
theorem qf(ar:∀a∈A,hU h A a){b:Addr}{u:HO}(q:gY K h A b=some u):K.lookup b=none/\∃vs:List Value,vs.length<=sizeLine/\(∀u∈vs,EH A u)/\
    ((h.get? b=some {cls:=.type "list",data:=.seq vs.toArray}/\u= .rZ {cls:=.type "list",data:=.seq vs.toArray} (.lst (vs.map toV)))\/
     (h.get? b=some {cls:=.type "tuple",data:=.seq vs.toArray}/\u= .rZ {cls:=.type "tuple",data:=.seq vs.toArray} (.tup (vs.map toV)))):=by
  obtain⟨hb,hk⟩:=Lf q;obtain⟨vs,h1,h2,h3⟩:=ar b hb;refine⟨hk,vs,h1,h2,?_⟩;rcases h3 with e|e
  · rw[ql hb hk e,zK] at q;exact .inl ⟨e,(Option.some.inj q).symm⟩
  · rw[ql hb hk e,yS] at q;exact .inr ⟨e,(Option.some.inj q).symm⟩
theorem Es(ar:∀a∈A,hU h A a):vk (gY K h A):=λb=>by
 cases q:gY K h A b with
 |none=>exact .inl rfl
 |some u=>
  obtain⟨_,vs,_,_,⟨_,e⟩|⟨_,e⟩⟩:=qf ar q
  ·exact .inr ⟨_,_,by rw[e]⟩
  ·exact .inr ⟨_,_,by rw[e]⟩
theorem J9(ar:∀a∈A,hU h A a):gA P w (gY K h A) h:=λb u q=>by
 obtain⟨_,vs,h1,h2,⟨e,rfl⟩|⟨e,rfl⟩⟩:=qf ar q
 ·exact⟨e,by rw[List.length_map];exact h1,vs,_,gu h2,e⟩
 ·exact⟨e,by rw[List.length_map];exact h1,vs,gu h2,_,e,rfl,_,rfl⟩
theorem qj{c c':Value}{vs us:List Value}(e:(some {cls:=c,data:=.seq vs.toArray}:Option Obj)=some {cls:=c',data:=.seq us.toArray}):c=c'/\vs=us:=by have e1:=Option.some.inj e;have e2:c=c':=congrArg Obj.cls e1;have e3:Data.seq vs.toArray=Data.seq us.toArray:=congrArg Obj.data e1;injection e3 with e4;refine⟨e2,?_⟩;have e5:=congrArg Array.toList e4;simpa using e5
theorem S5(KX:K.In h)(ar:∀a∈A,hU h A a){a:Addr}{vs:List Value}(ha:a∈A)(e:h.get? a=some {cls:=.type "list",data:=.seq vs.toArray}):(∀u∈vs,EH A u)/\bh K (gY K h A) a (vs.map toV):=by
 obtain⟨us,h1,h2,h3⟩:=ar a ha;have hu:us=vs:=by
  rcases h3 with q|q
  ·rw[e] at q;exact(qj q).2.symm
  ·rw[e] at q;exact absurd (Value.type.inj (qj q).1) ↑0
 subst hu;refine⟨h2,?_⟩;cases hk:K.lookup a with
 |none=>exact .inl (.inr ⟨_,by rw[ql ha hk e,zK]⟩)
 |some o=>
  have e2:=KX a o hk;rw[e] at e2;obtain rfl:=Option.some.inj e2;exact .inr ⟨_,us.toArray,_,hk,rfl,rfl,rfl,by rw[List.size_toArray];exact h1,by simpa using gu h2⟩
theorem S8(KX:K.In h)(ar:∀a∈A,hU h A a){a:Addr}{vs:List Value}(ha:a∈A)(e:h.get? a=some {cls:=.type "tuple",data:=.seq vs.toArray}):(∀u∈vs,EH A u)/\fN K (gY K h A) a (vs.map toV):=by
 obtain⟨us,h1,h2,h3⟩:=ar a ha;have hu:us=vs:=by
  rcases h3 with q|q
  ·rw[e] at q;exact absurd (Value.type.inj (qj q).1) ↑0
  ·rw[e] at q;exact(qj q).2.symm
 subst hu;refine⟨h2,?_⟩;cases hk:K.lookup a with
 |none=>exact .inl (.inr ⟨_,by rw[ql ha hk e,yS]⟩)
 |some o=>
  have e2:=KX a o hk;rw[e] at e2;obtain rfl:=Option.some.inj e2;exact .inr ⟨_,us.toArray,_,hk,rfl,rfl,by rw[List.size_toArray];exact h1,by simpa using gu h2⟩
mutual
theorem M0{Pm:Params}(KX:K.In h)(ar:∀a∈A,hU h A a):∀(d:WData)(v:Value),Well Pm h v d->Dt d=true->EH A v->Dw K (gY K h A) (toV v) d
 | .none,_,x,_,_=>by
  cases x;exact .bH
 | .bool b,_,x,_,_=>by
  cases x;exact .bl b
 | .int i,_,x,_,_=>by
  cases x;exact .int i
 | .str s,_,x,_,_=>by
  cases x;exact .str s
 | .bytes b,_,x,_,_=>by
  cases x;have z:=Dw.bW (K:=K) (H:=gY K h A) b.toArray;exact z
 | .list ds,_,x,p,hu=>by
  obtain⟨a,vs,rfl,ho,hall⟩:=uI x;obtain⟨h2,hs⟩:=S5 KX ar hu ho;exact .lst hs (xq KX ar ds _ hall p h2)
 | .tuple ds,_,x,p,hu=>by
  obtain⟨a,vs,rfl,ho,hall⟩:=sD x;obtain⟨h2,hs⟩:=S8 KX ar hu ho;exact .tup hs (xq KX ar ds _ hall p h2)
 | .float _,_,_,p,_=>Bool.noConfusion (show false=true from p)
 | .dict _,_,_,p,_=>Bool.noConfusion (show false=true from p)
 | .bytearray _,_,_,p,_=>Bool.noConfusion (show false=true from p)
 | .set _,_,_,p,_=>Bool.noConfusion (show false=true from p)
 | .frozenset _,_,_,p,_=>Bool.noConfusion (show false=true from p)
 | .obj _ _,_,_,p,_=>Bool.noConfusion (show false=true from p)
theorem xq{Pm:Params}(KX:K.In h)(ar:∀a∈A,hU h A a):∀(ds:List WData)(vs:List Value),WellAll Pm h vs ds->pQ ds=true->(∀u∈vs,EH A u)->gc K (gY K h A) (vs.map toV) ds
 |[],_,x,_,_=>by
  cases x;exact .nil
 |d::ds,_,x,p,hu=>by
  obtain⟨v,vs,rfl,x1,x2⟩:=uK x;have q:Dt d=true/\pQ ds=true:=Bool.and_eq_true_iff.mp p;exact .cons (M0 KX ar d v x1 q.1 (hu _ (List.mem_cons_self ..))) (xq KX ar ds vs x2 q.2 λu m=>hu u (List.mem_cons_of_mem _ m))
end
end
theorem E_{P:Program}{w:World}{K:Frag}{mg mb:Str->Option Value}{CX:yA}{k:Nat}{fa:Addr}{fd:FuncData}{ps:List Str}{sp:Sp}{s₁:Shared}{vals:List Value}{ds:List WData}{R:PySem.W.WRecords}{cl:Str->Option Addr}{d0:WData}(KX:K.In s₁.heap)(hns:s₁.heap.Ns mainGlobals mg)(hb:s₁.heap.Ns builtinsNs mb)(hbb:∀x:Str,x≠"__name__"->mb x=bootBuiltins x)(hlim:s₁.heap.NoLimit)(hg:s₁.gens=#[])(hwl:WellAll w.params s₁.heap vals ds)(hpl:pQ ds=true)(hwt:∀d∈ds,d.weight<=1048576)(hr:bC k callerA)(F:∀base:Heap,K.In base->base.Ns mainGlobals mg->bY P w K mg base CX k fa fd ps sp)(hbind:∀(s:Shared)(us:List Value),us.length=ps.length->BindsTo s fd ⟨us,[]⟩ (ps.zip us))(hlen:ds.length=ps.length)(hsp:∀(H:Hp)(xs:List V),vk H->gc K H xs ds->sp xs H (λv H'=>Dw K H' v d0) λ_ _ _=>False)(hCX:∀H e s',CX [] H s₁ (λ_ _ _=>False) e s'->False):
  codeAny (model P w) callerA (.call (.ref fa) ⟨vals,[]⟩) (λr s'=>∃u as,r= .ok (.ret u)/\ReadsW R cl s'.heap u d0 as/\OldK s₁.heap s'.heap/\s'.os=s₁.os/\AllBare s'.gens) s₁:=by
 obtain⟨A,ho,ar⟩:=lb ds vals hwl hpl hwt;have hO:vk (gY K s₁.heap A):=Es ar;have aZ:gA P w (gY K s₁.heap A) s₁.heap:=J9 ar;have hS:=xq KX ar ds vals hwl hpl ho;have hV:=gu ho;have hK:∀b u,gY K s₁.heap A b=some u->K.lookup b=none:=λb u q=>(qf ar q).1;have noA:∀{b:Addr}{o:Obj}{es:Array DictEntry}{ep:Nat},s₁.heap.get? b=some o->o.data= .dict es ep->gY K s₁.heap A b=none:=λ{b o es ep} e d=>by
  cases q:gY K s₁.heap A b with
  |none=>rfl
  |some u=>
   obtain⟨_,vs,_,_,⟨e2,_⟩|⟨e2,_⟩⟩:=qf ar q
   ·rw[e2] at e;cases e;have d':Data.seq vs.toArray _=Data.dict es ep:=d;cases d'
   ·rw[e2] at e;cases e;have d':Data.seq vs.toArray _=Data.dict es ep:=d;cases d'
 generalize gY K s₁.heap A=H at hO aZ hS hK noA;have base_of:∀{b:Addr}{o:Obj},s₁.heap.get? b=some o->H b=none->(v5 s₁.heap H).get? b=some o:=λe n=>Ha e n;have nsK:∀{b:Addr}{m:Str->Option Value},s₁.heap.Ns b m->(v5 s₁.heap H).Ns b m:=λ{b m} ⟨o,es,ep,e,d,r⟩=>⟨o,es,ep,base_of e (noA e d),d,r⟩
 have nK:∀b o,K.lookup b=some o->H b=none:=λb o e=>by
  cases q:H b with
  |none=>rfl
  |some u=>
   rw[hK b u q] at e;cases e
 have hKb:K.In (v5 s₁.heap H):=λb o e=>base_of (KX b o e) (nK b o e);have hM:Mod K mg (v5 s₁.heap H):=⟨hKb,nsK hns,⟨mb,nsK hb,hbb⟩,let⟨mc,h1,h2⟩:=hlim;⟨mc,nsK h1,h2⟩⟩
 have e0:xk P w K mg (v5 s₁.heap H) callerA [] s₁ H:=⟨rfl,hM,λb o e=>J5 e,Nat.le_of_eq (EL _ _),trivial,λb hb=>absurd (show b∈([]:List Addr) from hb) (by simp),aZ,.of_eq hg⟩
 have hl:vals.length=ps.length:=by rw[fO hwl];exact hlen
 refine codeAny_mono ((F _ hKb (nsK hns)).run callerA [] s₁ H ⟨vals,[]⟩ vals (vals.map toV) _ _ hr e0 (hbind s₁ vals hl) hV (hsp H _ hO hS)) λr s' x=>?_;cases r with
 |error e=>exact(hCX H e s' x).elim
 |ok fl=>
  cases fl with
  |next=>exact False.elim x
  |brk=>exact False.elim x
  |cont=>exact False.elim x
  |ret u=>
   obtain⟨v,H',os,bare,un,hok',r',q⟩:=x;have kept:∀b o,s₁.heap.get? b=some o->s'.heap.get? b=some o:=λb o e=>by
    cases q2:H b with
    |none=>exact un.keep b o e q2 (by intro z;exact absurd (show b∈([]:List Addr) from z) (by simp)) (by simp)
    |some u2=>
     rcases hO b with z|⟨ob,u3,z⟩
     ·rw[q2] at z;cases z
     ·have z2:=un.nH b ob _ z;obtain⟨e1,_⟩:=aZ b _ z;obtain⟨e2,_⟩:=hok' b _ z2;rw[e] at e1;cases e1;exact e2
   have KX':K.In s'.heap:=λb o e=>kept b o (KX b o e);obtain⟨as,hrd⟩:=Dw.reads (R:=R) (cl:=cl) hok' KX' d0 v u q r';exact⟨u,as,rfl,hrd,OldK.of_keep kept,os,bare⟩
theorem sg{ds:List WData}(h:WData.layableAll ds=true):∀d∈ds,d.weight<=1048576:=λd hd=>
 (PySem.W.layableW_iff.mp (List.all_eq_true.mp h d hd)).2.2
theorem sW:∀(cs:List Codec)(a:Codec.denoteAll cs),(Codec.encAll cs a).length=cs.length
 |[],_=>rfl
 |c::cs,a=>by
  show(Codec.encAll cs a.2).length+1=cs.length+1;rw[sW cs a.2]
theorem Ey{r:OpenSpec}{k:Nat}{q:Program}{loose:List Str}{XP:(Str->Option Value)->Heap->Prop}{YP:World->Heap->Prop}{d:DefRec}{K:Params->Frag}{CX:World->yA}{ps:List Str}{sp:World->Sp}(hwell:r.wellSaid=true)(hdf:d.params.defaults=[])(hlen:r.args.length=ps.length)(hr:bC k callerA)(hY:∀(w:World)(h:Heap),YP w h->(K w.params).In h)(F:∀(w:World)(mg:Str->Option Value)(fa:Addr)(h:Heap),YP w h->(K w.params).In h->h.Ns mainGlobals mg->mg d.name=some (.ref fa)->
   ∃fd:FuncData,(∀(s:Shared)(us:List Value),us.length=ps.length->BindsTo s fd ⟨us,[]⟩ (ps.zip us))/\
    ∀base:Heap,(K w.params).In base->base.Ns mainGlobals mg->bY r.prog w (K w.params) mg base (CX w) k fa fd ps (sp w))(hsp:∀(w:World)(H:Hp)(xs:List V)(a:Codec.denoteAll r.args),vk H->Codec.withinAll r.args a=true->Codec.app r.args r.asked a=true->gc (K w.params) H xs (Codec.encAll r.args a)->
   sp w xs H (λv H'=>Dw (K w.params) H' v (r.ret.enc (Codec.app r.args r.f a))) λ_ _ _=>False)(hCX:∀(w:World)(H:Hp)(s:Shared)(e:Value)(s':Shared),CX w [] H s (λ_ _ _=>False) e s'->False):
  PySem.W.WalkOS q loose XP YP r d [] (λf vs=>PySem.call f vs):=by
 intro w nO s₁ mg mb G Y fa o pm cd doc dV kV ho hd hcd hD hmg hg args vals as hpre hlay hrd hwl hlo;obtain⟨a,e1,e2⟩:=PySem.W.os_pre_some hpre;obtain⟨e3,hwi⟩:=Codec.encAll_of_decAll r.args args a e1;subst e3;have KX:=hY w _ Y;obtain⟨fd,hb,hF⟩:=F w mg fa _ Y KX G.T.g hmg;refine PySem.W.enter_call (codeAny_mono (E_ (R:=[]) (cl:=classAt nO.heap) (d0:=r.ret.enc (Codec.app r.args r.f a)) KX G.T.g G.T.b G.T.builtins G.T.nolimit hg hwl (vm _ _) (sg hlay) hr hF hb (by rw[sW];exact hlen)
  (λH xs hO hS=>hsp w H xs a hO hwi e2 hS) λH e s'=>hCX w H s₁ e s') λr' s' hq=>?_)
 obtain⟨u,as',rfl,h1,h2,h3,h4⟩:=hq;exact⟨.inl ⟨u,_,as',rfl,λ_=>rfl,h1,(OpenSpec.post_iff hwell hwi _ _).mpr rfl,λz=>Bool.noConfusion (show false=true from z)⟩,h2,h3,h4⟩
theorem Bt{r:OpenSpec}{k:Nat}{q:Program}{loose:List Str}{XP:(Str->Option Value)->Heap->Prop}{YP:World->Heap->Prop}{d:DefRec}{K:Params->Frag}{CX:yA}{ps:List Str}{sp:Frag->Sp}(hwell:r.wellSaid=true)(hdf:d.params.defaults=[])(hlen:r.args.length=ps.length)(hr:bC k callerA)(hY:∀(w:World)(h:Heap),YP w h->(K w.params).In h)(F:∀(w:World)(mg:Str->Option Value)(fa:Addr)(h:Heap),YP w h->(K w.params).In h->h.Ns mainGlobals mg->mg d.name=some (.ref fa)->
   ∃fd:FuncData,(∀(s:Shared)(us:List Value),us.length=ps.length->BindsTo s fd ⟨us,[]⟩ (ps.zip us))/\
    ∀base:Heap,(K w.params).In base->base.Ns mainGlobals mg->bY r.prog w (K w.params) mg base CX k fa fd ps (sp (K w.params)))(hsp:∀(K:Frag)(H:Hp)(xs:List V)(a:Codec.denoteAll r.args),vk H->Codec.withinAll r.args a=true->Codec.app r.args r.asked a=true->gc K H xs (Codec.encAll r.args a)->
   sp K xs H (λv H'=>Dw K H' v (r.ret.enc (Codec.app r.args r.f a))) λ_ _ _=>False)(hCX:∀(H:Hp)(s:Shared)(e:Value)(s':Shared),CX [] H s (λ_ _ _=>False) e s'->False):
  PySem.W.WalkOS q loose XP YP r d [] (λf vs=>PySem.call f vs):=
 Ey (K:=K) (CX:=λ_=>CX) (sp:=λw=>sp (K w.params)) hwell hdf hlen hr hY F (λw H xs a h1 h2 h3 h4=>hsp (K w.params) H xs a h1 h2 h3 h4) λ_ H s e s'=>hCX H s e s'
end
end L2
namespace TW
open EwTree
variable{b:By}{c:UInt8}{p:Nat}{r:By}
abbrev By:=List UInt8
theorem ej{α:Type}(p:α->Bool):∀(l:List α)(n:Nat),(l.takeWhile p).length<=n->(l.take n).takeWhile p=l.takeWhile p
 |[],n,_=>by simp
 |a::l,0,h=>by
  cases e:p a with
  |false=>simp[List.takeWhile_cons,e]
  |true=>simp[List.takeWhile_cons,e] at h
 |a::l,n+1,h=>by
  cases e:p a with
  |false=>simp[List.takeWhile_cons,e]
  |true=>
   simp only[List.take_succ_cons,List.takeWhile_cons,e,if_true];rw[ej p l n (by simpa[List.takeWhile_cons,e] using h)]
theorem i_{α:Type}(p:α->Bool):∀(l:List α)(n:Nat),(l.takeWhile p).length<=n->(l.take n).dropWhile p=(l.dropWhile p).take (n - (l.takeWhile p).length)
 |[],n,_=>by simp
 |a::l,0,h=>by
  cases e:p a with
  |false=>simp[List.dropWhile_cons,e,List.takeWhile_cons]
  |true=>simp[List.takeWhile_cons,e] at h
 |a::l,n+1,h=>by
  cases e:p a with
  |false=>simp[List.takeWhile_cons,List.dropWhile_cons,e]
  |true=>
   simp only[List.take_succ_cons,List.takeWhile_cons,List.dropWhile_cons,e,if_true,List.length_cons];rw[i_ p l n (by simpa[List.takeWhile_cons,e] using h)];congr 1;omega
theorem dq{α:Type}(p:α->Bool):∀(l:List α),l.dropWhile p=l.drop (l.takeWhile p).length
 |[]=>rfl
 |a::l=>by
  cases e:p a with
  |false=>simp[List.takeWhile_cons,List.dropWhile_cons,e]
  |true=>
   simp only[List.takeWhile_cons,List.dropWhile_cons,e,if_true,List.length_cons,List.drop_succ_cons];exact dq p l
theorem gH{α:Type}(p:α->Bool):∀(l:List α),l.takeWhile p=l.take (l.takeWhile p).length
 |[]=>rfl
 |a::l=>by
  cases e:p a with
  |false=>simp[List.takeWhile_cons,e]
  |true=>
   simp only[List.takeWhile_cons,e,if_true,List.length_cons,List.take_succ_cons];rw[<-gH p l]
theorem dh{α:Type}(p:α->Bool)(l:List α):(l.takeWhile p).length+(l.dropWhile p).length=l.length:=by have:=congrArg List.length (List.takeWhile_append_dropWhile (p:=p) (l:=l));rw[List.length_append] at this;exact this
theorem HS{α:Type}(p:α->Bool):∀(l:List α),(l.takeWhile p).all p=true
 |[]=>rfl
 |a::l=>by
  cases e:p a with
  |false=>simp[List.takeWhile_cons,e]
  |true=>
   simp only[List.takeWhile_cons,e,if_true,List.all_cons,Bool.true_and];exact HS p l
theorem tU{a b:UInt8}:a<=b↔a.toNat<=b.toNat:=UInt8.le_iff_toNat_le
theorem jf{a b:UInt8}:a=b↔a.toNat=b.toNat:=⟨λh=>by rw[h],λh=>UInt8.toNat_inj.mp h⟩
theorem wU{n:Nat}{m:UInt8}(h:m.toNat=n):decide ((n:Int)<=(c.toNat:Int))=decide (m<=c):=by
 by_cases q:m<=c
 ·rw[decide_eq_true q];exact decide_eq_true (by have:=tU.mp q;omega)
 ·rw[decide_eq_false q];exact decide_eq_false (λz=>q (tU.mpr ↑2))
theorem xy{n:Nat}{m:UInt8}(h:m.toNat=n):decide ((c.toNat:Int)<=(n:Int))=decide (c<=m):=by
 by_cases q:c<=m
 ·rw[decide_eq_true q];exact decide_eq_true (by have:=tU.mp q;omega)
 ·rw[decide_eq_false q];exact decide_eq_false (λz=>q (tU.mpr ↑2))
theorem B9{n:Nat}{m:UInt8}(h:m.toNat=n):decide ((c.toNat:Int)=(n:Int))=decide (c=m):=by
 by_cases q:c=m
 ·rw[decide_eq_true q];exact decide_eq_true (by rw[q];omega)
 ·rw[decide_eq_false q];exact decide_eq_false (λz=>q (jf.mpr ↑2))
def ic(n:Int):Bool:=decide (97<=n)&&decide (n<=122)
def uB(n:Int):Bool:=decide (65<=n)&&decide (n<=90)
def bZ(n:Int):Bool:=decide (48<=n)&&decide (n<=57)
def g7(n:Int):Bool:=decide (32<=n)&&decide (n<=126)
def g_(n:Int):Bool:=ic n||(bZ n||decide (n=95))
def oZ(n:Int):Bool:=uB n||bZ n
def oH(n:Int):Bool:=g_ n||uB n
theorem r9(c:UInt8):ic c.toNat=isSmall c:=by unfold ic isSmall;rw[<-wU (n:=97) (m:=97) rfl,<-xy (n:=122) (m:=122) rfl];rfl
theorem BX(c:UInt8):uB c.toNat=isBig c:=by unfold uB isBig;rw[<-wU (n:=65) (m:=65) rfl,<-xy (n:=90) (m:=90) rfl];rfl
theorem fF(c:UInt8):bZ c.toNat=isDigit c:=by unfold bZ isDigit;rw[<-wU (n:=48) (m:=48) rfl,<-xy (n:=57) (m:=57) rfl];rfl
theorem Cu(c:UInt8):g7 c.toNat=isSeen c:=by unfold g7 isSeen;rw[<-wU (n:=32) (m:=32) rfl,<-xy (n:=126) (m:=126) rfl];rfl
theorem CM(c:UInt8):g_ c.toNat=isWordByte c:=by
 unfold g_ isWordByte;rw[r9,fF];have:decide ((c.toNat:Int)=95)=(c==95):=by
  show decide ((c.toNat:Int)=((95:Nat):Int))=_;rw[B9 (n:=95) (m:=95) rfl];by_cases q:c=95 <;> simp[q]
 rw[this]
theorem KA(c:UInt8):oZ c.toNat=isCodeByte c:=by unfold oZ isCodeByte;rw[BX,fF]
theorem Lk(c:UInt8):oH c.toNat=isMarkByte c:=by unfold oH isMarkByte;rw[CM,BX]
def cQ(b:By)(p:Nat):Int:=match b[p]? with|some c=>(c.toNat:Int)|none=> -1
def aK(q:UInt8->Bool)(b:By)(p:Nat):Nat:=p+((b.drop p).takeWhile q).length
theorem dH(q:UInt8->Bool)(h:p<=b.length):aK q b p<=b.length:=by unfold aK;have:=dh q (b.drop p);rw[List.length_drop] at this;omega
theorem bP(q:UInt8->Bool)(b:By)(p:Nat):p<=aK q b p:=Nat.le_add_right _ _
theorem bp(h:b[p]?=some c):b.drop p=c::b.drop (p+1):=by obtain⟨hp,e⟩:=List.getElem?_eq_some_iff.mp h;rw[List.drop_eq_getElem_cons hp,e]
theorem bF(h:b.drop p=c::r):b[p]?=some c/\r=b.drop (p+1):=by
 have hp:p<b.length:=by
  have:=congrArg List.length h;rw[List.length_drop,List.length_cons] at this;omega
 have e:=List.drop_eq_getElem_cons hp;rw[h] at e;injection e with e1 e2;exact⟨by rw[List.getElem?_eq_getElem hp,e1],e2⟩
theorem uZ{q:UInt8->Bool}(h:b[p]?=some c)(hq:q c=true):aK q b p=aK q b (p+1):=by unfold aK;rw[bp h,List.takeWhile_cons,if_pos hq,List.length_cons];omega
theorem Fs{q:UInt8->Bool}(h:b[p]?=some c)(hq:q c=false):aK q b p=p:=by unfold aK;rw[bp h,List.takeWhile_cons,if_neg (by rw[hq];decide)];rfl
theorem F9{q:UInt8->Bool}(h:b[p]?=none):aK q b p=p:=by unfold aK;rw[List.drop_eq_nil_of_le (List.getElem?_eq_none_iff.mp h)];rfl
theorem fZ(q:UInt8->Bool)(b:By)(p:Nat):b.drop (aK q b p)=(b.drop p).dropWhile q:=by rw[dq,List.drop_drop];rfl
theorem F_:∀(n k p:Nat)(b:By)(x:Bytes×Nat×Bytes),b.length<=n->itemsIn k p b= .ok x->p<x.2.1/\x.2.1<=p+b.length/\x.2.2=b.drop (x.2.1 - p):=by
 intro n;induction n with
 |zero=>
  intro k p b x hb h;have:b=[]:=List.eq_nil_of_length_eq_zero ↑2;subst this;rw[itemsIn] at h;cases h
 |succ n ih=>
  intro k p b x hb h;cases b with
  |nil=>rw[itemsIn] at h;cases h
  |cons c r=>
   have hr:r.length<=n:=by simp at hb;exact hb
   unfold itemsIn at h;split at h
   ·cases h;refine⟨Nat.lt_succ_self _,by simp,?_⟩;show r=(c::r).drop (p+1 - p);rw[Nat.add_sub_cancel_left];rfl
   split at h
   ·cases h
   split at h
   ·cases h
   have two:∀(a d:UInt8)(s:By),r=d::s->((itemsIn (k+1) (p+2) s).map λ(x:Bytes×Nat×Bytes)=>(a::x.1,x.2))= .ok x->p<x.2.1/\x.2.1<=p+(c::r).length/\x.2.2=(c::r).drop (x.2.1 - p):=by
    intro a d s e h;cases q:itemsIn (k+1) (p+2) s with
    |error z=>rw[q] at h;cases h
    |ok y=>
     rw[q] at h;have h:(a::y.1,y.2)=x:=by injection h
     obtain⟨i1,i2,i3⟩:=ih (k+1) (p+2) s y (by rw[e] at hr;simp at hr;omega) q;subst h;dsimp only;refine⟨↑2,by rw[e];simp;omega,?_⟩;rw[i3,e];obtain⟨m,hm⟩:∃m,y.2.1=p+2+m:=⟨y.2.1 - (p+2),↑2⟩
     rw[hm,show p+2+m - (p+2)=m from ↑2,show p+2+m - p=m+2 from ↑2];rfl
   split at h
   ·split at h
    ·exact two _ _ _ rfl h
    ·exact two _ _ _ rfl h
    ·exact two _ _ _ rfl h
    ·cases h
   ·split at h
    ·cases q:itemsIn (k+1) (p+1) r with
     |error z=>rw[q] at h;cases h
     |ok y=>
      rw[q] at h;have h:(c::y.1,y.2)=x:=by injection h
      obtain⟨i1,i2,i3⟩:=ih (k+1) (p+1) r y hr q;subst h;dsimp only;refine⟨↑2,by simp;omega,?_⟩;rw[i3];obtain⟨m,hm⟩:∃m,y.2.1=p+1+m:=⟨y.2.1 - (p+1),↑2⟩
      rw[hm,show p+1+m - (p+1)=m from ↑2,show p+1+m - p=m+1 from ↑2];rfl
    ·cases h
theorem il(b:By):∃k,k<=b.length/\(pointIn b).2=b.drop k:=by
 unfold pointIn;split
 ·rename_i c r;split
  ·refine⟨1+((c::r).takeWhile isDigit).length,?_,?_⟩
   ·have:=dh isDigit (c::r);simp only[List.length_cons] at this ⊢;omega
   ·show(c::r).dropWhile isDigit=(46::c::r).drop (1+_);rw[dq,Nat.add_comm 1,List.drop_succ_cons]
  ·exact⟨0,Nat.zero_le _,rfl⟩
 ·exact⟨0,Nat.zero_le _,rfl⟩
theorem j7(b:By):∃k,k<=b.length/\(expoIn b).2=b.drop k:=by
 unfold expoIn;split
 ·rename_i c r;split
  ·refine⟨2+((c::r).takeWhile isDigit).length,?_,?_⟩
   ·have:=dh isDigit (c::r);simp only[List.length_cons] at this ⊢;omega
   ·show(c::r).dropWhile isDigit=(101::45::c::r).drop (2+_);rw[dq,Nat.add_comm 2,List.drop_succ_cons,List.drop_succ_cons]
  ·exact⟨0,Nat.zero_le _,rfl⟩
 ·rename_i c r _;split
  ·refine⟨1+((c::r).takeWhile isDigit).length,?_,?_⟩
   ·have:=dh isDigit (c::r);simp only[List.length_cons] at this ⊢;omega
   ·show(c::r).dropWhile isDigit=(101::c::r).drop (1+_);rw[dq,Nat.add_comm 1,List.drop_succ_cons]
  ·exact⟨0,Nat.zero_le _,rfl⟩
 ·exact⟨0,Nat.zero_le _,rfl⟩
theorem xo(b:By):∃k,k<=b.length/\(digitsIn b).2=b.drop k:=by
 obtain⟨k1,h1,e1⟩:=il (b.dropWhile isDigit);obtain⟨k2,h2,e2⟩:=j7 (pointIn (b.dropWhile isDigit)).2;have l0:=dh isDigit b;have l3:=dh isMarkByte (expoIn (pointIn (b.dropWhile isDigit)).2).2;refine⟨(b.takeWhile isDigit).length+k1+k2+((expoIn (pointIn (b.dropWhile isDigit)).2).2.takeWhile isMarkByte).length,?_,?_⟩
 ·rw[e2,e1] at l3;rw[e1] at h2;rw[e2,e1];simp only[List.length_drop] at l3 h2 ⊢;omega
 ·show(expoIn (pointIn (b.dropWhile isDigit)).2).2.dropWhile isMarkByte=_;rw[dq,e2,e1,dq,List.drop_drop,List.drop_drop,List.drop_drop];congr 1;omega
theorem N'{s:By}(h:∃k,k<=b.length/\s=b.drop k):s=b.drop (b.length - s.length):=by obtain⟨k,hk,rfl⟩:=h;rw[List.length_drop];congr 1;omega
theorem iR{t:Tok}{s:By}(h:tokenIn p b= .ok (t,s)):t.place=p/\p<t.halt_/\t.halt_<=p+b.length/\s=b.drop (t.halt_ - p):=by
 unfold tokenIn at h;cases b with
 |nil=>cases h
 |cons c r=>
  dsimp only at h;split at h
  ·rename_i hs;have hw:isWordByte c=true:=by unfold isWordByte;rw[hs];rfl
   have hl:0<((c::r).takeWhile isWordByte).length:=by rw[List.takeWhile_cons,if_pos hw];simp
   have hle:((c::r).takeWhile isWordByte).length<=(c::r).length:=by have:=dh isWordByte (c::r);omega
   split at h
   ·cases h;exact⟨rfl,Nat.lt_add_of_pos_right hl,Nat.add_le_add_left hle _,by dsimp only;rw[Nat.add_sub_cancel_left]⟩
   ·split at h
    ·cases h;exact⟨rfl,Nat.lt_add_of_pos_right hl,Nat.add_le_add_left hle _,by dsimp only;rw[Nat.add_sub_cancel_left]⟩
    ·cases h
  split at h
  ·rename_i hs;have hw:isCodeByte c=true:=by unfold isCodeByte;rw[hs];rfl
   have hl:0<((c::r).takeWhile isCodeByte).length:=by rw[List.takeWhile_cons,if_pos hw];simp
   have hle:((c::r).takeWhile isCodeByte).length<=(c::r).length:=by have:=dh isCodeByte (c::r);omega
   split at h
   ·cases h;exact⟨rfl,Nat.lt_add_of_pos_right hl,Nat.add_le_add_left hle _,by dsimp only;rw[Nat.add_sub_cancel_left]⟩
   ·cases h
  split at h
  ·split at h
   ·rename_i hn;cases h;have hl:0<((c::r).take ((c::r).length - (digitsIn (c::r)).2.length)).length:=by
     cases e:(c::r).take ((c::r).length - (digitsIn (c::r)).2.length) with
     |nil=>rw[e] at hn;cases hn
     |cons _ _=>simp
    refine⟨rfl,Nat.lt_add_of_pos_right hl,Nat.add_le_add_left (List.length_take_le' _ _) _,?_⟩;dsimp only;rw[Nat.add_sub_cancel_left,List.length_take,Nat.min_eq_left (Nat.sub_le _ _)];exact N' (xo _)
   ·cases h
  split at h
  ·split at h
   ·cases h
   ·rename_i x hx;cases h;obtain⟨i1,i2,i3⟩:=F_ _ 0 (p+1) r x (Nat.le_refl _) hx;refine⟨rfl,by dsimp only;omega,by dsimp only;rw[List.length_cons];omega,?_⟩;dsimp only;rw[i3];obtain⟨m,hm⟩:∃m,x.2.1=p+1+m:=⟨x.2.1 - (p+1),↑2⟩
    rw[hm,show p+1+m - (p+1)=m from ↑2,show p+1+m - p=m+1 from ↑2];rfl
  ·split at h
   ·rename_i z hz;cases h;have hp:=List.find?_some hz;have hm:=List.mem_of_find?_eq_some hz;have hl:0<z.length:=by
     have:∀y∈SIGNS,0<y.length:=↑0
     exact this z hm
    have hle:z.length<=(c::r).length:=by
     have:=List.IsPrefix.length_le (List.isPrefixOf_iff_prefix.mp hp);exact this
    exact⟨rfl,Nat.lt_add_of_pos_right hl,Nat.add_le_add_left hle _,by dsimp only;rw[Nat.add_sub_cancel_left]⟩
   ·cases h
def Tn(p:Nat)(b:By):List Tok×Option Fault:=tokensIn (b.length+1) p b
theorem GH:∀(n:Nat)(b:By),b.length<=n->∀(f g p:Nat),b.length<f->b.length<g->tokensIn f p b=tokensIn g p b:=by
 intro n;induction n with
 |zero=>
  intro b hb f g p hf hg;have:b=[]:=List.eq_nil_of_length_eq_zero ↑2;subst this;cases f <;> cases g <;> simp_all [tokensIn]
 |succ n ih=>
  intro b hb f g p hf hg;cases b with
  |nil=>cases f <;> cases g <;> simp_all [tokensIn]
  |cons c r=>
   cases f with
   |zero=>simp at hf
   |succ f=>
    cases g with
    |zero=>simp at hg
    |succ g=>
     simp only[List.length_cons] at hb hf hg;have hr:r.length<=n:=↑2
     simp only[tokensIn];split
     ·exact ih r hr f g _ ↑2 ↑2
     ·split
      ·split
       ·rfl
       ·exact ih _ (by rw[List.length_drop];omega) f g _ (by rw[List.length_drop];omega) (by rw[List.length_drop];omega)
      ·cases e:tokenIn p (c::r) with
       |error z=>rfl
       |ok x=>
        obtain⟨t,s⟩:=x;obtain⟨h1,h2,h3,h4⟩:=iR e;have hs:s.length<=r.length:=by rw[h4,List.length_drop,List.length_cons];omega
        dsimp only;rw[ih s ↑2 f g _ ↑2 ↑2]
theorem DM{f:Nat}(h:b.length<f):tokensIn f p b=Tn p b:=GH b.length b (Nat.le_refl _) f _ p h (Nat.lt_succ_self _)
theorem EN(b:By):tokens b=Tn 0 b:=rfl
theorem gP(p:Nat):Tn p []=([],none):=rfl
theorem iI(h:isBlank c=true):Tn p (c::r)=Tn (p+1) r:=by unfold Tn;simp only[List.length_cons,tokensIn];rw[if_pos h]
theorem nB(h:isBlank c=false)(h35:c≠35):
  Tn p (c::r)=(match tokenIn p (c::r) with| .error e=>([],some e)| .ok (t,s)=>(t::(Tn t.halt_ s).1,(Tn t.halt_ s).2)):=by
 unfold Tn;simp only[List.length_cons,tokensIn];rw[if_neg (by rw[h];decide),if_neg h35];cases e:tokenIn p (c::r) with
 |error z=>rfl
 |ok x=>
  obtain⟨t,s⟩:=x;obtain⟨h1,h2,h3,h4⟩:=iR e;have hs:s.length<=r.length:=by rw[h4,List.length_drop,List.length_cons];omega
  dsimp only;rw[DM (by omega:s.length<r.length+1)];rfl
theorem Hh(h:isSeen c=false):tokenIn p (c::r)= .error (1,p):=by
 have hn:¬(32<=c.toNat/\c.toNat<=126):=by
  intro z;unfold isSeen at h;rw[decide_eq_true (show(32:UInt8)<=c from tU.mpr z.1),decide_eq_true (show c<=(126:UInt8) from tU.mpr z.2)] at h;cases h
 have b1:∀(a m:UInt8),32<=a.toNat->m.toNat<=126->(decide (a<=c)&&decide (c<=m))=false:=by
  intro a m ha hm;by_cases z:a<=c
  ·by_cases y:c<=m
   ·have:=tU.mp z;have:=tU.mp y;exact absurd ⟨↑2,↑2⟩ hn
   ·rw[decide_eq_false y,Bool.and_false]
  ·rw[decide_eq_false z];rfl
 have ne:∀(d:UInt8),32<=d.toNat->d.toNat<=126->c≠d:=λd h1 h2 e=>hn (by rw[e];exact⟨h1,h2⟩);unfold tokenIn;dsimp only;rw[if_neg (by unfold isSmall;rw[b1 97 122 ↑0 ↑0];decide),if_neg (by unfold isBig;rw[b1 65 90 ↑0 ↑0];decide),
  if_neg (by unfold isDigit;rw[b1 48 57 ↑0 ↑0];decide),if_neg (ne 34 ↑0 ↑0)]
 have hf:(SIGNS.find? λ(s:Bytes)=>s.isPrefixOf (c::r))=none:=by
  rw[List.find?_eq_none];intro s hs hp;have hh:∀y∈SIGNS,∃d z,y=d::z/\32<=d.toNat/\d.toNat<=126:=by
   have q:SIGNS.all (λy=>match y with|[]=>false|d::z=>decide (32<=d.toNat)&&decide (d.toNat<=126))=true:=↑0
   intro y hy;have:=List.all_eq_true.mp q y hy;cases y with
   |nil=>cases this
   |cons d z=>simp only[Bool.and_eq_true,decide_eq_true_eq] at this;exact⟨d,z,rfl,this.1,this.2⟩
  obtain⟨d,z,rfl,h1,h2⟩:=hh s hs;have:=List.isPrefixOf_iff_prefix.mp hp;have e:d=c:=by
   obtain⟨t,ht⟩:=this;injection ht
  exact ne d h1 h2 e.symm
 rw[hf]
theorem kK:Tn p (35::r)=Tn (p+((35::r).takeWhile isSeen).length) ((35::r).drop ((35::r).takeWhile isSeen).length):=by
 have e35:isSeen 35=true:=↑0
 rw[List.takeWhile_cons,if_pos e35,List.length_cons,List.drop_succ_cons];have key:∀(r:By),(match(r.takeWhile λ(x:UInt8)=>x != 10).findIdx? λ(x:UInt8)=>!isSeen x with
   |some i=>i=(r.takeWhile isSeen).length/\∃c z,r.drop i=c::z/\isSeen c=false/\c≠10
   |none=>r.takeWhile isSeen=r.takeWhile λ(x:UInt8)=>x != 10):=by
  intro r;induction r with
  |nil=>simp
  |cons c r ih=>
   by_cases h10:c=10
   ·subst h10;simp[List.takeWhile_cons,show isSeen 10=false from ↑0]
   ·have hb:(c != 10)=true:=by simp[h10]
    rw[List.takeWhile_cons,if_pos hb,List.findIdx?_cons];cases hs:isSeen c with
    |false=>
     simp only[Bool.not_false,if_true];rw[List.takeWhile_cons,if_neg (by rw[hs];decide)];exact⟨rfl,c,r,rfl,hs,h10⟩
    |true=>
     simp only[Bool.not_true,Bool.false_eq_true,if_false];rw[List.takeWhile_cons,if_pos hs];cases hf:(r.takeWhile λ(x:UInt8)=>x != 10).findIdx? λ(x:UInt8)=>!isSeen x with
     |none=>
      rw[hf] at ih;simp only[Option.map_none];rw[show r.takeWhile isSeen=_ from ih]
     |some i=>
      rw[hf] at ih;simp only[Option.map_some];obtain⟨h1,h2⟩:=ih;exact⟨by rw[h1];rfl,h2⟩
 have hk:=key r;have hL:Tn p (35::r)=(match(r.takeWhile λ(x:UInt8)=>x != 10).findIdx? λ(x:UInt8)=>!isSeen x with
    |some i=>([],some (1,p+1+i))
    |none=>tokensIn (r.length+1) (p+1+(r.takeWhile λ(x:UInt8)=>x != 10).length) (r.drop (r.takeWhile λ(x:UInt8)=>x != 10).length)):=by
  show tokensIn ((35::r).length+1) p (35::r)=_;simp only[List.length_cons,tokensIn];rw[if_neg ↑0,if_pos True.intro];rfl
 rw[hL];cases hf:(r.takeWhile λ(x:UInt8)=>x != 10).findIdx? λ(x:UInt8)=>!isSeen x with
 |none=>
  rw[hf] at hk;have hk:r.takeWhile isSeen=r.takeWhile λ(x:UInt8)=>x != 10:=hk;dsimp only;rw[DM (by rw[List.length_drop];omega),hk];congr 1;omega
 |some i=>
  rw[hf] at hk;obtain⟨h1,c,z,h2,h3,h4⟩:=hk;dsimp only;rw[<-h1,h2];have hb:isBlank c=false:=by
   unfold isBlank;have e1:c≠32:=λe=>by rw[e] at h3;exact absurd h3 ↑0
   have e2:c≠59:=λe=>by rw[e] at h3;exact absurd h3 ↑0
   simp[e1,e2,h4]
  have h35:c≠35:=λe=>by rw[e] at h3;exact absurd h3 ↑0
  rw[nB hb h35,Hh h3];dsimp only;rw[show p+(i+1)=p+1+i from ↑2]
theorem jU(h:isDigit c=true):pointIn (46::c::r)=(some ((c::r).takeWhile isDigit),(c::r).dropWhile isDigit):=by simp[pointIn,h]
theorem jF{x:By}(h:∀c r,x=46::c::r->isDigit c=false):pointIn x=(none,x):=by
 unfold pointIn;split
 ·rename_i c r;rw[if_neg (by rw[h c r rfl];decide)]
 ·rfl
theorem tT(h:isDigit c=true):expoIn (101::45::c::r)=(some (true,(c::r).takeWhile isDigit),(c::r).dropWhile isDigit):=by simp[expoIn,h]
theorem sQ(h:isDigit c=true):expoIn (101::c::r)=(some (false,(c::r).takeWhile isDigit),(c::r).dropWhile isDigit):=by
 have hc:c≠45:=λe=>by rw[e] at h;exact absurd h ↑0
 unfold expoIn;split
 ·rename_i heq;injection heq with _ h2;injection h2 with h3 _;exact absurd h3 hc
 ·rename_i heq;injection heq with _ h2;injection h2 with h3 h4;subst h3;subst h4;rw[if_pos h]
 ·rename_i h1 h2;exact absurd rfl (h2 c r)
theorem gg{x:By}(h1:∀c r,x=101::45::c::r->isDigit c=false)(h2:∀c r,x=101::c::r->isDigit c=false):expoIn x=(none,x):=by
 unfold expoIn;split
 ·rename_i c r;rw[if_neg (by rw[h1 c r rfl];decide)]
 ·rename_i c r _;rw[if_neg (by rw[h2 c r rfl];decide)]
 ·rfl
theorem sv{x:By}{m:Nat}{l s:By}(h:x.take m=l++s):∃s',x=l++s':=by have:=List.take_append_drop m x;rw[h,List.append_assoc] at this;exact⟨_,this.symm⟩
theorem A9(x:By)(m:Nat)(h:x.length - (pointIn x).2.length<=m):
  pointIn (x.take m)=((pointIn x).1,(pointIn x).2.take (m - (x.length - (pointIn x).2.length))):=by
 by_cases q:∃c r,x=46::c::r/\isDigit c=true
 ·obtain⟨c,r,rfl,hc⟩:=q;rw[jU hc] at h ⊢;dsimp only at h ⊢;have l:=dh isDigit (c::r);have l1:1<=((c::r).takeWhile isDigit).length:=by rw[List.takeWhile_cons,if_pos hc];simp
  simp only[List.length_cons] at h l ⊢;obtain⟨n,rfl⟩:∃n,m=n+2:=⟨m - 2,↑2⟩
  show pointIn (46::c::r.take n)=_;rw[jU hc];have e1:c::r.take n=(c::r).take (n+1):=rfl;rw[e1,ej _ _ _ ↑2,i_ _ _ _ ↑2];congr 2;omega
 ·have ex:pointIn x=(none,x):=jF λc r e=>by
   cases z:isDigit c with
   |false=>rfl
   |true=>exact absurd ⟨c,r,e,z⟩ q
  have et:pointIn (x.take m)=(none,x.take m):=jF λc r e=>by
   cases z:isDigit c with
   |false=>rfl
   |true=>
    obtain⟨s',es⟩:=sv (l:=[46,c]) (s:=r) (by rw[e];rfl);exact absurd ⟨c,s',es,z⟩ q
  rw[et,ex];dsimp only;rw[Nat.sub_self,Nat.sub_zero]
theorem D5(x:By)(m:Nat)(h:x.length - (expoIn x).2.length<=m):
  expoIn (x.take m)=((expoIn x).1,(expoIn x).2.take (m - (x.length - (expoIn x).2.length))):=by
 by_cases q1:∃c r,x=101::45::c::r/\isDigit c=true
 ·obtain⟨c,r,rfl,hc⟩:=q1;rw[tT hc] at h ⊢;dsimp only at h ⊢;have l:=dh isDigit (c::r);have l1:1<=((c::r).takeWhile isDigit).length:=by rw[List.takeWhile_cons,if_pos hc];simp
  simp only[List.length_cons] at h l ⊢;obtain⟨n,rfl⟩:∃n,m=n+3:=⟨m - 3,↑2⟩
  show expoIn (101::45::c::r.take n)=_;rw[tT hc];have e1:c::r.take n=(c::r).take (n+1):=rfl;rw[e1,ej _ _ _ ↑2,i_ _ _ _ ↑2];congr 2;omega
 by_cases q2:∃c r,x=101::c::r/\isDigit c=true
 ·obtain⟨c,r,rfl,hc⟩:=q2;rw[sQ hc] at h ⊢;dsimp only at h ⊢;have l:=dh isDigit (c::r);have l1:1<=((c::r).takeWhile isDigit).length:=by rw[List.takeWhile_cons,if_pos hc];simp
  simp only[List.length_cons] at h l ⊢;obtain⟨n,rfl⟩:∃n,m=n+2:=⟨m - 2,↑2⟩
  show expoIn (101::c::r.take n)=_;rw[sQ hc];have e1:c::r.take n=(c::r).take (n+1):=rfl;rw[e1,ej _ _ _ ↑2,i_ _ _ _ ↑2];congr 2;omega
 ·have ex:expoIn x=(none,x):=gg (λc r e=>by
   cases z:isDigit c with
   |false=>rfl
   |true=>exact absurd ⟨c,r,e,z⟩ q1) (λc r e=>by
   cases z:isDigit c with
   |false=>rfl
   |true=>exact absurd ⟨c,r,e,z⟩ q2)
  have et:expoIn (x.take m)=(none,x.take m):=gg (λc r e=>by
   cases z:isDigit c with
   |false=>rfl
   |true=>
    obtain⟨s',es⟩:=sv (l:=[101,45,c]) (s:=r) (by rw[e];rfl);exact absurd ⟨c,s',es,z⟩ q1) (λc r e=>by
   cases z:isDigit c with
   |false=>rfl
   |true=>
    obtain⟨s',es⟩:=sv (l:=[101,c]) (s:=r) (by rw[e];rfl);exact absurd ⟨c,s',es,z⟩ q2)
  rw[et,ex];dsimp only;rw[Nat.sub_self,Nat.sub_zero]
theorem Am(b:By):digitsIn (b.take (b.length - (digitsIn b).2.length))=((digitsIn b).1,[]):=by
 obtain⟨k1,h1,e1⟩:=il (b.dropWhile isDigit);obtain⟨k2,h2,e2⟩:=j7 (pointIn (b.dropWhile isDigit)).2;have l0:=dh isDigit b;have l3:=dh isMarkByte (expoIn (pointIn (b.dropWhile isDigit)).2).2;have lr:(digitsIn b).2=(expoIn (pointIn (b.dropWhile isDigit)).2).2.dropWhile isMarkByte:=rfl;have lp:(pointIn (b.dropWhile isDigit)).2.length<=(b.dropWhile isDigit).length:=by rw[e1,List.length_drop];omega
 have le:(expoIn (pointIn (b.dropWhile isDigit)).2).2.length<=(pointIn (b.dropWhile isDigit)).2.length:=by rw[e2,List.length_drop];omega
 generalize hn:b.length - (digitsIn b).2.length=n;rw[lr] at hn;have a1:=ej isDigit b n ↑2;have a2:=i_ isDigit b n ↑2;have a3:=A9 (b.dropWhile isDigit) (n - (b.takeWhile isDigit).length) ↑2;generalize hm:n - (b.takeWhile isDigit).length - ((b.dropWhile isDigit).length - (pointIn (b.dropWhile isDigit)).2.length)=m at a3;have a4:=D5 (pointIn (b.dropWhile isDigit)).2 m ↑2;generalize hm':m - ((pointIn (b.dropWhile isDigit)).2.length - (expoIn (pointIn (b.dropWhile isDigit)).2).2.length)=m' at a4;have a5:=ej isMarkByte (expoIn (pointIn (b.dropWhile isDigit)).2).2 m' ↑2;have a6:=i_ isMarkByte (expoIn (pointIn (b.dropWhile isDigit)).2).2 m' ↑2;unfold digitsIn;dsimp only;rw[a1,a2,a3];dsimp only;rw[a4];dsimp only;rw[a5,a6,show m' - ((expoIn (pointIn (b.dropWhile isDigit)).2).2.takeWhile isMarkByte).length=0 from ↑2,List.take_zero]
theorem uD(hc:isDigit c=true):isNumber ((c::r).take ((c::r).length - (digitsIn (c::r)).2.length))=
  (decide ((c::r).length - (digitsIn (c::r)).2.length<=255)&&(digitsIn (c::r)).1.right):=by
 have hs:(digitsIn (c::r)).2.length<=r.length:=by
  have l0:=dh isDigit (c::r);rw[List.takeWhile_cons,if_pos hc,List.length_cons] at l0;obtain⟨k1,h1,e1⟩:=il ((c::r).dropWhile isDigit);obtain⟨k2,h2,e2⟩:=j7 (pointIn ((c::r).dropWhile isDigit)).2;have l3:=dh isMarkByte (expoIn (pointIn ((c::r).dropWhile isDigit)).2).2;show((expoIn (pointIn ((c::r).dropWhile isDigit)).2).2.dropWhile isMarkByte).length<=_;rw[e2,e1] at l3 ⊢;simp only[List.length_drop,List.length_cons] at l3 l0 ⊢;omega
 unfold isNumber;rw[Am];have hh:((c::r).take ((c::r).length - (digitsIn (c::r)).2.length)).head?.any isDigit=true:=by
  obtain⟨n,hn⟩:∃n,(c::r).length - (digitsIn (c::r)).2.length=n+1:=⟨r.length - (digitsIn (c::r)).2.length,by rw[List.length_cons];omega⟩
  rw[hn];simp[hc]
 rw[hh];simp only[List.isEmpty_nil,Bool.true_and,List.length_take,Nat.min_eq_left (Nat.sub_le _ _)];rfl
def aP(b:By)(q:Nat):Nat:=if cQ b q=46/\bZ (cQ b (q+1))=true then aK isDigit b (q+1) else q
def gI(b:By)(q:Nat):Nat:=if cQ b (q+1)=45 then q+2 else q+1
def aQ(b:By)(q:Nat):Nat:=if cQ b q=101 then(if bZ (cQ b (gI b q))=true then aK isDigit b (gI b q) else q) else q
def cut(b:By)(i j:Nat):By:=(b.drop i).take (j - i)
theorem cj{q:Nat}(h:b[q]?=some c):cQ b q=c.toNat:=by unfold cQ;rw[h]
theorem iC{q:Nat}(h:b[q]?=none):cQ b q= -1:=by unfold cQ;rw[h]
theorem gN{q n:Nat}{m:UInt8}(hm:m.toNat=n):cQ b q=(n:Int)↔b[q]?=some m:=by
 cases h:b[q]? with
 |none=>rw[iC h];exact⟨λz=>↑2,λz=>by cases z⟩
 |some c=>
  rw[cj h];constructor
  ·intro z;rw[show c=m from jf.mpr ↑2]
  ·intro z;cases z;omega
theorem dy{q:Nat}:bZ (cQ b q)=true↔∃c,b[q]?=some c/\isDigit c=true:=by
 cases h:b[q]? with
 |none=>rw[iC h];exact⟨λz=>by exact absurd z ↑0,λ⟨c,e,_⟩=>by cases e⟩
 |some c=>
  rw[cj h,fF];exact⟨λz=>⟨c,rfl,z⟩,λ⟨d,e,z⟩=>by cases e;exact z⟩
theorem qg(q:UInt8->Bool)(b:By)(p:Nat):cut b p (aK q b p)=(b.drop p).takeWhile q:=by unfold cut aK;rw[Nat.add_sub_cancel_left,<-gH]
theorem wY(b:By)(q:Nat):(pointIn (b.drop q)).2=b.drop (aP b q)/\((pointIn (b.drop q)).1=none↔aP b q=q)/\q<=aP b q/\(q<=b.length->aP b q<=b.length):=by
 unfold aP;by_cases h:cQ b q=46/\bZ (cQ b (q+1))=true
 ·rw[if_pos h];obtain⟨c,e2,hc⟩:=dy.mp h.2;have e1:=(gN (m:=46) (n:=46) rfl).mp h.1;have d1:=bp e1;have d2:=bp e2;rw[d1,d2,jU hc];dsimp only;have hlt:q+1<b.length:=(List.getElem?_eq_some_iff.mp e2).1;refine⟨by rw[fZ,d2],⟨(λz=>by cases z),λz=>?_⟩,(by have:=bP isDigit b (q+1);omega),λ_=>dH _ ↑2⟩;have:=bP isDigit b (q+1);omega
 ·rw[if_neg h,jF λc r e=>by
   cases z:isDigit c with
   |false=>rfl
   |true=>
    obtain⟨g1,g2⟩:=bF e;obtain⟨g3,g4⟩:=bF g2.symm;exact absurd ⟨(gN (m:=46) (n:=46) rfl).mpr g1,dy.mpr ⟨c,g3,z⟩⟩ h]
  exact⟨rfl,⟨λ_=>rfl,λ_=>rfl⟩,Nat.le_refl _,λz=>z⟩
def cH:Option (Bool×By)->By
 |none=>[]
 |some (true,d)=>101::45::d
 |some (false,d)=>101::d
theorem Cf(b:By)(q:Nat):(expoIn (b.drop q)).2=b.drop (aQ b q)/\cut b q (aQ b q)=cH (expoIn (b.drop q)).1/\q<=aQ b q/\(q<=b.length->aQ b q<=b.length)/\
  (∀x,(expoIn (b.drop q)).1=some x->∃c d,x.2=c::d/\isDigit c=true):=by
 have none_case:aQ b q=q->expoIn (b.drop q)=(none,b.drop q)->(expoIn (b.drop q)).2=b.drop (aQ b q)/\cut b q (aQ b q)=cH (expoIn (b.drop q)).1/\q<=aQ b q/\(q<=b.length->aQ b q<=b.length)/\
   (∀x,(expoIn (b.drop q)).1=some x->∃c d,x.2=c::d/\isDigit c=true):=λh1 h2=>by
  rw[h1,h2];refine⟨rfl,?_,Nat.le_refl _,λz=>z,λx e=>by cases e⟩;unfold cut;rw[Nat.sub_self,List.take_zero];rfl
 by_cases h:cQ b q=101
 ·have e1:=(gN (m:=101) (n:=101) rfl).mp h;have d1:=bp e1;by_cases hm:cQ b (q+1)=45
  ·have e2:=(gN (m:=45) (n:=45) rfl).mp hm;have d2:=bp e2;have hd:gI b q=q+2:=by unfold gI;rw[if_pos hm]
   by_cases hc:bZ (cQ b (q+2))=true
   ·obtain⟨c,e3,hc'⟩:=dy.mp hc;have d3:=bp e3;have hE:aQ b q=aK isDigit b (q+2):=by unfold aQ;rw[if_pos h,hd,if_pos hc]
    have hlt:q+2<b.length:=(List.getElem?_eq_some_iff.mp e3).1;have ge:=bP isDigit b (q+2);rw[hE,d1,d2,d3,tT hc'];dsimp only;refine⟨by rw[fZ,d3],?_,↑2,λ_=>dH _ ↑2,λx e=>?_⟩
    ·unfold cut cH;rw[d1,d2,d3];have:aK isDigit b (q+2) - q=((c::b.drop (q+2+1)).takeWhile isDigit).length+2:=by
      unfold aK;rw[d3];omega
     rw[this,List.take_succ_cons,List.take_succ_cons,<-gH]
    ·cases e;exact⟨c,_,by dsimp only;rw[List.takeWhile_cons,if_pos hc'],hc'⟩
   ·refine none_case (by unfold aQ;rw[if_pos h,hd,if_neg hc]) ?_;rw[d1,d2];refine gg (λc r e=>?_) (λc r e=>?_)
    ·injection e with _ e;injection e with _ e;cases z:isDigit c with
     |false=>rfl
     |true=>exact absurd (dy.mpr ⟨c,(bF e).1,z⟩) hc
    ·injection e with _ e;injection e with e _;rw[<-e];decide
  ·have hd:gI b q=q+1:=by unfold gI;rw[if_neg hm]
   by_cases hc:bZ (cQ b (q+1))=true
   ·obtain⟨c,e3,hc'⟩:=dy.mp hc;have d3:=bp e3;have hE:aQ b q=aK isDigit b (q+1):=by unfold aQ;rw[if_pos h,hd,if_pos hc]
    have hlt:q+1<b.length:=(List.getElem?_eq_some_iff.mp e3).1;have ge:=bP isDigit b (q+1);rw[hE,d1,d3,sQ hc'];dsimp only;refine⟨by rw[fZ,d3],?_,↑2,λ_=>dH _ ↑2,λx e=>?_⟩
    ·unfold cut cH;rw[d1,d3];have:aK isDigit b (q+1) - q=((c::b.drop (q+1+1)).takeWhile isDigit).length+1:=by
      unfold aK;rw[d3];omega
     rw[this,List.take_succ_cons,<-gH]
    ·cases e;exact⟨c,_,by dsimp only;rw[List.takeWhile_cons,if_pos hc'],hc'⟩
   ·refine none_case (by unfold aQ;rw[if_pos h,hd,if_neg hc]) ?_;rw[d1];refine gg (λc r e=>?_) (λc r e=>?_)
    ·injection e with _ e;obtain⟨g1,g2⟩:=bF e;exact absurd ((gN (m:=45) (n:=45) rfl).mpr g1) hm
    ·injection e with _ e;cases z:isDigit c with
     |false=>rfl
     |true=>exact absurd (dy.mpr ⟨c,(bF e).1,z⟩) hc
 ·refine none_case (by unfold aQ;rw[if_neg h]) ?_;refine gg (λc r e=>?_) (λc r e=>?_)
  ·exact absurd ((gN (m:=101) (n:=101) rfl).mpr (bF e).1) h
  ·exact absurd ((gN (m:=101) (n:=101) rfl).mpr (bF e).1) h
def MK:List UInt8:=[109,120,100,115,104,105,112]
def oB(m:By):Bool:=decide (m=[])||(decide (m.length=1)&&(match m with|[]=>false|a::_=>MK.contains a))
def i4(d f e:By):Bool:=(decide (f=[])&&decide (e=[]))&&decide (d.length<=31)
def isNeg(e:By):Bool:=decide (cQ e 1=45)
def cF(e:By):By:=if isNeg e=true then e.drop 2 else e.drop 1
def ES(e:By):Bool:=if cQ (cF e) 0=48 then decide ((cF e).length=1)&&!isNeg e else decide ((cF e).length<=5)
def dc(d f e m:By):Bool:=
 if 255<d.length+f.length+e.length+m.length then false
 else if oB m=false then false
 else if m=[112] then i4 d f e
 else if 1<d.length/\cQ d 0=48 then false
 else if e=[] then true
 else !decide (m=[])&&ES e
theorem HA(m:By):oB m=MARKS.contains m:=by
 have hM:MARKS=[[],[109],[120],[100],[115],[104],[105],[112]]:=↑0
 rw[hM];unfold oB MK
 match m with
 |[]=>rfl
 |[a]=>
  simp only[List.length_cons,List.length_nil,List.contains_cons,List.contains_nil,Bool.or_false];have:∀x y:UInt8,([x]==[y])=(x==y):=λx y=>by
   by_cases h:x=y <;> simp[h]
  simp[this]
 |a::c::r=>
  simp
theorem yN{d:By}:plain (c::d)=!(decide (1<(c::d).length)&&decide (cQ (c::d) 0=48)):=by
 have hb:cQ (c::d) 0=c.toNat:=rfl;have e0:decide (cQ (c::d) 0=48)=decide (c=48):=by rw[hb];exact B9 (n:=48) (m:=48) rfl
 rw[e0];unfold plain;by_cases h:c=48
 ·subst h;cases d with
  |nil=>rfl
  |cons _ _=>simp
 ·simp[h]
theorem JV{neg:Bool}{d:By}(hc:isDigit c=true)(mk:By):ES (cH (some (neg,c::d)))=(plain (c::d)&&(decide ((c::d).length<=5)&&(!(neg&&(c::d)==[48])))):=by
 have n1:isNeg (cH (some (neg,c::d)))=neg:=by
  cases neg with
  |true=>rfl
  |false=>
   show decide (cQ (101::c::d) 1=45)=false;have hb:cQ (101::c::d) 1=c.toNat:=rfl;rw[hb,show decide ((c.toNat:Int)=45)=decide (c=45) from B9 (n:=45) (m:=45) rfl];exact decide_eq_false λe=>by rw[e] at hc;exact absurd hc ↑0
 have n2:cF (cH (some (neg,c::d)))=c::d:=by unfold cF;rw[n1];cases neg <;> rfl
 unfold ES;rw[n1,n2];have hb:cQ (c::d) 0=c.toNat:=rfl;rw[yN,hb];by_cases h:c=48
 ·subst h;rw[if_pos ↑0];cases d with
  |nil=>cases neg <;> rfl
  |cons x y=>simp
 ·have hn:¬((c.toNat:Int)=48):=λe=>h (jf.mpr (by have:(48:UInt8).toNat=48:=rfl;omega));rw[if_neg hn,decide_eq_false hn];simp[h]
theorem Mm(hb:b.drop p=c::r)(hc:isDigit c=true):
  (digitsIn (b.drop p)).2=b.drop (aK isMarkByte b (aQ b (aP b (aK isDigit b p))))/\p<aK isDigit b p/\aK isDigit b p<=aP b (aK isDigit b p)/\
  aP b (aK isDigit b p)<=aQ b (aP b (aK isDigit b p))/\aK isMarkByte b (aQ b (aP b (aK isDigit b p)))<=b.length/\
  (b.drop p).length - (digitsIn (b.drop p)).2.length=aK isMarkByte b (aQ b (aP b (aK isDigit b p))) - p/\
  isNumber ((b.drop p).take ((b.drop p).length - (digitsIn (b.drop p)).2.length))=dc (cut b p (aK isDigit b p)) (cut b (aK isDigit b p) (aP b (aK isDigit b p)))
   (cut b (aP b (aK isDigit b p)) (aQ b (aP b (aK isDigit b p)))) (cut b (aQ b (aP b (aK isDigit b p))) (aK isMarkByte b (aQ b (aP b (aK isDigit b p))))):=by
 have hp:p<b.length:=by
  have:=congrArg List.length hb;rw[List.length_drop,List.length_cons] at this;omega
 have cf:=qg isDigit b p;have r1:=fZ isDigit b p;have g1:p<aK isDigit b p:=by
  unfold aK;rw[hb,List.takeWhile_cons,if_pos hc,List.length_cons];omega
 have l1:=dH isDigit (b:=b) (p:=p) ↑2;generalize hde:aK isDigit b p=de at*;obtain⟨f1,f2,f3,f4⟩:=wY b de;have l2:=f4 l1;generalize hfe:aP b de=fe at*;obtain⟨x1,x2,x3,x4,x5⟩:=Cf b fe;have l3:=x4 l2;generalize hee:aQ b fe=ee at*;have cm:=qg isMarkByte b ee;have r4:=fZ isMarkByte b ee;have g4:=bP isMarkByte b ee;have l4:=dH isMarkByte (b:=b) (p:=ee) l3;generalize hme:aK isMarkByte b ee=me at*;have hD:digitsIn (b.drop p)=(⟨cut b p de,(pointIn (b.drop de)).1,(expoIn (b.drop fe)).1,cut b ee me⟩,b.drop me):=by
  unfold digitsIn;dsimp only;rw[cf,<-r1,f1,x1,cm,<-r4]
 have hlen:(b.drop p).length - (digitsIn (b.drop p)).2.length=me - p:=by
  rw[hD];simp only[List.length_drop];omega
 refine⟨by rw[hD],g1,f3,x3,l4,hlen,?_⟩;have hN:=uD (c:=c) (r:=r) hc;rw[<-hb] at hN;rw[hN,hlen,hD];have L1:(cut b p de).length=de - p:=by unfold cut;rw[List.length_take,List.length_drop];omega
 have L2:(cut b de fe).length=fe - de:=by unfold cut;rw[List.length_take,List.length_drop];omega
 have L3:(cut b fe ee).length=ee - fe:=by unfold cut;rw[List.length_take,List.length_drop];omega
 have L4:(cut b ee me).length=me - ee:=by unfold cut;rw[List.length_take,List.length_drop];omega
 have hsum:(cut b p de).length+(cut b de fe).length+(cut b fe ee).length+(cut b ee me).length=me - p:=↑2
 have hpt:(pointIn (b.drop de)).1.isNone=decide (cut b de fe=[]):=by
  by_cases z:fe=de
  ·rw[f2.mpr z];rw[decide_eq_true (List.eq_nil_of_length_eq_zero ↑2)];rfl
  ·have:cut b de fe≠[]:=λe=>by rw[e] at L2;simp at L2;omega
   rw[decide_eq_false this];cases e:(pointIn (b.drop de)).1 with
   |none=>exact absurd (f2.mp e) z
   |some _=>rfl
 obtain⟨c1,d1,hcd⟩:∃c1 d1,cut b p de=c1::d1:=by
  cases e:cut b p de with
  |nil=>rw[e] at L1;simp at L1;omega
  |cons x y=>exact⟨x,y,rfl⟩
 unfold dc;rw[hsum];by_cases h255:255<me - p
 ·rw[if_pos h255,decide_eq_false ↑2];rfl
 rw[if_neg h255,decide_eq_true ↑2,Bool.true_and];unfold Digits.right;dsimp only;rw[<-HA];cases hmk:oB (cut b ee me) with
 |false=>rfl
 |true=>
  rw[if_neg (show ¬(true=false) by decide),Bool.true_and];have hw:word "p"=[112]:=↑0
  rw[hw];by_cases hpk:cut b ee me=[112]
  ·rw[if_pos hpk,if_pos hpk,hpt];unfold i4;have hx:(expoIn (b.drop fe)).1.isNone=decide (cut b fe ee=[]):=by
    rw[x2];cases e:(expoIn (b.drop fe)).1 with
    |none=>rfl
    |some y=>obtain⟨n,z⟩:=y;cases n <;> rfl
   rw[hx,Bool.and_assoc]
  ·rw[if_neg hpk,if_neg hpk,hcd,yN];by_cases hz:1<(c1::d1).length/\cQ (c1::d1) 0=48
   ·rw[if_pos hz,decide_eq_true hz.1,decide_eq_true hz.2];rfl
   ·have:(decide (1<(c1::d1).length)&&decide (cQ (c1::d1) 0=48))=false:=by
     by_cases z1:1<(c1::d1).length
     ·rw[decide_eq_true z1,decide_eq_false (λz2=>hz ⟨z1,z2⟩)];rfl
     ·rw[decide_eq_false z1];rfl
    rw[if_neg hz,this,Bool.not_false,Bool.true_and,x2];cases e:(expoIn (b.drop fe)).1 with
    |none=>rfl
    |some y=>
     obtain⟨neg,ds⟩:=y;obtain⟨c2,d2,e2,hc2⟩:=x5 _ e;dsimp only at e2;subst e2;have hne:cH (some (neg,c2::d2))≠[]:=by cases neg <;> exact List.cons_ne_nil _ _
     rw[if_neg hne,JV hc2 []];dsimp only;have hem:(cut b ee me).isEmpty=decide (cut b ee me=[]):=by cases cut b ee me <;> rfl
     rw[hem];cases plain (c2::d2) <;> cases decide ((c2::d2).length<=5) <;> cases(neg&&(c2::d2)==[48]) <;> cases decide (cut b ee me=[]) <;> rfl
section
open PySem (Str)
def vh(w:By):Str:=⟨(w.map UInt8.toNat).toArray⟩
theorem CJ{v w:By}(h:vh v=vh w):v=w:=by
 have h1:(v.map UInt8.toNat)=(w.map UInt8.toNat):=by
  have:=congrArg (λz:Str=>z.cps.toList) h;simpa[vh] using this
 have:∀(v w:By),v.map UInt8.toNat=w.map UInt8.toNat->v=w:=by
  intro v;induction v with
  |nil=>intro w e;cases w with
   |nil=>rfl
   |cons _ _=>simp at e
  |cons a v ih=>intro w e;cases w with
   |nil=>simp at e
   |cons b w=>simp only[List.map_cons,List.cons.injEq] at e;rw[jf.mpr e.1,ih w e.2]
 exact this v w h1
def qI(w:By):Str:=if w.all isSmall=true then vh w else Str.empty
def bL(t:Tok):Str:=
 if t.kind=0 then vh t.bytes else if t.kind=1 then "NAME" else if t.kind=2 then "CODE" else if t.kind=3 then "NUMBER" else if t.kind=4 then "TEXT"
 else if t.bytes=[37] then "percent" else vh t.bytes
noncomputable def Kk:List Str:=KEYWORDS.map vh
theorem jO:∀w∈KEYWORDS,w.all isSmall=true/\w≠[]:=by
 have:(KEYWORDS.all λw=>w.all isSmall&&!w.isEmpty)=true:=↑1
 intro w hw;have:=List.all_eq_true.mp this w hw;simp only[Bool.and_eq_true,Bool.not_eq_true'] at this;exact⟨this.1,λe=>by rw[e] at this;exact absurd this.2 ↑0⟩
theorem EE(w:By):decide (qI w∈Kk)=isKeyword w:=by
 unfold isKeyword;by_cases h:w∈KEYWORDS
 ·have hs:=(jO w h).1;rw[List.contains_iff_mem.mpr h];refine decide_eq_true ?_;unfold qI;rw[if_pos hs];exact List.mem_map.mpr ⟨w,h,rfl⟩
 ·have:KEYWORDS.contains w=false:=by
   cases e:KEYWORDS.contains w with
   |false=>rfl
   |true=>exact absurd (List.contains_iff_mem.mp e) h
  rw[this];refine decide_eq_false λm=>?_;unfold qI at m;split at m
  ·obtain⟨v,hv,e⟩:=List.mem_map.mp m;exact h (by rw[<-CJ e];exact hv)
  ·obtain⟨v,hv,e⟩:=List.mem_map.mp m;have:v=[]:=CJ (v:=v) (w:=[]) e;exact(jO v hv).2 this
def Good(t:Tok):Prop:=(t.kind=0/\t.bytes∈KEYWORDS)\/(1<=t.kind/\t.kind<=4)\/(t.kind=5/\t.bytes∈SIGNS)
theorem Gi{t:Tok}{s:By}(h:tokenIn p b= .ok (t,s)):Good t:=by
 unfold tokenIn at h;cases b with
 |nil=>cases h
 |cons c r=>
  dsimp only at h;split at h
  ·split at h
   ·rename_i hk;cases h;exact .inl ⟨rfl,List.contains_iff_mem.mp hk⟩
   ·split at h
    ·cases h;exact .inr (.inl ⟨Nat.le_refl _,(by show 1<=4;decide)⟩)
    ·cases h
  split at h
  ·split at h
   ·cases h;exact .inr (.inl ⟨(by show 1<=2;decide),(by show 2<=4;decide)⟩)
   ·cases h
  split at h
  ·split at h
   ·cases h;exact .inr (.inl ⟨(by show 1<=3;decide),(by show 3<=4;decide)⟩)
   ·cases h
  split at h
  ·split at h
   ·cases h
   ·cases h;exact .inr (.inl ⟨(by show 1<=4;decide),(by show 4<=4;decide)⟩)
  ·split at h
   ·rename_i hz;cases h;exact .inr (.inr ⟨rfl,List.mem_of_find?_eq_some hz⟩)
   ·cases h
def jm:List Str:=["(","[","{"]
def gD:List Str:=[")","]","}"]
def oF:List Str:=["-","+","*","/","//","percent","^","==","!=","<","<=",">",">=","->",".","not","or","and","as","of","then","spawn","resume","giving","picture"]
def jS:List Str:=[",","=",":","let","fn","record","account","use","return","raise","say","yield","post","from","match","is","while","for","in","to","with","try","catch"]
def eW(x:Str):Nat:=if x∈jm then 1 else if x∈gD then(if x="}" then 3 else 2) else if x∈oF then 4 else if x∈jS then 5 else 0
def qw(c:Nat)(l:List Nat):List Nat:=match c with
 |1=>0::l
 |2=>(match l.drop 1 with|[]=>[1]|k::r=>(k+1)::r)
 |3=>(match l.drop 1 with|[]=>[0]|_::r=>0::r)
 |4=>(match l with|[]=>[1]|k::r=>(k+1)::r)
 |5=>0::l.drop 1
 |_=>l
def Lq(b:By):Nat:=if ADDWORDS.contains b=true then 4 else if RESETWORDS.contains b=true then 5 else 0
def Kq(b:By):Nat:=if b=word "("\/b=word "["\/b=word "{" then 1 else if b=word ")"\/b=word "]" then 2 else if b=word "}" then 3 else if ADDING.contains b=true then 4 else if RESETS.contains b=true then 5 else 0
theorem zz{l:List Nat}{t:Tok}(h:t.kind=0):depthStep l t=qw (Lq t.bytes) l:=by
 unfold depthStep Lq;dsimp only;rw[h,if_neg ↑0,if_pos rfl];by_cases h1:ADDWORDS.contains t.bytes=true
 ·rw[if_pos h1,if_pos h1];rfl
 ·rw[if_neg h1,if_neg h1];by_cases h2:RESETWORDS.contains t.bytes=true
  ·rw[if_pos h2,if_pos h2];rfl
  ·rw[if_neg h2,if_neg h2];rfl
theorem yY{l:List Nat}{t:Tok}(h:t.kind=5):depthStep l t=qw (Kq t.bytes) l:=by
 unfold depthStep Kq;dsimp only;rw[h,if_pos rfl];by_cases h1:t.bytes=word "("\/t.bytes=word "["\/t.bytes=word "{"
 ·rw[if_pos h1,if_pos h1];rfl
 rw[if_neg h1,if_neg h1];by_cases h2:t.bytes=word ")"\/t.bytes=word "]"
 ·rw[if_pos h2,if_pos h2];rfl
 rw[if_neg h2,if_neg h2];by_cases h3:t.bytes=word "}"
 ·rw[if_pos h3,if_pos h3];rfl
 rw[if_neg h3,if_neg h3];by_cases h4:ADDING.contains t.bytes=true
 ·rw[if_pos h4,if_pos h4];rfl
 rw[if_neg h4,if_neg h4];by_cases h5:RESETS.contains t.bytes=true
 ·rw[if_pos h5,if_pos h5];rfl
 rw[if_neg h5,if_neg h5];rfl
theorem Gm:∀w∈KEYWORDS,eW (vh w)=Lq w:=by
 have:(KEYWORDS.all λw=>decide (eW (vh w)=Lq w))=true:=↑1
 intro w hw;exact of_decide_eq_true (List.all_eq_true.mp this w hw)
theorem HQ:∀w∈SIGNS,eW (if w=[37] then "percent" else vh w)=Kq w:=by
 have:(SIGNS.all λw=>decide (eW (if w=[37] then "percent" else vh w)=Kq w))=true:=↑1
 intro w hw;exact of_decide_eq_true (List.all_eq_true.mp this w hw)
theorem eX{l:List Nat}{t:Tok}(g:Good t):depthStep l t=qw (eW (bL t)) l:=by
 rcases g with⟨h,hb⟩|⟨h1,h2⟩|⟨h,hb⟩
 ·rw[zz h,<-Gm _ hb];unfold bL;rw[if_pos h]
 ·have hd:depthStep l t=l:=by
   unfold depthStep;dsimp only;rw[if_neg ↑2,if_neg ↑2]
  rw[hd];have:eW (bL t)=0:=by
   unfold bL;rw[if_neg ↑2];have k:t.kind=1\/t.kind=2\/t.kind=3\/t.kind=4:=↑2
   rcases k with k|k|k|k
   ·rw[if_pos k];decide+kernel
   ·rw[if_neg ↑2,if_pos k];decide+kernel
   ·rw[if_neg ↑2,if_neg ↑2,if_pos k];decide+kernel
   ·rw[if_neg ↑2,if_neg ↑2,if_neg ↑2,if_pos k];decide+kernel
  rw[this];rfl
 ·have e:bL t=(if t.bytes=[37] then Str.ofString "percent" else vh t.bytes):=by
   unfold bL;rw[if_neg (by rw[h];decide),if_neg (by rw[h];decide),if_neg (by rw[h];decide),if_neg (by rw[h];decide),if_neg (by rw[h];decide)]
  rw[yY h,e,HQ _ hb]
theorem O9{c:Nat}{l:List Nat}(h:l≠[]):qw c l≠[]:=by
 unfold qw;split
 ·exact List.cons_ne_nil _ _
 ·split <;> exact List.cons_ne_nil _ _
 ·split <;> exact List.cons_ne_nil _ _
 ·split <;> exact List.cons_ne_nil _ _
 ·exact List.cons_ne_nil _ _
 ·exact h
def cT:List Tok->List Nat×Nat
 |ts=>ts.foldl (λx t=>(depthStep x.1 t,max x.2 (depthNow (depthStep x.1 t)))) ([0],0)
theorem iB:∀(ts:List Tok)(l:List Nat)(m:Nat),depthFrom l m ts=(ts.foldl (λx t=>(depthStep x.1 t,max x.2 (depthNow (depthStep x.1 t)))) (l,m)).2
 |[],l,m=>rfl
 |t::r,l,m=>by
  rw[depthFrom,List.foldl_cons];exact iB r _ _
theorem E8(b:By):depth b=(cT (tokens b).1).2:=iB _ _ _
theorem lZ(ts:List Tok)(t:Tok):cT (ts++[t])=(depthStep (cT ts).1 t,max (cT ts).2 (depthNow (depthStep (cT ts).1 t))):=by unfold cT;rw[List.foldl_append];rfl
theorem DC(ts:List Tok)(g:∀t∈ts,Good t):(cT ts).1≠[]:=by
 have:∀(ts:List Tok)(x:List Nat×Nat),x.1≠[]->(∀t∈ts,Good t)->(ts.foldl (λx t=>(depthStep x.1 t,max x.2 (depthNow (depthStep x.1 t)))) x).1≠[]:=by
  intro ts;induction ts with
  |nil=>intro x h _;exact h
  |cons t ts ih=>
   intro x h g;rw[List.foldl_cons];exact ih _ (by dsimp only;rw[eX (g t (by simp))];exact O9 h) λu hu=>g u (by simp[hu])
 exact this ts _ (List.cons_ne_nil _ _) g
theorem tu:∀(n:Nat)(p:Nat)(b:By),b.length<=n->∀t∈(Tn p b).1,Good t:=by
 intro n;induction n with
 |zero=>
  intro p b hb t ht;have:b=[]:=List.eq_nil_of_length_eq_zero ↑2;subst this;rw[gP] at ht;simp at ht
 |succ n ih=>
  intro p b hb t ht;cases b with
  |nil=>rw[gP] at ht;simp at ht
  |cons c r=>
   simp only[List.length_cons] at hb;cases h1:isBlank c with
   |true=>rw[iI h1] at ht;exact ih _ r ↑2 t ht
   |false=>
    by_cases h2:c=35
    ·subst h2;rw[kK,List.takeWhile_cons,if_pos ↑0,List.length_cons,List.drop_succ_cons] at ht;exact ih _ _ (by rw[List.length_drop];omega) t ht
    ·rw[nB h1 h2] at ht;cases e:tokenIn p (c::r) with
     |error z=>rw[e] at ht;simp at ht
     |ok x=>
      obtain⟨u,s⟩:=x;rw[e] at ht;obtain⟨q1,q2,q3,q4⟩:=iR e;rcases List.mem_cons.mp ht with z|z
      ·rw[z];exact Gi e
      ·exact ih _ s (by rw[q4,List.length_drop,List.length_cons];omega) t z
theorem Mz{n:Int}(h:0<=n/\n<=255):((UInt8.ofNat n.toNat).toNat:Int)=n:=by rw[UInt8.toNat_ofNat',Nat.mod_eq_of_lt ↑2];omega
theorem uN:∀(ns:List Int),(∀n∈ns,0<=n/\n<=255)->ns=(WrxthhNeutral.text ns).map λc=>(c.toNat:Int)
 |[],_=>rfl
 |n::ns,h=>by
  show n::ns=((UInt8.ofNat n.toNat).toNat:Int)::(WrxthhNeutral.text ns).map _;rw[Mz (h n (by simp)),<-uN ns λm hm=>h m (by simp[hm])]
theorem JG(hb:b.drop p=c::r)(hc:isSmall c=true):
  tokenIn p (b.drop p)=(if isKeyword (cut b p (aK isWordByte b p))=true then .ok (⟨0,p,aK isWordByte b p,cut b p (aK isWordByte b p)⟩,b.drop (aK isWordByte b p))
   else if aK isWordByte b p - p<=31 then .ok (⟨1,p,aK isWordByte b p,cut b p (aK isWordByte b p)⟩,b.drop (aK isWordByte b p)) else .error (1,p)):=by
 have hw:=qg isWordByte b p;have hl:((b.drop p).takeWhile isWordByte).length=aK isWordByte b p - p:=by unfold aK;omega
 have hd:(b.drop p).drop (aK isWordByte b p - p)=b.drop (aK isWordByte b p):=by rw[List.drop_drop];congr 1;have:=bP isWordByte b p;omega
 have he:p+(aK isWordByte b p - p)=aK isWordByte b p:=by have:=bP isWordByte b p;omega
 rw[hw];rw[hb] at hl hd ⊢;unfold tokenIn;dsimp only;rw[if_pos hc,hl,hd,he];rfl
theorem Kg(hb:b.drop p=c::r)(hs:isSmall c=false)(hc:isBig c=true):
  tokenIn p (b.drop p)=(if 2<=aK isCodeByte b p - p/\aK isCodeByte b p - p<=8 then .ok (⟨2,p,aK isCodeByte b p,cut b p (aK isCodeByte b p)⟩,b.drop (aK isCodeByte b p)) else .error (1,p)):=by
 have hw:=qg isCodeByte b p;have hl:((b.drop p).takeWhile isCodeByte).length=aK isCodeByte b p - p:=by unfold aK;omega
 have hd:(b.drop p).drop (aK isCodeByte b p - p)=b.drop (aK isCodeByte b p):=by rw[List.drop_drop];congr 1;have:=bP isCodeByte b p;omega
 have he:p+(aK isCodeByte b p - p)=aK isCodeByte b p:=by have:=bP isCodeByte b p;omega
 have hk:isCode ((b.drop p).takeWhile isCodeByte)=decide (2<=aK isCodeByte b p - p/\aK isCodeByte b p - p<=8):=by
  unfold isCode;rw[HS,hl,hb,List.takeWhile_cons,if_pos (by unfold isCodeByte;rw[hc];rfl)];simp only[List.head?_cons,Option.any_some,hc,Bool.true_and];by_cases h1:2<=aK isCodeByte b p - p
  ·by_cases h2:aK isCodeByte b p - p<=8 <;> simp[h1,h2]
  ·simp[h1]
 rw[hw];rw[hb] at hl hd hk ⊢;unfold tokenIn;dsimp only;rw[if_neg (by rw[hs];decide),if_pos hc,hk,hl,hd,he];simp only[decide_eq_true_eq]
theorem Fp(hb:b.drop p=c::r)(hs:isSmall c=false)(hg:isBig c=false)(hc:isDigit c=true):
  ∃w,tokenIn p (b.drop p)=(if dc (cut b p (aK isDigit b p)) (cut b (aK isDigit b p) (aP b (aK isDigit b p)))
   (cut b (aP b (aK isDigit b p)) (aQ b (aP b (aK isDigit b p)))) (cut b (aQ b (aP b (aK isDigit b p))) (aK isMarkByte b (aQ b (aP b (aK isDigit b p)))))=true
   then .ok (⟨3,p,aK isMarkByte b (aQ b (aP b (aK isDigit b p))),w⟩,b.drop (aK isMarkByte b (aQ b (aP b (aK isDigit b p))))) else .error (1,p)):=by
 obtain⟨n1,n2,n3,n4,n5,n6,n7⟩:=Mm hb hc;refine⟨(b.drop p).take ((b.drop p).length - (digitsIn (b.drop p)).2.length),?_⟩;rw[<-n7];have hl:((b.drop p).take ((b.drop p).length - (digitsIn (b.drop p)).2.length)).length=aK isMarkByte b (aQ b (aP b (aK isDigit b p))) - p:=by
  rw[List.length_take,Nat.min_eq_left (Nat.sub_le _ _),n6]
 have he:p+(aK isMarkByte b (aQ b (aP b (aK isDigit b p))) - p)=aK isMarkByte b (aQ b (aP b (aK isDigit b p))):=by
  have:=bP isMarkByte b (aQ b (aP b (aK isDigit b p)));omega
 rw[<-n1];have hgoal:tokenIn p (b.drop p)=(if isNumber ((b.drop p).take ((b.drop p).length - (digitsIn (b.drop p)).2.length))=true then
   .ok (⟨3,p,p+((b.drop p).take ((b.drop p).length - (digitsIn (b.drop p)).2.length)).length,(b.drop p).take ((b.drop p).length - (digitsIn (b.drop p)).2.length)⟩,(digitsIn (b.drop p)).2) else .error (1,p)):=by
  rw[hb];unfold tokenIn;dsimp only;rw[if_neg (by rw[hs];decide),if_neg (by rw[hg];decide),if_pos hc]
 rw[hgoal,hl,he]
theorem Kh(hb:b.drop p=34::r):
  tokenIn p (b.drop p)=(match itemsIn 0 (p+1) (b.drop (p+1)) with| .error e=>.error e| .ok x=>.ok (⟨4,p,x.2.1,x.1⟩,x.2.2)):=by
 rw[<-(bF hb).2,hb];unfold tokenIn;dsimp only;rw[if_neg ↑0,if_neg ↑0,if_neg ↑0,if_pos rfl];rfl
theorem BZ(k p:Nat)(c:UInt8)(r:By):itemsIn k p (c::r)=(if c=34 then .ok ([],p+1,r) else if ITEMS<=k then .error (1,p) else if c=92/\r=[] then .error (3,p+1) else
  if c=92 then(match r with
   |34::s=>(itemsIn (k+1) (p+2) s).map λ(x:Bytes×Nat×Bytes)=>(34::x.1,x.2)
   |92::s=>(itemsIn (k+1) (p+2) s).map λ(x:Bytes×Nat×Bytes)=>(92::x.1,x.2)
   |110::s=>(itemsIn (k+1) (p+2) s).map λ(x:Bytes×Nat×Bytes)=>(10::x.1,x.2)
   |_=>.error (1,p))
  else if isSeen c=true then(itemsIn (k+1) (p+1) r).map λ(x:Bytes×Nat×Bytes)=>(c::x.1,x.2) else .error (1,p)):=by
 conv=>lhs;unfold itemsIn
 rfl
def two?(b:By)(p:Nat):Nat:=if cQ b p=92 then 2 else 1
def bq(b:By)(p:Nat):Except Fault Nat:=
 if b.length<p+two? b p then .error (3,b.length)
 else if two? b p=1/\g7 (cQ b p)=false then .error (1,p)
 else if two? b p=2/\¬(cQ b (p+1)=34\/cQ b (p+1)=92\/cQ b (p+1)=110) then .error (1,p)
 else .ok (p+two? b p)
def E2(x:Except Fault (Bytes×Nat×Bytes)):Except Fault (Nat×Bytes):=match x with| .error e=>.error e| .ok y=>.ok y.2
theorem wW(x:Except Fault (Bytes×Nat×Bytes))(a:UInt8):E2 (x.map λ(y:Bytes×Nat×Bytes)=>(a::y.1,y.2))=E2 x:=by cases x <;> rfl
theorem Gu{k:Nat}(h:cQ b p=34):itemsIn k p (b.drop p)= .ok ([],p+1,b.drop (p+1)):=by have e:=(gN (m:=34) (n:=34) rfl).mp h;rw[bp e,BZ,if_pos rfl]
theorem KD{k:Nat}(h:cQ b p≠34)(hk:1024<=k)(hp:p<b.length):itemsIn k p (b.drop p)= .error (1,p):=by rw[List.drop_eq_getElem_cons hp];have hne:b[p]≠34:=λe=>h ((gN (m:=34) (n:=34) rfl).mpr (by rw[List.getElem?_eq_getElem hp,e]));rw[BZ,if_neg hne,if_pos (show ITEMS<=k from hk)]
theorem HD{k:Nat}(h:cQ b p≠34)(hk:k<1024\/b.length<=p)(hp:p<=b.length):
  E2 (itemsIn k p (b.drop p))=(match bq b p with| .error e=>.error e| .ok q=>E2 (itemsIn (k+1) q (b.drop q))):=by
 by_cases hl:p<b.length
 ·have hk':¬ITEMS<=k:=λz=>by
   rcases hk with q|q
   ·exact absurd z (Nat.not_le.mpr q)
   ·omega
  have hc:b[p]?=some b[p]:=List.getElem?_eq_getElem hl;have hd:=bp hc;have hB:=cj hc;generalize b[p]=c at hc hd hB;have hne:c≠34:=λe=>h (by rw[hB,e];rfl);rw[hd,BZ,if_neg hne,if_neg hk'];by_cases h92:c=92
  ·subst h92;have t2:two? b p=2:=by unfold two?;rw[if_pos (by rw[hB];rfl)]
   unfold bq;rw[t2];by_cases hn:b.length<p+2
   ·have hr:b.drop (p+1)=[]:=List.drop_eq_nil_of_le ↑2;rw[if_pos ⟨rfl,hr⟩,if_pos hn];show(Except.error (3,p+1):Except Fault (Nat×Bytes))= .error (3,b.length);rw[show p+1=b.length from ↑2]
   ·have hl1:p+1<b.length:=↑2
    have hc1:b[p+1]?=some b[p+1]:=List.getElem?_eq_getElem hl1;have hd1:=bp hc1;have hB1:=cj hc1;generalize b[p+1]=d at hc1 hd1 hB1;rw[if_neg (show ¬((92:UInt8)=92/\b.drop (p+1)=[]) from λz=>by rw[hd1] at z;cases z.2),if_neg hn,if_neg (show ¬(2=1/\g7 (cQ b p)=false) from λz=>absurd z.1 ↑0),if_pos (show(92:UInt8)=92 from rfl),hd1,hB1];have hd2:∀m:UInt8,∀n:Nat,m.toNat=n->((d.toNat:Int)=(n:Int)↔d=m):=λm n hm=>⟨λz=>jf.mpr ↑2,λz=>by rw[z];omega⟩
    have q34:=hd2 34 34 rfl;have q92:=hd2 92 92 rfl;have q110:=hd2 110 110 rfl;by_cases e1:d=34
    ·subst e1;rw[if_neg (λz=>z.2 (.inl rfl))];exact wW _ _
    by_cases e2:d=92
    ·subst e2;rw[if_neg (λz=>z.2 (.inr (.inl rfl)))];exact wW _ _
    by_cases e3:d=110
    ·subst e3;rw[if_neg (λz=>z.2 (.inr (.inr rfl)))];exact wW _ _
    rw[if_pos ⟨rfl,λz=>by
     rcases z with z|z|z
     ·exact e1 (q34.mp z)
     ·exact e2 (q92.mp z)
     ·exact e3 (q110.mp z)⟩]
    split
    ·rename_i heq;injection heq with z _;exact absurd z e1
    ·rename_i heq;injection heq with z _;exact absurd z e2
    ·rename_i heq;injection heq with z _;exact absurd z e3
    ·rfl
  ·have hbn:¬cQ b p=92:=λz=>h92 (jf.mpr (by rw[hB] at z;have:(92:UInt8).toNat=92:=rfl;omega));have t1:two? b p=1:=by unfold two?;rw[if_neg hbn]
   unfold bq;rw[t1,if_neg (show ¬(c=92/\b.drop (p+1)=[]) from λz=>h92 z.1),if_neg h92,if_neg (show ¬b.length<p+1 by omega),hB,Cu];cases hs:isSeen c with
   |true=>
    rw[if_pos rfl,if_neg (show ¬(1=1/\true=false) from λz=>by cases z.2),if_neg (show ¬(1=2/\¬(cQ b (p+1)=34\/cQ b (p+1)=92\/cQ b (p+1)=110)) from λz=>absurd z.1 ↑0)];exact wW _ _
   |false=>
    rw[if_neg (show ¬(false=true) by decide),if_pos (show 1=1/\false=false from⟨rfl,rfl⟩)];rfl
 ·have hp':p=b.length:=↑2
  subst hp';have hB:cQ b b.length= -1:=iC (List.getElem?_eq_none_iff.mpr (Nat.le_refl _));have t1:two? b b.length=1:=by unfold two?;rw[hB,if_neg ↑0]
  unfold bq;rw[t1,List.drop_length,if_pos (Nat.lt_succ_self _)];rfl
theorem Bv{q:Nat}(h:bq b p= .ok q):p<q/\q<=b.length:=by
 unfold bq at h;split at h
 ·cases h
 split at h
 ·cases h
 split at h
 ·cases h
 ·cases h;rename_i h1 _ _;have:1<=two? b p:=by unfold two?;split <;> decide
  omega
def Jt:List (Int×Str):=[(11822,".."),(11582,"->"),(15677,"=="),(8509,"!="),(15421,"<="),(15933,">="),(12079,"//")]
def Jv:List (Int×Str):=[(40,"("),(41,")"),(91,"["),(93,"]"),(123,"{"),(125,"}"),(44,","),(58,":"),(46,"."),(61,"="),(60,"<"),(62,">"),(43,"+"),(45,"-"),(42,"*"),(47,"/"),(37,"percent"),(94,"^")]
def lk(l:List (Int×Str))(k:Int):Option Str:=(l.find? λkv=>decide (kv.1=k)).map (·.2)
def pairOf(b:By)(p:Nat):Int:=cQ b p*256+max (cQ b (p+1)) 0
theorem lT{l:List (Int×Str)}{k:Int}{x:Str}(h:lk l k=some x):(k,x)∈l:=by unfold lk at h;obtain⟨y,h1,h2⟩:=Option.map_eq_some_iff.mp h;have h3:=List.find?_some h1;have h4:=List.mem_of_find?_eq_some h1;have h5:=of_decide_eq_true h3;obtain⟨y1,y2⟩:=y;dsimp only at h2 h5;rw[<-h2,<-h5];exact h4
theorem CU{l:List (Int×Str)}{k:Int}(h:lk l k=none):∀x,(k,x)∉l:=by intro x m;unfold lk at h;rw[Option.map_eq_none_iff,List.find?_eq_none] at h;exact h _ m (decide_eq_true rfl)
theorem yX{s:By}:s.isPrefixOf b=true↔s<+:b:=List.isPrefixOf_iff_prefix
theorem Bz:∀s∈SIGNS,(∃x y,s=[x,y]/\∃z,((x.toNat:Int)*256+y.toNat,z)∈Jt)\/(∃x,s=[x]/\∃z,((x.toNat:Int),z)∈Jv):=by
 have:(SIGNS.all λs=>match s with
  |[x,y]=>(lk Jt ((x.toNat:Int)*256+y.toNat)).isSome
  |[x]=>(lk Jv (x.toNat:Int)).isSome
  |_=>false)=true:=↑1
 intro s hs;have:=List.all_eq_true.mp this s hs
 match s,this with
 |[x,y],h=>
  obtain⟨z,hz⟩:=Option.isSome_iff_exists.mp h;exact .inl ⟨x,y,rfl,z,lT hz⟩
 |[x],h=>
  obtain⟨z,hz⟩:=Option.isSome_iff_exists.mp h;exact .inr ⟨x,rfl,z,lT hz⟩
theorem Ia:∀kv∈Jt,∃x y:UInt8,kv.1=(x.toNat:Int)*256+y.toNat/\kv.2=vh [x,y]/\[x,y]≠[37]/\∀r:By,(SIGNS.find? λ(s:Bytes)=>s.isPrefixOf (x::y::r))=some [x,y]:=by
 intro kv h;simp only[Jt,List.mem_cons,List.not_mem_nil,or_false] at h;rcases h with rfl|rfl|rfl|rfl|rfl|rfl|rfl
 ·exact⟨46,46,↑0,↑1,↑0,λr=>rfl⟩
 ·exact⟨45,62,↑0,↑1,↑0,λr=>rfl⟩
 ·exact⟨61,61,↑0,↑1,↑0,λr=>rfl⟩
 ·exact⟨33,61,↑0,↑1,↑0,λr=>rfl⟩
 ·exact⟨60,61,↑0,↑1,↑0,λr=>rfl⟩
 ·exact⟨62,61,↑0,↑1,↑0,λr=>rfl⟩
 ·exact⟨47,47,↑0,↑1,↑0,λr=>rfl⟩
theorem Jc:∀kv∈Jv,∃x:UInt8,kv.1=(x.toNat:Int)/\kv.2=(if([x]:By)=[37] then Str.ofString "percent" else vh [x])/\[x]∈SIGNS:=by
 have:(Jv.all λkv=>decide (kv.1=((UInt8.ofNat kv.1.toNat).toNat:Int))&&(decide (kv.2=(if([UInt8.ofNat kv.1.toNat]:By)=[37] then Str.ofString "percent" else vh [UInt8.ofNat kv.1.toNat]))&&SIGNS.contains [UInt8.ofNat kv.1.toNat]))=true:=↑1
 intro kv h;have:=List.all_eq_true.mp this kv h;simp only[Bool.and_eq_true,decide_eq_true_eq] at this;exact⟨_,this.1,this.2.1,List.contains_iff_mem.mp this.2.2⟩
theorem Lh(hb:b.drop p=c::r)(hs:isSmall c=false)(hg:isBig c=false)(hd:isDigit c=false)(hq:c≠34):
  (∀x,lk Jt (pairOf b p)=some x->∃t,tokenIn p (b.drop p)= .ok (t,b.drop (p+2))/\t.kind=5/\t.place=p/\t.halt_=p+2/\bL t=x)/\
  (lk Jt (pairOf b p)=none->(∀x,lk Jv (cQ b p)=some x->∃t,tokenIn p (b.drop p)= .ok (t,b.drop (p+1))/\t.kind=5/\t.place=p/\t.halt_=p+1/\bL t=x)/\
   (lk Jv (cQ b p)=none->tokenIn p (b.drop p)= .error (1,p))):=by
 obtain⟨hc,hr⟩:=bF hb;have hB:=cj hc;have htok:tokenIn p (b.drop p)=(match SIGNS.find? λ(s:Bytes)=>s.isPrefixOf (c::r) with|some s=>.ok (⟨5,p,p+s.length,s⟩,(b.drop p).drop s.length)|none=>.error (1,p)):=by
  rw[hb];unfold tokenIn;dsimp only;rw[if_neg (by rw[hs];decide),if_neg (by rw[hg];decide),if_neg (by rw[hd];decide),if_neg hq];rfl
 have lt256:∀u:UInt8,u.toNat<256:=λu=>UInt8.toNat_lt u;have tail:r=[]/\pairOf b p=(c.toNat:Int)*256\/∃d r',r=d::r'/\pairOf b p=(c.toNat:Int)*256+d.toNat:=by
  cases r with
  |nil=>
   left;refine⟨rfl,?_⟩;unfold pairOf;rw[hB,iC (List.getElem?_eq_none_iff.mpr (by have:=congrArg List.length hr;rw[List.length_drop,List.length_nil] at this;omega)),show max (-1:Int) 0=0 from rfl,Int.add_zero]
  |cons d r'=>
   right;refine⟨d,r',rfl,?_⟩;unfold pairOf;rw[hB,cj (bF hr.symm).1];omega
 have look5:∀(s:By)(t:Tok),t.kind=5->t.bytes=s->bL t=(if s=[37] then Str.ofString "percent" else vh s):=by
  intro s t h e;unfold bL;rw[if_neg (by rw[h];decide),if_neg (by rw[h];decide),if_neg (by rw[h];decide),if_neg (by rw[h];decide),if_neg (by rw[h];decide),e]
 refine⟨λx hx=>?_,λhn=>?_⟩
 ·obtain⟨x1,y1,e1,e2,e3,e4⟩:=Ia _ (lT hx);dsimp only at e1 e2;rcases tail with⟨_,hp⟩|⟨d,r',rfl,hp⟩
  ·have hy:y1.toNat=0:=by rw[hp] at e1;have:=lt256 y1;omega
   have:∀kv∈Jt,kv.1 % 256≠0:=↑0
   exact absurd (by show pairOf b p % 256=0;rw[hp];omega) (this _ (lT hx))
  ·have hx1:x1=c:=jf.mpr (by rw[hp] at e1;have:=lt256 y1;have:=lt256 d;omega);have hy1:y1=d:=jf.mpr (by rw[hp] at e1;have:=lt256 y1;have:=lt256 d;omega);subst hx1;subst hy1;rw[htok,e4 r'];dsimp only;refine⟨_,by rw[List.drop_drop];rfl,rfl,rfl,rfl,?_⟩;rw[look5 _ _ rfl rfl,if_neg e3,e2]
 ·have no2:∀s∈SIGNS,s.isPrefixOf (c::r)=true->∃x,s=[x]/\x=c/\∃z,((x.toNat:Int),z)∈Jv:=by
   intro s hsn hp;obtain⟨u,hu⟩:=yX.mp hp;rcases Bz s hsn with⟨x,y,rfl,z,hz⟩|⟨x,rfl,z,hz⟩
   ·exfalso;rcases tail with⟨rfl,hp'⟩|⟨d,r',rfl,hp'⟩
    ·cases hu
    ·injection hu with h1 h2;injection h2 with h2 _;subst h1;subst h2;rw[<-hp'] at hz;exact CU hn z hz
   ·injection hu with h1 _;exact⟨x,rfl,h1,z,hz⟩
  refine⟨λx hx=>?_,λhn1=>?_⟩
  ·obtain⟨x1,e1,e2,e3⟩:=Jc _ (lT hx);dsimp only at e1 e2;have hxc:x1=c:=jf.mpr (by rw[hB] at e1;omega);subst hxc;have hfind:(SIGNS.find? λ(s:Bytes)=>s.isPrefixOf (x1::r))=some [x1]:=by
    cases hf:SIGNS.find? λ(s:Bytes)=>s.isPrefixOf (x1::r) with
    |none=>
     rw[List.find?_eq_none] at hf;exact absurd (yX.mpr ⟨r,rfl⟩) (hf _ e3)
    |some s=>
     obtain⟨y,hy,hyc,_⟩:=no2 s (List.mem_of_find?_eq_some hf) (by have z:=List.find?_some hf;exact z);rw[hy,hyc]
   rw[htok,hfind];dsimp only;refine⟨_,by rw[List.drop_drop];rfl,rfl,rfl,rfl,?_⟩;rw[look5 _ _ rfl rfl,e2]
  ·have hfind:(SIGNS.find? λ(s:Bytes)=>s.isPrefixOf (c::r))=none:=by
    rw[List.find?_eq_none];intro s hsn hp;obtain⟨y,_,hyc,z,hz⟩:=no2 s hsn hp;rw[hyc,<-hB] at hz;exact CU hn1 z hz
   rw[htok,hfind]
end
end TW
namespace RT
open EwTree
section
variable{n:Nat}
theorem eC{l:List String}{s:St}{k:Nat}(h:oneOf l s=some k):k<l.length:=by unfold oneOf at h;rw[List.findIdx?_eq_some_iff_getElem] at h;exact h.1
theorem IS:∀a<128,∀k<7,withFlag a k<128/\a<=withFlag a k/\0<withFlag a k:=↑1
def optN(s:St):Option Bytes×St:=match s.toks with
 |[]=>(none,s)
 |t::r=>if t.kind=3 then(some t.bytes,(⟨t.halt_,r⟩:St)) else(none,s)
def pC(s:St):Nat×St:=match oneOf ROUNDS s with
 |some i=>(i+1,s.skip)
 |none=>(0,s)
theorem all_cons{α:Type}{P:α->Prop}{a:α}{l:List α}(h:P a)(k:∀x∈l,P x):∀x∈a::l,P x:=by
 intro y hy;rcases List.mem_cons.mp hy with rfl|hy
 ·exact h
 ·exact k y hy
theorem all_nil{α:Type}{P:α->Prop}:∀x∈([]:List α),P x:=λ_ h=>nomatch h
def Cc(s:St):Option Bytes×St:=match s.toks with
 |[]=>(none,s)
 |t::r=>if t.kind=4 then(some t.bytes,(⟨t.halt_,r⟩:St)) else(none,s)
end
end RT
section
theorem CQ.a{a b c:Nat}(h:a<b)(k:b<=c):a<=c:=Nat.le_trans (Nat.le_of_lt h) k
theorem CQ.b{a b c:Nat}(h:a+1=b)(k:b<=c):a<=c:=Nat.le_trans (Nat.le_of_lt (h▸Nat.lt_succ_self a)) k
theorem CQ.c{a b c:Nat}(h:a<b)(k:b<=c):a<c:=Nat.lt_of_lt_of_le h k
theorem CQ.d{a b c:Nat}(h:a+1=b)(k:b<=c):a<c:=Nat.lt_of_lt_of_le (h▸Nat.lt_succ_self a) k
theorem CQ.e{a b c:Nat}(h:a<=b)(k:b<c):a<c:=Nat.lt_of_le_of_lt h k
theorem CQ.f{a b c:Nat}(h:a<=b)(k:b<=c):a<=c:=Nat.le_trans h k
theorem CQ.g{m x s c f i:Nat}(h:m*s+c<=f+1)(k:x<s)(d:i+1<=c+m):m*x+i<=f:=by
 have:m*x+m<=m*s:=by rw[<-Nat.mul_succ];exact Nat.mul_le_mul_left m k
 omega
theorem CQ.h{m x s c f i:Nat}(h:m*s+c<=f+1)(k:x<=s)(d:i+1<=c):m*x+i<=f:=by have:m*x<=m*s:=Nat.mul_le_mul_left m k;omega
local macro_rules
 |`(tactic|sleep 90)=>`(tactic|first|exact Nat.le_refl _|assumption|(refine CQ.c (by assumption) ?_;sleep 91)|(refine CQ.d (by assumption) ?_;sleep 91)|(refine CQ.e (by assumption) ?_;sleep 90))
 |`(tactic|sleep 91)=>`(tactic|first|exact Nat.le_refl _|assumption|(refine CQ.a (by assumption) ?_;sleep 91)|(refine CQ.b (by assumption) ?_;sleep 91)|(refine CQ.f (by assumption) ?_;sleep 91))
 |`(tactic|sleep 92)=>`(tactic|first|(refine CQ.g (by assumption) ?_ ↑0;sleep 90)|(refine CQ.h (by assumption) ?_ ↑0;sleep 91))
 |`(tactic|omega)=>`(tactic|first|(sleep 90;done)|(sleep 91;done)|(sleep 92;done)|lia|omega (splitMinMax:=true))
namespace MA
open EwTree RT
variable{n:Nat}{l:List Pt}{r:List Sym}{q:List Sym}{f:Fm}{k:Nat}{s:St}{w:String}{G:List Fr}{α:Type}{fu:Nat}
section
inductive Fk where
 |kind(k:Nat)
 |row
 |count
 |set
inductive Fm where
 |kind(k:Nat) (b:St)
 |row(b:St)
 |count(b:St)
 |set(b:St)
def Fk.at:Fk->St->Fm
 | .kind k,b=>.kind k b
 | .row,b=>.row b
 | .count,b=>.count b
 | .set,b=>.set b
def Fm.yJ:Fm->St
 | .kind _ b=>b
 | .row b=>b
 | .count b=>b
 | .set b=>b
def Fm.isSet:Fm->Bool
 | .set _=>true
 |_=>false
inductive Pt where
 |leaf(b:Bytes)
 |bo(f:Fm) (s:St) (l:List Pt)
def st(p:Pt)(b:St):St:=match p with
 | .leaf _=>b
 | .bo f _ _=>f.yJ
def Fm.tk(p:Pt):Fm->Fm
 | .kind k b=>.kind k (st p b)
 | .row b=>.row (st p b)
 | .count b=>.count (st p b)
 | .set b=>.set (st p b)
def Fm.turn(k:Nat):Fm->Fm
 | .kind _ b=>.kind k b
 | .row b=>.kind k b
 | .count b=>.kind k b
 | .set b=>.kind k b
structure Fr where
 form:Fm
 parts:List Pt
inductive Sym where
 |bg(f:Fk)
 |bW(b:Bytes)
 |take
 |turn(k:Nat)
 |fin
 |w(x:Nat)
noncomputable def vd:List (Nat×List Sym):=[(299,[.bg (.kind 144),.w 39,.w 200,.bg .count,.w 1001,.fin,.bg .count,.w 1002,.fin,.fin])]
noncomputable def Gf:List (Nat×List Sym):=[(73,[.w 73,.w 200,.w 1001]),(299,[])]
noncomputable def iM:List (Nat×List Sym):=[(204,[]),(299,[.w 1003,.w 1002])]
noncomputable def jk:List (Nat×List Sym):=[(35,[.bg (.kind 128),.w 1004,.fin]),(55,[.bg (.kind 129),.w 55,.w 200,.w 111,.bg .count,.w 1008,.fin,.w 112,.fin]),(0,[.bg (.kind 130),.w 0,.w 200,.w 201,.fin]),(21,[.bg (.kind 131),.w 21,.w 200,.w 1006,.w 107,.bg .count,.w 1008,.fin,.w 108,.w 1011,.w 1017,.fin])]
noncomputable def Mb:List (Nat×List Sym):=[(299,[.w 35,.w 200,.w 1005,.w 116,.w 1040])]
noncomputable def oz:List (Nat×List Sym):=[(114,[.w 114,.bW [1],.w 1012]),(299,[.bW [0]])]
noncomputable def ko:List (Nat×List Sym):=[(109,[.w 109,.bg .count,.w 200,.w 1007,.fin,.w 110]),(299,[.bg .count,.fin])]
noncomputable def lV:List (Nat×List Sym):=[(113,[.w 113,.w 200,.w 1007]),(299,[])]
noncomputable def zR:List (Nat×List Sym):=[(200,[.w 1010,.w 1009]),(299,[])]
noncomputable def jl:List (Nat×List Sym):=[(113,[.w 113,.w 1010,.w 1009]),(299,[])]
noncomputable def CI:List (Nat×List Sym):=[(299,[.bg .row,.w 200,.w 114,.w 1012,.fin])]
noncomputable def zm:List (Nat×List Sym):=[(100,[.w 100,.bW [1],.w 1012]),(299,[.bW [0]])]
noncomputable def FK:List (Nat×List Sym):=[(76,[.bg (.kind 1),.w 76,.fin]),(23,[.bg (.kind 2),.w 23,.fin]),(9,[.bg (.kind 3),.w 9,.fin]),(26,[.bg (.kind 4),.w 26,.fin]),(60,[.bg (.kind 5),.w 60,.fin]),(10,[.bg (.kind 6),.w 10,.fin]),(14,[.bg (.kind 7),.w 14,.fin]),(30,[.bg (.kind 8),.w 30,.fin]),(69,[.bg (.kind 9),.w 69,.fin]),(64,[.bg (.kind 10),.w 64,.fin]),(19,[.bg (.kind 11),.w 19,.fin]),(13,[.bg (.kind 12),.w 13,.fin]),(0,[.bg (.kind 13),.w 0,.fin]),(74,[.bg (.kind 14),.w 74,.fin]),(50,[.bg (.kind 15),.w 50,.w 202,.fin]),(36,[.bg (.kind 16),.w 36,.w 45,.w 1012,.fin]),(16,[.bg (.kind 17),.w 16,.w 1013,.fin]),(21,[.bg (.kind 18),.w 21,.w 107,.bg .count,.w 1014,.fin,.w 108,.w 1011,.fin]),(200,[.bg (.kind 19),.w 200,.w 1016,.fin])]
noncomputable def u_:List (Nat×List Sym):=[(45,[.w 45,.bW [1],.w 1012]),(299,[.bW [0]])]
noncomputable def DH:List (Nat×List Sym):=[(108,[]),(299,[.w 1012,.w 1015])]
noncomputable def kh:List (Nat×List Sym):=[(113,[.w 113,.w 1012,.w 1015]),(299,[])]
noncomputable def ji:List (Nat×List Sym):=[(115,[.turn 20,.w 115,.w 200]),(299,[])]
noncomputable def Dg:List (Nat×List Sym):=[(299,[.bg .count,.w 111,.w 1018,.w 112,.fin])]
noncomputable def k8:List (Nat×List Sym):=[(112,[]),(299,[.w 1019,.w 1018])]
noncomputable def oA:List (Nat×List Sym):=[(35,[.bg (.kind 96),.w 1004,.fin]),(200,[.w 1062,.w 1020]),(19,[.bg (.kind 99),.w 19,.w 116,.w 1040,.fin]),(27,[.bg (.kind 100),.bg .count,.w 1024,.w 1022,.fin]),(75,[.bg (.kind 101),.w 75,.w 1040,.w 1017,.fin]),(22,[.bg (.kind 102),.w 22,.w 200,.w 28,.w 1040,.w 1025,.w 1017,.fin]),(38,[.bg (.kind 103),.w 38,.w 1040,.w 111,.bg .count,.w 1026,.fin,.w 1027,.w 112,.fin]),(57,[.bg (.kind 104),.w 57,.w 1040,.fin]),(34,[.bg (.kind 105),.w 34,.fin]),(5,[.bg (.kind 106),.w 5,.fin]),(43,[.bg (.kind 107),.w 43,.fin]),(77,[.bg (.kind 108),.w 77,.bg .count,.w 1033,.w 1032,.fin,.w 1017,.fin]),(70,[.bg (.kind 109),.w 70,.w 1017,.w 1028,.fin]),(54,[.bg (.kind 110),.w 54,.w 1040,.fin]),(59,[.bg (.kind 111),.w 59,.bg .count,.w 1040,.w 1039,.fin,.fin]),(78,[.bg (.kind 112),.w 78,.w 1040,.w 1030,.fin]),(52,[.bg (.kind 113),.w 52,.w 1040,.w 114,.w 1040,.w 24,.w 1040,.w 1031,.fin])]
noncomputable def Df:List (Nat×List Sym):=[(107,[.w 1059,.w 1021]),(109,[.w 1060,.w 1020]),(115,[.w 1061,.w 1020]),(116,[.bg (.kind 97),.take,.w 116,.w 1040,.fin])]
noncomputable def iL:List (Nat×List Sym):=[(107,[.w 1059,.w 1021]),(109,[.w 1060,.w 1020]),(115,[.w 1061,.w 1020]),(299,[.bg (.kind 98),.take,.fin])]
noncomputable def hW:List (Nat×List Sym):=[(12,[.w 12,.w 1023]),(299,[.fin,.bW [0]])]
noncomputable def jo:List (Nat×List Sym):=[(27,[.w 1024,.w 1022]),(299,[.fin,.bW [1],.w 1017])]
noncomputable def Ax:List (Nat×List Sym):=[(299,[.bg .row,.w 27,.w 1040,.w 1017,.fin])]
noncomputable def Q9:List (Nat×List Sym):=[(66,[.w 66,.bW [1],.w 1040]),(299,[.bW [0]])]
noncomputable def Dr:List (Nat×List Sym):=[(33,[.bg .row,.w 33,.w 1012,.w 200,.w 1017,.fin,.w 1026]),(299,[])]
noncomputable def GN:List (Nat×List Sym):=[(12,[.w 12,.bW [1],.w 1017]),(299,[.bW [0]])]
noncomputable def lO:List (Nat×List Sym):=[(6,[.w 6,.bW [1],.w 200,.w 1017,.w 1029]),(17,[.bW [0],.w 1029])]
noncomputable def uF:List (Nat×List Sym):=[(17,[.w 17,.bW [1],.w 1017]),(299,[.bW [0]])]
noncomputable def Hz:List (Nat×List Sym):=[(31,[.w 31,.bW [1],.w 200]),(299,[.bW [0]])]
noncomputable def jq:List (Nat×List Sym):=[(203,[.bW [1],.w 203]),(299,[.bW [0]])]
noncomputable def ky:List (Nat×List Sym):=[(113,[.w 113,.w 1033,.w 1032]),(299,[])]
noncomputable def IK:List (Nat×List Sym):=[(58,[.bg .row,.w 58,.bW [0],.w 1034,.fin]),(53,[.bg .row,.w 53,.bW [1],.w 202,.fin]),(67,[.bg .row,.w 67,.bW [2],.bg .set,.w 1037,.w 1035,.fin,.fin]),(20,[.bg .row,.w 20,.bW [3],.w 1036,.fin])]
noncomputable def oM:List (Nat×List Sym):=[(40,[.w 40,.bW [0]]),(11,[.w 11,.bW [1]]),(72,[.w 72,.bW [2]]),(8,[.w 8,.bW [3]])]
noncomputable def vA:List (Nat×List Sym):=[(113,[]),(111,[]),(299,[.w 1037,.w 1035])]
noncomputable def vy:List (Nat×List Sym):=[(28,[.w 28,.bW [0]]),(48,[.w 48,.bW [1]]),(4,[.w 4,.bW [2]])]
noncomputable def GC:List (Nat×List Sym):=[(32,[.w 32,.bW [0]]),(61,[.w 61,.bW [1]]),(79,[.w 79,.bW [2]]),(49,[.w 49,.bW [3]]),(71,[.w 71,.bW [4]]),(29,[.w 29,.bW [5]]),(63,[.w 63,.bW [6]])]
noncomputable def jj:List (Nat×List Sym):=[(108,[]),(299,[.w 1040,.w 1039])]
noncomputable def fq:List (Nat×List Sym):=[(113,[.w 113,.w 1040,.w 1039]),(299,[])]
noncomputable def lP:List (Nat×List Sym):=[(27,[.bg (.kind 51),.w 27,.w 1040,.w 65,.w 1040,.w 12,.w 1040,.fin]),(299,[.w 1042,.w 1041])]
noncomputable def vc:List (Nat×List Sym):=[(47,[.bg (.kind 64),.take,.w 47,.w 1042,.fin,.w 1041]),(299,[])]
noncomputable def G6:List (Nat×List Sym):=[(299,[.w 1044,.w 1043])]
noncomputable def tp:List (Nat×List Sym):=[(1,[.bg (.kind 65),.take,.w 1,.w 1044,.fin,.w 1043]),(299,[])]
noncomputable def u5:List (Nat×List Sym):=[(44,[.bg (.kind 47),.w 44,.w 1044,.fin]),(299,[.w 1046,.w 1045])]
noncomputable def rk:List (Nat×List Sym):=[(101,[.bg (.kind 66),.take,.w 101,.w 1046,.fin]),(102,[.bg (.kind 67),.take,.w 102,.w 1046,.fin]),(117,[.bg (.kind 68),.take,.w 117,.w 1046,.fin]),(103,[.bg (.kind 69),.take,.w 103,.w 1046,.fin]),(118,[.bg (.kind 70),.take,.w 118,.w 1046,.fin]),(104,[.bg (.kind 71),.take,.w 104,.w 1046,.fin]),(299,[])]
noncomputable def Gn:List (Nat×List Sym):=[(299,[.w 1050,.w 1047])]
noncomputable def vq:List (Nat×List Sym):=[(2,[.bg (.kind 52),.take,.w 2,.w 1012,.w 1048,.w 1049,.fin,.w 1047]),(299,[])]
noncomputable def zb:List (Nat×List Sym):=[(202,[.bW [1],.w 202]),(299,[.bW [0]])]
noncomputable def rO:List (Nat×List Sym):=[(40,[.w 40,.bW [1]]),(11,[.w 11,.bW [2]]),(72,[.w 72,.bW [3]]),(8,[.w 8,.bW [4]]),(41,[.w 41,.bW [5]]),(42,[.w 42,.bW [6]]),(3,[.w 3,.bW [7]]),(18,[.w 18,.bW [8]]),(299,[.bW [0]])]
noncomputable def L5:List (Nat×List Sym):=[(299,[.w 1052,.w 1051])]
noncomputable def tI:List (Nat×List Sym):=[(119,[.bg (.kind 72),.take,.w 119,.w 1052,.fin,.w 1051]),(120,[.bg (.kind 73),.take,.w 120,.w 1052,.fin,.w 1051]),(299,[])]
noncomputable def vz:List (Nat×List Sym):=[(299,[.w 1054,.w 1053])]
noncomputable def iZ:List (Nat×List Sym):=[(121,[.bg (.kind 74),.take,.w 121,.w 1054,.fin,.w 1053]),(122,[.bg (.kind 75),.take,.w 122,.w 1054,.fin,.w 1053]),(105,[.bg (.kind 76),.take,.w 105,.w 1054,.fin,.w 1053]),(123,[.bg (.kind 77),.take,.w 123,.w 1054,.fin,.w 1053]),(299,[])]
noncomputable def yI:List (Nat×List Sym):=[(120,[.bg (.kind 46),.w 120,.w 1054,.fin]),(62,[.bg (.kind 48),.w 62,.w 1057,.fin]),(56,[.bg (.kind 49),.w 56,.w 1057,.w 1055,.fin]),(51,[.bg (.kind 50),.w 51,.w 203,.w 45,.w 1057,.fin]),(299,[.w 1057,.w 1056])]
noncomputable def Ay:List (Nat×List Sym):=[(25,[.w 25,.bW [1],.w 1054]),(299,[.bW [0]])]
noncomputable def D0:List (Nat×List Sym):=[(124,[.bg (.kind 78),.take,.w 124,.w 1054,.fin]),(299,[])]
noncomputable def Hl:List (Nat×List Sym):=[(299,[.w 1063,.w 1058])]
noncomputable def oC:List (Nat×List Sym):=[(107,[.w 1059,.w 1058]),(109,[.w 1060,.w 1058]),(115,[.w 1061,.w 1058]),(299,[])]
noncomputable def Hy:List (Nat×List Sym):=[(299,[.bg (.kind 43),.take,.w 107,.bg .count,.w 1038,.fin,.w 108,.fin])]
noncomputable def C7:List (Nat×List Sym):=[(299,[.bg (.kind 44),.take,.w 109,.w 1040,.w 110,.fin])]
noncomputable def Ao:List (Nat×List Sym):=[(299,[.bg (.kind 45),.take,.w 115,.w 200,.fin])]
noncomputable def GU:List (Nat×List Sym):=[(299,[.bg (.kind 37),.w 200,.fin])]
noncomputable def DA:List (Nat×List Sym):=[(202,[.bg (.kind 32),.w 202,.fin]),(203,[.bg (.kind 33),.w 203,.fin]),(68,[.bg (.kind 34),.w 68,.fin]),(15,[.bg (.kind 35),.w 15,.fin]),(19,[.bg (.kind 36),.w 19,.fin]),(200,[.w 1062]),(201,[.bg (.kind 38),.w 201,.fin]),(46,[.bg (.kind 39),.w 46,.w 107,.bg .set,.w 1064,.fin,.w 108,.fin]),(107,[.bg .row,.w 107,.w 1040,.w 108,.fin]),(109,[.bg (.kind 40),.w 109,.w 1066,.w 110,.fin]),(37,[.bg (.kind 42),.w 37,.w 200,.w 1068,.w 107,.bg .count,.w 1069,.fin,.w 108,.fin])]
noncomputable def Ds:List (Nat×List Sym):=[(108,[]),(299,[.w 1037,.w 1065])]
noncomputable def k7:List (Nat×List Sym):=[(113,[.w 113,.w 1037,.w 1065]),(299,[])]
noncomputable def Ap:List (Nat×List Sym):=[(110,[.bg .count,.fin]),(299,[.w 1040,.w 1067])]
noncomputable def jr:List (Nat×List Sym):=[(106,[.turn 41,.w 106,.w 1040]),(299,[.bg .count,.take,.w 1039,.fin])]
noncomputable def IB:List (Nat×List Sym):=[(115,[.bg .row,.bW [1],.take,.w 115,.w 200,.fin]),(299,[.bg .row,.bW [0],.take,.fin])]
noncomputable def rA:List (Nat×List Sym):=[(200,[.w 1071,.w 1070]),(299,[])]
noncomputable def g6:List (Nat×List Sym):=[(113,[.w 113,.w 1071,.w 1070]),(299,[])]
noncomputable def vj:List (Nat×List Sym):=[(299,[.bg .row,.w 200,.w 114,.w 1040,.fin])]
noncomputable def cN:List (List (Nat×List Sym)):=[vd,Gf,iM,jk,Mb,oz,ko,lV,zR,jl,CI,zm,FK,u_,DH,kh,ji,Dg,k8,oA,Df,iL,hW,jo,Ax,Q9,Dr,GN,lO,uF,Hz,jq,ky,IK,oM,vA,vy,GC,jj,fq,lP,vc,G6,tp,u5,rk,Gn,vq,zb,rO,L5,tI,vz,iZ,yI,Ay,D0,Hl,oC,Hy,C7,Ao,GU,DA,Ds,k7,Ap,jr,IB,rA,g6,vj]
def QD{α:Type}:List α->Nat->Option α
 |[],_=>none
 |a::_,0=>some a
 |_::l,i+1=>QD l i
def aH(g:List (Nat×List Sym))(l:Nat):Option (List Sym):=match g with
 |[]=>none
 |y::r=>if Nat.beq y.1 l=true then some y.2 else aH r l
def row(n l:Nat):Option (List Sym):=if Nat.ble 1000 n=true then(match QD cN (n - 1000) with
 |none=>none
 |some g=>aH g l) else none
def lX(t:Tok):Nat:=
 if t.kind=0 then(match KEYWORDS.findIdx? λx=>x==t.bytes with
  |some i=>i
  |none=>999)
 else if t.kind=5 then(match SIGNS.findIdx? λx=>x==t.bytes with
  |some i=>100+i
  |none=>999)
 else if t.kind=1 then 200 else if t.kind=2 then 201 else if t.kind=3 then 202 else if t.kind=4 then 203 else 999
def lk(e:Bool)(s:St):Nat:=match s.toks with
 |[]=>if e=true then 205 else 204
 |t::_=>lX t
def lf(t:Tok):List Pt:=if t.kind=0\/t.kind=5 then[] else if t.kind=4 then[.leaf (long t.bytes)] else[.leaf (short t.bytes)]
def eI:List Pt->Nat
 |[]=>0
 | .leaf (b::_)::r=>2 ^ b.toNat ||| eI r
 |_::r=>eI r
def done(f:Fm)(s:St)(l:List Pt):Pt:=match f.isSet with
 |true=>.leaf [UInt8.ofNat (eI l)]
 |false=>.bo f s l
def len(s:St):Nat:=s.toks.length
def iW(l:List Pt):Prop:=∀p∈l,∃k,k<7/\p= .leaf [UInt8.ofNat k]
inductive Out where
 |ok(G:List Fr)
 |fault(e:Fault)
inductive Runs(e:Bool)(z:Fault):Nat->List Sym->St->List Fr->Out->Prop
 |halt(s:St) (G:List Fr):Runs e z 0 [] s G (.ok G)
 |bg{n:Nat} {f:Fk} {K:List Sym} {s:St} {G:List Fr} {o:Out}:Runs e z n K s (⟨f.at s,[]⟩::G) o->Runs e z (n+1) (.bg f::K) s G o
 |bW{n:Nat} {b:Bytes} {K:List Sym} {s:St} {f:Fm} {l:List Pt} {G:List Fr} {o:Out}:Runs e z n K s (⟨f,l++[.leaf b]⟩::G) o->Runs e z (n+1) (.bW b::K) s (⟨f,l⟩::G) o
 |take{n:Nat} {p:Pt} {K:List Sym} {s:St} {f h:Fm} {l r:List Pt} {G:List Fr} {o:Out}:Runs e z n K s (⟨f.tk p,l++[p]⟩::⟨h,r⟩::G) o->Runs e z (n+1) (.take::K) s (⟨f,l⟩::⟨h,r++[p]⟩::G) o
 |turn{n:Nat} {k:Nat} {K:List Sym} {s:St} {f:Fm} {l:List Pt} {G:List Fr} {o:Out}:Runs e z n K s (⟨f.turn k,l⟩::G) o->Runs e z (n+1) (.turn k::K) s (⟨f,l⟩::G) o
 |fin{n:Nat} {K:List Sym} {s:St} {f h:Fm} {l r:List Pt} {G:List Fr} {o:Out}:(f.isSet=true->iW l)->Runs e z n K s (⟨h,r++[done f s l]⟩::G) o->Runs e z (n+1) (.fin::K) s (⟨f,l⟩::⟨h,r⟩::G) o
 |pass{n:Nat} {K:List Sym} {t:Tok} {p:Nat} {ts:List Tok} {f:Fm} {l:List Pt} {G:List Fr} {o:Out}:Runs e z n K ⟨t.halt_,ts⟩ (⟨f,l++lf t⟩::G) o->Runs e z (n+1) (.w (lX t)::K) ⟨p,t::ts⟩ (⟨f,l⟩::G) o
 |go{n:Nat} {x:Nat} {r K:List Sym} {s:St} {G:List Fr} {o:Out}:x≠lk e s->row x (lk e s)=some r->Runs e z n (r++K) s G o->Runs e z (n+(1+r.length)) (.w x::K) s G o
 |Tp{n:Nat} {x:Nat} {r K:List Sym} {s:St} {G:List Fr} {o:Out}:x≠lk e s->row x (lk e s)=none->row x 299=some r->Runs e z n (r++K) s G o->Runs e z (n+(1+r.length)) (.w x::K) s G o
 |no{x:Nat} {K:List Sym} {s:St} {G:List Fr}:x≠lk e s->row x (lk e s)=none->row x 299=none->Runs e z 0 (.w x::K) s G (.fault (bad z s))
def BT:List Int:=[-49,1,1,-81,-87,3,5,1,1,1,-84,3,-24,3,1,1,1,-59,1,-15,-19,7,5,-53,-79,3,1,3,7,3,3,3,1,-49,-30,1,-30,-30,10,1,6,1,2,1,-2,1,-6,1,3,3,-10,1,-14,1,-18,3,1,-22,1,-44,-52,-59,-28,-26,1,1,18,9,9,1,1,-54]
def DT:List Int:=[12,4,17,14,6,4,7,4,10,4,7,4,11,4,14,4,5,7,20,17,20,20,5,13,9,7,9,4,8,4,4,4,4,10,3,6,3,3,39,6,36,9,33,9,30,8,27,11,4,3,24,9,21,9,18,4,8,15,20,17,11,8,5,12,6,4,39,13,10,10,4,7]
def wB:Sym->Int
 | .w x=>if Nat.ble 1000 x=true then BT.getD (x - 1000) 0 else -34
 |_=>1
def wD:Sym->Int
 | .w x=>if Nat.ble 1000 x=true then DT.getD (x - 1000) 0 else 0
 |_=>0
def bs:List Sym->Int
 |[]=>0
 |y::r=>wB y+bs r
def ds:List Sym->Int
 |[]=>0
 |y::r=>if wB y+ds r<=wD y then wD y else wB y+ds r
def Jf:List (List (Nat×List Sym))->List Int->List Int->Bool
 |[],_,_=>true
 |_::_,[],_=>false
 |_::_,_,[]=>false
 |g::G,b::B,d::D=>g.all (λy=>decide (1+(y.2.length:Int)+bs y.2<=b)&&decide (1+(y.2.length:Int)+ds y.2<=d))&&Jf G B D
theorem HI:Jf cN BT DT=true:=↑1
theorem Nt:∀d∈DT,(0:Int)<=d:=↑1
theorem wu:∀(r q:List Sym),bs (r++q)=bs r+bs q
 |[],q=>(Int.zero_add _).symm
 |y::r,q=>by show wB y+bs (r++q)=wB y+bs r+bs q;rw[wu r q,Int.add_assoc]
theorem Nz(y:Sym):0<=wD y:=by
 cases y with
 |w x=>
  show 0<=if Nat.ble 1000 x=true then DT.getD (x - 1000) 0 else 0;split
  ·rw[List.getD_eq_getElem?_getD];cases h:DT[x - 1000]? with
   |none=>exact Int.le_refl _
   |some d=>exact Nt d (List.mem_of_getElem? h)
  ·exact Int.le_refl _
 |_=>exact Int.le_refl _
theorem F3:∀(r:List Sym),0<=ds r
 |[]=>Int.le_refl _
 |y::r=>by
  have:=Nz y;show 0<=if wB y+ds r<=wD y then wD y else wB y+ds r;split <;> omega
theorem lM(y:Sym)(r:List Sym):wD y<=ds (y::r):=by show wD y<=if wB y+ds r<=wD y then wD y else wB y+ds r;split <;> omega
theorem fB(y:Sym)(r:List Sym):wB y+ds r<=ds (y::r):=by show wB y+ds r<=if wB y+ds r<=wD y then wD y else wB y+ds r;split <;> omega
theorem DG:∀(r q:List Sym),ds r<=ds (r++q)
 |[],q=>F3 q
 |y::r,q=>by
  have h:=DG r q;have h1:=lM y (r++q);have h2:=fB y (r++q);show(if wB y+ds r<=wD y then wD y else wB y+ds r)<=ds (y::(r++q));split <;> omega
theorem DK:∀(r q:List Sym),bs r+ds q<=ds (r++q)
 |[],q=>by show 0+ds q<=ds q;omega
 |y::r,q=>by
  have h:=DK r q;have h2:=fB y (r++q);show wB y+bs r+ds q<=ds (y::(r++q));omega
theorem wL:∀(r q:List Sym)(c:Int),ds r<=c->bs r+ds q<=c->ds (r++q)<=c
 |[],q,c,_,h=>by
  have:(0:Int)+ds q<=c:=h;show ds q<=c;omega
 |y::r,q,c,h1,h2=>by
  have a1:=lM y r;have a2:=fB y r;have h2:wB y+bs r+ds q<=c:=h2;have h:=wL r q (c - wB y) ↑2 ↑2;show(if wB y+ds (r++q)<=wD y then wD y else wB y+ds (r++q))<=c;split <;> omega
theorem yQ:∀{R:List (List (Nat×List Sym))}{B D:List Int},Jf R B D=true->∀{i:Nat}{g:List (Nat×List Sym)}{y:Nat×List Sym},QD R i=some g->y∈g->1+(y.2.length:Int)+bs y.2<=B.getD i 0/\1+(y.2.length:Int)+ds y.2<=D.getD i 0
 |[],_,_,_,_,_,_,h,_=>by cases h
 |_::_,[],_,h,_,_,_,_,_=>by cases h
 |_::_,_::_,[],h,_,_,_,_,_=>by cases h
 |g::G,b::B,d::D,h,0,_,y,e,m=>by
  cases e;have h:=(Bool.and_eq_true _ _).mp h;have h1:=List.all_eq_true.mp h.1 y m;have h1:=(Bool.and_eq_true _ _).mp h1;exact⟨of_decide_eq_true h1.1,of_decide_eq_true h1.2⟩
 |g::G,b::B,d::D,h,i+1,_,y,e,m=>yQ (R:=G) (B:=B) (D:=D) ((Bool.and_eq_true _ _).mp h).2 (i:=i) e m
theorem va:∀{g:List (Nat×List Sym)}{l:Nat}{r:List Sym},aH g l=some r->∃y∈g,y.2=r
 |[],_,_,h=>by cases h
 |y::g,l,r,h=>by
  unfold aH at h;split at h
  ·exact⟨y,List.mem_cons_self ..,Option.some.inj h⟩
  ·obtain⟨x,hx,e⟩:=va h;exact⟨x,List.mem_cons_of_mem _ hx,e⟩
theorem kU{l:Nat}(h:row n l=some r):1+(r.length:Int)+bs r<=wB (.w n)/\1+(r.length:Int)+ds r<=wD (.w n):=by
 unfold row at h;split at h
 ·rename_i c;split at h
  ·cases h
  ·rename_i g hg;obtain⟨y,hy,rfl⟩:=va h;have:=yQ HI hg hy;show _<=(if Nat.ble 1000 n=true then BT.getD (n - 1000) 0 else -34)/\_<=(if Nat.ble 1000 n=true then DT.getD (n - 1000) 0 else 0);rw[if_pos c,if_pos c];exact this
 ·cases h
def Sm(e:Bool)(z:Fault)(r:List Sym)(s:St)(G:List Fr){α:Type}(x:Except Fault α)(Q:α->St->List Fr->Prop):Prop:=match x with
 | .error er=>∃n:Nat,(n:Int)<=35*(len s:Int)+ds r/\∀K,Runs e z n (r++K) s G (.fault er)
 | .ok a=>∃(s':St)(G':List Fr)(n:Nat),(n:Int)+35*(len s':Int)<=35*(len s:Int)+bs r/\Q a s' G'/\∀m K o,Runs e z m K s' G' o->Runs e z (m+n) (r++K) s G o
section
variable{e:Bool}{z:Fault}{α β:Type}{s:St}{G:List Fr}
theorem mN{a:α}{Q:α->St->List Fr->Prop}(h:Q a s G):Sm e z [] s G (.ok a) Q:=⟨s,G,0,by show(0:Int)+_<=_+0;omega,h,λ_ _ _ h=>h⟩
theorem mB{x:Except Fault α}{k:α->Except Fault β}{Q:α->St->List Fr->Prop}{R:β->St->List Fr->Prop}(h:Sm e z r s G x Q)(g:∀a s' G',Q a s' G'->Sm e z q s' G' (k a) R):Sm e z (r++q) s G (x>>=k) R:=by
 cases x with
 |error er=>
  obtain⟨n,hn,h⟩:=h;exact⟨n,Int.le_trans hn (by have:=DG r q;omega),λK=>by rw[List.append_assoc];exact h _⟩
 |ok a=>
  obtain⟨s',G',n,hn,hq,hr⟩:=h;have:=g a s' G' hq;show Sm e z (r++q) s G (k a) R;cases hk:k a with
  |error er=>
   rw[hk] at this;obtain⟨m,hm,h⟩:=this;exact⟨m+n,by have:=DK r q;omega,λK=>by rw[List.append_assoc];exact hr _ _ _ (h K)⟩
  |ok b=>
   rw[hk] at this;obtain⟨s2,G2,m,hm,h2,h3⟩:=this;exact⟨s2,G2,m+n,by have:=wu r q;omega,h2,λj K o ho=>by rw[List.append_assoc,<-Nat.add_assoc];exact hr _ _ _ (h3 j K o ho)⟩
theorem mC{y:Sym}{x:Except Fault α}{k:α->Except Fault β}{Q:α->St->List Fr->Prop}{R:β->St->List Fr->Prop}(h:Sm e z [y] s G x Q)(g:∀a s' G',Q a s' G'->Sm e z q s' G' (k a) R):Sm e z (y::q) s G (x>>=k) R:=mB (r:=[y]) h g
theorem mM{x:Except Fault α}{k:α->β}{Q:α->St->List Fr->Prop}{R:β->St->List Fr->Prop}(h:Sm e z r s G x Q)(g:∀a s' G',Q a s' G'->R (k a) s' G'):Sm e z r s G (x.map k) R:=by
 cases x with
 |error er=>exact h
 |ok a=>
  obtain⟨s',G',n,hn,hq,hr⟩:=h;exact⟨s',G',n,hn,g a s' G' hq,hr⟩
theorem mS{r':List Sym}{s0:St}{G':List Fr}{x:Except Fault α}{Q:α->St->List Fr->Prop}(c:Nat)(h1:(c:Int)+35*(len s0:Int)+bs r'<=35*(len s:Int)+bs r)(h2:(c:Int)+35*(len s0:Int)+ds r'<=35*(len s:Int)+ds r)(st:∀m K o,Runs e z m (r'++K) s0 G' o->Runs e z (m+c) (r++K) s G o)(h:Sm e z r' s0 G' x Q):Sm e z r s G x Q:=by
 cases x with
 |error er=>
  obtain⟨n,hn,h⟩:=h;exact⟨n+c,↑2,λK=>st _ K _ (h K)⟩
 |ok a=>
  obtain⟨s',G',n,hn,hq,hr⟩:=h;exact⟨s',G',n+c,↑2,hq,λm K o ho=>by rw[<-Nat.add_assoc];exact st _ K o (hr m K o ho)⟩
theorem R5{y:Sym}{G':List Fr}{x:Except Fault α}{Q:α->St->List Fr->Prop}(hy:wB y=1)(st:∀m K o,Runs e z m (r++K) s G' o->Runs e z (m+1) (y::(r++K)) s G o)(h:Sm e z r s G' x Q):Sm e z (y::r) s G x Q:=
 mS 1 (by show(1:Int)+_+bs r<=_+(wB y+bs r);omega) (by have:=fB y r;show(1:Int)+_+ds r<=_;omega) st h
theorem bJ{f:Fk}{x:Except Fault α}{Q:α->St->List Fr->Prop}(h:Sm e z r s (⟨f.at s,[]⟩::G) x Q):Sm e z (.bg f::r) s G x Q:=R5 rfl (λ_ _ _ h=>.bg h) h
theorem d7{b:Bytes}{x:Except Fault α}{Q:α->St->List Fr->Prop}(h:Sm e z r s (⟨f,l++[.leaf b]⟩::G) x Q):Sm e z (.bW b::r) s (⟨f,l⟩::G) x Q:=R5 rfl (λ_ _ _ h=>.bW h) h
theorem AL{p:Pt}{h:Fm}{q:List Pt}{x:Except Fault α}{Q:α->St->List Fr->Prop}(hh:Sm e z r s (⟨f.tk p,l++[p]⟩::⟨h,q⟩::G) x Q):Sm e z (.take::r) s (⟨f,l⟩::⟨h,q++[p]⟩::G) x Q:=R5 rfl (λ_ _ _ h=>.take h) hh
theorem Ul{x:Except Fault α}{Q:α->St->List Fr->Prop}(hh:Sm e z r s (⟨f.turn k,l⟩::G) x Q):Sm e z (.turn k::r) s (⟨f,l⟩::G) x Q:=R5 rfl (λ_ _ _ h=>.turn h) hh
theorem C2{h:Fm}{q:List Pt}{x:Except Fault α}{Q:α->St->List Fr->Prop}(hs:f.isSet=true->iW l)(hh:Sm e z r s (⟨h,q++[done f s l]⟩::G) x Q):Sm e z (.fin::r) s (⟨f,l⟩::⟨h,q⟩::G) x Q:=R5 rfl (λ_ _ _ h=>.fin hs h) hh
theorem LO(e:Bool)(s:St):lk e s<1000:=by
 unfold lk;split
 ·cases e <;> decide
 ·rename_i t _ _;unfold lX;split
  ·split
   ·rename_i i h;have:=(List.findIdx?_eq_some_iff_getElem.mp h).1;have:KEYWORDS.length=80:=↑1
    omega
   ·decide
  split
  ·split
   ·rename_i i h;have:=(List.findIdx?_eq_some_iff_getElem.mp h).1;have:SIGNS.length=25:=↑1
    omega
   ·decide
  split
  ·decide
  split
  ·decide
  split
  ·decide
  split
  ·decide
  ·decide
theorem qZ{e:Bool}{s:St}:(299:Nat)≠lk e s:=by
 intro c;have c:=c.symm;unfold lk at c;split at c
 ·cases e <;> cases c
 ·rename_i t _ _;unfold lX at c;split at c
  ·split at c
   ·rename_i i h;have:=(List.findIdx?_eq_some_iff_getElem.mp h).1;have:KEYWORDS.length=80:=↑1
    omega
   ·cases c
  split at c
  ·split at c
   ·rename_i i h;have:=(List.findIdx?_eq_some_iff_getElem.mp h).1;have:SIGNS.length=25:=↑1
    omega
   ·cases c
  split at c
  ·cases c
  split at c
  ·cases c
  split at c
  ·cases c
  split at c <;> cases c
theorem nt(h:1000<=n):n≠lk e s:=λc=>absurd (LO e s) (by rw[<-c];exact Nat.not_lt.mpr h)
theorem mX{l:Nat}{x:Except Fault α}{Q:α->St->List Fr->Prop}(h1:row n l=some r)(hl:lk e s=l)(h0:1000<=n)(h:Sm e z (r++q) s G x Q):Sm e z (.w n::q) s G x Q:=
 mS (1+r.length) (by
  have:=kU h1;have h2:=wu r q;show((1+r.length:Nat):Int)+_+bs (r++q)<=_+(wB (.w n)+bs q)
  omega) (by
  have c:=kU h1;have h2:=lM (.w n) q;have h3:=fB (.w n) q;have h4:=wL r q (ds (.w n::q) - 1 - r.length) ↑2 ↑2;omega) (λm K o h=>.go (nt h0) (by rw[hl];exact h1) (by rw[List.append_assoc] at h;exact h)) h
theorem Pk{x:Except Fault α}{Q:α->St->List Fr->Prop}(h2:row n 299=some r)(h1:row n (lk e s)=none)(h0:1000<=n)(h:Sm e z (r++q) s G x Q):Sm e z (.w n::q) s G x Q:=
 mS (1+r.length) (by
  have:=kU h2;have h3:=wu r q;show((1+r.length:Nat):Int)+_+bs (r++q)<=_+(wB (.w n)+bs q)
  omega) (by
  have c:=kU h2;have h3:=lM (.w n) q;have h4:=fB (.w n) q;have h5:=wL r q (ds (.w n::q) - 1 - r.length) ↑2 ↑2;omega) (λm K o h=>.Tp (nt h0) h1 h2 (by rw[List.append_assoc] at h;exact h)) h
theorem E1{Q:α->St->List Fr->Prop}(h0:n≠lk e s)(h1:row n (lk e s)=none)(h2:row n 299=none):Sm e z (.w n::q) s G (.error (bad z s)) Q:=⟨0,by have:=F3 (.w n::q);omega,λ_=>.no h0 h1 h2⟩
theorem mT{c:Prop}[Decidable c]{x y:Except Fault α}{Q:α->St->List Fr->Prop}(h:c)(k:Sm e z r s G x Q):Sm e z r s G (if c then x else y) Q:=by rw[if_pos h];exact k
theorem mF{c:Prop}[Decidable c]{x y:Except Fault α}{Q:α->St->List Fr->Prop}(h:¬c)(k:Sm e z r s G y Q):Sm e z r s G (if c then x else y) Q:=by rw[if_neg h];exact k
theorem mW{x:Except Fault α}{Q R:α->St->List Fr->Prop}(h:Sm e z r s G x Q)(k:∀a s' G',Q a s' G'->R a s' G'):Sm e z r s G x R:=by
 cases x with
 |error er=>exact h
 |ok a=>
  obtain⟨s',G',n,hn,hq,hr⟩:=h;exact⟨s',G',n,hn,k a s' G' hq,hr⟩
end
theorem az{e:Bool}{i:Nat}(h:(KEYWORDS.findIdx? λx=>x==word w)=some i):s.key w=true↔lk e s=i:=by
 have hi:i<80:=by
  have:=(List.findIdx?_eq_some_iff_getElem.mp h).1;have h2:KEYWORDS.length=80:=↑1
  omega
 obtain⟨p,ts⟩:=s;cases ts with
 |nil=>
  refine⟨λc=>(by cases c),λc=>?_⟩;cases e
  ·have c:204=i:=c;omega
  ·have c:205=i:=c;omega
 |cons t r=>
  show(t.kind==0&&t.bytes==word w)=true↔lX t=i;rw[Bool.and_eq_true,beq_iff_eq,beq_iff_eq];refine⟨λ⟨a,b⟩=>?_,λc=>?_⟩
  ·unfold lX;rw[if_pos a,b,h]
  ·unfold lX at c;split at c
   ·rename_i a;split at c
    ·rename_i j hj;subst c;obtain⟨hj1,hj2,_⟩:=List.findIdx?_eq_some_iff_getElem.mp hj;obtain⟨_,hi2,_⟩:=List.findIdx?_eq_some_iff_getElem.mp h;have e1:KEYWORDS[j]=t.bytes:=by simpa using hj2
     have e2:KEYWORDS[j]=word w:=by simpa using hi2
     exact⟨a,e1.symm.trans e2⟩
    ·omega
   split at c
   ·split at c <;> omega
   split at c
   ·omega
   split at c
   ·omega
   split at c
   ·omega
   split at c <;> omega
theorem a_{e:Bool}{i:Nat}(h:(SIGNS.findIdx? λx=>x==word w)=some i):s.sign w=true↔lk e s=100+i:=by
 have hi:i<25:=by
  have:=(List.findIdx?_eq_some_iff_getElem.mp h).1;have h2:SIGNS.length=25:=↑1
  omega
 obtain⟨p,ts⟩:=s;cases ts with
 |nil=>
  refine⟨λc=>(by cases c),λc=>?_⟩;cases e
  ·have c:204=100+i:=c;omega
  ·have c:205=100+i:=c;omega
 |cons t r=>
  show(t.kind==5&&t.bytes==word w)=true↔lX t=100+i;rw[Bool.and_eq_true,beq_iff_eq,beq_iff_eq];refine⟨λ⟨a,b⟩=>?_,λc=>?_⟩
  ·unfold lX;rw[if_neg (by rw[a];decide),if_pos a,b,h]
  ·unfold lX at c;split at c
   ·split at c
    ·rename_i j hj;have:=(List.findIdx?_eq_some_iff_getElem.mp hj).1;have h2:KEYWORDS.length=80:=↑1
     omega
    ·omega
   split at c
   ·rename_i a;split at c
    ·rename_i j hj;have:j=i:=↑2
     subst this;obtain⟨hj1,hj2,_⟩:=List.findIdx?_eq_some_iff_getElem.mp hj;obtain⟨_,hi2,_⟩:=List.findIdx?_eq_some_iff_getElem.mp h;have e1:SIGNS[j]=t.bytes:=by simpa using hj2
     have e2:SIGNS[j]=word w:=by simpa using hi2
     exact⟨a,e1.symm.trans e2⟩
    ·omega
   split at c
   ·omega
   split at c
   ·omega
   split at c
   ·omega
   split at c <;> omega
section
variable{e:Bool}{s:St}
theorem eZ:s.key "account"=true↔lk e s=0:=az ↑1
theorem LF:s.key "and"=true↔lk e s=1:=az ↑1
theorem Np:s.key "as"=true↔lk e s=2:=az ↑1
theorem AJ:s.key "away"=true↔lk e s=3:=az ↑1
theorem Bo:s.key "both"=true↔lk e s=4:=az ↑1
theorem vW:s.key "break"=true↔lk e s=5:=az ↑1
theorem vV:s.key "catch"=true↔lk e s=6:=az ↑1
theorem vg:s.key "cut"=true↔lk e s=8:=az ↑1
theorem mh:s.key "decimal"=true↔lk e s=9:=az ↑1
theorem sL:s.key "double"=true↔lk e s=10:=az ↑1
theorem my:s.key "down"=true↔lk e s=11:=az ↑1
theorem j_:s.key "else"=true↔lk e s=12:=az ↑1
theorem yh:s.key "error"=true↔lk e s=13:=az ↑1
theorem jP:s.key "extended"=true↔lk e s=14:=az ↑1
theorem xr:s.key "false"=true↔lk e s=15:=az ↑1
theorem wx:s.key "fibre"=true↔lk e s=16:=az ↑1
theorem d_:s.key "finally"=true↔lk e s=17:=az ↑1
theorem Bc:s.key "five"=true↔lk e s=18:=az ↑1
theorem eQ:s.key "flags"=true↔lk e s=19:=az ↑1
theorem v_:s.key "flush"=true↔lk e s=20:=az ↑1
theorem E':s.key "fn"=true↔lk e s=21:=az ↑1
theorem F6:s.key "for"=true↔lk e s=22:=az ↑1
theorem jR:s.key "fraction"=true↔lk e s=23:=az ↑1
theorem Ou:s.key "from"=true↔lk e s=24:=az ↑1
theorem qC:s.key "giving"=true↔lk e s=25:=az ↑1
theorem A_:s.key "half"=true↔lk e s=26:=az ↑1
theorem y_:s.key "if"=true↔lk e s=27:=az ↑1
theorem Lw:s.key "in"=true↔lk e s=28:=az ↑1
theorem nj:s.key "inexact"=true↔lk e s=29:=az ↑1
theorem j9:s.key "interval"=true↔lk e s=30:=az ↑1
theorem AZ:s.key "into"=true↔lk e s=31:=az ↑1
theorem m_:s.key "invalid"=true↔lk e s=32:=az ↑1
theorem Mu:s.key "is"=true↔lk e s=33:=az ↑1
theorem vT:s.key "leave"=true↔lk e s=34:=az ↑1
theorem zJ:s.key "let"=true↔lk e s=35:=az ↑1
theorem BU:s.key "list"=true↔lk e s=36:=az ↑1
theorem BK:s.key "make"=true↔lk e s=37:=az ↑1
theorem x_:s.key "match"=true↔lk e s=38:=az ↑1
theorem GY:s.key "module"=true↔lk e s=39:=az ↑1
theorem oq:s.key "near"=true↔lk e s=40:=az ↑1
theorem jt:s.key "nearaway"=true↔lk e s=41:=az ↑1
theorem mI:s.key "nearcut"=true↔lk e s=42:=az ↑1
theorem BH:s.key "next"=true↔lk e s=43:=az ↑1
theorem IF:s.key "not"=true↔lk e s=44:=az ↑1
theorem Gw:s.key "of"=true↔lk e s=45:=az ↑1
theorem Cn:s.key "only"=true↔lk e s=46:=az ↑1
theorem PZ:s.key "or"=true↔lk e s=47:=az ↑1
theorem Hm:s.key "out"=true↔lk e s=48:=az ↑1
theorem kg:s.key "overflow"=true↔lk e s=49:=az ↑1
theorem qN:s.key "packed"=true↔lk e s=50:=az ↑1
theorem mO:s.key "picture"=true↔lk e s=51:=az ↑1
theorem Cp:s.key "post"=true↔lk e s=52:=az ↑1
theorem iG:s.key "precision"=true↔lk e s=53:=az ↑1
theorem vZ:s.key "raise"=true↔lk e s=54:=az ↑1
theorem tj:s.key "record"=true↔lk e s=55:=az ↑1
theorem rJ:s.key "resume"=true↔lk e s=56:=az ↑1
theorem qW:s.key "return"=true↔lk e s=57:=az ↑1
theorem jz:s.key "rounding"=true↔lk e s=58:=az ↑1
theorem HU:s.key "say"=true↔lk e s=59:=az ↑1
theorem sZ:s.key "single"=true↔lk e s=60:=az ↑1
theorem xS:s.key "small"=true↔lk e s=61:=az ↑1
theorem yx:s.key "spawn"=true↔lk e s=62:=az ↑1
theorem yn:s.key "stack"=true↔lk e s=63:=az ↑1
theorem A7:s.key "text"=true↔lk e s=64:=az ↑1
theorem OT:s.key "then"=true↔lk e s=65:=az ↑1
theorem OA:s.key "to"=true↔lk e s=66:=az ↑1
theorem Bu:s.key "trap"=true↔lk e s=67:=az ↑1
theorem Bw:s.key "true"=true↔lk e s=68:=az ↑1
theorem xa:s.key "truth"=true↔lk e s=69:=az ↑1
theorem Jd:s.key "try"=true↔lk e s=70:=az ↑1
theorem ie:s.key "underflow"=true↔lk e s=71:=az ↑1
theorem D8:s.key "up"=true↔lk e s=72:=az ↑1
theorem Je:s.key "use"=true↔lk e s=73:=az ↑1
theorem xT:s.key "value"=true↔lk e s=74:=az ↑1
theorem yq:s.key "while"=true↔lk e s=75:=az ↑1
theorem vP:s.key "whole"=true↔lk e s=76:=az ↑1
theorem Bn:s.key "with"=true↔lk e s=77:=az ↑1
theorem wF:s.key "yield"=true↔lk e s=78:=az ↑1
theorem Bl:s.key "zero"=true↔lk e s=79:=az ↑1
theorem EA:s.sign "->"=true↔lk e s=100:=a_ (i:=0) ↑1
theorem Rc:s.sign "=="=true↔lk e s=101:=a_ (i:=1) ↑1
theorem P8:s.sign "!="=true↔lk e s=102:=a_ (i:=2) ↑1
theorem QV:s.sign "<="=true↔lk e s=103:=a_ (i:=3) ↑1
theorem R3:s.sign ">="=true↔lk e s=104:=a_ (i:=4) ↑1
theorem R_:s.sign "//"=true↔lk e s=105:=a_ (i:=5) ↑1
theorem MU:s.sign ".."=true↔lk e s=106:=a_ (i:=6) ↑1
theorem kX:s.sign "("=true↔lk e s=107:=a_ (i:=7) ↑1
theorem h7:s.sign ")"=true↔lk e s=108:=a_ (i:=8) ↑1
theorem nh:s.sign "["=true↔lk e s=109:=a_ (i:=9) ↑1
theorem xj:s.sign "]"=true↔lk e s=110:=a_ (i:=10) ↑1
theorem FP:s.sign "{"=true↔lk e s=111:=a_ (i:=11) ↑1
theorem Fy:s.sign "}"=true↔lk e s=112:=a_ (i:=12) ↑1
theorem eA:s.sign ","=true↔lk e s=113:=a_ (i:=13) ↑1
theorem El:s.sign ":"=true↔lk e s=114:=a_ (i:=14) ↑1
theorem n0:s.sign "."=true↔lk e s=115:=a_ (i:=15) ↑1
theorem GZ:s.sign "="=true↔lk e s=116:=a_ (i:=16) ↑1
theorem QZ:s.sign "<"=true↔lk e s=117:=a_ (i:=17) ↑1
theorem Rr:s.sign ">"=true↔lk e s=118:=a_ (i:=18) ↑1
theorem QE:s.sign "+"=true↔lk e s=119:=a_ (i:=19) ↑1
theorem IZ:s.sign "-"=true↔lk e s=120:=a_ (i:=20) ↑1
theorem RW:s.sign "*"=true↔lk e s=121:=a_ (i:=21) ↑1
theorem RE:s.sign "/"=true↔lk e s=122:=a_ (i:=22) ↑1
theorem QP:s.sign "%"=true↔lk e s=123:=a_ (i:=23) ↑1
theorem My:s.sign "^"=true↔lk e s=124:=a_ (i:=24) ↑1
end
theorem cM{e:Bool}(hk:1<=k/\k<=4):(∃t r,s.toks=t::r/\t.kind=k)↔lk e s=199+k:=by
 obtain⟨p,ts⟩:=s;cases ts with
 |nil=>
  refine⟨λ⟨t,r,h,_⟩=>(by cases h),λc=>?_⟩;cases e
  ·have c:204=199+k:=c;omega
  ·have c:205=199+k:=c;omega
 |cons t r=>
  have hl:KEYWORDS.length=80:=↑1
  have hs:SIGNS.length=25:=↑1
  refine⟨λ⟨t',r',h,h2⟩=>?_,λc=>⟨t,r,rfl,?_⟩⟩
  ·obtain⟨rfl,rfl⟩:=List.cons.inj h;show lX t=_;unfold lX;rw[if_neg ↑2,if_neg ↑2];split
   ·omega
   split
   ·omega
   split
   ·omega
   split <;> omega
  ·have c:lX t=199+k:=c;unfold lX at c;split at c
   ·split at c
    ·rename_i j hj;have:=(List.findIdx?_eq_some_iff_getElem.mp hj).1;omega
    ·omega
   split at c
   ·split at c
    ·rename_i j hj;have:=(List.findIdx?_eq_some_iff_getElem.mp hj).1;omega
    ·omega
   split at c
   ·omega
   split at c
   ·omega
   split at c
   ·omega
   split at c <;> omega
abbrev dv:Nat:=1000
abbrev M4:Nat:=1001
abbrev iq:Nat:=1002
abbrev jn:Nat:=1003
abbrev P_:Nat:=1004
abbrev y4:Nat:=1005
abbrev xb:Nat:=1006
abbrev kx:Nat:=1007
abbrev qE:Nat:=1008
abbrev uE:Nat:=1009
abbrev K5:Nat:=1010
abbrev Hs:Nat:=1011
abbrev jE:Nat:=1012
abbrev DX:Nat:=1014
abbrev ku:Nat:=1015
abbrev DB:Nat:=1017
abbrev lJ:Nat:=1018
abbrev oX:Nat:=1019
abbrev qp:Nat:=1020
abbrev h8:Nat:=1021
abbrev eM:Nat:=1022
abbrev tq:Nat:=1024
abbrev Tc:Nat:=1025
abbrev x':Nat:=1026
abbrev BF:Nat:=1027
abbrev MX:Nat:=1030
abbrev ui:Nat:=1031
abbrev xt:Nat:=1032
abbrev HM:Nat:=1033
abbrev yH:Nat:=1034
abbrev D9:Nat:=1035
abbrev EF:Nat:=1036
abbrev Cm:Nat:=1037
abbrev fU:Nat:=1038
abbrev bM:Nat:=1039
abbrev cu:Nat:=1040
abbrev u6:Nat:=1041
abbrev IQ:Nat:=1042
abbrev Be:Nat:=1043
abbrev Ez:Nat:=1044
abbrev j8:Nat:=1045
abbrev AI:Nat:=1046
abbrev uW:Nat:=1047
abbrev Hk:Nat:=1048
abbrev AV:Nat:=1049
abbrev Q_:Nat:=1050
abbrev B5:Nat:=1051
abbrev Fq:Nat:=1052
abbrev rD:Nat:=1053
abbrev IC:Nat:=1054
abbrev K2:Nat:=1056
abbrev Jm:Nat:=1057
abbrev oJ:Nat:=1058
abbrev MV:Nat:=1059
abbrev Lu:Nat:=1060
abbrev Hc:Nat:=1061
abbrev Dv:Nat:=1063
abbrev KJ:Nat:=1064
abbrev yo:Nat:=1065
abbrev Mi:Nat:=1068
abbrev rE:Nat:=1069
abbrev hX:Nat:=1070
abbrev u9:Nat:=1071
theorem E7(l:Nat):row 1000 l=aH vd l:=rfl
def yZ:=(rfl:row 1000 299=some _)
theorem NU(l:Nat):row 1001 l=aH Gf l:=rfl
def BG:=(rfl:row 1001 73=some _)
def Iw:=(rfl:row 1001 299=some _)
theorem ij(l:Nat):row 1002 l=aH iM l:=rfl
def jB:=(rfl:row 1002 204=some _)
def f9:=(rfl:row 1002 299=some _)
theorem ue(l:Nat):row 1003 l=aH jk l:=rfl
def lI:=(rfl:row 1003 35=some _)
def iN:=(rfl:row 1003 55=some _)
def hZ:=(rfl:row 1003 0=some _)
def mj:=(rfl:row 1003 21=some _)
theorem Qs(l:Nat):row 1004 l=aH Mb l:=rfl
def Ki:=(rfl:row 1004 299=some _)
theorem yK(l:Nat):row 1005 l=aH oz l:=rfl
def rX:=(rfl:row 1005 114=some _)
def tW:=(rfl:row 1005 299=some _)
theorem xi(l:Nat):row 1006 l=aH ko l:=rfl
def qc:=(rfl:row 1006 109=some _)
def rQ:=(rfl:row 1006 299=some _)
theorem xO(l:Nat):row 1007 l=aH lV l:=rfl
def pA:=(rfl:row 1007 113=some _)
def sN:=(rfl:row 1007 299=some _)
theorem zI(l:Nat):row 1008 l=aH zR l:=rfl
def uh:=(rfl:row 1008 200=some _)
def qR:=(rfl:row 1008 299=some _)
theorem ur(l:Nat):row 1009 l=aH jl l:=rfl
def mJ:=(rfl:row 1009 113=some _)
def pd:=(rfl:row 1009 299=some _)
theorem JL(l:Nat):row 1010 l=aH CI l:=rfl
def E9:=(rfl:row 1010 299=some _)
theorem yM(l:Nat):row 1011 l=aH zm l:=rfl
def oE:=(rfl:row 1011 100=some _)
def qD:=(rfl:row 1011 299=some _)
theorem OG(l:Nat):row 1012 l=aH FK l:=rfl
def xG:=(rfl:row 1012 76=some _)
def pT:=(rfl:row 1012 23=some _)
def qP:=(rfl:row 1012 9=some _)
def y8:=(rfl:row 1012 26=some _)
def t5:=(rfl:row 1012 60=some _)
def uw:=(rfl:row 1012 10=some _)
def pS:=(rfl:row 1012 14=some _)
def pV:=(rfl:row 1012 30=some _)
def wa:=(rfl:row 1012 69=some _)
def yT:=(rfl:row 1012 64=some _)
def xU:=(rfl:row 1012 19=some _)
def xX:=(rfl:row 1012 13=some _)
def ra:=(rfl:row 1012 0=some _)
def xY:=(rfl:row 1012 74=some _)
def ug:=(rfl:row 1012 50=some _)
def Ag:=(rfl:row 1012 36=some _)
def yr:=(rfl:row 1012 16=some _)
def EC:=(rfl:row 1012 21=some _)
def zZ:=(rfl:row 1012 200=some _)
theorem Fw(l:Nat):row 1013 l=aH u_ l:=rfl
def vI:=(rfl:row 1013 45=some _)
def Ar:=(rfl:row 1013 299=some _)
theorem KU(l:Nat):row 1014 l=aH DH l:=rfl
def Bk:=(rfl:row 1014 108=some _)
def Fz:=(rfl:row 1014 299=some _)
theorem xN(l:Nat):row 1015 l=aH kh l:=rfl
def p6:=(rfl:row 1015 113=some _)
def sG:=(rfl:row 1015 299=some _)
theorem uy(l:Nat):row 1016 l=aH ji l:=rfl
def nE:=(rfl:row 1016 115=some _)
def pf:=(rfl:row 1016 299=some _)
theorem Lp(l:Nat):row 1017 l=aH Dg l:=rfl
def Fg:=(rfl:row 1017 299=some _)
theorem wJ(l:Nat):row 1018 l=aH k8 l:=rfl
def pL:=(rfl:row 1018 112=some _)
def rH:=(rfl:row 1018 299=some _)
theorem Aa(l:Nat):row 1019 l=aH oA l:=rfl
def pE:=(rfl:row 1019 35=some _)
def oy:=(rfl:row 1019 200=some _)
def lz:=(rfl:row 1019 19=some _)
def tN:=(rfl:row 1019 27=some _)
def lW:=(rfl:row 1019 75=some _)
def pX:=(rfl:row 1019 22=some _)
def lg:=(rfl:row 1019 38=some _)
def jZ:=(rfl:row 1019 57=some _)
def kn:=(rfl:row 1019 34=some _)
def kI:=(rfl:row 1019 5=some _)
def mY:=(rfl:row 1019 43=some _)
def nD:=(rfl:row 1019 77=some _)
def pO:=(rfl:row 1019 70=some _)
def lN:=(rfl:row 1019 54=some _)
def p9:=(rfl:row 1019 59=some _)
def la:=(rfl:row 1019 78=some _)
def mv:=(rfl:row 1019 52=some _)
theorem Kv(l:Nat):row 1020 l=aH Df l:=rfl
def AN:=(rfl:row 1020 107=some _)
def BN:=(rfl:row 1020 109=some _)
def Bm:=(rfl:row 1020 115=some _)
def B6:=(rfl:row 1020 116=some _)
theorem tE(l:Nat):row 1021 l=aH iL l:=rfl
def lE:=(rfl:row 1021 107=some _)
def kN:=(rfl:row 1021 109=some _)
def kY:=(rfl:row 1021 115=some _)
def m8:=(rfl:row 1021 299=some _)
theorem pK(l:Nat):row 1022 l=aH hW l:=rfl
def iK:=(rfl:row 1022 12=some _)
def lj:=(rfl:row 1022 299=some _)
theorem uf(l:Nat):row 1023 l=aH jo l:=rfl
def md:=(rfl:row 1023 27=some _)
def pj:=(rfl:row 1023 299=some _)
theorem Hb(l:Nat):row 1024 l=aH Ax l:=rfl
def AQ:=(rfl:row 1024 299=some _)
theorem SU(l:Nat):row 1025 l=aH Q9 l:=rfl
def JO:=(rfl:row 1025 66=some _)
def NQ:=(rfl:row 1025 299=some _)
theorem Lg(l:Nat):row 1026 l=aH Dr l:=rfl
def Bd:=(rfl:row 1026 33=some _)
def EY:=(rfl:row 1026 299=some _)
theorem MC(l:Nat):row 1027 l=aH GN l:=rfl
def zB:=(rfl:row 1027 12=some _)
def Js:=(rfl:row 1027 299=some _)
theorem vN(l:Nat):row 1028 l=aH lO l:=rfl
def jC:=(rfl:row 1028 6=some _)
def iV:=(rfl:row 1028 17=some _)
theorem Ej(l:Nat):row 1029 l=aH uF l:=rfl
def fH:=(rfl:row 1029 17=some _)
def zt:=(rfl:row 1029 299=some _)
theorem NK(l:Nat):row 1030 l=aH Hz l:=rfl
def An:=(rfl:row 1030 31=some _)
def HP:=(rfl:row 1030 299=some _)
theorem uq(l:Nat):row 1031 l=aH jq l:=rfl
def ka:=(rfl:row 1031 203=some _)
def pF:=(rfl:row 1031 299=some _)
theorem yp(l:Nat):row 1032 l=aH ky l:=rfl
def pq:=(rfl:row 1032 113=some _)
def tS:=(rfl:row 1032 299=some _)
theorem OU(l:Nat):row 1033 l=aH IK l:=rfl
def pG:=(rfl:row 1033 58=some _)
def nZ:=(rfl:row 1033 53=some _)
def zd:=(rfl:row 1033 67=some _)
def wj:=(rfl:row 1033 20=some _)
theorem Au(l:Nat):row 1034 l=aH oM l:=rfl
def mU:=(rfl:row 1034 40=some _)
def n_:=(rfl:row 1034 11=some _)
def qM:=(rfl:row 1034 72=some _)
def pJ:=(rfl:row 1034 8=some _)
theorem vE(l:Nat):row 1035 l=aH vA l:=rfl
def xI:=(rfl:row 1035 113=some _)
def wQ:=(rfl:row 1035 111=some _)
def oP:=(rfl:row 1035 299=some _)
theorem Fh(l:Nat):row 1036 l=aH vy l:=rfl
def vG:=(rfl:row 1036 28=some _)
def t6:=(rfl:row 1036 48=some _)
def rW:=(rfl:row 1036 4=some _)
theorem NF(l:Nat):row 1037 l=aH GC l:=rfl
def rl:=(rfl:row 1037 32=some _)
def xH:=(rfl:row 1037 61=some _)
def z_:=(rfl:row 1037 79=some _)
def pB:=(rfl:row 1037 49=some _)
def mn:=(rfl:row 1037 71=some _)
def rS:=(rfl:row 1037 29=some _)
def ya:=(rfl:row 1037 63=some _)
theorem uu(l:Nat):row 1038 l=aH jj l:=rfl
def l_:=(rfl:row 1038 108=some _)
def qb:=(rfl:row 1038 299=some _)
theorem fC(l:Nat):row 1039 l=aH fq l:=rfl
def d8:=(rfl:row 1039 113=some _)
def eD:=(rfl:row 1039 299=some _)
theorem wX(l:Nat):row 1040 l=aH lP l:=rfl
def pZ:=(rfl:row 1040 27=some _)
def qJ:=(rfl:row 1040 299=some _)
theorem Fi(l:Nat):row 1041 l=aH vc l:=rfl
def wV:=(rfl:row 1041 47=some _)
def zE:=(rfl:row 1041 299=some _)
theorem M_(l:Nat):row 1042 l=aH G6 l:=rfl
def IW:=(rfl:row 1042 299=some _)
theorem Co(l:Nat):row 1043 l=aH tp l:=rfl
def sJ:=(rfl:row 1043 1=some _)
def xn:=(rfl:row 1043 299=some _)
theorem Eu(l:Nat):row 1044 l=aH u5 l:=rfl
def tY:=(rfl:row 1044 44=some _)
def zw:=(rfl:row 1044 299=some _)
theorem AF(l:Nat):row 1045 l=aH rk l:=rfl
def t_:=(rfl:row 1045 101=some _)
def uk:=(rfl:row 1045 102=some _)
def t7:=(rfl:row 1045 117=some _)
def ua:=(rfl:row 1045 103=some _)
def uz:=(rfl:row 1045 118=some _)
def t9:=(rfl:row 1045 104=some _)
def v9:=(rfl:row 1045 299=some _)
theorem Nw(l:Nat):row 1046 l=aH Gn l:=rfl
def Jq:=(rfl:row 1046 299=some _)
theorem Ec(l:Nat):row 1047 l=aH vq l:=rfl
def w8:=(rfl:row 1047 2=some _)
def zX:=(rfl:row 1047 299=some _)
theorem Gv(l:Nat):row 1048 l=aH zb l:=rfl
def pW:=(rfl:row 1048 202=some _)
def AM:=(rfl:row 1048 299=some _)
theorem BR(l:Nat):row 1049 l=aH rO l:=rfl
def pR:=(rfl:row 1049 40=some _)
def px:=(rfl:row 1049 11=some _)
def uv:=(rfl:row 1049 72=some _)
def s_:=(rfl:row 1049 8=some _)
def jg:=(rfl:row 1049 41=some _)
def jL:=(rfl:row 1049 42=some _)
def pH:=(rfl:row 1049 3=some _)
def pN:=(rfl:row 1049 18=some _)
def vR:=(rfl:row 1049 299=some _)
theorem RZ(l:Nat):row 1050 l=aH L5 l:=rfl
def Lc:=(rfl:row 1050 299=some _)
theorem BJ(l:Nat):row 1051 l=aH tI l:=rfl
def uc:=(rfl:row 1051 119=some _)
def tZ:=(rfl:row 1051 120=some _)
def vK:=(rfl:row 1051 299=some _)
theorem En(l:Nat):row 1052 l=aH vz l:=rfl
def zx:=(rfl:row 1052 299=some _)
theorem sR(l:Nat):row 1053 l=aH iZ l:=rfl
def kQ:=(rfl:row 1053 121=some _)
def lL:=(rfl:row 1053 122=some _)
def lB:=(rfl:row 1053 105=some _)
def lQ:=(rfl:row 1053 123=some _)
def mE:=(rfl:row 1053 299=some _)
theorem IV(l:Nat):row 1054 l=aH yI l:=rfl
def yP:=(rfl:row 1054 120=some _)
def rb:=(rfl:row 1054 62=some _)
def p8:=(rfl:row 1054 56=some _)
def nM:=(rfl:row 1054 51=some _)
def Bg:=(rfl:row 1054 299=some _)
theorem Gg(l:Nat):row 1055 l=aH Ay l:=rfl
def pU:=(rfl:row 1055 25=some _)
def Bh:=(rfl:row 1055 299=some _)
theorem J7(l:Nat):row 1056 l=aH D0 l:=rfl
def A6:=(rfl:row 1056 124=some _)
def Fj:=(rfl:row 1056 299=some _)
theorem Nd(l:Nat):row 1057 l=aH Hl l:=rfl
def Jr:=(rfl:row 1057 299=some _)
theorem ze(l:Nat):row 1058 l=aH oC l:=rfl
def qG:=(rfl:row 1058 107=some _)
def qX:=(rfl:row 1058 109=some _)
def tF:=(rfl:row 1058 115=some _)
def uj:=(rfl:row 1058 299=some _)
theorem GF(l:Nat):row 1059 l=aH Hy l:=rfl
def Aj:=(rfl:row 1059 299=some _)
theorem D3(l:Nat):row 1060 l=aH C7 l:=rfl
def uT:=(rfl:row 1060 299=some _)
theorem za(l:Nat):row 1061 l=aH Ao l:=rfl
def sT:=(rfl:row 1061 299=some _)
theorem IE(l:Nat):row 1062 l=aH GU l:=rfl
def yE:=(rfl:row 1062 299=some _)
theorem KI(l:Nat):row 1063 l=aH DA l:=rfl
def qH:=(rfl:row 1063 202=some _)
def wz:=(rfl:row 1063 203=some _)
def xM:=(rfl:row 1063 68=some _)
def uC:=(rfl:row 1063 15=some _)
def ub:=(rfl:row 1063 19=some _)
def w_:=(rfl:row 1063 200=some _)
def xZ:=(rfl:row 1063 201=some _)
def x8:=(rfl:row 1063 46=some _)
def A4:=(rfl:row 1063 107=some _)
def Ci:=(rfl:row 1063 109=some _)
def wo:=(rfl:row 1063 37=some _)
theorem JX(l:Nat):row 1064 l=aH Ds l:=rfl
def B7:=(rfl:row 1064 108=some _)
def Ep:=(rfl:row 1064 299=some _)
theorem wg(l:Nat):row 1065 l=aH k7 l:=rfl
def ph:=(rfl:row 1065 113=some _)
def qT:=(rfl:row 1065 299=some _)
theorem Jl(l:Nat):row 1066 l=aH Ap l:=rfl
def Ae:=(rfl:row 1066 110=some _)
def AU:=(rfl:row 1066 299=some _)
theorem ux(l:Nat):row 1067 l=aH jr l:=rfl
def mV:=(rfl:row 1067 106=some _)
def pz:=(rfl:row 1067 299=some _)
theorem NM(l:Nat):row 1068 l=aH IB l:=rfl
def E5:=(rfl:row 1068 115=some _)
def FW:=(rfl:row 1068 299=some _)
theorem rY(l:Nat):row 1069 l=aH rA l:=rfl
def pY:=(rfl:row 1069 200=some _)
def kj:=(rfl:row 1069 299=some _)
theorem pM(l:Nat):row 1070 l=aH g6 l:=rfl
def jW:=(rfl:row 1070 113=some _)
def lu:=(rfl:row 1070 299=some _)
theorem D4(l:Nat):row 1071 l=aH vj l:=rfl
def zl:=(rfl:row 1071 299=some _)
theorem bD{g:List (Nat×List Sym)}{l:Nat}(k:∀y∈g.map (λy=>y.1),y≠l):aH g l=none:=by
 induction g with
 |nil=>rfl
 |cons y g ih=>
  unfold aH;rw[if_neg (λc=>k y.1 (List.mem_cons_self ..) (Nat.eq_of_beq_eq_true c)),ih λx hx=>k x (List.mem_cons_of_mem _ hx)]
theorem DW{w l:Nat}(h:w<1000):row w l=none:=if_neg (by
 intro c;have:=Nat.le_of_ble_eq_true c;omega)
variable{e:Bool}{z:Fault}
theorem P2(h:n<1000){Q:α->St->List Fr->Prop}(hn:lk e s≠n):Sm e z (.w n::q) s G (.error (bad z s)) Q:=E1 (λc=>hn c.symm) (DW h) (DW h)
theorem Sl{t:Tok}{p:Nat}{ts:List Tok}{x:Except Fault α}{Q:α->St->List Fr->Prop}(h1:lX t=n)(hn:n<1000)(h:Sm e z q ⟨t.halt_,ts⟩ (⟨f,l++lf t⟩::G) x Q):Sm e z (.w n::q) ⟨p,t::ts⟩ (⟨f,l⟩::G) x Q:=by
 have hw:wB (.w n)= -34:=by
  show(if Nat.ble 1000 n=true then BT.getD (n - 1000) 0 else -34)= -34;rw[if_neg (λc=>by have:=Nat.le_of_ble_eq_true c;omega)]
 have hl:len ⟨p,t::ts⟩=len ⟨t.halt_,ts⟩+1:=rfl;refine mS (s0:=⟨t.halt_,ts⟩) 1 ?_ ?_ (λm K o ho=>by show Runs e z (m+1) (.w n::(q++K)) _ _ _;rw[<-h1];exact .pass ho) h
 ·show((1:Nat):Int)+_+bs q<=_+(wB (.w n)+bs q)
  rw[hw,hl];omega
 ·have:=fB (.w n) q;rw[hw] at this;rw[hl];omega
theorem S3(hl:s.is k w=true↔lk e s=n)(hn:n<1000)(hk:k=0\/k=5):
  Sm e z [.w n] s (⟨f,l⟩::G) (eat z (s.is k w) s) λa s' G'=>s'=a/\len a+1=len s/\G'=⟨f,l⟩::G:=by
 by_cases c:s.is k w=true
 ·have h1:=hl.mp c;rw[show eat z (s.is k w) s= .ok s.skip from if_pos c];obtain⟨p,ts⟩:=s;cases ts with
  |nil=>cases c
  |cons t r=>
   have hkind:t.kind=k:=by
    have c:(t.kind==k&&t.bytes==word w)=true:=c;rw[Bool.and_eq_true,beq_iff_eq] at c;exact c.1
   have hlf:lf t=[]:=if_pos (by rw[hkind];exact hk);exact Sl h1 hn (mN ⟨rfl,rfl,by rw[hlf,List.append_nil]⟩)
 ·rw[show eat z (s.is k w) s= .error (bad z s) from if_neg c];exact P2 hn (λh=>c (hl.mpr h))
theorem bj{x:Except Fault α}{Q:α->St->List Fr->Prop}(c:s.is k w=true)(hl:s.is k w=true↔lk e s=n)(hk:k=0\/k=5)(h:len s.skip+1=len s->Sm e z q s.skip (⟨f,l⟩::G) x Q):Sm e z (.w n::q) s (⟨f,l⟩::G) x Q:=by
 have h1:=hl.mp c;have hn:n<1000:=by rw[<-h1];exact LO e s
 obtain⟨p,ts⟩:=s;cases ts with
 |nil=>cases c
 |cons t r=>
  have hkind:t.kind=k:=by
   have c:(t.kind==k&&t.bytes==word w)=true:=c;rw[Bool.and_eq_true,beq_iff_eq] at c;exact c.1
  have hlf:lf t=[]:=if_pos (by rw[hkind];exact hk);exact Sl h1 hn (by rw[hlf,List.append_nil];exact h rfl)
def BO(k:Nat)(b:Bytes):Bytes:=if k=4 then long b else short b
theorem RB(hk:1<=k/\k<=4){t:Tok}(c:t.kind=k):lf t=[.leaf (BO k t.bytes)]:=by unfold lf BO;rw[if_neg ↑2,c];split <;> rfl
theorem Qr(hk:1<=k/\k<=4):
  Sm e z [.w (199+k)] s (⟨f,l⟩::G) (EwTree.take z k s) λa s' G'=>s'=a.2/\len a.2+1=len s/\G'=⟨f,l++[.leaf (BO k a.1)]⟩::G:=by
 obtain⟨p,ts⟩:=s;cases ts with
 |nil=>exact P2 (s:=⟨p,[]⟩) ↑2 (λc=>by obtain⟨t,r,h,_⟩:=(cM hk).mpr c;cases h)
 |cons t r=>
  by_cases c:t.kind=k
  ·rw[show EwTree.take z k ⟨p,t::r⟩= .ok (t.bytes,⟨t.halt_,r⟩) from if_pos c];exact Sl ((cM (e:=e) (s:=⟨p,t::r⟩) hk).mp ⟨t,r,rfl,c⟩) ↑2 (mN ⟨rfl,rfl,by rw[RB hk c]⟩)
  ·rw[show EwTree.take z k ⟨p,t::r⟩= .error (2,t.place) from if_neg c];exact P2 (s:=⟨p,t::r⟩) ↑2 (λh=>by
    obtain⟨t',r',h1,h2⟩:=(cM hk).mpr h;obtain⟨rfl,rfl⟩:=List.cons.inj h1;exact c h2)
end
section
def hb:Fm->Nat->Bytes
 | .kind k _,_=>kind k
 | .row _,_=>[]
 | .count _,n=>count n
 | .set _,_=>[]
def yt(m:Mark):Mark×Bool:=(m,true)
def hk:Fm->St->List (Mark×Bool)->List (Mark×Bool)
 | .kind k b,s,m=>(⟨k,b.here,s.last,m.length+1⟩,decide (len s<len b))::m
 | .row _,_,m=>m
 | .count _,_,m=>m
 | .set _,_,m=>m
mutual
def yb:Pt->Bytes
 | .leaf b=>b
 | .bo f _ l=>hb f l.length++cq l
def cq:List Pt->Bytes
 |[]=>[]
 |p::r=>yb p++cq r
end
mutual
def yk:Pt->List (Mark×Bool)
 | .leaf _=>[]
 | .bo f s l=>hk f s (cI l)
def cI:List Pt->List (Mark×Bool)
 |[]=>[]
 |p::r=>yk p++cI r
end
theorem sr{a:Nat}{b:St}{ps:List Pt}{m:List Mark}(h:cI ps=m.map yt)(hl:len s<len b)(ha:b.here=a):yk (.bo (.kind k b) s ps)=(marked k a s m).map yt:=by show(_,decide (len s<len b))::cI ps=_;rw[h,decide_eq_true hl,List.length_map,ha];rfl
theorem ia:∀(l:List Pt)(p:Pt),cq (l++[p])=cq l++yb p
 |[],p=>by simp only[List.nil_append,cq,List.append_nil]
 |q::l,p=>by simp only[List.cons_append,cq,ia l p,List.append_assoc]
theorem ir:∀(l:List Pt)(p:Pt),cI (l++[p])=cI l++yk p
 |[],p=>by simp only[List.nil_append,cI,List.append_nil]
 |q::l,p=>by simp only[List.cons_append,cI,ir l p,List.append_assoc]
theorem qS:∀(l r:List Pt),cq (l++r)=cq l++cq r
 |[],r=>rfl
 |q::l,r=>by simp only[List.cons_append,cq,qS l r,List.append_assoc]
theorem uM:∀(l r:List Pt),cI (l++r)=cI l++cI r
 |[],r=>rfl
 |q::l,r=>by simp only[List.cons_append,cI,uM l r,List.append_assoc]
section
variable{e:Bool}{z:Fault}{α β:Type}{s:St}{f:Fm}{l:List Pt}{G:List Fr}
def PP(B:α->Bytes)(s:St)(f:Fm)(l:List Pt)(G:List Fr)(a:α×List Mark×St)(s':St)(G':List Fr):Prop:=s'=a.2.2/\len a.2.2<len s/\∃p,G'=⟨f,l++[p]⟩::G/\yb p=B a.1/\yk p=a.2.1.map yt/\∀b,st p b=s
theorem cV{g:St->Except Fault β}{R:β->St->List Fr->Prop}(hl:s.is k w=true↔lk e s=n)(hn:n<1000)(hk:k=0\/k=5)(h:∀s1,len s1+1=len s->Sm e z q s1 (⟨f,l⟩::G) (g s1) R):Sm e z (.w n::q) s (⟨f,l⟩::G) (eat z (s.is k w) s>>=g) R:=
 mC (S3 hl hn hk) λa s' G' ⟨h1,h2,h3⟩=>by subst h1 h3;exact h _ h2
theorem cK{g:Bytes×St->Except Fault β}{R:β->St->List Fr->Prop}(hk:1<=k/\k<=4)(h:∀a:Bytes×St,len a.2+1=len s->Sm e z q a.2 (⟨f,l++[.leaf (BO k a.1)]⟩::G) (g a) R):Sm e z (.w (199+k)::q) s (⟨f,l⟩::G) (EwTree.take z k s>>=g) R:=
 mC (Qr hk) λa s' G' ⟨h1,h2,h3⟩=>by subst h1 h3;exact h _ h2
theorem cP{y:Sym}{B:α->Bytes}{x:Except Fault (α×List Mark×St)}{g:α×List Mark×St->Except Fault β}{R:β->St->List Fr->Prop}(hx:Sm e z [y] s (⟨f,l⟩::G) x (PP B s f l G))(h:∀(a:α×List Mark×St)(p:Pt),len a.2.2<len s->yb p=B a.1->yk p=a.2.1.map yt->(∀b,st p b=s)->Sm e z q a.2.2 (⟨f,l++[p]⟩::G) (g a) R):Sm e z (y::q) s (⟨f,l⟩::G) (x>>=g) R:=
 mC hx λa s' G' ⟨h1,h2,p,h3,h4,h5,h6⟩=>by subst h1 h3;exact h a p h2 h4 h5 h6
theorem aY{B:α->Bytes}{a:Nat}{b:St}{ps:List Pt}{x:α}{m:List Mark}{s0:St}(hb:kind k++cq ps=B x)(hm:cI ps=m.map yt)(hl:len s<len s0)(h0:b=s0:=by rfl)(ha:s0.here=a:=by rfl):Sm e z [.fin] s (⟨.kind k b,ps⟩::⟨f,l⟩::G) (.ok (x,marked k a s m,s)) (PP B s0 f l G):=
 C2 nofun (mN ⟨rfl,hl,.bo (.kind k b) s ps,rfl,hb,sr hm (by rw[h0];exact hl) (by rw[h0];exact ha),λ_=>h0⟩)
end
variable{e:Bool}{z:Fault}
def NP(s:St)(ps:List Pt)(f:Fm)(l:List Pt)(G:List Fr)(a:List Srt×List Mark×St)(s':St)(G':List Fr):Prop:=s'=a.2.2/\len a.2.2<len s/\∃qs b h,G'=⟨f,l++[.bo (.count b) h (ps++qs)]⟩::G/\qs.length=a.1.length/\cq qs=srtsBytes a.1/\cI qs=a.2.1.map yt
def Sb(e:Bool)(z:Fault)(fu:Nat):Prop:=(∀s f l G,2*len s+1<=fu->Sm e z [.w jE] s (⟨f,l⟩::G) (sortIn z fu s) (PP Srt.bytes s f l G))/\
 (∀s c ps f l G,2*len s+2<=fu->Sm e z [.w jE,.w ku,.fin,.w 108] s (⟨.count c,ps⟩::⟨f,l⟩::G) (sortsIn z fu s) (NP s ps f l G))
theorem eY{L:List String}(h:oneOf L s=some k)(hw:L[k]?=some w):s.key w=true:=by unfold oneOf at h;obtain⟨h1,h2,_⟩:=List.findIdx?_eq_some_iff_getElem.mp h;rw[List.getElem?_eq_getElem h1] at hw;rw[<-Option.some.inj hw];exact h2
theorem iu{L:List String}(h:oneOf L s=none):∀w∈L,¬s.key w=true:=by intro w hw c;have:=List.findIdx?_eq_none_iff.mp h w hw;rw[c] at this;cases this
theorem Kr(h:oneOf BASIC s=some k):Sm e z [.w jE] s (⟨f,l⟩::G) (.ok (.basic (k+1),marked (k+1) s.here s.skip [],s.skip)) (PP Srt.bytes s f l G):=by
 have hk:k<14:=eC h;have hw:=λw=>eY h (w:=w);clear h
 match k,hk,hw with
 |0,_,hw=>exact have h:=hw "whole" rfl;mX xG (vP.mp h) ↑0 (bJ (bj h vP (.inl rfl) λhl=>aY rfl rfl ↑2))
 |1,_,hw=>exact have h:=hw "fraction" rfl;mX pT (jR.mp h) ↑0 (bJ (bj h jR (.inl rfl) λhl=>aY rfl rfl ↑2))
 |2,_,hw=>exact have h:=hw "decimal" rfl;mX qP (mh.mp h) ↑0 (bJ (bj h mh (.inl rfl) λhl=>aY rfl rfl ↑2))
 |3,_,hw=>exact have h:=hw "half" rfl;mX y8 (A_.mp h) ↑0 (bJ (bj h A_ (.inl rfl) λhl=>aY rfl rfl ↑2))
 |4,_,hw=>exact have h:=hw "single" rfl;mX t5 (sZ.mp h) ↑0 (bJ (bj h sZ (.inl rfl) λhl=>aY rfl rfl ↑2))
 |5,_,hw=>exact have h:=hw "double" rfl;mX uw (sL.mp h) ↑0 (bJ (bj h sL (.inl rfl) λhl=>aY rfl rfl ↑2))
 |6,_,hw=>exact have h:=hw "extended" rfl;mX pS (jP.mp h) ↑0 (bJ (bj h jP (.inl rfl) λhl=>aY rfl rfl ↑2))
 |7,_,hw=>exact have h:=hw "interval" rfl;mX pV (j9.mp h) ↑0 (bJ (bj h j9 (.inl rfl) λhl=>aY rfl rfl ↑2))
 |8,_,hw=>exact have h:=hw "truth" rfl;mX wa (xa.mp h) ↑0 (bJ (bj h xa (.inl rfl) λhl=>aY rfl rfl ↑2))
 |9,_,hw=>exact have h:=hw "text" rfl;mX yT (A7.mp h) ↑0 (bJ (bj h A7 (.inl rfl) λhl=>aY rfl rfl ↑2))
 |10,_,hw=>exact have h:=hw "flags" rfl;mX xU (eQ.mp h) ↑0 (bJ (bj h eQ (.inl rfl) λhl=>aY rfl rfl ↑2))
 |11,_,hw=>exact have h:=hw "error" rfl;mX xX (yh.mp h) ↑0 (bJ (bj h yh (.inl rfl) λhl=>aY rfl rfl ↑2))
 |12,_,hw=>exact have h:=hw "account" rfl;mX ra (eZ.mp h) ↑0 (bJ (bj h eZ (.inl rfl) λhl=>aY rfl rfl ↑2))
 |13,_,hw=>exact have h:=hw "value" rfl;mX xY (xT.mp h) ↑0 (bJ (bj h xT (.inl rfl) λhl=>aY rfl rfl ↑2))
theorem qe(hk:1<=k/\k<=4)(h:lk e s≠199+k):EwTree.take z k s= .error (bad z s):=by
 obtain⟨p,ts⟩:=s;cases ts with
 |nil=>rfl
 |cons t r=>
  refine if_neg λc=>h ?_;exact(cM hk).mp ⟨t,r,rfl,c⟩
theorem aI{P:α->Prop}{a:α}{l:List α}(h:P a)(k:∀x∈l,P x):∀x∈a::l,P x:=all_cons h k
theorem O4(i:Sb e z fu)(hf:2*len s+2<=fu):
  Sm e z [.bg .count,.w DX,.fin,.w 108] s (⟨f,l⟩::G) (if s.sign ")"=true then(.ok ([],[],s.skip):Except Fault ((List Srt)×List Mark×St)) else sortsIn z fu s) (NP s [] f l G):=by
 refine bJ ?_;by_cases c:s.sign ")"=true
 ·exact mT c (mX Bk (h7.mp c) ↑0 (C2 nofun (bj c h7 (.inr rfl) λhl=>mN ⟨rfl,by dsimp only;omega,[],_,_,rfl,rfl,rfl,rfl⟩)))
 ·exact mF c (Pk Fz ((KU _).trans (bD (aI (λh=>c (h7.mpr h.symm)) (aI qZ all_nil)))) ↑0 (i.2 s _ [] f l G hf))
theorem K9(i:Sb e z fu)(s:St)(f:Fm)(l:List Pt)(G:List Fr)(hf:2*len s+1<=fu+1):Sm e z [.w jE] s (⟨f,l⟩::G) (sortIn z (fu+1) s) (PP Srt.bytes s f l G):=by
 unfold sortIn;dsimp only;split
 ·rename_i k hk;exact Kr hk
 rename_i hno;have hno:=iu hno;by_cases c1:s.key "packed"=true
 ·refine mT c1 (mX ug (qN.mp c1) ↑0 (bJ (bj c1 qN (.inl rfl) λhl=>cK (k:=3) ↑0 λa ha=>aY ?_ rfl ↑2)));show kind 15++(short a.1++[])=kind 15++short a.1;rw[List.append_nil]
 refine mF c1 ?_;by_cases c2:s.key "list"=true
 ·refine mT c2 (mX Ag (BU.mp c2) ↑0 (bJ (bj c2 BU (.inl rfl) λhl=>cV Gw ↑0 (.inl rfl) λs1 h1=>cP (i.1 _ _ _ _ ↑2) λa p h2 hb hk zp=>aY ?_ ?_ ↑2)))
  ·show kind 16++(yb p++[])=kind 16++a.1.bytes;rw[List.append_nil,hb]
  ·show yk p++[]=_;rw[List.append_nil,hk]
 refine mF c2 ?_;by_cases c3:s.key "fibre"=true
 ·refine mT c3 (mX yr (wx.mp c3) ↑0 (bJ (bj c3 wx (.inl rfl) λhl=>?_)));by_cases c4:s.skip.key "of"=true
  ·refine mT c4 (mX vI (Gw.mp c4) ↑0 (bj c4 Gw (.inl rfl) λhl2=>d7 (cP (i.1 _ _ _ _ ↑2) λa p h2 hb hk zp=>aY ?_ ?_ ↑2)))
   ·show kind 17++([1]++(yb p++[]))=[17,1]++a.1.bytes;rw[List.append_nil,hb];rfl
   ·show[]++(yk p++[])=_;rw[List.append_nil,hk];rfl
  ·exact mF c4 (Pk Ar ((Fw _).trans (bD (aI (λc=>c4 (Gw.mpr c.symm)) (aI qZ all_nil)))) ↑0 (d7 (aY rfl rfl ↑2)))
 refine mF c3 ?_;by_cases c5:s.key "fn"=true
 ·refine mT c5 (mX EC (E'.mp c5) ↑0 (bJ (bj c5 E' (.inl rfl) λhl=>cV kX ↑0 (.inr rfl) λs1 h1=>mB (r:=[.bg .count,.w DX,.fin,.w 108]) (O4 i ↑2) λa s2 G2 ⟨e1,e2,qs,cb,ch,e3,e4,e5,e6⟩=>?_)));subst e1 e3;by_cases c6:a.2.2.sign "->"=true
  ·refine mT c6 (mX oE (EA.mp c6) ↑0 (bj c6 EA (.inr rfl) λhl2=>d7 (cP (i.1 _ _ _ _ ↑2) λb p h2 hb hk zp=>aY ?_ ?_ ↑2)))
   ·show kind 18++((count qs.length++cq qs)++([1]++(yb p++[])))=kind 18++(count a.1.length++(srtsBytes a.1++(1::b.1.bytes)));rw[List.append_nil,hb,e4,e5,List.append_assoc];rfl
   ·show([]++cI qs)++([]++(yk p++[]))=_;rw[List.append_nil,hk,List.map_append,e6];rfl
  ·refine mF c6 (Pk qD ((yM _).trans (bD (aI (λc=>c6 (EA.mpr c.symm)) (aI qZ all_nil)))) ↑0 (d7 (aY ?_ ?_ ↑2)))
   ·show kind 18++((count qs.length++cq qs)++([0]++[]))=kind 18++(count a.1.length++(srtsBytes a.1++[0]));rw[e4,e5,List.append_assoc];rfl
   ·show([]++cI qs)++([]++[])=_;rw[<-e6];simp
 refine mF c5 ?_;by_cases c7:lk e s=200
 ·refine mX zZ c7 ↑0 (bJ (cK (k:=1) ↑0 λa ha=>?_));by_cases c8:a.2.sign "."=true
  ·refine mT c8 (mX nE (n0.mp c8) ↑0 (Ul (bj c8 n0 (.inr rfl) λhl2=>cK (k:=1) ↑0 λb hb=>aY ?_ rfl ↑2)));show kind 20++(short a.1++(short b.1++[]))=_;rw[List.append_nil];rfl
  ·refine mF c8 (Pk pf ((uy _).trans (bD (aI (λc=>c8 (n0.mpr c.symm)) (aI qZ all_nil)))) ↑0 (aY ?_ rfl ↑2));show kind 19++(short a.1++[])=_;rw[List.append_nil];rfl
 ·rw[qe (e:=e) (k:=1) ↑0 c7];have hr:row jE (lk e s)=none:=(OG _).trans (bD (aI (λc=>hno "whole" ↑0 (vP.mpr c.symm)) (aI (λc=>hno "fraction" ↑0 (jR.mpr c.symm)) (aI (λc=>hno "decimal" ↑0 (mh.mpr c.symm)) (aI (λc=>hno "half" ↑0 (A_.mpr c.symm)) (aI (λc=>hno "single" ↑0 (sZ.mpr c.symm)) (aI (λc=>hno "double" ↑0 (sL.mpr c.symm)) (aI (λc=>hno "extended" ↑0 (jP.mpr c.symm)) (aI (λc=>hno "interval" ↑0 (j9.mpr c.symm)) (aI (λc=>hno "truth" ↑0 (xa.mpr c.symm)) (aI (λc=>hno "text" ↑0 (A7.mpr c.symm)) (aI (λc=>hno "flags" ↑0 (eQ.mpr c.symm)) (aI (λc=>hno "error" ↑0 (yh.mpr c.symm)) (aI (λc=>hno "account" ↑0 (eZ.mpr c.symm)) (aI (λc=>hno "value" ↑0 (xT.mpr c.symm)) (aI (λc=>c1 (qN.mpr c.symm)) (aI (λc=>c2 (BU.mpr c.symm)) (aI (λc=>c3 (wx.mpr c.symm)) (aI (λc=>c5 (E'.mpr c.symm)) (aI (λc=>c7 c.symm) all_nil))))))))))))))))))));exact E1 (nt ↑0) hr rfl
theorem JP(i:Sb e z fu)(s c:St)(ps:List Pt)(f:Fm)(l:List Pt)(G:List Fr)(hf:2*len s+2<=fu+1):Sm e z [.w jE,.w ku,.fin,.w 108] s (⟨.count c,ps⟩::⟨f,l⟩::G) (sortsIn z (fu+1) s) (NP s ps f l G):=by
 unfold sortsIn;refine cP (i.1 _ _ _ _ ↑2) λa p h2 hb hk zp=>?_;by_cases c:a.2.2.sign ","=true
 ·refine mT c (mX p6 (eA.mp c) ↑0 (bj c eA (.inr rfl) λhl=>mB (q:=[]) (i.2 _ _ (ps++[p]) f l G ↑2) λb s2 G2 ⟨e1,e2,qs,cb,ch,e3,e4,e5,e6⟩=>?_));subst e1 e3;refine mN ⟨rfl,by show len b.2.2<len s;omega,p::qs,_,_,by rw[List.append_assoc];rfl,by show qs.length+1=b.1.length+1;rw[e4],?_,?_⟩
  ·show yb p++cq qs=a.1.bytes++srtsBytes b.1;rw[hb,e5]
  ·show yk p++cI qs=_;rw[hk,e6,List.map_append]
 ·refine mF c (Pk sG ((xN _).trans (bD (aI (λh=>c (eA.mpr h.symm)) (aI qZ all_nil)))) ↑0 (C2 nofun (cV h7 ↑0 (.inr rfl) λs2 h3=>mN ⟨rfl,by dsimp only;omega,[p],_,_,rfl,rfl,?_,?_⟩)))
  ·show yb p++[]=a.1.bytes++[];rw[hb]
  ·show yk p++[]=_;rw[hk,List.append_nil]
theorem xP(e:Bool)(z:Fault):∀fu,Sb e z fu
 |0=>⟨λs f l G h=>↑2,λs c ps f l G h=>↑2⟩
 |fu+1=>⟨K9 (xP e z fu),JP (xP e z fu)⟩
end
section
variable{e:Bool}{z:Fault}
theorem h_{c:String}(hc:c≠""):∀fu s,exprsIn z c fu s=exprsIn z "" fu s>>=λr=>eat z (r.2.2.sign c) r.2.2>>=λs'=>.ok (r.1,r.2.1,s')
 |0,s=>rfl
 |fu+1,s=>by
  unfold exprsIn;cases h:exprIn z fu 0 s with
  |error er=>rfl
  |ok a=>
   show(if a.2.2.sign ","=true then _ else _)=(if a.2.2.sign ","=true then _ else _)>>=_;by_cases c1:a.2.2.sign ","=true
   ·rw[if_pos c1,if_pos c1,h_ hc fu];cases exprsIn z "" fu a.2.2.skip with
    |error er=>rfl
    |ok b=>
     show(eat z (b.2.2.sign c) b.2.2>>=λs'=>Except.ok (b.1,b.2.1,s'))>>=_=eat z (b.2.2.sign c) b.2.2>>=_;cases eat z (b.2.2.sign c) b.2.2 <;> rfl
   ·rw[if_neg c1,if_neg c1,if_neg hc,if_pos rfl];rfl
def PQ{α:Type}(B:α->Bytes)(s0 s:St)(f:Fm)(l:List Pt)(G:List Fr)(a:α×List Mark×St)(s':St)(G':List Fr):Prop:=s'=a.2.2/\len a.2.2<=len s/\∃p,G'=⟨f,l++[p]⟩::G/\yb p=B a.1/\yk p=a.2.1.map yt/\∀b,st p b=s0
def Uc(s:St)(f:Fm)(l:List Pt)(G:List Fr)(a:List Expr×List Mark×St)(s':St)(G':List Fr):Prop:=s'=a.2.2/\len a.2.2<len s/\∃qs,G'=⟨f,l++qs⟩::G/\qs.length=a.1.length/\cq qs=(exprsBytes a.1).flatten/\cI qs=a.2.1.map yt
def UN(s:St)(f:Fm)(l:List Pt)(G:List Fr)(a:List (Bytes×Expr)×List Mark×St)(s':St)(G':List Fr):Prop:=s'=a.2.2/\len a.2.2<len s/\∃qs c h,G'=⟨f,l++[.bo (.count c) h qs]⟩::G/\qs.length=a.1.length/\cq qs=woven (a.1.map λ(x:Bytes×Expr)=>x.1) (exprsBytes (a.1.map λ(x:Bytes×Expr)=>x.2))/\cI qs=a.2.1.map yt
def M5:Nat->List Sym
 |0=>[.w cu]
 |1=>[.w IQ,.w u6]
 |2=>[.w IQ]
 |3=>[.w Ez]
 |4=>[.w AI,.w j8]
 |5=>[.w AI]
 |6=>[.w Q_]
 |7=>[.w Fq]
 |8=>[.w IC]
 |9=>[.w Jm,.w K2]
 |10=>[.w Jm]
 |_=>[.w Dv]
def HV:Nat->Nat
 |1=>u6
 |2=>Be
 |6=>B5
 |_=>rD
structure FA(e:Bool)(z:Fault)(fu:Nat):Prop where
 ex:∀L s f l G,L<=11->24*len s+13<=fu+L->Sm e z (M5 L) s (⟨f,l⟩::G) (exprIn z fu L s) (PP Expr.bytes s f l G)
 mo:∀L a x m p s0 s f l G,(L=1\/L=2\/L=6\/L=7)->24*len s+14<=fu->yb p=Expr.bytes x->yk p=m.map yt->(∀b,st p b=s0)->s0.here=a->len s<len s0->Sm e z [.w (HV L)] s (⟨f,l++[p]⟩::G) (moreIn z fu L a x m s) (PQ Expr.bytes s0 s f l G)
 ca:∀a x m p s0 s f l G,24*len s+14<=fu->yb p=Expr.bytes x->yk p=m.map yt->(∀b,st p b=s0)->s0.here=a->len s<len s0->Sm e z [.w uW] s (⟨f,l++[p]⟩::G) (castIn z fu a x m s) (PQ Expr.bytes s0 s f l G)
 po:∀a x m p s0 s f l G,24*len s+14<=fu->yb p=Expr.bytes x->yk p=m.map yt->(∀b,st p b=s0)->s0.here=a->len s<len s0->Sm e z [.w oJ] s (⟨f,l++[p]⟩::G) (postIn z fu a x m s) (PQ Expr.bytes s0 s f l G)
 li:∀s f l G,24*len s+14<=fu->Sm e z [.w cu,.w bM] s (⟨f,l⟩::G) (exprsIn z "" fu s) (Uc s f l G)
 fi:∀s cc ps f l G,24*len s+14<=fu->Sm e z [.w u9,.w hX,.fin,.w 108] s (⟨.count cc,ps⟩::⟨f,l⟩::G) (fieldsIn z fu s) λa s' G'=>s'=a.2.2/\len a.2.2<len s/\∃qs c h,G'=⟨f,l++[.bo (.count c) h (ps++qs)]⟩::G/\qs.length=a.1.length/\cq qs=woven (a.1.map λ(x:Bytes×Expr)=>x.1) (exprsBytes (a.1.map λ(x:Bytes×Expr)=>x.2))/\cI qs=a.2.1.map yt
theorem mD{g:List (Nat×List Sym)}{x:Except Fault α}{Q:α->St->List Fr->Prop}(h2:row n 299=some r)(hg:∀l,row n l=aH g l)(h:∀y∈g.map (λy=>y.1),y≠lk e s)(h0:1000<=n)(k:Sm e z (r++q) s G x Q):Sm e z (.w n::q) s G x Q:=Pk h2 ((hg _).trans (bD h)) h0 k
theorem d1{a:Nat}(h:a≠lk e s):∀y∈[a,299],y≠lk e s:=aI h (aI qZ all_nil)
theorem d0:∀y∈[299],y≠lk e s:=aI qZ all_nil
theorem xl(i:FA e z fu)(s:St)(f:Fm)(l:List Pt)(G:List Fr)(hf:24*len s+14<=fu+1):Sm e z [.w cu,.w bM] s (⟨f,l⟩::G) (exprsIn z "" (fu+1) s) (Uc s f l G):=by
 unfold exprsIn;refine cP (i.ex 0 s f l G ↑0 ↑2) λa p h2 hb hk zp=>?_;by_cases c:a.2.2.sign ","=true
 ·refine mT c (mX d8 (eA.mp c) ↑0 (bj c eA (.inr rfl) λhl=>mB (q:=[]) (i.li a.2.2.skip f (l++[p]) G ↑2) λb s2 G2 ⟨e1,e2,qs,e3,e4,e5,e6⟩=>?_));subst e1 e3;refine mN ⟨rfl,by show len b.2.2<len s;omega,p::qs,by rw[List.append_assoc];rfl,by show qs.length+1=b.1.length+1;rw[e4],?_,?_⟩
  ·show yb p++cq qs=a.1.bytes++(exprsBytes b.1).flatten;rw[hb,e5]
  ·show yk p++cI qs=_;rw[hk,e6,List.map_append]
 ·refine mF c (mT rfl (mD eD fC (d1 λh=>c (eA.mpr h.symm)) ↑0 (mN ⟨rfl,by show len a.2.2<len s;omega,[p],rfl,rfl,?_,?_⟩)))
  ·show yb p++[]=a.1.bytes++[];rw[hb]
  ·show yk p++[]=_;rw[hk,List.append_nil]
theorem xf(i:FA e z fu)(s cc:St)(ps:List Pt)(f:Fm)(l:List Pt)(G:List Fr)(hf:24*len s+14<=fu+1):Sm e z [.w u9,.w hX,.fin,.w 108] s (⟨.count cc,ps⟩::⟨f,l⟩::G) (fieldsIn z (fu+1) s) λa s' G'=>s'=a.2.2/\len a.2.2<len s/\∃qs c h,G'=⟨f,l++[.bo (.count c) h (ps++qs)]⟩::G/\qs.length=a.1.length/\cq qs=woven (a.1.map λ(x:Bytes×Expr)=>x.1) (exprsBytes (a.1.map λ(x:Bytes×Expr)=>x.2))/\cI qs=a.2.1.map yt:=by
 unfold fieldsIn;refine mD zl D4 d0 ↑0 (bJ (cK (k:=1) ↑0 λn hn=>cV El ↑0 (.inr rfl) λs1 h1=>cP (i.ex 0 s1 _ _ _ ↑0 ↑2) λa p h2 hb hk zp=>C2 nofun ?_));have e1:yb (done (.row s) a.2.2 ([]++[.leaf (BO 1 n.1)]++[p]))=short n.1++a.1.bytes:=by
  show[]++(short n.1++(yb p++[]))=_;rw[List.append_nil,hb];rfl
 have e2:yk (done (.row s) a.2.2 ([]++[.leaf (BO 1 n.1)]++[p]))=a.2.1.map yt:=by
  show[]++(yk p++[])=_;rw[List.append_nil,hk];rfl
 show Sm e z _ _ (⟨.count cc,ps++[done (.row s) a.2.2 ([]++[.leaf (BO 1 n.1)]++[p])]⟩::_) _ _;generalize done (.row s) a.2.2 ([]++[.leaf (BO 1 n.1)]++[p])=q at e1 e2;by_cases c:a.2.2.sign ","=true
 ·refine mT c (mX jW (eA.mp c) ↑0 (bj c eA (.inr rfl) λhl=>mB (q:=[]) (i.fi a.2.2.skip cc (ps++[q]) f l G ↑2) λb s2 G2 ⟨f1,f2,qs,cb,ch,f3,f4,f5,f6⟩=>?_));subst f1 f3;refine mN ⟨rfl,by show len b.2.2<len s;omega,q::qs,_,_,by rw[List.append_assoc];rfl,by show qs.length+1=b.1.length+1;rw[f4],?_,?_⟩
  ·show yb q++cq qs=short n.1++(a.1.bytes++woven (b.1.map _) (exprsBytes (b.1.map _)));rw[e1,f5,List.append_assoc]
  ·show yk q++cI qs=_;rw[e2,f6,List.map_append]
 ·refine mF c (mD lu pM (d1 λh=>c (eA.mpr h.symm)) ↑0 (C2 nofun (cV h7 ↑0 (.inr rfl) λs2 h3=>mN ⟨rfl,by show len s2<len s;omega,[q],_,_,rfl,rfl,?_,?_⟩)))
  ·show yb q++[]=short n.1++(a.1.bytes++[]);rw[e1,List.append_nil,List.append_nil]
  ·show yk q++[]=_;rw[e2,List.append_nil]
theorem GO(i:FA e z fu)(hf:24*len s+14<=fu):Sm e z [.bg .count,.w fU,.fin,.w 108] s (⟨f,l⟩::G) (if s.sign ")"=true then(.ok ([],[],s.skip):Except Fault ((List Expr)×List Mark×St)) else exprsIn z ")" fu s)
  λa s' G'=>s'=a.2.2/\len a.2.2<len s/\∃qs c h,G'=⟨f,l++[.bo (.count c) h qs]⟩::G/\qs.length=a.1.length/\cq qs=(exprsBytes a.1).flatten/\cI qs=a.2.1.map yt:=by
 refine bJ ?_;by_cases c:s.sign ")"=true
 ·exact mT c (mX l_ (h7.mp c) ↑0 (C2 nofun (bj c h7 (.inr rfl) λhl=>mN ⟨rfl,by show len s.skip<len s;omega,[],_,_,rfl,rfl,rfl,rfl⟩)))
 ·refine mF c (mD qb uu (d1 λh=>c (h7.mpr h.symm)) ↑0 ?_);rw[h_ ↑0];refine mB (r:=[.w cu,.w bM]) (i.li s _ _ _ hf) λa s2 G2 ⟨e1,e2,qs,e3,e4,e5,e6⟩=>?_;subst e1 e3;exact C2 nofun (cV h7 ↑0 (.inr rfl) λs3 h3=>mN ⟨rfl,by show len s3<len s;omega,qs,_,_,rfl,e4,e5,e6⟩)
theorem cS{h:Fm}{q:List Pt}{x:Except Fault α}{Q:α->St->List Fr->Prop}(hf:f.isSet=false)(hh:Sm e z r s (⟨h,q++[.bo f s l]⟩::G) x Q):Sm e z (.fin::r) s (⟨f,l⟩::⟨h,q⟩::G) x Q:=C2 (by rw[hf];nofun) (by rw[show done f s l= .bo f s l by unfold done;rw[hf]];exact hh)
theorem ve{B:α->Bytes}{s0:St}(h:len s<len s0):∀(a:α×List Mark×St) s' G',PQ B s0 s f l G a s' G'->PP B s0 f l G a s' G':=λa s' G' ⟨h1,h2,h3⟩=>⟨h1,↑2,h3⟩
theorem yR{B:α->Bytes}{s1 s0:St}(h:len s<=len s1):∀(a:α×List Mark×St) s' G',PQ B s0 s f l G a s' G'->PQ B s0 s1 f l G a s' G':=λa s' G' ⟨h1,h2,h3⟩=>⟨h1,↑2,h3⟩
theorem xp(i:FA e z fu)(a:Nat)(x:Expr)(m:List Mark)(p:Pt)(s0 s:St)(f:Fm)(l:List Pt)(G:List Fr)(hf:24*len s+14<=fu+1)(hb:yb p=Expr.bytes x)(hk:yk p=m.map yt)(hs:∀b,st p b=s0)(ha:s0.here=a)(h0:len s<len s0):Sm e z [.w oJ] s (⟨f,l++[p]⟩::G) (postIn z (fu+1) a x m s) (PQ Expr.bytes s0 s f l G):=by
 unfold postIn;by_cases c1:s.sign "("=true
 ·refine mT c1 (mX qG (kX.mp c1) ↑0 (mD Aj GF d0 ↑0 (bJ (AL (bj c1 kX (.inr rfl) λhl=>mB (r:=[.bg .count,.w fU,.fin,.w 108]) (GO i ↑2) λb s2 G2 ⟨e1,e2,qs,cb,ch,e3,e4,e5,e6⟩=>?_)))));subst e1 e3;refine cS rfl (mW (i.po a (.call x b.1) _ _ s0 b.2.2 f l G ↑2 ?_ (sr ?_ (by rw[hs];omega) (by rw[hs];exact ha)) (λ_=>hs _) ha ↑2) (yR ↑2))
  ·show kind 43++(yb p++((count qs.length++cq qs)++[]))=kind 43++(x.bytes++(count b.1.length++(exprsBytes b.1).flatten));rw[hb,e4,e5,List.append_nil]
  ·show yk p++(cI qs++[])=_;rw[hk,e6,List.append_nil,List.map_append]
 refine mF c1 ?_;by_cases c2:s.sign "["=true
 ·refine mT c2 (mX qX (nh.mp c2) ↑0 (mD uT D3 d0 ↑0 (bJ (AL (bj c2 nh (.inr rfl) λhl=>cP (i.ex 0 s.skip _ _ _ ↑0 ↑2) λb q h2 hb2 hk2 zq=>cV xj ↑0 (.inr rfl) λs3 h3=>cS rfl (mW (i.po a (.index x b.1) _ _ s0 s3 f l G ↑2 ?_ (sr ?_ (by rw[hs];omega) (by rw[hs];exact ha)) (λ_=>hs _) ha ↑2) (yR ↑2)))))))
  ·show kind 44++(yb p++(yb q++[]))=kind 44++(x.bytes++b.1.bytes);rw[hb,hb2,List.append_nil]
  ·show yk p++(yk q++[])=_;rw[hk,hk2,List.append_nil,List.map_append]
 refine mF c2 ?_;by_cases c3:s.sign "."=true
 ·refine mT c3 (mX tF (n0.mp c3) ↑0 (mD sT za d0 ↑0 (bJ (AL (bj c3 n0 (.inr rfl) λhl=>cK (k:=1) ↑0 λb h2=>cS rfl (mW (i.po a (.field x b.1) _ _ s0 b.2 f l G ↑2 ?_ (sr ?_ (by rw[hs];omega) (by rw[hs];exact ha)) (λ_=>hs _) ha ↑2) (yR ↑2)))))))
  ·show kind 45++(yb p++(short b.1++[]))=kind 45++(x.bytes++short b.1);rw[hb,List.append_nil]
  ·show yk p++([]++[])=_;rw[hk];simp
 ·exact mF c3 (mD uj ze (aI (λh=>c1 (kX.mpr h.symm)) (aI (λh=>c2 (nh.mpr h.symm)) (d1 λh=>c3 (n0.mpr h.symm)))) ↑0 (mN ⟨rfl,Nat.le_refl _,p,rfl,hb,hk,hs⟩))
theorem Cv{L:Nat}{op:Nat}(h:opIn L s=some op):∃b w,(L,b,w,op)∈OPS/\(if b=true then s.key w else s.sign w)=true:=by unfold opIn at h;rw[Option.map_eq_some_iff] at h;obtain⟨⟨L',b,w,op'⟩,h,rfl⟩:=h;have h1:=List.find?_some h;have h2:=List.mem_of_find?_eq_some h;rw[Bool.and_eq_true,beq_iff_eq] at h1;have:L'=L:=h1.1;subst this;exact⟨b,w,h2,h1.2⟩
theorem C8{L:Nat}(h:opIn L s=none){b:Bool}{op:Nat}(hm:(L,b,w,op)∈OPS):¬(if b=true then s.key w else s.sign w)=true:=by unfold opIn at h;rw[Option.map_eq_none_iff] at h;have:=List.find?_eq_none.mp h _ hm;intro c;exact this (by show(L==L&&_)=true;rw[beq_self_eq_true];exact c)
theorem oG(i:FA e z fu){L a op tok sub:Nat}{x:Expr}{m:List Mark}{p:Pt}{s0:St}(hL:L=1\/L=2\/L=6\/L=7)(hn:HV L=n)(h0:1000<=n)(hr:row n tok=some [.bg (.kind op),.take,.w tok,.w sub,.fin,.w n])(hs:M5 (L+1)=[.w sub])(c:s.is k w=true)(hl:s.is k w=true↔lk e s=tok)(hk:k=0\/k=5)(hf:24*len s+14<=fu+1)(hb:yb p=Expr.bytes x)(hm:yk p=m.map yt)(hs0:∀b,st p b=s0)(ha:s0.here=a)(h00:len s<len s0):Sm e z [.w n] s (⟨f,l++[p]⟩::G) (exprIn z fu (L+1) s.skip>>=λr=>moreIn z fu L a (.bin op x r.1) (marked op a r.2.2 (m++r.2.1)) r.2.2) (PQ Expr.bytes s0 s f l G):=by
 refine mX hr (hl.mp c) h0 (bJ (AL (bj c hl hk λhlen=>cP (hs▸i.ex (L+1) s.skip _ _ _ ↑2 ↑2) λb q h2 hb2 hk2 zq=>cS rfl ?_)));rw[<-hn];refine mW (i.mo L a (.bin op x b.1) _ _ s0 b.2.2 f l G hL ↑2 ?_ (sr ?_ (by rw[hs0];omega) (by rw[hs0];exact ha)) (λ_=>hs0 _) ha ↑2) (yR ↑2)
 ·show kind op++(yb p++(yb q++[]))=kind op++(x.bytes++b.1.bytes);rw[hb,hb2,List.append_nil]
 ·show yk p++(yk q++[])=_;rw[hm,hk2,List.append_nil,List.map_append]
theorem xm(i:FA e z fu)(L a:Nat)(x:Expr)(m:List Mark)(p:Pt)(s0 s:St)(f:Fm)(l:List Pt)(G:List Fr)(hL:L=1\/L=2\/L=6\/L=7)(hf:24*len s+14<=fu+1)(hb:yb p=Expr.bytes x)(hk:yk p=m.map yt)(hs0:∀b,st p b=s0)(ha:s0.here=a)(h00:len s<len s0):Sm e z [.w (HV L)] s (⟨f,l++[p]⟩::G) (moreIn z (fu+1) L a x m s) (PQ Expr.bytes s0 s f l G):=by
 unfold moreIn;have fin:=mN (e:=e) (z:=z) (s:=s) (G:=⟨f,l++[p]⟩::G) (a:=(x,m,s)) (Q:=PQ Expr.bytes s0 s f l G) ⟨rfl,Nat.le_refl _,p,rfl,hb,hk,hs0⟩;cases h:opIn L s with
 |none=>
  have hn:=λb w op hm=>C8 h (b:=b) (w:=w) (op:=op) hm;rcases hL with rfl|rfl|rfl|rfl
  ·exact mD zE Fi (d1 λc=>hn true "or" 64 ↑0 (PZ.mpr c.symm)) ↑0 fin
  ·exact mD xn Co (d1 λc=>hn true "and" 65 ↑0 (LF.mpr c.symm)) ↑0 fin
  ·exact mD vK BJ (aI (λc=>hn false "+" 72 ↑0 (QE.mpr c.symm)) (d1 λc=>hn false "-" 73 ↑0 (IZ.mpr c.symm))) ↑0 fin
  ·exact mD mE sR (aI (λc=>hn false "*" 74 ↑0 (RW.mpr c.symm)) (aI (λc=>hn false "/" 75 ↑0 (RE.mpr c.symm)) (aI (λc=>hn false "//" 76 ↑0 (R_.mpr c.symm)) (d1 λc=>hn false "%" 77 ↑0 (QP.mpr c.symm))))) ↑0 fin
 |some op=>
  obtain⟨b,w,hm,ht⟩:=Cv h;rcases hL with rfl|rfl|rfl|rfl <;> simp only[OPS,List.mem_cons,List.not_mem_nil,or_false,Prod.mk.injEq] at hm
  ·have e1:b=true/\w="or"/\op=64:=by simpa using hm
   obtain⟨rfl,rfl,rfl⟩:=e1;exact oG i (.inl rfl) rfl ↑0 wV rfl ht PZ (.inl rfl) hf hb hk hs0 ha h00
  ·have e1:b=true/\w="and"/\op=65:=by simpa using hm
   obtain⟨rfl,rfl,rfl⟩:=e1;exact oG i (.inr (.inl rfl)) rfl ↑0 sJ rfl ht LF (.inl rfl) hf hb hk hs0 ha h00
  ·have e1:(b=false/\w="+"/\op=72)\/(b=false/\w="-"/\op=73):=by simpa using hm
   rcases e1 with⟨rfl,rfl,rfl⟩|⟨rfl,rfl,rfl⟩
   ·exact oG i (.inr (.inr (.inl rfl))) rfl ↑0 uc rfl ht QE (.inr rfl) hf hb hk hs0 ha h00
   ·exact oG i (.inr (.inr (.inl rfl))) rfl ↑0 tZ rfl ht IZ (.inr rfl) hf hb hk hs0 ha h00
  ·have e1:(b=false/\w="*"/\op=74)\/(b=false/\w="/"/\op=75)\/(b=false/\w="//"/\op=76)\/(b=false/\w="%"/\op=77):=by simpa using hm
   rcases e1 with⟨rfl,rfl,rfl⟩|⟨rfl,rfl,rfl⟩|⟨rfl,rfl,rfl⟩|⟨rfl,rfl,rfl⟩
   ·exact oG i (.inr (.inr (.inr rfl))) rfl ↑0 kQ rfl ht RW (.inr rfl) hf hb hk hs0 ha h00
   ·exact oG i (.inr (.inr (.inr rfl))) rfl ↑0 lL rfl ht RE (.inr rfl) hf hb hk hs0 ha h00
   ·exact oG i (.inr (.inr (.inr rfl))) rfl ↑0 lB rfl ht R_ (.inr rfl) hf hb hk hs0 ha h00
   ·exact oG i (.inr (.inr (.inr rfl))) rfl ↑0 lQ rfl ht QP (.inr rfl) hf hb hk hs0 ha h00
theorem qi{ps:List Pt}(h:iW ps)(hk:k<7):iW (ps++[.leaf [UInt8.ofNat k]]):=λp hp=>by
 rcases List.mem_append.mp hp with hp|hp
 ·exact h p hp
 ·exact⟨k,hk,List.mem_singleton.mp hp⟩
theorem Eg(hk:1<=k/\k<=4){p:Nat}{t:Tok}{r:List Tok}(ht:t.kind=k){x:Except Fault α}{Q:α->St->List Fr->Prop}(h:Sm e z q ⟨t.halt_,r⟩ (⟨f,l++[.leaf (BO k t.bytes)]⟩::G) x Q):Sm e z (.w (199+k)::q) ⟨p,t::r⟩ (⟨f,l⟩::G) x Q:=by exact Sl ((cM (e:=e) (s:=⟨p,t::r⟩) hk).mp ⟨t,r,rfl,ht⟩) ↑2 (by rw[RB hk ht];exact h)
theorem Jh{x:Except Fault α}{Q:α->St->List Fr->Prop}(h:∀ps,len (optN s).2<=len s->cq ps=maybe short (optN s).1->cI ps=[]->Sm e z q (optN s).2 (⟨f,l++ps⟩::G) x Q):Sm e z (.w Hk::q) s (⟨f,l⟩::G) x Q:=by
 by_cases c:lk e s=202
 ·obtain⟨t,r,e1,e2⟩:=(cM (k:=3) ↑0).mpr c;obtain⟨p,ts⟩:=s;have e1:ts=t::r:=e1;subst e1;have eo:optN ⟨p,t::r⟩=(some t.bytes,⟨t.halt_,r⟩):=if_pos e2;rw[eo] at h;refine mX pW c ↑0 (d7 (Eg (k:=3) ↑0 e2 ?_));have:=h [.leaf [1],.leaf (short t.bytes)] (Nat.le_succ _) (by show[1]++(short t.bytes++[])=1::short t.bytes;rw[List.append_nil];rfl) rfl;rw[List.append_assoc];exact this
 ·have eo:optN s=(none,s):=by
   obtain⟨p,ts⟩:=s;cases ts with
   |nil=>rfl
   |cons t r=>exact if_neg λk=>c ((cM (k:=3) ↑0).mp ⟨t,r,rfl,k⟩)
  rw[eo] at h;exact mD AM Gv (d1 λk=>c k.symm) ↑0 (d7 (h [.leaf [0]] (Nat.le_refl _) rfl rfl))
theorem A1{x:Except Fault α}{Q:α->St->List Fr->Prop}(h:len (pC s).2<=len s->Sm e z q (pC s).2 (⟨f,l++[.leaf (kind (pC s).1)]⟩::G) x Q):Sm e z (.w AV::q) s (⟨f,l⟩::G) x Q:=by
 cases ho:oneOf ROUNDS s with
 |none=>
  have eo:pC s=(0,s):=by unfold pC;rw[ho]
  rw[eo] at h;have hn:=iu ho;exact mD vR BR (aI (λc=>hn "near" ↑0 (oq.mpr c.symm)) (aI (λc=>hn "down" ↑0 (my.mpr c.symm)) (aI (λc=>hn "up" ↑0 (D8.mpr c.symm)) (aI (λc=>hn "cut" ↑0 (vg.mpr c.symm)) (aI (λc=>hn "nearaway" ↑0 (jt.mpr c.symm)) (aI (λc=>hn "nearcut" ↑0 (mI.mpr c.symm)) (aI (λc=>hn "away" ↑0 (AJ.mpr c.symm)) (aI (λc=>hn "five" ↑0 (Bc.mpr c.symm)) (d0))))))))) ↑0 (d7 (h (Nat.le_refl _)))
 |some k=>
  have eo:pC s=(k+1,s.skip):=by unfold pC;rw[ho]
  rw[eo] at h;have hk:k<8:=eC ho;have hw:=λw=>eY ho (w:=w);clear ho eo
  match k,hk,hw,h with
  |0,_,hw,h=>exact have c:=hw "near" rfl;mX pR (oq.mp c) ↑0 (bj c oq (.inl rfl) λhl=>d7 (h (by show len s.skip<=_;omega)))
  |1,_,hw,h=>exact have c:=hw "down" rfl;mX px (my.mp c) ↑0 (bj c my (.inl rfl) λhl=>d7 (h (by show len s.skip<=_;omega)))
  |2,_,hw,h=>exact have c:=hw "up" rfl;mX uv (D8.mp c) ↑0 (bj c D8 (.inl rfl) λhl=>d7 (h (by show len s.skip<=_;omega)))
  |3,_,hw,h=>exact have c:=hw "cut" rfl;mX s_ (vg.mp c) ↑0 (bj c vg (.inl rfl) λhl=>d7 (h (by show len s.skip<=_;omega)))
  |4,_,hw,h=>exact have c:=hw "nearaway" rfl;mX jg (jt.mp c) ↑0 (bj c jt (.inl rfl) λhl=>d7 (h (by show len s.skip<=_;omega)))
  |5,_,hw,h=>exact have c:=hw "nearcut" rfl;mX jL (mI.mp c) ↑0 (bj c mI (.inl rfl) λhl=>d7 (h (by show len s.skip<=_;omega)))
  |6,_,hw,h=>exact have c:=hw "away" rfl;mX pH (AJ.mp c) ↑0 (bj c AJ (.inl rfl) λhl=>d7 (h (by show len s.skip<=_;omega)))
  |7,_,hw,h=>exact have c:=hw "five" rfl;mX pN (Bc.mp c) ↑0 (bj c Bc (.inl rfl) λhl=>d7 (h (by show len s.skip<=_;omega)))
theorem xc(i:FA e z fu)(a:Nat)(x:Expr)(m:List Mark)(p:Pt)(s0 s:St)(f:Fm)(l:List Pt)(G:List Fr)(hf:24*len s+14<=fu+1)(hb:yb p=Expr.bytes x)(hk:yk p=m.map yt)(hs0:∀b,st p b=s0)(ha:s0.here=a)(h00:len s<len s0):Sm e z [.w uW] s (⟨f,l++[p]⟩::G) (castIn z (fu+1) a x m s) (PQ Expr.bytes s0 s f l G):=by
 unfold castIn;by_cases c:s.key "as"=true
 ·refine mT c (mX w8 (Np.mp c) ↑0 (bJ (AL (bj c Np (.inl rfl) λhl=>cP ((xP e z fu).1 _ _ _ _ ↑2) λt q h2 hb2 hk2 zq=>Jh λps h3 hb3 hk3=>A1 λh4=>cS rfl ?_))));refine mW (i.ca a (.as_ x t.1 (optN t.2.2).1 (pC (optN t.2.2).2).1) (marked 52 a (pC (optN t.2.2).2).2 (m++t.2.1)) _ s0 (pC (optN t.2.2).2).2 f l G ↑2 ?_ (sr ?_ (by rw[hs0];omega) (by rw[hs0];exact ha)) (λ_=>hs0 _) ha ↑2) (yR ↑2)
  ·show kind 52++cq ([]++[p]++[q]++ps++[.leaf (kind (pC (optN t.2.2).2).1)])=_;rw[ia,qS,hb3,ia,ia,hb,hb2];show kind 52++((([]++x.bytes)++t.1.bytes++_)++kind _)=kind 52++(x.bytes++(t.1.bytes++(_++kind _)));rw[List.nil_append,List.append_assoc,List.append_assoc]
  ·show cI ([]++[p]++[q]++ps++[.leaf (kind (pC (optN t.2.2).2).1)])=_;rw[ir,uM,hk3,ir,ir,hk,hk2,List.map_append];show([]++_++_)++[]++[]=_;rw[List.append_nil,List.append_nil,List.nil_append]
 ·exact mF c (mD zX Ec (d1 λh=>c (Np.mpr h.symm)) ↑0 (mN ⟨rfl,Nat.le_refl _,p,rfl,hb,hk,hs0⟩))
theorem iU:∀(ps:List Pt)(b:UInt8),eI (ps++[.leaf [b]])=eI ps ||| 2 ^ b.toNat
 |[],b=>by simp[eI]
 | .leaf []::r,b=>iU r b
 | .leaf (c::_)::r,b=>by
  show 2 ^ c.toNat ||| eI (r++[.leaf [b]])=(2 ^ c.toNat ||| eI r) ||| 2 ^ b.toNat;rw[iU r b,Nat.or_assoc]
 | .bo _ _ _::r,b=>iU r b
theorem Ie:∀a<128,∀k<7,withFlag a k=a ||| 2 ^ (UInt8.ofNat k).toNat:=↑1
theorem Ce(ho:oneOf FLAGS s=some k){x:Except Fault α}{Q:α->St->List Fr->Prop}(h:len s.skip+1=len s->Sm e z q s.skip (⟨f,l++[.leaf [UInt8.ofNat k]]⟩::G) x Q):Sm e z (.w Cm::q) s (⟨f,l⟩::G) x Q:=by
 have hk:k<7:=eC ho;have hw:=λw=>eY ho (w:=w);clear ho
 match k,hk,hw,h with
 |0,_,hw,h=>exact have c:=hw "invalid" rfl;mX rl (m_.mp c) ↑0 (bj c m_ (.inl rfl) λhl=>d7 (h hl))
 |1,_,hw,h=>exact have c:=hw "small" rfl;mX xH (xS.mp c) ↑0 (bj c xS (.inl rfl) λhl=>d7 (h hl))
 |2,_,hw,h=>exact have c:=hw "zero" rfl;mX z_ (Bl.mp c) ↑0 (bj c Bl (.inl rfl) λhl=>d7 (h hl))
 |3,_,hw,h=>exact have c:=hw "overflow" rfl;mX pB (kg.mp c) ↑0 (bj c kg (.inl rfl) λhl=>d7 (h hl))
 |4,_,hw,h=>exact have c:=hw "underflow" rfl;mX mn (ie.mp c) ↑0 (bj c ie (.inl rfl) λhl=>d7 (h hl))
 |5,_,hw,h=>exact have c:=hw "inexact" rfl;mX rS (nj.mp c) ↑0 (bj c nj (.inl rfl) λhl=>d7 (h hl))
 |6,_,hw,h=>exact have c:=hw "stack" rfl;mX ya (yn.mp c) ↑0 (bj c yn (.inl rfl) λhl=>d7 (h hl))
theorem Bs(ho:oneOf FLAGS s=none){Q:α->St->List Fr->Prop}:Sm e z (.w Cm::q) s G (.error (bad z s)) Q:=by have hn:=iu ho;exact E1 (nt ↑0) ((NF _).trans (bD (aI (λc=>hn "invalid" ↑0 (m_.mpr c.symm)) (aI (λc=>hn "small" ↑0 (xS.mpr c.symm)) (aI (λc=>hn "zero" ↑0 (Bl.mpr c.symm)) (aI (λc=>hn "overflow" ↑0 (kg.mpr c.symm)) (aI (λc=>hn "underflow" ↑0 (ie.mpr c.symm)) (aI (λc=>hn "inexact" ↑0 (nj.mpr c.symm)) (aI (λc=>hn "stack" ↑0 (yn.mpr c.symm)) (all_nil)))))))))) rfl
theorem IX:∀(fu a:Nat)(s cc:St)(ps:List Pt)(f:Fm)(l:List Pt)(G:List Fr),iW ps->eI ps=a->a<128->len s+1<=fu->Sm e z [.w Cm,.w yo,.fin,.w 108] s (⟨.set cc,ps⟩::⟨f,l⟩::G) (onlyIn z fu a s) λr s' G'=>s'=r.2/\len r.2<len s/\G'=⟨f,l++[.leaf (kind r.1)]⟩::G
 |0,a,s,cc,ps,f,l,G,_,_,_,h=>by omega
 |fu+1,a,s,cc,ps,f,l,G,ho0,ha,ha2,hf=>by
  unfold onlyIn;cases ho:oneOf FLAGS s with
  |none=>exact Bs ho
  |some k=>
   have hk:k<7:=eC ho;have e1:eI (ps++[.leaf [UInt8.ofNat k]])=withFlag a k:=by rw[iU,ha,Ie a ha2 k hk]
   refine Ce ho λhl=>?_;by_cases c:s.skip.sign ","=true
   ·exact mT c (mX ph (eA.mp c) ↑0 (bj c eA (.inr rfl) λhl2=>mW (IX fu (withFlag a k) s.skip.skip cc _ f l G (qi ho0 hk) e1 (IS a ha2 k hk).1 ↑2) λr s' G' ⟨h1,h2,h3⟩=>⟨h1,↑2,h3⟩))
   ·exact mF c (mD qT wg (d1 λh=>c (eA.mpr h.symm)) ↑0 (C2 (λ_=>qi ho0 hk) (cV h7 ↑0 (.inr rfl) λs2 h2=>mN ⟨rfl,by show len s2<len s;omega,by rw[<-e1];rfl⟩)))
theorem OY{n:Bytes×St}{g:Option Bytes×Bytes×St->Except Fault α}{Q:α->St->List Fr->Prop}(h:∀(r:Option Bytes×Bytes×St)(p:Pt),len r.2.2<=len n.2->yb p=maybe short r.1++short r.2.1->yk p=[]->Sm e z q r.2.2 (⟨f,l++[p]⟩::G) (g r) Q):
  Sm e z (.w Mi::q) n.2 (⟨f,l++[.leaf (short n.1)]⟩::G) ((if n.2.sign "."=true then(do
    let(k,z)<-EwTree.take z 1 n.2.skip
    return (some n.1,k,z)) else .ok (none,n.1,n.2):Except Fault (Option Bytes×Bytes×St))>>=g) Q:=by
 by_cases c:n.2.sign "."=true
 ·rw[if_pos c];refine mX E5 (n0.mp c) ↑0 (bJ (d7 (AL (bj c n0 (.inr rfl) λhl=>?_))));have e1:((EwTree.take z 1 n.2.skip>>=λy=>Except.ok (some n.1,y.1,y.2))>>=g)=(EwTree.take z 1 n.2.skip>>=λy=>g (some n.1,y.1,y.2)):=by
   cases EwTree.take z 1 n.2.skip <;> rfl
  show Sm e z _ _ _ ((EwTree.take z 1 n.2.skip>>=λy=>Except.ok (some n.1,y.1,y.2))>>=g) Q;rw[e1];refine cK (k:=1) ↑0 λb hb=>cS rfl (h (some n.1,b.1,b.2) _ (by show len b.2<=_;omega) ?_ rfl);show[]++([1]++(short n.1++(short b.1++[])))=1::short n.1++short b.1;rw[List.append_nil];rfl
 ·rw[if_neg c];refine mD FW NM (d1 λh=>c (n0.mpr h.symm)) ↑0 (bJ (d7 (AL (cS rfl (h (none,n.1,n.2) _ (Nat.le_refl _) ?_ rfl)))));show[]++([0]++(short n.1++[]))=[0]++short n.1;rw[List.append_nil];rfl
theorem HR(i:FA e z fu)(hf:24*len s+14<=fu):Sm e z [.bg .count,.w rE,.fin,.w 108] s (⟨f,l⟩::G) (if s.sign ")"=true then(.ok ([],[],s.skip):Except Fault ((List (Bytes×Expr))×List Mark×St)) else fieldsIn z fu s) (UN s f l G):=by
 refine bJ ?_;by_cases c:s.sign ")"=true
 ·have hn:lk e s≠200:=by rw[h7.mp c];decide
  exact mT c (mD kj rY (d1 λh=>hn h.symm) ↑0 (C2 nofun (bj c h7 (.inr rfl) λhl=>mN ⟨rfl,by show len s.skip<len s;omega,[],_,_,rfl,rfl,rfl,rfl⟩)))
 ·refine mF c ?_;by_cases c2:lk e s=200
  ·exact mX pY c2 ↑0 (mW (i.fi s _ [] f l G hf) λa s' G' ⟨h1,h2,qs,cb,ch,h3,h4⟩=>⟨h1,h2,qs,cb,ch,h3,h4⟩)
  ·obtain⟨fu,rfl⟩:∃k,fu=k+1:=⟨fu - 1,↑2⟩
   unfold fieldsIn;rw[qe (e:=e) (k:=1) ↑0 c2];refine mD kj rY (d1 λh=>c2 h.symm) ↑0 (C2 nofun ?_);exact P2 ↑0 (λh=>c (h7.mpr h))
theorem Ka(i:FA e z fu)(s:St)(f:Fm)(l:List Pt)(G:List Fr)(hf:24*len s+13<=fu+1+11):Sm e z [.w Dv] s (⟨f,l⟩::G) (exprIn z (fu+1) 11 s) (PP Expr.bytes s f l G):=by
 unfold exprIn;refine mF ↑0 (mF ↑0 (mF ↑0 (mF ↑0 (mF ↑0 (mF ↑0 (mF ↑0 (mF ↑0 ?_)))))));obtain⟨p0,ts⟩:=s;cases ts with
 |nil=>exact E1 (s:=⟨p0,[]⟩) (nt ↑0) (by cases e <;> rfl) rfl
 |cons t r=>
  have hz:len ⟨t.halt_,r⟩+1=len ⟨p0,t::r⟩:=rfl;dsimp only;by_cases k3:t.kind=3
  ·refine mT k3 (mX qH ((cM (k:=3) ↑0).mp ⟨t,r,rfl,k3⟩) ↑0 (bJ (Eg (k:=3) ↑0 k3 (aY ?_ rfl ↑2))));show kind 32++(short t.bytes++[])=_;rw[List.append_nil];rfl
  refine mF k3 ?_;by_cases k4:t.kind=4
  ·refine mT k4 (mX wz ((cM (k:=4) ↑0).mp ⟨t,r,rfl,k4⟩) ↑0 (bJ (Eg (k:=4) ↑0 k4 (aY ?_ rfl ↑2))));show kind 33++(long t.bytes++[])=_;rw[List.append_nil];rfl
  refine mF k4 ?_;by_cases k1:t.kind=1
  ·refine mT k1 (mX w_ ((cM (k:=1) ↑0).mp ⟨t,r,rfl,k1⟩) ↑0 (mD yE IE d0 ↑0 (bJ (Eg (k:=1) ↑0 k1 (aY ?_ rfl ↑2)))));show kind 37++(short t.bytes++[])=_;rw[List.append_nil];rfl
  refine mF k1 ?_;by_cases k2:t.kind=2
  ·refine mT k2 (mX xZ ((cM (k:=2) ↑0).mp ⟨t,r,rfl,k2⟩) ↑0 (bJ (Eg (k:=2) ↑0 k2 (aY ?_ rfl ↑2))));show kind 38++(short t.bytes++[])=_;rw[List.append_nil];rfl
  refine mF k2 ?_;generalize hs:(⟨p0,t::r⟩:St)=s at*;have hsk:s.skip=⟨t.halt_,r⟩:=by rw[<-hs];rfl
  rw[<-hsk] at hz ⊢;by_cases c1:s.key "true"=true
  ·exact mT c1 (mX xM (Bw.mp c1) ↑0 (bJ (bj c1 Bw (.inl rfl) λhl=>aY rfl rfl ↑2)))
  refine mF c1 ?_;by_cases c2:s.key "false"=true
  ·exact mT c2 (mX uC (xr.mp c2) ↑0 (bJ (bj c2 xr (.inl rfl) λhl=>aY rfl rfl ↑2)))
  refine mF c2 ?_;by_cases c3:s.key "flags"=true
  ·exact mT c3 (mX ub (eQ.mp c3) ↑0 (bJ (bj c3 eQ (.inl rfl) λhl=>aY rfl rfl ↑2)))
  refine mF c3 ?_;by_cases c4:s.key "only"=true
  ·refine mT c4 (mX x8 (Cn.mp c4) ↑0 (bJ (bj c4 Cn (.inl rfl) λhl=>cV kX ↑0 (.inr rfl) λs1 h1=>mB (r:=[.bg .set,.w KJ,.fin,.w 108]) (Q:=λr s' G'=>s'=r.2/\len r.2<len s1/\G'=⟨.kind 39 s,[]++[.leaf (kind r.1)]⟩::⟨f,l⟩::G) (bJ ?_) λa s2 G2 ⟨e1,e2,e3⟩=>?_)))
   ·by_cases c:s1.sign ")"=true
    ·exact mT c (mX B7 (h7.mp c) ↑0 (C2 (λ_=>nofun) (bj c h7 (.inr rfl) λhl=>mN ⟨rfl,by show len s1.skip<len s1;omega,rfl⟩)))
    ·exact mF c (mD Ep JX (d1 λh=>c (h7.mpr h.symm)) ↑0 (IX fu 0 s1 _ [] _ _ _ nofun rfl ↑0 ↑2))
   ·subst e1 e3;refine aY ?_ rfl ↑2;show kind 39++(kind a.1++[])=_;rw[List.append_nil];rfl
  refine mF c4 ?_;by_cases c5:s.key "make"=true
  ·refine mT c5 (mX wo (BK.mp c5) ↑0 (bJ (bj c5 BK (.inl rfl) λhl=>cK (k:=1) ↑0 λn hn=>OY λq p h2 hb hk=>cV kX ↑0 (.inr rfl) λs1 h1=>mB (r:=[.bg .count,.w rE,.fin,.w 108]) (HR i ↑2) λa s2 G2 ⟨e1,e2,qs,cb,ch,e3,e4,e5,e6⟩=>?_)));subst e1 e3;refine aY ?_ ?_ ↑2
   ·show kind 42++(yb p++((count qs.length++cq qs)++[]))=kind 42++(maybe short q.1++(short q.2.1++(count (a.1.map _).length++woven _ _)));rw[hb,e4,e5,List.append_nil,List.length_map,List.append_assoc]
   ·show yk p++(([]++cI qs)++[])=_;rw[hk,e6,List.append_nil];rfl
  refine mF c5 ?_;by_cases c6:s.sign "("=true
  ·refine mT c6 (mX A4 (kX.mp c6) ↑0 (bJ (bj c6 kX (.inr rfl) λhl=>cP (i.ex 0 s.skip _ _ _ ↑0 ↑2) λa p h2 hb hk zp=>cV h7 ↑0 (.inr rfl) λs1 h1=>cS rfl (mN ⟨rfl,by show len s1<len s;omega,_,rfl,?_,?_,λ_=>rfl⟩))))
   ·show[]++(yb p++[])=_;rw[List.append_nil,hb];rfl
   ·show yk p++[]=_;rw[List.append_nil,hk]
  refine mF c6 ?_;by_cases c7:s.sign "["=true
  ·refine mT c7 (mX Ci (nh.mp c7) ↑0 (bJ (bj c7 nh (.inr rfl) λhl=>?_)));by_cases c8:s.skip.sign "]"=true
   ·exact mT c8 (mX Ae (xj.mp c8) ↑0 (bJ (cS rfl (bj c8 xj (.inr rfl) λhl2=>aY rfl rfl ↑2))))
   refine mF c8 (mD AU Jl (d1 λh=>c8 (xj.mpr h.symm)) ↑0 (cP (i.ex 0 s.skip _ _ _ ↑0 ↑2) λa p h2 hb hk zp=>?_));by_cases c9:a.2.2.sign ".."=true
   ·refine mT c9 (mX mV (MU.mp c9) ↑0 (Ul (bj c9 MU (.inr rfl) λhl2=>cP (i.ex 0 a.2.2.skip _ _ _ ↑0 ↑2) λb q h3 hb2 hk2 zq=>cV xj ↑0 (.inr rfl) λs1 h1=>aY ?_ ?_ ↑2)))
    ·show kind 41++(yb p++(yb q++[]))=kind 41++(a.1.bytes++b.1.bytes);rw[hb,hb2,List.append_nil]
    ·show yk p++(yk q++[])=_;rw[hk,hk2,List.append_nil,List.map_append]
   refine mF c9 (mD pz ux (d1 λh=>c9 (MU.mpr h.symm)) ↑0 (bJ (AL ?_)));by_cases c10:a.2.2.sign ","=true
   ·refine mT c10 (mX d8 (eA.mp c10) ↑0 (bj c10 eA (.inr rfl) λhl2=>?_));rw[h_ ↑0];have e0:∀k:List Expr×List Mark×St->Except Fault (Expr×List Mark×St),((exprsIn z "" fu a.2.2.skip>>=λr=>eat z (r.2.2.sign "]") r.2.2>>=λs'=>Except.ok (r.1,r.2.1,s'))>>=k)=(exprsIn z "" fu a.2.2.skip>>=λr=>eat z (r.2.2.sign "]") r.2.2>>=λs'=>k (r.1,r.2.1,s')):=by
     intro k;cases exprsIn z "" fu a.2.2.skip with
     |error er=>rfl
     |ok b=>
      show(eat z (b.2.2.sign "]") b.2.2>>=λs'=>Except.ok (b.1,b.2.1,s'))>>=k=_;show _=(eat z (b.2.2.sign "]") b.2.2>>=λs'=>k (b.1,b.2.1,s'))
      cases eat z (b.2.2.sign "]") b.2.2 <;> rfl
    rw[e0];refine mB (r:=[.w cu,.w bM]) (i.li a.2.2.skip _ _ _ ↑2) λb s2 G2 ⟨e1,e2,qs,e3,e4,e5,e6⟩=>?_;subst e1 e3;refine cS rfl (cV xj ↑0 (.inr rfl) λs3 h3=>aY ?_ ?_ ↑2)
    ·show kind 40++((count ([]++[p]++qs).length++cq ([]++[p]++qs))++[])=kind 40++(count (b.1.length+1)++(a.1.bytes++(exprsBytes b.1).flatten));rw[qS,e5,ia,hb,List.append_nil,List.length_append,e4];show kind 40++(count (1+b.1.length)++_)=_;rw[Nat.add_comm];rfl
    ·show cI ([]++[p]++qs)++[]=_;rw[uM,e6,ir,hk,List.append_nil,List.map_append];rfl
   ·refine mF c10 (mD eD fC (d1 λh=>c10 (eA.mpr h.symm)) ↑0 (cS rfl (cV xj ↑0 (.inr rfl) λs3 h3=>aY ?_ ?_ ↑2)))
    ·show kind 40++((count 1++(yb p++[]))++[])=kind 40++(count 1++(a.1.bytes++[]));rw[hb,List.append_nil,List.append_nil]
    ·show(yk p++[])++[]=_;rw[hk,List.append_nil,List.append_nil]
  refine mF c7 ?_;have hbad:bad z s=(2,t.place):=by rw[<-hs];rfl
  rw[<-hbad];have nk:∀k,1<=k/\k<=4->t.kind≠k->199+k≠lk e s:=by
   intro k hk ht c;obtain⟨t',r',h1,h2⟩:=(cM hk).mpr c.symm;rw[<-hs] at h1;obtain⟨rfl,rfl⟩:=List.cons.inj h1;exact ht h2
  exact E1 (nt ↑0) ((KI _).trans (bD (aI (nk 3 ↑0 k3) (aI (nk 4 ↑0 k4) (aI (λc=>c1 (Bw.mpr c.symm)) (aI (λc=>c2 (xr.mpr c.symm)) (aI (λc=>c3 (eQ.mpr c.symm)) (aI (nk 1 ↑0 k1) (aI (nk 2 ↑0 k2) (aI (λc=>c4 (Cn.mpr c.symm)) (aI (λc=>c6 (kX.mpr c.symm)) (aI (λc=>c7 (nh.mpr c.symm)) (aI (λc=>c5 (BK.mpr c.symm)) all_nil))))))))))))) rfl
theorem vv(i:FA e z fu){a op tok:Nat}{x:Expr}{m:List Mark}{p:Pt}{s0:St}(hr:row j8 tok=some [.bg (.kind op),.take,.w tok,.w AI,.fin])(c:s.is k w=true)(hl:s.is k w=true↔lk e s=tok)(hk:k=0\/k=5)(h0:len s<len s0)(hf:24*len s0+13<=fu+1+4)(hb:yb p=Expr.bytes x)(hm:yk p=m.map yt)(hs0:∀b,st p b=s0)(ha:s0.here=a):Sm e z [.w j8] s (⟨f,l++[p]⟩::G) (exprIn z fu 5 s.skip>>=λr=>.ok (.bin op x r.1,marked op a r.2.2 (m++r.2.1),r.2.2)) (PP Expr.bytes s0 f l G):=by
 refine mX hr (hl.mp c) ↑0 (bJ (AL (bj c hl hk λhlen=>cP (i.ex 5 s.skip _ _ _ ↑2 ↑2) λb q h2 hb2 hk2 zq=>aY ?_ ?_ ↑2 (hs0 _) ha)))
 ·show kind op++(yb p++(yb q++[]))=kind op++(x.bytes++b.1.bytes);rw[hb,hb2,List.append_nil]
 ·show yk p++(yk q++[])=_;rw[hm,hk2,List.append_nil,List.map_append]
theorem xe(i:FA e z fu)(L:Nat)(s:St)(f:Fm)(l:List Pt)(G:List Fr)(hL:L<=11)(hf:24*len s+13<=fu+1+L):Sm e z (M5 L) s (⟨f,l⟩::G) (exprIn z (fu+1) L s) (PP Expr.bytes s f l G):=by
 match L,hL,hf with
 |11,_,hf=>exact Ka i s f l G hf
 |0,_,hf=>
  unfold exprIn;refine mT rfl ?_;by_cases c:s.key "if"=true
  ·refine mT c (mX pZ (y_.mp c) ↑0 (bJ (bj c y_ (.inl rfl) λhl=>cP (i.ex 0 s.skip _ _ _ ↑0 ↑2) λa p h1 hb1 hk1 zp=>cV OT ↑0 (.inl rfl) λs2 h2=>cP (i.ex 0 s2 _ _ _ ↑0 ↑2) λb q h3 hb2 hk2 zq=>cV j_ ↑0 (.inl rfl) λs4 h4=>cP (i.ex 0 s4 _ _ _ ↑0 ↑2) λd o h5 hb3 hk3 zo=>aY ?_ ?_ ↑2)))
   ·show kind 51++(yb p++(yb q++(yb o++[])))=kind 51++(a.1.bytes++(b.1.bytes++d.1.bytes));rw[hb1,hb2,hb3,List.append_nil]
   ·show yk p++(yk q++(yk o++[]))=_;rw[hk1,hk2,hk3,List.append_nil,List.map_append,List.map_append]
  ·exact mF c (mD qJ wX (d1 λh=>c (y_.mpr h.symm)) ↑0 (i.ex 1 s f l G ↑0 ↑2))
 |1,_,hf=>
  unfold exprIn;exact mF ↑0 (mT ↑0 (cP (i.ex 2 s f l G ↑0 ↑2) λa p h hb hk zp=>mW (i.mo 1 _ a.1 _ p s a.2.2 f l G (.inl rfl) ↑2 hb hk zp rfl h) (ve h)))
 |2,_,hf=>
  unfold exprIn;exact mF ↑0 (mT ↑0 (mD IW M_ d0 ↑0 (cP (i.ex 3 s f l G ↑0 ↑2) λa p h hb hk zp=>mW (i.mo 2 _ a.1 _ p s a.2.2 f l G (.inr (.inl rfl)) ↑2 hb hk zp rfl h) (ve h))))
 |3,_,hf=>
  unfold exprIn;refine mF ↑0 (mF ↑0 (mT rfl ?_));by_cases c:s.key "not"=true
  ·refine mT c (mX tY (IF.mp c) ↑0 (bJ (bj c IF (.inl rfl) λhl=>cP (i.ex 3 s.skip _ _ _ ↑0 ↑2) λa p h1 hb1 hk1 zp=>aY ?_ ?_ ↑2)))
   ·show kind 47++(yb p++[])=kind 47++a.1.bytes;rw[hb1,List.append_nil]
   ·show yk p++[]=_;rw[hk1,List.append_nil]
  ·exact mF c (mD zw Eu (d1 λh=>c (IF.mpr h.symm)) ↑0 (i.ex 4 s f l G ↑0 ↑2))
 |4,_,hf=>
  unfold exprIn;refine mF ↑0 (mF ↑0 (mF ↑0 (mT rfl (cP (i.ex 5 s f l G ↑0 ↑2) λa p h1 hb1 hk1 zp=>?_))));dsimp only;cases h:opIn 4 a.2.2 with
  |none=>
   have hn:=λw op hm=>C8 h (b:=false) (w:=w) (op:=op) hm;exact mD v9 AF (aI (λc=>hn "==" 66 ↑0 (Rc.mpr c.symm)) (aI (λc=>hn "!=" 67 ↑0 (P8.mpr c.symm)) (aI (λc=>hn "<" 68 ↑0 (QZ.mpr c.symm)) (aI (λc=>hn "<=" 69 ↑0 (QV.mpr c.symm)) (aI (λc=>hn ">" 70 ↑0 (Rr.mpr c.symm)) (d1 λc=>hn ">=" 71 ↑0 (R3.mpr c.symm))))))) ↑0 (mN ⟨rfl,h1,p,rfl,hb1,hk1,zp⟩)
  |some op=>
   obtain⟨b,w,hm,ht⟩:=Cv h;simp only[OPS,List.mem_cons,List.not_mem_nil,or_false,Prod.mk.injEq] at hm;have e1:(b=false/\w="=="/\op=66)\/(b=false/\w="!="/\op=67)\/(b=false/\w="<"/\op=68)\/(b=false/\w="<="/\op=69)\/(b=false/\w=">"/\op=70)\/(b=false/\w=">="/\op=71):=by simpa using hm
   rcases e1 with⟨rfl,rfl,rfl⟩|⟨rfl,rfl,rfl⟩|⟨rfl,rfl,rfl⟩|⟨rfl,rfl,rfl⟩|⟨rfl,rfl,rfl⟩|⟨rfl,rfl,rfl⟩
   ·exact vv i t_ ht Rc (.inr rfl) h1 hf hb1 hk1 zp rfl
   ·exact vv i uk ht P8 (.inr rfl) h1 hf hb1 hk1 zp rfl
   ·exact vv i t7 ht QZ (.inr rfl) h1 hf hb1 hk1 zp rfl
   ·exact vv i ua ht QV (.inr rfl) h1 hf hb1 hk1 zp rfl
   ·exact vv i uz ht Rr (.inr rfl) h1 hf hb1 hk1 zp rfl
   ·exact vv i t9 ht R3 (.inr rfl) h1 hf hb1 hk1 zp rfl
 |5,_,hf=>
  unfold exprIn;exact mF ↑0 (mF ↑0 (mF ↑0 (mF ↑0 (mT rfl (mD Jq Nw d0 ↑0 (cP (i.ex 6 s f l G ↑0 ↑2) λa p h hb hk zp=>mW (i.ca _ a.1 _ p s a.2.2 f l G ↑2 hb hk zp rfl h) (ve h)))))))
 |6,_,hf=>
  unfold exprIn;exact mF ↑0 (mT ↑0 (mD Lc RZ d0 ↑0 (cP (i.ex 7 s f l G ↑0 ↑2) λa p h hb hk zp=>mW (i.mo 6 _ a.1 _ p s a.2.2 f l G (.inr (.inr (.inl rfl))) ↑2 hb hk zp rfl h) (ve h))))
 |7,_,hf=>
  unfold exprIn;exact mF ↑0 (mT ↑0 (mD zx En d0 ↑0 (cP (i.ex 8 s f l G ↑0 ↑2) λa p h hb hk zp=>mW (i.mo 7 _ a.1 _ p s a.2.2 f l G (.inr (.inr (.inr rfl))) ↑2 hb hk zp rfl h) (ve h))))
 |8,_,hf=>
  unfold exprIn;refine mF ↑0 (mF ↑0 (mF ↑0 (mF ↑0 (mF ↑0 (mT rfl ?_)))));by_cases c1:s.sign "-"=true
  ·refine mT c1 (mX yP (IZ.mp c1) ↑0 (bJ (bj c1 IZ (.inr rfl) λhl=>cP (i.ex 8 s.skip _ _ _ ↑0 ↑2) λa p h1 hb1 hk1 zp=>aY ?_ ?_ ↑2)))
   ·show kind 46++(yb p++[])=kind 46++a.1.bytes;rw[hb1,List.append_nil]
   ·show yk p++[]=_;rw[hk1,List.append_nil]
  refine mF c1 ?_;by_cases c2:s.key "spawn"=true
  ·refine mT c2 (mX rb (yx.mp c2) ↑0 (bJ (bj c2 yx (.inl rfl) λhl=>cP (i.ex 10 s.skip _ _ _ ↑0 ↑2) λa p h1 hb1 hk1 zp=>aY ?_ ?_ ↑2)))
   ·show kind 48++(yb p++[])=kind 48++a.1.bytes;rw[hb1,List.append_nil]
   ·show yk p++[]=_;rw[hk1,List.append_nil]
  refine mF c2 ?_;by_cases c3:s.key "resume"=true
  ·refine mT c3 (mX p8 (rJ.mp c3) ↑0 (bJ (bj c3 rJ (.inl rfl) λhl=>cP (i.ex 10 s.skip _ _ _ ↑0 ↑2) λa p h1 hb1 hk1 zp=>?_)));by_cases c4:a.2.2.key "giving"=true
   ·refine mT c4 (mX pU (qC.mp c4) ↑0 (bj c4 qC (.inl rfl) λhl2=>d7 (cP (i.ex 8 a.2.2.skip _ _ _ ↑0 ↑2) λb q h3 hb2 hk2 zq=>aY ?_ ?_ ↑2)))
    ·show kind 49++(yb p++([1]++(yb q++[])))=kind 49++(a.1.bytes++(1::b.1.bytes));rw[hb1,hb2,List.append_nil];rfl
    ·show yk p++([]++(yk q++[]))=_;rw[hk1,hk2,List.append_nil,List.map_append];rfl
   ·refine mF c4 (mD Bh Gg (d1 λh=>c4 (qC.mpr h.symm)) ↑0 (d7 (aY ?_ ?_ ↑2)))
    ·show kind 49++(yb p++([0]++[]))=kind 49++(a.1.bytes++[0]);rw[hb1];rfl
    ·show yk p++([]++[])=_;rw[hk1];simp
  refine mF c3 ?_;by_cases c5:s.key "picture"=true
  ·refine mT c5 (mX nM (mO.mp c5) ↑0 (bJ (bj c5 mO (.inl rfl) λhl=>cK (k:=4) ↑0 λt ht=>cV Gw ↑0 (.inl rfl) λs2 h2=>cP (i.ex 10 s2 _ _ _ ↑0 ↑2) λa p h1 hb1 hk1 zp=>aY ?_ ?_ ↑2)))
   ·show kind 50++(long t.1++(yb p++[]))=kind 50++(long t.1++a.1.bytes);rw[hb1,List.append_nil]
   ·show[]++(yk p++[])=_;rw[hk1,List.append_nil];rfl
  ·exact mF c5 (mD Bg IV (aI (λh=>c1 (IZ.mpr h.symm)) (aI (λh=>c2 (yx.mpr h.symm)) (aI (λh=>c3 (rJ.mpr h.symm)) (d1 λh=>c5 (mO.mpr h.symm))))) ↑0 (i.ex 9 s f l G ↑0 ↑2))
 |9,_,hf=>
  unfold exprIn;refine mF ↑0 (mF ↑0 (mF ↑0 (mF ↑0 (mF ↑0 (mF ↑0 (mT rfl (cP (i.ex 10 s f l G ↑0 ↑2) λa p h1 hb1 hk1 zp=>?_)))))));by_cases c:a.2.2.sign "^"=true
  ·refine mT c (mX A6 (My.mp c) ↑0 (bJ (AL (bj c My (.inr rfl) λhl=>cP (i.ex 8 a.2.2.skip _ _ _ ↑0 ↑2) λb q h2 hb2 hk2 zq=>aY ?_ ?_ ↑2 (zp _)))))
   ·show kind 78++(yb p++(yb q++[]))=kind 78++(a.1.bytes++b.1.bytes);rw[hb1,hb2,List.append_nil]
   ·show yk p++(yk q++[])=_;rw[hk1,hk2,List.append_nil,List.map_append]
  ·exact mF c (mD Fj J7 (d1 λh=>c (My.mpr h.symm)) ↑0 (mN ⟨rfl,h1,p,rfl,hb1,hk1,zp⟩))
 |10,_,hf=>
  unfold exprIn;exact mF ↑0 (mF ↑0 (mF ↑0 (mF ↑0 (mF ↑0 (mF ↑0 (mF ↑0 (mT rfl (mD Jr Nd d0 ↑0 (cP (i.ex 11 s f l G ↑0 ↑2) λa p h hb hk zp=>mW (i.po _ a.1 _ p s a.2.2 f l G ↑2 hb hk zp rfl h) (ve h))))))))))
theorem vS(e:Bool)(z:Fault):∀fu,FA e z fu
 |0=>⟨λL s f l G hL h=>↑2,λ_ _ _ _ _ _ s _ _ _ _ h=>↑2,λ_ _ _ _ _ s _ _ _ h=>↑2,λ_ _ _ _ _ s _ _ _ h=>↑2,λs _ _ _ h=>↑2,λs _ _ _ _ _ h=>↑2⟩
 |fu+1=>let i:=vS e z fu;⟨xe i,xm i,xc i,xp i,xl i,xf i⟩
theorem ba{β γ:Type}(x:Except Fault α)(f:α->Except Fault β)(g:β->Except Fault γ):((x>>=f)>>=g)=(x>>=λa=>f a>>=g):=by cases x <;> rfl
theorem bi{β:Type}{c:Prop}[Decidable c](x y:Except Fault α)(g:α->Except Fault β):((if c then x else y)>>=g)=if c then x>>=g else y>>=g:=by split <;> rfl
theorem B2(h:24*len s+13<=fu):Sm e z [.w cu] s (⟨f,l⟩::G) (exprIn z fu 0 s) (PP Expr.bytes s f l G):=(vS e z fu).ex 0 s f l G ↑0 h
theorem Le(h:2*len s+1<=fu):Sm e z [.w jE] s (⟨f,l⟩::G) (sortIn z fu s) (PP Srt.bytes s f l G):=(xP e z fu).1 s f l G h
def PA{α:Type}(B:α->Bytes)(s:St)(f:Fm)(l:List Pt)(G:List Fr)(a:α×List Mark×St)(s':St)(G':List Fr):Prop:=s'=a.2.2/\len a.2.2<=len s/\∃ps,G'=⟨f,l++ps⟩::G/\cq ps=B a.1/\cI ps=a.2.1.map yt
theorem cA{β:Type}{y:Sym}{B:α->Bytes}{x:Except Fault (α×List Mark×St)}{g:α×List Mark×St->Except Fault β}{R:β->St->List Fr->Prop}(hx:Sm e z [y] s (⟨f,l⟩::G) x (PA B s f l G))(h:∀(a:α×List Mark×St)(ps:List Pt),len a.2.2<=len s->cq ps=B a.1->cI ps=a.2.1.map yt->Sm e z q a.2.2 (⟨f,l++ps⟩::G) (g a) R):Sm e z (y::q) s (⟨f,l⟩::G) (x>>=g) R:=
 mC hx λa s' G' ⟨h1,h2,p,h3,h4,h5⟩=>by subst h1 h3;exact h a p h2 h4 h5
theorem Rz(h:2*len s<=fu):Sm e z [.w y4] s (⟨f,l⟩::G) (maySort z fu s) (PA (maybe Srt.bytes) s f l G):=by
 unfold maySort;by_cases c:s.sign ":"=true
 ·refine mT c (mX rX (El.mp c) ↑0 (bj c El (.inr rfl) λhl=>d7 (mM (Le ↑2) λa s' G' ⟨h1,h2,p,h3,h4,h5,_⟩=>?_)));refine⟨h1,by show len a.2.2<=len s;omega,[.leaf [1],p],by rw[h3,List.append_assoc];rfl,?_,?_⟩
  ·show[1]++(yb p++[])=1::a.1.bytes;rw[h4,List.append_nil];rfl
  ·show[]++(yk p++[])=_;rw[h5,List.append_nil];rfl
 ·exact mF c (mD tW yK (d1 λh=>c (El.mpr h.symm)) ↑0 (d7 (mN ⟨rfl,Nat.le_refl _,[.leaf [0]],rfl,rfl,rfl⟩)))
theorem LH(c:s.key "let"=true){B:α->Bytes}{mk:Bytes->Option Srt->Expr->α}(hB:∀n t x,B (mk n t x)=kind k++(short n++(maybe Srt.bytes t++x.bytes)))(hf:24*len s+13<=fu+24):
  Sm e z [.bg (.kind k),.w P_,.fin] s (⟨f,l⟩::G) (letIn z fu s.skip>>=λr=>.ok (mk r.1.1 r.1.2.1 r.1.2.2,marked k s.here r.2.2 r.2.1,r.2.2)) (PP B s f l G):=by
 refine bJ (mD Ki Qs d0 ↑0 (bj c zJ (.inl rfl) λhl=>?_));unfold letIn;rw[ba];refine cK (k:=1) ↑0 λn hn=>?_;rw[ba];refine cA (Rz ↑2) λt ps h1 hb1 hk1=>?_;rw[ba];refine cV GZ ↑0 (.inr rfl) λs2 h2=>?_;rw[ba];refine cP (B2 ↑2) λx p h3 hb3 hk3 zp=>aY ?_ ?_ ↑2
 ·show kind k++cq ([]++[.leaf (short n.1)]++ps++[p])=B (mk n.1 t.1 x.1);rw[hB,ia,qS,hb1,hb3];show kind k++(((short n.1++[])++_)++_)=_;rw[List.append_nil,List.append_assoc]
 ·show cI ([]++[.leaf (short n.1)]++ps++[p])=_;rw[ir,uM,hk1,hk3,List.map_append];rfl
theorem Q6{g:Nat->Except Fault α}{Q:α->St->List Fr->Prop}(h:∀k,len s.skip+1=len s->Sm e z q s.skip (⟨f,l++[.leaf (kind k)]⟩::G) (g k) Q):
  Sm e z (.w yH::q) s (⟨f,l⟩::G) (match oneOf (ROUNDS.take 4) s with|some k=>g k|none=>.error (bad z s)) Q:=by
 cases ho:oneOf (ROUNDS.take 4) s with
 |none=>
  have hn:=iu ho;exact E1 (nt ↑0) ((Au _).trans (bD (aI (λc=>hn "near" ↑0 (oq.mpr c.symm)) (aI (λc=>hn "down" ↑0 (my.mpr c.symm)) (aI (λc=>hn "up" ↑0 (D8.mpr c.symm)) (aI (λc=>hn "cut" ↑0 (vg.mpr c.symm)) (all_nil))))))) rfl
 |some k=>
  have hk:k<4:=eC ho;have hw:=λw=>eY ho (w:=w);clear ho
  match k,hk,hw with
  |0,_,hw=>exact have c:=hw "near" rfl;mX mU (oq.mp c) ↑0 (bj c oq (.inl rfl) λhl=>d7 (h 0 hl))
  |1,_,hw=>exact have c:=hw "down" rfl;mX n_ (my.mp c) ↑0 (bj c my (.inl rfl) λhl=>d7 (h 1 hl))
  |2,_,hw=>exact have c:=hw "up" rfl;mX qM (D8.mp c) ↑0 (bj c D8 (.inl rfl) λhl=>d7 (h 2 hl))
  |3,_,hw=>exact have c:=hw "cut" rfl;mX pJ (vg.mp c) ↑0 (bj c vg (.inl rfl) λhl=>d7 (h 3 hl))
theorem JU{g:Nat->Except Fault α}{Q:α->St->List Fr->Prop}(h:∀k,len s.skip+1=len s->Sm e z q s.skip (⟨f,l++[.leaf (kind k)]⟩::G) (g k) Q):
  Sm e z (.w EF::q) s (⟨f,l⟩::G) (match oneOf ["in","out","both"] s with|some k=>g k|none=>.error (bad z s)) Q:=by
 cases ho:oneOf ["in","out","both"] s with
 |none=>
  have hn:=iu ho;exact E1 (nt ↑0) ((Fh _).trans (bD (aI (λc=>hn "in" ↑0 (Lw.mpr c.symm)) (aI (λc=>hn "out" ↑0 (Hm.mpr c.symm)) (aI (λc=>hn "both" ↑0 (Bo.mpr c.symm)) (all_nil)))))) rfl
 |some k=>
  have hk:k<3:=eC ho;have hw:=λw=>eY ho (w:=w);clear ho
  match k,hk,hw with
  |0,_,hw=>exact have c:=hw "in" rfl;mX vG (Lw.mp c) ↑0 (bj c Lw (.inl rfl) λhl=>d7 (h 0 hl))
  |1,_,hw=>exact have c:=hw "out" rfl;mX t6 (Hm.mp c) ↑0 (bj c Hm (.inl rfl) λhl=>d7 (h 1 hl))
  |2,_,hw=>exact have c:=hw "both" rfl;mX rW (Bo.mp c) ↑0 (bj c Bo (.inl rfl) λhl=>d7 (h 2 hl))
theorem IJ:∀(fu a:Nat)(s cc:St)(ps:List Pt)(f:Fm)(l:List Pt)(G:List Fr){α:Type}{q:List Sym}{g:Nat×St->Except Fault α}{Q:α->St->List Fr->Prop},iW ps->eI ps=a->a<128->len s+1<=fu->(∀r:Nat×St,¬r.2.sign ","=true->¬r.2.sign "{"=true->g r= .error (bad z r.2))->
  (∀r:Nat×St,len r.2<=len s->Sm e z q r.2 (⟨f,l++[.leaf (kind r.1)]⟩::G) (g r) Q)->Sm e z (.w D9::.fin::q) s (⟨.set cc,ps⟩::⟨f,l⟩::G) (g (trapIn fu a s)) Q
 |0,a,s,cc,ps,f,l,G,_,_,_,_,_,_,_,h,_,_=>by omega
 |fu+1,a,s,cc,ps,f,l,G,_,_,g,_,ho0,ha,ha2,hf,hg,h=>by
  unfold trapIn;cases ho:oneOf FLAGS s with
  |some k=>
   have hk:k<7:=eC ho;have e1:eI (ps++[.leaf [UInt8.ofNat k]])=withFlag a k:=by rw[iU,ha,Ie a ha2 k hk]
   have hw:∃w,s.key w=true/\w∈FLAGS:=⟨FLAGS[k],eY ho (List.getElem?_eq_getElem hk),List.getElem_mem hk⟩
   have n1:(113:Nat)≠lk e s/\(111:Nat)≠lk e s:=by
    obtain⟨w,hw,hm⟩:=hw;have hlt:lk e s<100:=by
     obtain⟨i,hi⟩:=Option.isSome_iff_exists.mp ((by decide+kernel:∀w∈FLAGS,(KEYWORDS.findIdx? λx=>x==word w).isSome=true) w hm);have h1:=(az (e:=e) (s:=s) hi).mp hw;have h2:=(List.findIdx?_eq_some_iff_getElem.mp hi).1;have h3:KEYWORDS.length=80:=↑1
     omega
    omega
   refine mD oP vE (aI n1.1 (d1 n1.2)) ↑0 (Ce ho λhl=>?_);exact IJ fu (withFlag a k) s.skip cc _ f l G (qi ho0 hk) e1 (IS a ha2 k hk).1 ↑2 hg λr hr=>h r ↑2
  |none=>
   have hset:done (.set cc) s ps= .leaf (kind a):=by rw[<-ha];rfl
   by_cases c1:s.sign ","=true
   ·exact mX xI (eA.mp c1) ↑0 (C2 (λ_=>ho0) (by rw[hset];exact h (a,s) (Nat.le_refl _)))
   by_cases c2:s.sign "{"=true
   ·exact mX wQ (FP.mp c2) ↑0 (C2 (λ_=>ho0) (by rw[hset];exact h (a,s) (Nat.le_refl _)))
   ·refine mD oP vE (aI (λh=>c1 (eA.mpr h.symm)) (d1 λh=>c2 (FP.mpr h.symm))) ↑0 ?_;show Sm e z _ s _ (g (a,s)) _;rw[hg (a,s) c1 c2];exact Bs ho
theorem N8{g:Mode×St->Except Fault α}{Q:α->St->List Fr->Prop}(hf:len s+1<=fu)(hg:∀r:Mode×St,¬r.2.sign ","=true->¬r.2.sign "{"=true->g r= .error (bad z r.2))(h:∀(a:Mode×St)(p:Pt),len a.2<len s->yb p=a.1.bytes->yk p=[]->Sm e z q a.2 (⟨f,l++[p]⟩::G) (g a) Q):Sm e z (.w HM::q) s (⟨f,l⟩::G) (modeIn z fu s>>=g) Q:=by
 unfold modeIn;by_cases c1:s.key "rounding"=true
 ·rw[if_pos c1];refine mX pG (jz.mp c1) ↑0 (bJ (bj c1 jz (.inl rfl) λhl=>d7 ?_));have:=Q6 (e:=e) (z:=z) (s:=s.skip) (f:=.row s) (l:=[]++[.leaf [0]]) (G:=⟨f,l⟩::G) (q:=.fin::q) (g:=λk=>g (.rounding k,s.skip.skip)) (Q:=Q) λk hl2=>cS rfl (h (.rounding k,s.skip.skip) _ (by show len s.skip.skip<len s;omega) (by show[]++([0]++(kind k++[]))=_;rw[List.append_nil];rfl) rfl);cases ho:oneOf (ROUNDS.take 4) s.skip with
  |none=>rw[ho] at this;exact this
  |some k=>rw[ho] at this;exact this
 rw[if_neg c1];by_cases c2:s.key "precision"=true
 ·rw[if_pos c2];refine mX nZ (iG.mp c2) ↑0 (bJ (bj c2 iG (.inl rfl) λhl=>d7 ?_));have e1:((EwTree.take z 3 s.skip).map (λ(x:Bytes×St)=>(Mode.precision x.1,x.2))>>=g)=(EwTree.take z 3 s.skip>>=λx=>g (.precision x.1,x.2)):=by cases EwTree.take z 3 s.skip <;> rfl
  rw[e1];exact cK (k:=3) ↑0 λa ha=>cS rfl (h (.precision a.1,a.2) _ (by show len a.2<len s;omega) (by show[]++([1]++(short a.1++[]))=_;rw[List.append_nil];rfl) rfl)
 rw[if_neg c2];by_cases c3:s.key "trap"=true
 ·rw[if_pos c3];refine mX zd (Bu.mp c3) ↑0 (bJ (bj c3 Bu (.inl rfl) λhl=>d7 (bJ ?_)));obtain⟨fu,rfl⟩:∃k,fu=k+1:=⟨fu - 1,↑2⟩
  cases ho:oneOf FLAGS s.skip with
  |none=>exact Bs ho
  |some k=>
   have hk:k<7:=eC ho;show Sm e z _ _ _ (g (.trap (trapIn (fu+1) 0 s.skip).1,(trapIn (fu+1) 0 s.skip).2)) Q;have e1:trapIn (fu+1) 0 s.skip=trapIn fu (withFlag 0 k) s.skip.skip:=by
    conv=>lhs;unfold trapIn
    rw[ho]
   rw[e1];refine Ce ho λhl2=>?_;refine IJ (g:=λr=>g (.trap r.1,r.2)) fu (withFlag 0 k) s.skip.skip _ _ (.row s) _ _ (qi (ps:=[]) nofun hk) (by rw[iU,Ie 0 ↑0 k hk];rfl) (IS 0 ↑0 k hk).1 ↑2 (λr h1 h2=>hg (.trap r.1,r.2) h1 h2) λr hr=>?_;exact cS rfl (h (.trap r.1,r.2) _ (by show len r.2<len s;omega) (by show[]++([2]++(kind r.1++[]))=_;rw[List.append_nil];rfl) rfl)
 rw[if_neg c3];by_cases c4:s.key "flush"=true
 ·rw[if_pos c4];refine mX wj (v_.mp c4) ↑0 (bJ (bj c4 v_ (.inl rfl) λhl=>d7 ?_));have:=JU (e:=e) (z:=z) (s:=s.skip) (f:=.row s) (l:=[]++[.leaf [3]]) (G:=⟨f,l⟩::G) (q:=.fin::q) (g:=λk=>g (.flush k,s.skip.skip)) (Q:=Q) λk hl2=>cS rfl (h (.flush k,s.skip.skip) _ (by show len s.skip.skip<len s;omega) (by show[]++([3]++(kind k++[]))=_;rw[List.append_nil];rfl) rfl);cases ho:oneOf ["in","out","both"] s.skip with
  |none=>rw[ho] at this;exact this
  |some k=>rw[ho] at this;exact this
 rw[if_neg c4];exact E1 (nt ↑0) ((OU _).trans (bD (aI (λh=>c1 (jz.mpr h.symm)) (aI (λh=>c2 (iG.mpr h.symm)) (aI (λh=>c3 (Bu.mpr h.symm)) (aI (λh=>c4 (v_.mpr h.symm)) all_nil)))))) rfl
theorem DO:∀(fu:Nat)(s:St)(f:Fm)(l:List Pt)(G:List Fr){α:Type}{q:List Sym}{g:List Mode×St->Except Fault α}{Q:α->St->List Fr->Prop},len s+2<=fu->(∀r:List Mode×St,¬r.2.sign "{"=true->g r= .error (bad z r.2))->
  (∀(a:List Mode×St)(ps:List Pt),len a.2<len s->ps.length=a.1.length->cq ps=a.1.flatMap Mode.bytes->cI ps=[]->Sm e z q a.2 (⟨f,l++ps⟩::G) (g a) Q)->Sm e z (.w HM::.w xt::q) s (⟨f,l⟩::G) (modesIn z fu s>>=g) Q
 |0,s,f,l,G,_,_,_,_,h,_,_=>by omega
 |fu+1,s,f,l,G,_,q,g,Q,hf,hg,h=>by
  unfold modesIn;rw[ba];refine N8 ↑2 (λr h1 h2=>?_) λa p ha hb hk=>?_
  ·dsimp only;rw[bi,if_neg h1];exact hg ([r.1],r.2) h2
  ·dsimp only;rw[bi];by_cases c:a.2.sign ","=true
   ·rw[if_pos c];refine mX pq (eA.mp c) ↑0 (bj c eA (.inr rfl) λhl=>?_);rw[ba];refine DO fu a.2.skip f (l++[p]) G ↑2 (λr h2=>hg (a.1::r.1,r.2) h2) λb ps h3 h4 h5 h6=>?_;have:=h (a.1::b.1,b.2) (p::ps) (by show len b.2<len s;omega) (by show ps.length+1=b.1.length+1;rw[h4]) (by show yb p++cq ps=a.1.bytes++b.1.flatMap Mode.bytes;rw[hb,h5]) (by show yk p++cI ps=[];rw[hk,h6];rfl);rw[List.append_assoc];exact this
   ·rw[if_neg c];refine mD tS yp (d1 λh=>c (eA.mpr h.symm)) ↑0 ?_;exact h ([a.1],a.2) [p] ha rfl (by show yb p++[]=a.1.bytes++[];rw[hb]) (by show yk p++[]=[];rw[hk];rfl)
def OM(z:Fault)(fu a:Nat)(r:Expr×List Mark×St):Except Fault (Stmt×List Mark×St):=if endsCall r.1=true then .ok (.call r.1,marked 98 a r.2.2 r.2.1,r.2.2) else eat z (r.2.2.sign "=") r.2.2>>=λs=>exprIn z fu 0 s>>=λy=>.ok (.assign r.1 y.1,marked 97 a y.2.2 (r.2.1++y.2.1),y.2.2)
def Bb(x:Expr):Nat:=if endsCall x=true then h8 else qp
theorem qh{fv:Nat}:∀(fu a:Nat)(x:Expr)(m:List Mark)(p:Pt)(s s0:St)(f:Fm)(l:List Pt)(G:List Fr),len s<len s0->24*len s+14<=fu->24*len s+14<=fv->yb p=Expr.bytes x->yk p=m.map yt->(∀b,st p b=s0)->s0.here=a->Sm e z [.w (Bb x)] s (⟨f,l++[p]⟩::G) (postIn z fu a x m s>>=OM z fv a) (PP Stmt.bytes s0 f l G)
 |0,_,_,_,_,_,_,_,_,_,_,h,_,_,_,_,_=>by omega
 |fu+1,a,x,m,p,s,s0,f,l,G,h0,hf,hv,hb,hk,hs,ha=>by
  have i:=vS e z fu;unfold postIn;rw[bi];have ne1:∀y:Expr,endsCall y=false->Bb y=qp:=λy h=>if_neg (by rw[h];decide);by_cases c1:s.sign "("=true
  ·rw[if_pos c1];have hr:row (Bb x) 107=some [.w MV,.w h8]:=by
    unfold Bb;split
    ·exact lE
    ·exact AN
   have h1000:1000<=Bb x:=by unfold Bb;split <;> decide
   refine mX hr (kX.mp c1) h1000 (mD Aj GF d0 ↑0 (bJ (AL (bj c1 kX (.inr rfl) λhl=>?_))));rw[ba];refine mB (r:=[.bg .count,.w fU,.fin,.w 108]) (GO i ↑2) λb s2 G2 ⟨e1,e2,qs,cb,ch,e3,e4,e5,e6⟩=>?_;subst e1 e3;refine cS rfl (qh fu a (.call x b.1) _ _ b.2.2 s0 f l G ↑2 ↑2 ↑2 ?_ (sr ?_ (by rw[hs];omega) (by rw[hs];exact ha)) (λ_=>hs _) ha)
   ·show kind 43++(yb p++((count qs.length++cq qs)++[]))=kind 43++(x.bytes++(count b.1.length++(exprsBytes b.1).flatten));rw[hb,e4,e5,List.append_nil]
   ·show yk p++(([]++cI qs)++[])=_;rw[hk,e6,List.append_nil,List.map_append];rfl
  rw[if_neg c1,bi];by_cases c2:s.sign "["=true
  ·rw[if_pos c2];have hr:row (Bb x) 109=some [.w Lu,.w qp]:=by
    unfold Bb;split
    ·exact kN
    ·exact BN
   have h1000:1000<=Bb x:=by unfold Bb;split <;> decide
   refine mX hr (nh.mp c2) h1000 (mD uT D3 d0 ↑0 (bJ (AL (bj c2 nh (.inr rfl) λhl=>?_))));rw[ba];refine cP (B2 ↑2) λb q h2 hb2 hk2 zq=>?_;rw[ba];refine cV xj ↑0 (.inr rfl) λs3 h3=>cS rfl (qh fu a (.index x b.1) _ _ s3 s0 f l G ↑2 ↑2 ↑2 ?_ (sr ?_ (by rw[hs];omega) (by rw[hs];exact ha)) (λ_=>hs _) ha)
   ·show kind 44++(yb p++(yb q++[]))=kind 44++(x.bytes++b.1.bytes);rw[hb,hb2,List.append_nil]
   ·show yk p++(yk q++[])=_;rw[hk,hk2,List.append_nil,List.map_append]
  rw[if_neg c2,bi];by_cases c3:s.sign "."=true
  ·rw[if_pos c3];have hr:row (Bb x) 115=some [.w Hc,.w qp]:=by
    unfold Bb;split
    ·exact kY
    ·exact Bm
   have h1000:1000<=Bb x:=by unfold Bb;split <;> decide
   refine mX hr (n0.mp c3) h1000 (mD sT za d0 ↑0 (bJ (AL (bj c3 n0 (.inr rfl) λhl=>?_))));rw[ba];refine cK (k:=1) ↑0 λb h2=>cS rfl (qh fu a (.field x b.1) _ _ b.2 s0 f l G ↑2 ↑2 ↑2 ?_ (sr ?_ (by rw[hs];omega) (by rw[hs];exact ha)) (λ_=>hs _) ha)
   ·show kind 45++(yb p++(short b.1++[]))=kind 45++(x.bytes++short b.1);rw[hb,List.append_nil]
   ·show yk p++([]++[])=_;rw[hk];simp
  rw[if_neg c3];show Sm e z _ _ _ (OM z fv a (x,m,s)) _;unfold OM Bb;dsimp only;by_cases c4:endsCall x=true
  ·rw[if_pos c4,if_pos c4];refine mD m8 tE (aI (λh=>c1 (kX.mpr h.symm)) (aI (λh=>c2 (nh.mpr h.symm)) (d1 λh=>c3 (n0.mpr h.symm)))) ↑0 (bJ (AL (aY ?_ ?_ h0 (hs _) ha)))
   ·show kind 98++(yb p++[])=kind 98++x.bytes;rw[hb,List.append_nil]
   ·show yk p++[]=_;rw[hk,List.append_nil]
  ·rw[if_neg c4,if_neg c4];by_cases c5:s.sign "="=true
   ·refine mX B6 (GZ.mp c5) ↑0 (bJ (AL (cV GZ ↑0 (.inr rfl) λs1 h1=>cP (B2 ↑2) λy q h2 hb2 hk2 zq=>aY ?_ ?_ ↑2 (hs _) ha)))
    ·show kind 97++(yb p++(yb q++[]))=kind 97++(x.bytes++y.1.bytes);rw[hb,hb2,List.append_nil]
    ·show yk p++(yk q++[])=_;rw[hk,hk2,List.append_nil,List.map_append]
   ·rw[show eat z (s.sign "=") s= .error (bad z s) from if_neg c5];exact E1 (nt ↑0) ((Kv _).trans (bD (aI (λh=>c1 (kX.mpr h.symm)) (aI (λh=>c2 (nh.mpr h.symm)) (aI (λh=>c3 (n0.mpr h.symm)) (aI (λh=>c5 (GZ.mpr h.symm)) all_nil)))))) rfl
def bb(b:Block):Bytes:=count b.length++b.bytes
structure Po(e:Bool)(z:Fault)(fu:Nat):Prop where
 t:∀s f l G,24*len s+14<=fu->Sm e z [.w oX] s (⟨f,l⟩::G) (stmtIn z fu s) (PP Stmt.bytes s f l G)
 b:∀s f l G,24*len s+14<=fu->Sm e z [.w DB] s (⟨f,l⟩::G) (blockIn z fu s) (PP bb s f l G)
 l:∀s cc ps G,24*len s+15<=fu->Sm e z [.w lJ,.w 112] s (⟨.count cc,ps⟩::G) (stmtsIn z fu s) λa s' G'=>s'=a.2.2/\len a.2.2<len s/\∃qs,G'=⟨.count cc,ps++qs⟩::G/\qs.length=a.1.length/\cq qs=a.1.bytes/\cI qs=a.2.1.map yt
 r:∀s cc ps f l G,s.key "if"=true->24*len s+14<=fu+24->Sm e z [.w tq,.w eM] s (⟨.count cc,ps⟩::⟨f,l⟩::G) (branchesIn z fu s.skip) λa s' G'=>s'=a.2.2/\len a.2.2<len s/\∃qs rs cb ch,G'=⟨f,l++[.bo (.count cb) ch (ps++qs)]++rs⟩::G/\qs.length=a.1.length/\cq qs++cq rs=a.1.bytes/\cI qs++cI rs=a.2.1.map yt
 c:∀s cc ps f l G,24*len s+14<=fu->Sm e z [.w x',.fin,.w BF,.w 112] s (⟨.count cc,ps⟩::⟨f,l⟩::G) (casesIn z fu s) λa s' G'=>s'=a.2.2/\len a.2.2<len s/\∃qs rs cb ch,G'=⟨f,l++[.bo (.count cb) ch (ps++qs)]++rs⟩::G/\qs.length=a.1.length/\cq qs++cq rs=a.1.bytes/\cI qs++cI rs=a.2.1.map yt
theorem tb(i:Po e z fu)(s:St)(f:Fm)(l:List Pt)(G:List Fr)(hf:24*len s+14<=fu+1):Sm e z [.w DB] s (⟨f,l⟩::G) (blockIn z (fu+1) s) (PP bb s f l G):=by
 unfold blockIn;refine mD Fg Lp d0 ↑0 (bJ (cV FP ↑0 (.inr rfl) λs1 h1=>?_));have h:=i.l s1 s [] (⟨f,l⟩::G) ↑2;have:=mB (q:=[.fin]) (k:=λr=>.ok r) (R:=PP bb s f l G) h λa s2 G2 ⟨e1,e2,qs,e3,e4,e5,e6⟩=>by
  subst e1 e3;refine cS rfl (mN ⟨rfl,by show len a.2.2<len s;omega,_,rfl,?_,?_,λ_=>rfl⟩)
  ·show count ([]++qs).length++cq ([]++qs)=count a.1.length++a.1.bytes;rw[List.nil_append,e4,e5]
  ·show cI ([]++qs)=_;rw[List.nil_append,e6]
 have e0:(stmtsIn z fu s1>>=λr=>Except.ok r)=stmtsIn z fu s1:=by cases stmtsIn z fu s1 <;> rfl
 rw[e0] at this;exact this
theorem tl(i:Po e z fu)(s cc:St)(ps:List Pt)(G:List Fr)(hf:24*len s+15<=fu+1):Sm e z [.w lJ,.w 112] s (⟨.count cc,ps⟩::G) (stmtsIn z (fu+1) s) λa s' G'=>s'=a.2.2/\len a.2.2<len s/\∃qs,G'=⟨.count cc,ps++qs⟩::G/\qs.length=a.1.length/\cq qs=a.1.bytes/\cI qs=a.2.1.map yt:=by
 unfold stmtsIn;by_cases c:s.sign "}"=true
 ·exact mT c (mX pL (Fy.mp c) ↑0 (bj c Fy (.inr rfl) λhl=>mN ⟨rfl,by show len s.skip<len s;omega,[],by rw[List.append_nil],rfl,rfl,rfl⟩))
 ·refine mF c (mD rH wJ (d1 λh=>c (Fy.mpr h.symm)) ↑0 (cP (i.t s _ _ _ ↑2) λa p h1 hb hk zp=>mB (q:=[]) (i.l a.2.2 cc (ps++[p]) G ↑2) λb s2 G2 ⟨e1,e2,qs,e3,e4,e5,e6⟩=>?_));subst e1 e3;refine mN ⟨rfl,by show len b.2.2<len s;omega,p::qs,by rw[List.append_assoc];rfl,by show qs.length+1=b.1.length+1;rw[e4],?_,?_⟩
  ·show yb p++cq qs=a.1.bytes++b.1.bytes;rw[hb,e5]
  ·show yk p++cI qs=_;rw[hk,e6,List.map_append]
theorem tr(i:Po e z fu)(s cc:St)(ps:List Pt)(f:Fm)(l:List Pt)(G:List Fr)(c:s.key "if"=true)(hf:24*len s+14<=fu+1+24):Sm e z [.w tq,.w eM] s (⟨.count cc,ps⟩::⟨f,l⟩::G) (branchesIn z (fu+1) s.skip) λa s' G'=>s'=a.2.2/\len a.2.2<len s/\∃qs rs cb ch,G'=⟨f,l++[.bo (.count cb) ch (ps++qs)]++rs⟩::G/\qs.length=a.1.length/\cq qs++cq rs=a.1.bytes/\cI qs++cI rs=a.2.1.map yt:=by
 unfold branchesIn;refine mD AQ Hb d0 ↑0 (bJ (bj c y_ (.inl rfl) λhl=>cP (B2 ↑2) λx p h1 hb1 hk1 zp=>cP (i.b _ _ _ _ ↑2) λb q h2 hb2 hk2 zq=>cS rfl ?_));have r1:yb (.bo (Fk.row.at s) b.2.2 ([]++[p]++[q]))=x.1.bytes++(count b.1.length++b.1.bytes):=by
  show[]++(yb p++(yb q++[]))=_;rw[hb1,hb2,List.append_nil];rfl
 have r2:yk (.bo (Fk.row.at s) b.2.2 ([]++[p]++[q]))=(x.2.1++b.2.1).map yt:=by
  show yk p++(yk q++[])=_;rw[hk1,hk2,List.append_nil,List.map_append]
 generalize (Pt.bo (Fk.row.at s) b.2.2 ([]++[p]++[q]))=w at r1 r2;by_cases c1:b.2.2.key "else"=true
 ·refine mT c1 (mX iK (j_.mp c1) ↑0 (bj c1 j_ (.inl rfl) λhl1=>?_));by_cases c2:b.2.2.skip.key "if"=true
  ·refine mT c2 (mX md (y_.mp c2) ↑0 (mB (q:=[]) (i.r b.2.2.skip cc (ps++[w]) f l G c2 ↑2) λd s2 G2 ⟨e1,e2,qs,rs,cb,ch,e3,e4,e5,e6⟩=>?_));subst e1 e3;refine mN ⟨rfl,by show len d.2.2<len s;omega,w::qs,rs,_,_,by rw[List.append_assoc ps];rfl,by show qs.length+1=d.1.length+1;rw[e4],?_,?_⟩
   ·show(yb w++cq qs)++cq rs=x.1.bytes++(count b.1.length++(b.1.bytes++d.1.bytes));rw[r1,List.append_assoc,e5,List.append_assoc,List.append_assoc]
   ·show(yk w++cI qs)++cI rs=_;rw[r2,List.append_assoc,e6];show _=(x.2.1++(b.2.1++d.2.1)).map yt;rw[<-List.append_assoc,<-List.map_append]
  ·refine mF c2 (mD pj uf (d1 λh=>c2 (y_.mpr h.symm)) ↑0 (cS rfl (d7 (cP (i.b _ _ _ _ ↑2) λd o h3 hb3 hk3 zo=>mN ⟨rfl,by show len d.2.2<len s;omega,[w],[.leaf [1],o],_,_,by rw[List.append_assoc];rfl,rfl,?_,?_⟩))))
   ·show(yb w++[])++([1]++(yb o++[]))=x.1.bytes++(count b.1.length++(b.1.bytes++(1::(count d.1.length++d.1.bytes))));rw[r1,hb3,List.append_nil,List.append_nil,List.append_assoc,List.append_assoc];rfl
   ·show(yk w++[])++([]++(yk o++[]))=_;rw[r2,hk3,List.append_nil,List.append_nil,List.nil_append,<-List.map_append,List.append_assoc]
 ·refine mF c1 (mD lj pK (d1 λh=>c1 (j_.mpr h.symm)) ↑0 (cS rfl (d7 (mN ⟨rfl,by show len b.2.2<len s;omega,[w],[.leaf [0]],_,_,rfl,rfl,?_,?_⟩))))
  ·show(yb w++[])++([0]++[])=x.1.bytes++(count b.1.length++(b.1.bytes++[0]));rw[r1,List.append_nil,List.append_assoc,List.append_assoc];rfl
  ·show(yk w++[])++([]++[])=_;rw[r2];simp
theorem tc(i:Po e z fu)(s cc:St)(ps:List Pt)(f:Fm)(l:List Pt)(G:List Fr)(hf:24*len s+14<=fu+1):Sm e z [.w x',.fin,.w BF,.w 112] s (⟨.count cc,ps⟩::⟨f,l⟩::G) (casesIn z (fu+1) s) λa s' G'=>s'=a.2.2/\len a.2.2<len s/\∃qs rs cb ch,G'=⟨f,l++[.bo (.count cb) ch (ps++qs)]++rs⟩::G/\qs.length=a.1.length/\cq qs++cq rs=a.1.bytes/\cI qs++cI rs=a.2.1.map yt:=by
 unfold casesIn;by_cases c1:s.key "is"=true
 ·refine mT c1 (mX Bd (Mu.mp c1) ↑0 (bJ (bj c1 Mu (.inl rfl) λhl=>cP (Le ↑2) λt p h1 hb1 hk1 zp=>cK (k:=1) ↑0 λn hn=>cP (i.b _ _ _ _ ↑2) λb q h2 hb2 hk2 zq=>cS rfl ?_)));have r1:yb (.bo (Fk.row.at s) b.2.2 ([]++[p]++[.leaf (BO 1 n.1)]++[q]))=t.1.bytes++(short n.1++(count b.1.length++b.1.bytes)):=by
   show[]++(yb p++(short n.1++(yb q++[])))=_;rw[hb1,hb2,List.append_nil];rfl
  have r2:yk (.bo (Fk.row.at s) b.2.2 ([]++[p]++[.leaf (BO 1 n.1)]++[q]))=(t.2.1++b.2.1).map yt:=by
   show yk p++([]++(yk q++[]))=_;rw[hk1,hk2,List.append_nil,List.map_append];rfl
  generalize (Pt.bo (Fk.row.at s) b.2.2 ([]++[p]++[.leaf (BO 1 n.1)]++[q]))=w at r1 r2;refine mB (q:=[]) (i.c b.2.2 cc (ps++[w]) f l G ↑2) λd s2 G2 ⟨e1,e2,qs,rs,cb,ch,e3,e4,e5,e6⟩=>?_;subst e1 e3;refine mN ⟨rfl,by show len d.2.2<len s;omega,w::qs,rs,_,_,by rw[List.append_assoc ps];rfl,by show qs.length+1=d.1.length+1;rw[e4],?_,?_⟩
  ·show(yb w++cq qs)++cq rs=t.1.bytes++(short n.1++(count b.1.length++(b.1.bytes++d.1.bytes)));rw[r1,List.append_assoc,e5,List.append_assoc,List.append_assoc,List.append_assoc]
  ·show(yk w++cI qs)++cI rs=_;rw[r2,List.append_assoc,e6];show _=(t.2.1++(b.2.1++d.2.1)).map yt;rw[<-List.append_assoc,<-List.map_append]
 refine mF c1 (mD EY Lg (d1 λh=>c1 (Mu.mpr h.symm)) ↑0 (cS rfl ?_));by_cases c2:s.key "else"=true
 ·refine mT c2 (mX zB (j_.mp c2) ↑0 (bj c2 j_ (.inl rfl) λhl=>d7 (cP (i.b _ _ _ _ ↑2) λb q h2 hb2 hk2 zq=>cV Fy ↑0 (.inr rfl) λs3 h3=>mN ⟨rfl,by show len s3<len s;omega,[],[.leaf [1],q],_,_,by rw[List.append_nil,List.append_assoc];rfl,rfl,?_,?_⟩)))
  ·show[]++([1]++(yb q++[]))=1::(count b.1.length++b.1.bytes);rw[hb2,List.append_nil];rfl
  ·show[]++([]++(yk q++[]))=_;rw[hk2,List.append_nil];rfl
 ·exact mF c2 (mD Js MC (d1 λh=>c2 (j_.mpr h.symm)) ↑0 (d7 (cV Fy ↑0 (.inr rfl) λs3 h3=>mN ⟨rfl,by show len s3<len s;omega,[],[.leaf [0]],_,_,by rw[List.append_nil],rfl,rfl,rfl⟩)))
theorem T8(h:24*len s<=fu):Sm e z [.w Tc] s (⟨f,l⟩::G) (if s.key "to"=true then(exprIn z fu 0 s.skip).map λ(z:Expr×List Mark×St)=>(some z.1,z.2) else .ok (none,[],s):Except Fault ((Option Expr)×List Mark×St)) (PA (maybe Expr.bytes) s f l G):=by
 by_cases c:s.key "to"=true
 ·refine mT c (mX JO (OA.mp c) ↑0 (bj c OA (.inl rfl) λhl=>d7 (mM (B2 ↑2) λa s' G' ⟨h1,h2,p,h3,h4,h5,_⟩=>?_)));refine⟨h1,by show len a.2.2<=len s;omega,[.leaf [1],p],by rw[h3,List.append_assoc];rfl,?_,?_⟩
  ·show[1]++(yb p++[])=1::a.1.bytes;rw[h4,List.append_nil];rfl
  ·show[]++(yk p++[])=_;rw[h5,List.append_nil];rfl
 ·exact mF c (mD NQ SU (d1 λh=>c (OA.mpr h.symm)) ↑0 (d7 (mN ⟨rfl,Nat.le_refl _,[.leaf [0]],rfl,rfl,rfl⟩)))
theorem MG{g:Option Bytes×St->Except Fault α}{Q:α->St->List Fr->Prop}(h:∀(a:Option Bytes×St)(ps:List Pt),len a.2<=len s->cq ps=maybe short a.1->cI ps=[]->Sm e z q a.2 (⟨f,l++ps⟩::G) (g a) Q):
  Sm e z (.w MX::q) s (⟨f,l⟩::G) ((if s.key "into"=true then(EwTree.take z 1 s.skip).map λ(x:Bytes×St)=>(some x.1,x.2) else .ok (none,s):Except Fault (Option Bytes×St))>>=g) Q:=by
 by_cases c:s.key "into"=true
 ·rw[if_pos c];have e1:((EwTree.take z 1 s.skip).map (λ(x:Bytes×St)=>(some x.1,x.2))>>=g)=(EwTree.take z 1 s.skip>>=λx=>g (some x.1,x.2)):=by cases EwTree.take z 1 s.skip <;> rfl
  rw[e1];refine mX An (AZ.mp c) ↑0 (bj c AZ (.inl rfl) λhl=>d7 (cK (k:=1) ↑0 λa ha=>?_));have:=h (some a.1,a.2) [.leaf [1],.leaf (short a.1)] (by show len a.2<=len s;omega) (by show[1]++(short a.1++[])=_;rw[List.append_nil];rfl) rfl;rw[List.append_assoc];exact this
 ·rw[if_neg c];exact mD HP NK (d1 λh=>c (AZ.mpr h.symm)) ↑0 (d7 (h (none,s) [.leaf [0]] (Nat.le_refl _) rfl rfl))
theorem KH{x:Except Fault α}{Q:α->St->List Fr->Prop}(h:∀ps,len (Cc s).2<=len s->cq ps=maybe long (Cc s).1->cI ps=[]->Sm e z q (Cc s).2 (⟨f,l++ps⟩::G) x Q):Sm e z (.w ui::q) s (⟨f,l⟩::G) x Q:=by
 by_cases c:lk e s=203
 ·obtain⟨t,r,e1,e2⟩:=(cM (k:=4) ↑0).mpr c;obtain⟨p,ts⟩:=s;have e1:ts=t::r:=e1;subst e1;have eo:Cc ⟨p,t::r⟩=(some t.bytes,⟨t.halt_,r⟩):=if_pos e2;rw[eo] at h;refine mX ka c ↑0 (d7 (Eg (k:=4) ↑0 e2 ?_));have:=h [.leaf [1],.leaf (long t.bytes)] (Nat.le_succ _) (by show[1]++(long t.bytes++[])=1::long t.bytes;rw[List.append_nil];rfl) rfl;rw[List.append_assoc];exact this
 ·have eo:Cc s=(none,s):=by
   obtain⟨p,ts⟩:=s;cases ts with
   |nil=>rfl
   |cons t r=>exact if_neg λk=>c ((cM (k:=4) ↑0).mp ⟨t,r,rfl,k⟩)
  rw[eo] at h;exact mD pF uq (d1 λk=>c k.symm) ↑0 (d7 (h [.leaf [0]] (Nat.le_refl _) rfl rfl))
theorem tt(i:Po e z fu)(s:St)(f:Fm)(l:List Pt)(G:List Fr)(hf:24*len s+14<=fu+1):Sm e z [.w oX] s (⟨f,l⟩::G) (stmtIn z (fu+1) s) (PP Stmt.bytes s f l G):=by
 unfold stmtIn;by_cases c1:s.key "let"=true
 ·exact mT c1 (mX pE (zJ.mp c1) ↑0 (LH c1 (B:=Stmt.bytes) (mk:=λn t x=>Stmt.let_ n t x) (λn t x=>rfl) ↑2))
 refine mF c1 ?_;by_cases c2:s.key "flags"=true
 ·refine mT c2 (mX lz (eQ.mp c2) ↑0 (bJ (bj c2 eQ (.inl rfl) λhl=>cV GZ ↑0 (.inr rfl) λs1 h1=>cP (B2 ↑2) λa p h2 hb hk zp=>aY ?_ ?_ ↑2)))
  ·show kind 99++(yb p++[])=kind 99++a.1.bytes;rw[hb,List.append_nil]
  ·show yk p++[]=_;rw[hk,List.append_nil]
 refine mF c2 ?_;by_cases c3:s.key "if"=true
 ·refine mT c3 (mX tN (y_.mp c3) ↑0 (bJ (bJ (mB (r:=[.w tq,.w eM]) (i.r s _ [] _ _ _ c3 ↑2) λa s2 G2 ⟨e1,e2,qs,rs,cb,ch,e3,e4,e5,e6⟩=>?_))));subst e1 e3;refine aY ?_ ?_ ↑2
  ·show kind 100++((count ([]++qs).length++cq ([]++qs))++cq rs)=kind 100++(count a.1.length++a.1.bytes);rw[List.nil_append,e4,List.append_assoc,e5]
  ·show cI ([]++qs)++cI rs=_;rw[List.nil_append,e6]
 refine mF c3 ?_;by_cases c4:s.key "while"=true
 ·refine mT c4 (mX lW (yq.mp c4) ↑0 (bJ (bj c4 yq (.inl rfl) λhl=>cP (B2 ↑2) λa p h2 hb hk zp=>cP (i.b _ _ _ _ ↑2) λb q h3 hb2 hk2 zq=>aY ?_ ?_ ↑2)))
  ·show kind 101++(yb p++(yb q++[]))=kind 101++(a.1.bytes++(count b.1.length++b.1.bytes));rw[hb,hb2,List.append_nil];rfl
  ·show yk p++(yk q++[])=_;rw[hk,hk2,List.append_nil,List.map_append]
 refine mF c4 ?_;by_cases c5:s.key "for"=true
 ·refine mT c5 (mX pX (F6.mp c5) ↑0 (bJ (bj c5 F6 (.inl rfl) λhl=>cK (k:=1) ↑0 λn hn=>cV Lw ↑0 (.inl rfl) λs1 h1=>cP (B2 ↑2) λa p h2 hb hk zp=>cA (T8 ↑2) λt ps h3 hb3 hk3=>cP (i.b _ _ _ _ ↑2) λb q h4 hb2 hk2 zq=>aY ?_ ?_ ↑2)))
  ·show kind 102++cq ([]++[.leaf (short n.1)]++[p]++ps++[q])=kind 102++(short n.1++(a.1.bytes++(maybe Expr.bytes t.1++(count b.1.length++b.1.bytes))));rw[ia,qS,ia,hb,hb2,hb3];show kind 102++((((short n.1++[])++_)++_)++_)=_;rw[List.append_nil,List.append_assoc,List.append_assoc];rfl
  ·show cI ([]++[.leaf (short n.1)]++[p]++ps++[q])=_;rw[ir,uM,ir,hk,hk2,hk3,List.map_append,List.map_append];show(([]++_)++_)++_=_;rw[List.nil_append,List.append_assoc]
 refine mF c5 ?_;by_cases c6:s.key "match"=true
 ·refine mT c6 (mX lg (x_.mp c6) ↑0 (bJ (bj c6 x_ (.inl rfl) λhl=>cP (B2 ↑2) λa p h2 hb hk zp=>cV FP ↑0 (.inr rfl) λs1 h1=>bJ (mB (r:=[.w x',.fin,.w BF,.w 112]) (i.c s1 _ [] _ _ _ ↑2) λb s2 G2 ⟨e1,e2,qs,rs,cb,ch,e3,e4,e5,e6⟩=>?_))));subst e1 e3;refine aY ?_ ?_ ↑2
  ·show kind 103++(yb p++((count ([]++qs).length++cq ([]++qs))++cq rs))=kind 103++(a.1.bytes++(count b.1.length++b.1.bytes));rw[List.nil_append,e4,List.append_assoc,e5,hb]
  ·show yk p++(([]++cI ([]++qs))++cI rs)=_;rw[List.nil_append,List.nil_append,e6,hk,List.map_append]
 refine mF c6 ?_;by_cases c7:s.key "return"=true
 ·refine mT c7 (mX jZ (qW.mp c7) ↑0 (bJ (bj c7 qW (.inl rfl) λhl=>cP (B2 ↑2) λa p h2 hb hk zp=>aY ?_ ?_ ↑2)))
  ·show kind 104++(yb p++[])=kind 104++a.1.bytes;rw[hb,List.append_nil]
  ·show yk p++[]=_;rw[hk,List.append_nil]
 refine mF c7 ?_;by_cases c8:s.key "leave"=true
 ·exact mT c8 (mX kn (vT.mp c8) ↑0 (bJ (bj c8 vT (.inl rfl) λhl=>aY rfl rfl ↑2)))
 refine mF c8 ?_;by_cases c9:s.key "break"=true
 ·exact mT c9 (mX kI (vW.mp c9) ↑0 (bJ (bj c9 vW (.inl rfl) λhl=>aY rfl rfl ↑2)))
 refine mF c9 ?_;by_cases c10:s.key "next"=true
 ·exact mT c10 (mX mY (BH.mp c10) ↑0 (bJ (bj c10 BH (.inl rfl) λhl=>aY rfl rfl ↑2)))
 refine mF c10 ?_;by_cases c11:s.key "with"=true
 ·refine mT c11 (mX nD (Bn.mp c11) ↑0 (bJ (bj c11 Bn (.inl rfl) λhl=>bJ (DO fu s.skip _ _ _ ↑2 (λr h=>?_) λa ps h1 h2 hb hk=>cS rfl (cP (i.b _ _ _ _ ↑2) λb q h3 hb2 hk2 zq=>aY ?_ ?_ ↑2)))))
  ·obtain⟨fu,rfl⟩:∃k,fu=k+1:=⟨fu - 1,↑2⟩
   dsimp only;unfold blockIn;rw[show eat z (r.2.sign "{") r.2= .error (bad z r.2) from if_neg h];rfl
  ·show kind 108++((count ([]++ps).length++cq ([]++ps))++(yb q++[]))=kind 108++(count a.1.length++(a.1.flatMap Mode.bytes++(count b.1.length++b.1.bytes)));rw[List.nil_append,h2,hb,hb2,List.append_nil,List.append_assoc];rfl
  ·show([]++cI ([]++ps))++(yk q++[])=_;rw[List.nil_append,List.nil_append,hk,hk2,List.append_nil];rfl
 refine mF c11 ?_;by_cases c12:s.key "try"=true
 ·refine mT c12 (mX pO (Jd.mp c12) ↑0 (bJ (bj c12 Jd (.inl rfl) λhl=>cP (i.b _ _ _ _ ↑2) λa p h2 hb hk zp=>?_)));by_cases d1':a.2.2.key "catch"=true
  ·refine mT d1' (mX jC (vV.mp d1') ↑0 (bj d1' vV (.inl rfl) λhl2=>d7 (cK (k:=1) ↑0 λn hn=>cP (i.b _ _ _ _ ↑2) λb q h3 hb2 hk2 zq=>?_)));by_cases d2':b.2.2.key "finally"=true
   ·refine mT d2' (mX fH (d_.mp d2') ↑0 (bj d2' d_ (.inl rfl) λhl3=>d7 (cP (i.b _ _ _ _ ↑2) λd o h4 hb4 hk4 zo=>aY ?_ ?_ ↑2)))
    ·show kind 109++(yb p++([1]++(short n.1++(yb q++([1]++(yb o++[]))))))=kind 109++(count a.1.length++(a.1.bytes++(1::(short n.1++(count b.1.length++(b.1.bytes++(1::(count d.1.length++d.1.bytes))))))));rw[hb,hb2,hb4,List.append_nil];unfold bb;simp only[List.append_assoc,List.cons_append,List.nil_append]
    ·show yk p++([]++([]++(yk q++([]++(yk o++[])))))=_;rw[hk,hk2,hk4,List.append_nil,List.map_append,List.map_append];rfl
   ·refine mF d2' (mD zt Ej (d1 λh=>d2' (d_.mpr h.symm)) ↑0 (d7 (aY ?_ ?_ ↑2)))
    ·show kind 109++(yb p++([1]++(short n.1++(yb q++([0]++[])))))=kind 109++(count a.1.length++(a.1.bytes++(1::(short n.1++(count b.1.length++(b.1.bytes++[0]))))));rw[hb,hb2];unfold bb;simp only[List.append_assoc,List.cons_append,List.nil_append]
    ·show yk p++([]++([]++(yk q++([]++[]))))=_;rw[hk,hk2,List.map_append];simp
  ·refine mF d1' ?_;by_cases d3':a.2.2.key "finally"=true
   ·refine mX iV (d_.mp d3') ↑0 (d7 (mX fH (d_.mp d3') ↑0 (cV d_ ↑0 (.inl rfl) λs1 h1=>d7 (cP (i.b _ _ _ _ ↑2) λb q h3 hb2 hk2 zq=>aY ?_ ?_ ↑2))))
    ·show kind 109++(yb p++([0]++([1]++(yb q++[]))))=kind 109++(count a.1.length++(a.1.bytes++(0::1::(count b.1.length++b.1.bytes))));rw[hb,hb2,List.append_nil];unfold bb;simp only[List.append_assoc,List.cons_append,List.nil_append]
    ·show yk p++([]++([]++(yk q++[])))=_;rw[hk,hk2,List.append_nil,List.map_append];rfl
   ·rw[show eat z (a.2.2.key "finally") a.2.2= .error (bad z a.2.2) from if_neg d3'];exact E1 (nt ↑0) ((vN _).trans (bD (aI (λh=>d1' (vV.mpr h.symm)) (aI (λh=>d3' (d_.mpr h.symm)) all_nil)))) rfl
 refine mF c12 ?_;by_cases c13:s.key "raise"=true
 ·refine mT c13 (mX lN (vZ.mp c13) ↑0 (bJ (bj c13 vZ (.inl rfl) λhl=>cP (B2 ↑2) λa p h2 hb hk zp=>aY ?_ ?_ ↑2)))
  ·show kind 110++(yb p++[])=kind 110++a.1.bytes;rw[hb,List.append_nil]
  ·show yk p++[]=_;rw[hk,List.append_nil]
 refine mF c13 ?_;by_cases c14:s.key "say"=true
 ·refine mT c14 (mX p9 (HU.mp c14) ↑0 (bJ (bj c14 HU (.inl rfl) λhl=>bJ (mB (r:=[.w cu,.w bM]) ((vS e z fu).li s.skip _ _ _ ↑2) λa s2 G2 ⟨e1,e2,qs,e3,e4,e5,e6⟩=>?_))));subst e1 e3;refine cS rfl (aY ?_ ?_ ↑2)
  ·show kind 111++((count ([]++qs).length++cq ([]++qs))++[])=kind 111++(count a.1.length++(exprsBytes a.1).flatten);rw[List.nil_append,e4,e5,List.append_nil]
  ·show([]++cI ([]++qs))++[]=_;rw[List.nil_append,List.nil_append,e6,List.append_nil]
 refine mF c14 ?_;by_cases c15:s.key "yield"=true
 ·refine mT c15 (mX la (wF.mp c15) ↑0 (bJ (bj c15 wF (.inl rfl) λhl=>cP (B2 ↑2) λa p h2 hb hk zp=>MG λn ps h3 hb3 hk3=>aY ?_ ?_ ↑2)))
  ·show kind 112++(yb p++cq ps)=kind 112++(a.1.bytes++maybe short n.1);rw[hb,hb3]
  ·show yk p++cI ps=_;rw[hk,hk3,List.append_nil]
 refine mF c15 ?_;by_cases c16:s.key "post"=true
 ·refine mT c16 (mX mv (Cp.mp c16) ↑0 (bJ (bj c16 Cp (.inl rfl) λhl=>cP (B2 ↑2) λa p h1 hb1 hk1 zp=>cV El ↑0 (.inr rfl) λs2 h2=>cP (B2 ↑2) λb q h3 hb2 hk2 zq=>cV Ou ↑0 (.inl rfl) λs4 h4=>cP (B2 ↑2) λd o h5 hb3 hk3 zo=>KH λps h6 hb4 hk4=>?_)));refine aY (x:=Stmt.post a.1 b.1 d.1 (Cc d.2.2).1) (m:=a.2.1++(b.2.1++d.2.1)) ?_ ?_ ↑2
  ·show kind 113++(yb p++(yb q++(yb o++cq ps)))=kind 113++(a.1.bytes++(b.1.bytes++(d.1.bytes++maybe long (Cc d.2.2).1)));rw[hb1,hb2,hb3,hb4]
  ·show yk p++(yk q++(yk o++cI ps))=_;rw[hk1,hk2,hk3,hk4,List.append_nil,List.map_append,List.map_append]
 refine mF c16 ?_;by_cases c17:lk e s=200
 ·refine mX oy c17 ↑0 (mD yE IE d0 ↑0 (bJ (cK (k:=1) ↑0 λn hn=>cS rfl ?_)));exact qh (fv:=fu) fu s.here (.name n.1) (marked 37 s.here n.2 []) _ n.2 s f l G ↑2 ↑2 ↑2 (by show kind 37++(short n.1++[])=_;rw[List.append_nil];rfl) (sr rfl (by show len n.2<len s;omega) rfl) (λ_=>rfl) rfl
 ·rw[qe (e:=e) (k:=1) ↑0 c17];exact E1 (nt ↑0) ((Aa _).trans (bD (aI (λh=>c1 (zJ.mpr h.symm)) (aI (λh=>c17 h.symm) (aI (λh=>c2 (eQ.mpr h.symm)) (aI (λh=>c3 (y_.mpr h.symm)) (aI (λh=>c4 (yq.mpr h.symm)) (aI (λh=>c5 (F6.mpr h.symm)) (aI (λh=>c6 (x_.mpr h.symm)) (aI (λh=>c7 (qW.mpr h.symm)) (aI (λh=>c8 (vT.mpr h.symm)) (aI (λh=>c9 (vW.mpr h.symm)) (aI (λh=>c10 (BH.mpr h.symm)) (aI (λh=>c11 (Bn.mpr h.symm)) (aI (λh=>c12 (Jd.mpr h.symm)) (aI (λh=>c13 (vZ.mpr h.symm)) (aI (λh=>c14 (HU.mpr h.symm)) (aI (λh=>c15 (wF.mpr h.symm)) (aI (λh=>c16 (Cp.mpr h.symm)) all_nil))))))))))))))))))) rfl
theorem IP(e:Bool)(z:Fault):∀fu,Po e z fu
 |0=>⟨λs _ _ _ h=>↑2,λs _ _ _ h=>↑2,λs _ _ _ h=>↑2,λs cc ps f l G c h=>by
   obtain⟨p,ts⟩:=s;cases ts with
   |nil=>cases c
   |cons t r=>
    have:1<=len ⟨p,t::r⟩:=Nat.succ_pos _;omega,λs _ _ _ _ _ h=>↑2⟩
 |fu+1=>let i:=IP e z fu;⟨tt i,tb i,tl i,tr i,tc i⟩
def Ub(s:St)(ps:List Pt)(f:Fm)(l:List Pt)(G:List Fr)(a:List (Bytes×Srt)×List Mark×St)(s':St)(G':List Fr):Prop:=s'=a.2.2/\len a.2.2<len s/\∃qs cb ch,G'=⟨f,l++[.bo (.count cb) ch (ps++qs)]⟩::G/\qs.length=a.1.length/\cq qs=(a.1.flatMap λ(x:Bytes×Srt)=>short x.1++x.2.bytes)/\cI qs=a.2.1.map yt
theorem Dx{c:String}(hc:∀s:St,s.sign c=true↔lk e s=n)(hn:n<1000):∀(fu:Nat)(s cc:St)(ps:List Pt)(f:Fm)(l:List Pt)(G:List Fr),2*len s+2<=fu->Sm e z [.w K5,.w uE,.fin,.w n] s (⟨.count cc,ps⟩::⟨f,l⟩::G) (partsIn z c fu s) (Ub s ps f l G)
 |0,s,_,_,_,_,_,h=>by omega
 |fu+1,s,cc,ps,f,l,G,hf=>by
  unfold partsIn;refine mD E9 JL d0 ↑0 (bJ (cK (k:=1) ↑0 λm hm=>cV El ↑0 (.inr rfl) λs1 h1=>cP (Le ↑2) λa p h2 hb hk zp=>cS rfl ?_));have e1:yb (.bo (Fk.row.at s) a.2.2 ([]++[.leaf (BO 1 m.1)]++[p]))=short m.1++a.1.bytes:=by
   show[]++(short m.1++(yb p++[]))=_;rw[List.append_nil,hb];rfl
  have e2:yk (.bo (Fk.row.at s) a.2.2 ([]++[.leaf (BO 1 m.1)]++[p]))=a.2.1.map yt:=by
   show[]++(yk p++[])=_;rw[List.append_nil,hk];rfl
  generalize (Pt.bo (Fk.row.at s) a.2.2 ([]++[.leaf (BO 1 m.1)]++[p]))=q at e1 e2;by_cases c1:a.2.2.sign ","=true
  ·refine mT c1 (mX mJ (eA.mp c1) ↑0 (bj c1 eA (.inr rfl) λhl=>mB (q:=[]) (Dx hc hn fu a.2.2.skip cc (ps++[q]) f l G ↑2) λb s2 G2 ⟨f1,f2,qs,cb,ch,f3,f4,f5,f6⟩=>?_));subst f1 f3;refine mN ⟨rfl,by show len b.2.2<len s;omega,q::qs,_,_,by rw[List.append_assoc];rfl,by show qs.length+1=b.1.length+1;rw[f4],?_,?_⟩
   ·show yb q++cq qs=(short m.1++a.1.bytes)++_;rw[e1,f5];rfl
   ·show yk q++cI qs=_;rw[e2,f6,List.map_append]
  ·refine mF c1 (mD pd ur (d1 λh=>c1 (eA.mpr h.symm)) ↑0 (cS rfl (cV (k:=5) (hc _) hn (.inr rfl) λs2 h3=>mN ⟨rfl,by show len s2<len s;omega,[q],_,_,rfl,rfl,?_,?_⟩)))
   ·show yb q++[]=(short m.1++a.1.bytes)++[];rw[e1]
   ·show yk q++[]=_;rw[e2,List.append_nil]
theorem y6{c:String}(hc:∀s:St,s.sign c=true↔lk e s=n)(hn:n<1000)(hn2:n≠200)(hf:2*len s+2<=fu):Sm e z [.bg .count,.w qE,.fin,.w n] s (⟨f,l⟩::G) (if s.sign c=true then(.ok ([],[],s.skip):Except Fault ((List (Bytes×Srt))×List Mark×St)) else partsIn z c fu s) (Ub s [] f l G):=by
 refine bJ ?_;by_cases c1:s.sign c=true
 ·have hn3:lk e s≠200:=by rw[(hc s).mp c1];exact hn2
  exact mT c1 (mD qR zI (d1 λh=>hn3 h.symm) ↑0 (cS rfl (bj (k:=5) c1 (hc s) (.inr rfl) λhl=>mN ⟨rfl,by show len s.skip<len s;omega,[],_,_,rfl,rfl,rfl,rfl⟩)))
 ·refine mF c1 ?_;by_cases c2:lk e s=200
  ·exact mX uh c2 ↑0 (Dx hc hn fu s _ [] f l G hf)
  ·obtain⟨fu,rfl⟩:∃k,fu=k+1:=⟨fu - 1,↑2⟩
   unfold partsIn;rw[qe (e:=e) (k:=1) ↑0 c2];refine mD qR zI (d1 λh=>c2 h.symm) ↑0 (cS rfl ?_);exact P2 hn (λh=>c1 ((hc s).mpr h))
theorem C9:∀(fu:Nat)(s cc:St)(ps:List Pt)(f:Fm)(l:List Pt)(G:List Fr),len s+1<=fu->Sm e z [.w 200,.w kx,.fin,.w 110] s (⟨.count cc,ps⟩::⟨f,l⟩::G) (namesIn z "]" fu s) λa s' G'=>s'=a.2/\len a.2<len s/\∃qs cb ch,G'=⟨f,l++[.bo (.count cb) ch (ps++qs)]⟩::G/\qs.length=a.1.length/\cq qs=a.1.flatMap short/\cI qs=[]
 |0,s,_,_,_,_,_,h=>by omega
 |fu+1,s,cc,ps,f,l,G,hf=>by
  unfold namesIn;refine cK (k:=1) ↑0 λm hm=>?_;by_cases c1:m.2.sign ","=true
  ·refine mT c1 (mX pA (eA.mp c1) ↑0 (bj c1 eA (.inr rfl) λhl=>mB (q:=[]) (C9 fu m.2.skip _ _ f l G ↑2) λb s2 G2 ⟨f1,f2,qs,cb,ch,f3,f4,f5,f6⟩=>?_));subst f1 f3;refine mN ⟨rfl,by show len b.2<len s;omega,.leaf (short m.1)::qs,_,_,by rw[List.append_assoc];rfl,by show qs.length+1=b.1.length+1;rw[f4],?_,?_⟩
   ·show short m.1++cq qs=short m.1++_;rw[f5];rfl
   ·show[]++cI qs=_;rw[f6];rfl
  ·exact mF c1 (mD sN xO (d1 λh=>c1 (eA.mpr h.symm)) ↑0 (cS rfl (cV xj ↑0 (.inr rfl) λs2 h3=>mN ⟨rfl,by show len s2<len s;omega,[.leaf (short m.1)],_,_,rfl,rfl,rfl,rfl⟩)))
theorem Jj{g:List Bytes×St->Except Fault α}{Q:α->St->List Fr->Prop}(hf:len s<=fu)(h:∀(a:List Bytes×St)(p:Pt),len a.2<=len s->yb p=count a.1.length++a.1.flatMap short->yk p=[]->Sm e z q a.2 (⟨f,l++[p]⟩::G) (g a) Q):
  Sm e z (.w xb::q) s (⟨f,l⟩::G) ((if s.sign "["=true then namesIn z "]" fu s.skip else .ok ([],s))>>=g) Q:=by
 by_cases c:s.sign "["=true
 ·rw[if_pos c];refine mX qc (nh.mp c) ↑0 (bj c nh (.inr rfl) λhl=>bJ (mB (r:=[.w 200,.w kx,.fin,.w 110]) (C9 fu s.skip _ [] f l G ↑2) λa s2 G2 ⟨f1,f2,qs,cb,ch,f3,f4,f5,f6⟩=>?_));subst f1 f3;exact h a _ ↑2 (by show count ([]++qs).length++cq ([]++qs)=_;rw[List.nil_append,f4,f5]) (by show cI ([]++qs)=[];rw[List.nil_append,f6])
 ·rw[if_neg c];exact mD rQ xi (d1 λh=>c (nh.mpr h.symm)) ↑0 (bJ (cS rfl (h ([],s) _ (Nat.le_refl _) rfl rfl)))
theorem RJ(h:2*len s<=fu):Sm e z [.w Hs] s (⟨f,l⟩::G) (if s.sign "->"=true then(sortIn z fu s.skip).map λ(z:Srt×List Mark×St)=>(some z.1,z.2) else .ok (none,[],s):Except Fault ((Option Srt)×List Mark×St)) (PA (maybe Srt.bytes) s f l G):=by
 by_cases c:s.sign "->"=true
 ·refine mT c (mX oE (EA.mp c) ↑0 (bj c EA (.inr rfl) λhl=>d7 (mM (Le ↑2) λa s' G' ⟨h1,h2,p,h3,h4,h5,_⟩=>?_)));refine⟨h1,by show len a.2.2<=len s;omega,[.leaf [1],p],by rw[h3,List.append_assoc];rfl,?_,?_⟩
  ·show[1]++(yb p++[])=1::a.1.bytes;rw[h4,List.append_nil];rfl
  ·show[]++(yk p++[])=_;rw[h5,List.append_nil];rfl
 ·exact mF c (mD qD yM (d1 λh=>c (EA.mpr h.symm)) ↑0 (d7 (mN ⟨rfl,Nat.le_refl _,[.leaf [0]],rfl,rfl,rfl⟩)))
theorem Nc(hf:24*len s+14<=fu):Sm e z [.w jn] s (⟨f,l⟩::G) (declIn z fu s) (PP Decl.bytes s f l G):=by
 unfold declIn;by_cases c1:s.key "let"=true
 ·exact mT c1 (mX lI (zJ.mp c1) ↑0 (LH c1 (B:=Decl.bytes) (mk:=λn t x=>Decl.let_ n t x) (λn t x=>rfl) ↑2))
 refine mF c1 ?_;by_cases c2:s.key "record"=true
 ·refine mT c2 (mX iN (tj.mp c2) ↑0 (bJ (bj c2 tj (.inl rfl) λhl=>cK (k:=1) ↑0 λn hn=>cV FP ↑0 (.inr rfl) λs1 h1=>mB (r:=[.bg .count,.w qE,.fin,.w 112]) (y6 (λs=>Fy) ↑0 ↑0 ↑2) λa s2 G2 ⟨f1,f2,qs,cb,ch,f3,f4,f5,f6⟩=>?_)));subst f1 f3;refine aY ?_ ?_ ↑2
  ·show kind 129++(short n.1++((count ([]++qs).length++cq ([]++qs))++[]))=kind 129++(short n.1++(count a.1.length++_));rw[List.nil_append,f4,f5,List.append_nil]
  ·show[]++(([]++cI ([]++qs))++[])=_;rw[List.nil_append,List.nil_append,List.nil_append,f6,List.append_nil]
 refine mF c2 ?_;by_cases c3:s.key "account"=true
 ·refine mT c3 (mX hZ (eZ.mp c3) ↑0 (bJ (bj c3 eZ (.inl rfl) λhl=>cK (k:=1) ↑0 λn hn=>cK (k:=2) ↑0 λd hd=>aY ?_ rfl ↑2)));show kind 130++(short n.1++(short d.1++[]))=_;rw[List.append_nil];rfl
 refine mF c3 ?_;by_cases c4:s.key "fn"=true
 ·refine mT c4 (mX mj (E'.mp c4) ↑0 (bJ (bj c4 E' (.inl rfl) λhl=>cK (k:=1) ↑0 λn hn=>Jj ↑2 λns p h1 hb1 hk1=>cV kX ↑0 (.inr rfl) λs1 h2=>mB (r:=[.bg .count,.w qE,.fin,.w 108]) (y6 (λs=>h7) ↑0 ↑0 ↑2) λa s2 G2 ⟨f1,f2,qs,cb,ch,f3,f4,f5,f6⟩=>?_)));subst f1 f3;refine cA (RJ ↑2) λt ps h3 hb3 hk3=>cP ((IP e z fu).b _ _ _ _ ↑2) λb q h4 hb4 hk4 zq=>aY ?_ ?_ ↑2
  ·show kind 131++cq ([]++[.leaf (short n.1)]++[p]++[.bo (.count cb) ch ([]++qs)]++ps++[q])=kind 131++(short n.1++(count ns.1.length++(ns.1.flatMap short++((count a.1.length++_)++(maybe Srt.bytes t.1++(count b.1.length++b.1.bytes))))));rw[ia,qS,ia,ia,hb1,hb3,hb4];show kind 131++(((((short n.1++[])++_)++(count ([]++qs).length++cq ([]++qs)))++_)++_)=_;rw[List.nil_append,f4,f5,List.append_nil];unfold bb;simp only[List.append_assoc]
  ·show cI ([]++[.leaf (short n.1)]++[p]++[.bo (.count cb) ch ([]++qs)]++ps++[q])=_;rw[ir,uM,ir,ir,hk1,hk3,hk4,List.map_append,List.map_append];show((([]++[])++([]++cI ([]++qs)))++_)++_=_;rw[List.nil_append,List.nil_append,List.nil_append,List.nil_append,f6,List.append_assoc]
 refine mF c4 ?_;exact E1 (nt ↑0) ((ue _).trans (bD (aI (λh=>c1 (zJ.mpr h.symm)) (aI (λh=>c2 (tj.mpr h.symm)) (aI (λh=>c3 (eZ.mpr h.symm)) (aI (λh=>c4 (E'.mpr h.symm)) all_nil)))))) rfl
theorem ON:lk e s=204->s.toks=[]/\e=false:=by
 intro c;obtain⟨p,ts⟩:=s;cases ts with
 |nil=>
  cases e
  ·exact⟨rfl,rfl⟩
  ·cases c
 |cons t r=>
  have c:lX t=204:=c;have hl:KEYWORDS.length=80:=↑1
  have hs:SIGNS.length=25:=↑1
  unfold lX at c;split at c
  ·split at c
   ·rename_i j hj;have:=(List.findIdx?_eq_some_iff_getElem.mp hj).1;omega
   ·cases c
  split at c
  ·split at c
   ·rename_i j hj;have:=(List.findIdx?_eq_some_iff_getElem.mp hj).1;omega
   ·cases c
  split at c
  ·cases c
  split at c
  ·cases c
  split at c
  ·cases c
  split at c <;> cases c
theorem CV:∀(g:Nat)(s cc:St)(ps:List Pt)(G:List Fr){α:Type}{q:List Sym}{k:List Decl×List Mark×St->Except Fault α}{Q:α->St->List Fr->Prop},24*len s+14<=fu->len s<g->(e=true->∀r,k r= .error z)->
  (e=false->∀(a:List Decl×List Mark×St)(qs:List Pt),len a.2.2<=len s->qs.length=a.1.length->cq qs=a.1.flatMap Decl.bytes->cI qs=a.2.1.map yt->Sm e z q a.2.2 (⟨.count cc,ps++qs⟩::G) (k a) Q)->Sm e z (.w iq::q) s (⟨.count cc,ps⟩::G) (declsIn z fu g s>>=k) Q
 |0,s,_,_,_,_,_,_,_,_,h,_,_=>by omega
 |g+1,s,cc,ps,G,_,q,k,Q,hf,hg,hk,h=>by
  by_cases c:s.toks=[]
  ·have e0:declsIn z fu (g+1) s= .ok ([],[],s):=by
    obtain⟨p,ts⟩:=s;have c:ts=[]:=c;subst c;rfl
   rw[e0];show Sm e z _ _ _ (k ([],[],s)) Q;cases e with
   |false=>
    have hl:lk false s=204:=by unfold lk;rw[c];rfl
    have:=h rfl ([],[],s) [] (Nat.le_refl _) rfl rfl rfl;rw[List.append_nil] at this;exact mX jB hl ↑0 this
   |true=>
    have hl:lk true s=205:=by unfold lk;rw[c];rfl
    rw[hk rfl];have hb:bad z s=z:=by unfold bad;rw[c]
    refine mD f9 ij (d1 (by rw[hl];decide)) ↑0 ?_;have:=E1 (e:=true) (z:=z) (s:=s) (G:=⟨.count cc,ps⟩::G) (n:=jn) (q:=[.w iq]++q) (Q:=Q) (nt ↑0) (by rw[hl];rfl) rfl;rw[hb] at this;exact this
  ·have e0:declsIn z fu (g+1) s=declIn z fu s>>=λr=>declsIn z fu g r.2.2>>=λr2=>.ok (r.1::r2.1,r.2.1++r2.2.1,r2.2.2):=by
    obtain⟨p,ts⟩:=s;cases ts with
    |nil=>exact absurd rfl c
    |cons t r=>rfl
   rw[e0,ba];refine mD f9 ij (d1 λh=>c (ON h.symm).1) ↑0 (cP (Nc hf) λa p h1 hb hk1 zp=>?_);rw[ba];refine CV g a.2.2 cc (ps++[p]) G ↑2 ↑2 (λhe r=>hk he _) λhe b qs h9 h2 h3 h4=>?_;have:=h he (a.1::b.1,a.2.1++b.2.1,b.2.2) (p::qs) (by show len b.2.2<=len s;omega) (by show qs.length+1=b.1.length+1;rw[h2]) (by show yb p++cq qs=a.1.bytes++b.1.flatMap Decl.bytes;rw[hb,h3]) (by show yk p++cI qs=_;rw[hk1,h4,List.map_append]);rw[List.append_assoc];exact this
theorem HH:∀(fu:Nat)(s cc:St)(ps:List Pt)(G:List Fr),len s<fu->Sm e z [.w M4] s (⟨.count cc,ps⟩::G) (usesIn z fu s) λa s' G'=>s'=a.2/\len a.2<=len s/\∃qs,G'=⟨.count cc,ps++qs⟩::G/\qs.length=a.1.length/\cq qs=a.1.flatMap short/\cI qs=[]
 |0,s,_,_,_,h=>by omega
 |fu+1,s,cc,ps,G,hf=>by
  unfold usesIn;by_cases c:s.key "use"=true
  ·refine mT c (mX BG (Je.mp c) ↑0 (bj c Je (.inl rfl) λhl=>cK (k:=1) ↑0 λn hn=>mB (q:=[]) (HH fu n.2 _ _ G ↑2) λb s2 G2 ⟨f1,f2,qs,f3,f4,f5,f6⟩=>?_));subst f1 f3;refine mN ⟨rfl,by show len b.2<=len s;omega,.leaf (short n.1)::qs,by rw[List.append_assoc];rfl,by show qs.length+1=b.1.length+1;rw[f4],?_,?_⟩
   ·show short n.1++cq qs=short n.1++_;rw[f5];rfl
   ·show[]++cI qs=_;rw[f6];rfl
  ·exact mF c (mD Iw NU (d1 λh=>c (Je.mpr h.symm)) ↑0 (mN ⟨rfl,Nat.le_refl _,[],by rw[List.append_nil],rfl,rfl,rfl⟩))
theorem O5(b:Bytes):Sm (tokens b).2.isSome ((tokens b).2.getD (3,b.length)) [.w dv] ⟨0,(tokens b).1⟩ [⟨.row ⟨0,(tokens b).1⟩,[]⟩] (EwTree.read b) λa _ G'=>∃p,G'=[⟨.row ⟨0,(tokens b).1⟩,[p]⟩]/\yb p=a.1.bytes/\yk p=a.2.map yt:=by
 unfold EwTree.read;generalize hx:tokens b=x;dsimp only;have hl:len ⟨0,x.1⟩=x.1.length:=rfl;refine mD yZ E7 d0 ↑0 (bJ (cV GY ↑0 (.inl rfl) λs1 h1=>cK (k:=1) ↑0 λn h2=>bJ (mC (HH _ _ _ [] _ ↑2) λu s2 G2 ⟨f1,f2,qs,f3,f4,f5,f6⟩=>?_)));subst f1 f3;refine cS rfl (bJ (CV _ u.2 _ [] _ ↑2 ↑2 (λhe r=>?_) λhe a rs h9 h3 h4 h5=>cS rfl ?_))
 ·cases hx2:x.2 with
  |none=>rw[hx2] at he;cases he
  |some er=>rfl
 ·cases hx2:x.2 with
  |some er=>rw[hx2] at he;cases he
  |none=>
   refine cS rfl (mN ⟨_,rfl,?_,sr ?_ (by show len a.2.2<len ⟨0,x.1⟩;omega) rfl⟩)
   ·show kind 144++(short n.1++((count ([]++qs).length++cq ([]++qs))++((count ([]++rs).length++cq ([]++rs))++[])))=kind 144++(short n.1++(count u.1.length++(u.1.flatMap short++(count a.1.length++a.1.flatMap Decl.bytes))));rw[List.nil_append,List.nil_append,f4,f5,h3,h4,List.append_nil,List.append_assoc]
   ·show[]++(cI ([]++qs)++(cI ([]++rs)++[]))=_;simp only[List.nil_append,List.append_nil,f6,h5]
end
section
open PySem (Str)
local macro_rules
 |`(tactic|omega)=>`(tactic|first|lia|omega (splitMinMax:=true))
noncomputable def Nf:List Str:=[⟨#[60,112,114,111,103,114,97,109,62]⟩,⟨#[60,117,115,101,115,62]⟩,⟨#[60,100,101,99,108,97,114,97,116,105,111,110,115,62]⟩,⟨#[60,100,101,99,108,97,114,97,116,105,111,110,62]⟩,⟨#[60,108,101,116,62]⟩,⟨#[60,116,111,108,100,32,115,111,114,116,62]⟩,⟨#[60,115,111,114,116,32,110,97,109,101,115,62]⟩,⟨#[60,109,111,114,101,32,110,97,109,101,115,62]⟩,⟨#[60,102,105,101,108,100,115,62]⟩,⟨#[60,109,111,114,101,32,102,105,101,108,100,115,62]⟩,⟨#[60,102,105,101,108,100,62]⟩,⟨#[60,114,101,115,117,108,116,62]⟩,⟨#[60,115,111,114,116,62]⟩,⟨#[60,111,102,32,115,111,114,116,62]⟩,⟨#[60,115,111,114,116,115,62]⟩,⟨#[60,109,111,114,101,32,115,111,114,116,115,62]⟩,⟨#[60,111,102,32,97,32,109,111,100,117,108,101,62]⟩,⟨#[60,98,108,111,99,107,62]⟩,⟨#[60,115,116,97,116,101,109,101,110,116,115,62]⟩,⟨#[60,115,116,97,116,101,109,101,110,116,62]⟩]
noncomputable def JS:List Str:=[⟨#[60,99,104,97,105,110,62]⟩,⟨#[60,99,97,108,108,101,100,32,99,104,97,105,110,62]⟩,⟨#[60,109,111,114,101,32,98,114,97,110,99,104,101,115,62]⟩,⟨#[60,98,101,104,105,110,100,32,101,108,115,101,62]⟩,⟨#[60,98,114,97,110,99,104,62]⟩,⟨#[60,116,111,62]⟩,⟨#[60,99,97,115,101,115,62]⟩,⟨#[60,101,108,115,101,62]⟩,⟨#[60,98,101,104,105,110,100,32,116,114,121,62]⟩,⟨#[60,102,105,110,97,108,108,121,62]⟩,⟨#[60,105,110,116,111,62]⟩,⟨#[60,112,111,115,116,101,100,32,116,101,120,116,62]⟩,⟨#[60,109,111,114,101,32,109,111,100,101,115,62]⟩,⟨#[60,109,111,100,101,62]⟩,⟨#[60,100,105,114,101,99,116,105,111,110,62]⟩,⟨#[60,116,114,97,112,112,101,100,62]⟩,⟨#[60,102,108,117,115,104,101,100,62]⟩,⟨#[60,102,108,97,103,62]⟩,⟨#[60,101,120,112,114,101,115,115,105,111,110,115,62]⟩,⟨#[60,109,111,114,101,32,101,120,112,114,101,115,115,105,111,110,115,62]⟩]
noncomputable def Kd:List Str:=[⟨#[60,101,120,112,114,101,115,115,105,111,110,62]⟩,⟨#[60,109,111,114,101,32,111,114,62]⟩,⟨#[60,98,111,116,104,62]⟩,⟨#[60,109,111,114,101,32,97,110,100,62]⟩,⟨#[60,110,101,103,97,116,101,100,62]⟩,⟨#[60,99,111,109,112,97,114,101,100,62]⟩,⟨#[60,99,97,115,116,62]⟩,⟨#[60,109,111,114,101,32,97,115,62]⟩,⟨#[60,100,105,103,105,116,115,62]⟩,⟨#[60,114,111,117,110,100,105,110,103,62]⟩,⟨#[60,115,117,109,62]⟩,⟨#[60,109,111,114,101,32,115,117,109,62]⟩,⟨#[60,112,114,111,100,117,99,116,62]⟩,⟨#[60,109,111,114,101,32,112,114,111,100,117,99,116,62]⟩,⟨#[60,115,105,103,110,101,100,62]⟩,⟨#[60,103,105,118,105,110,103,62]⟩,⟨#[60,112,111,119,101,114,62]⟩,⟨#[60,112,111,115,116,62]⟩,⟨#[60,109,111,114,101,32,112,111,115,116,62]⟩,⟨#[60,99,97,108,108,62]⟩]
noncomputable def Kb:List Str:=[⟨#[60,105,110,100,101,120,62]⟩,⟨#[60,109,101,109,98,101,114,62]⟩,⟨#[60,110,97,109,101,62]⟩,⟨#[60,102,105,114,115,116,62]⟩,⟨#[60,102,108,97,103,115,62]⟩,⟨#[60,109,111,114,101,32,102,108,97,103,115,62]⟩,⟨#[60,108,105,115,116,101,100,62]⟩,⟨#[60,109,111,114,101,32,108,105,115,116,101,100,62]⟩,⟨#[60,109,97,100,101,62]⟩,⟨#[60,115,101,116,116,105,110,103,115,62]⟩,⟨#[60,109,111,114,101,32,115,101,116,116,105,110,103,115,62]⟩,⟨#[60,115,101,116,116,105,110,103,62]⟩]
noncomputable def Q8:List Str:=Nf++JS++Kd++Kb
def sgn(b:Bytes):Str:=if b=[37] then⟨#[112,101,114,99,101,110,116]⟩ else TW.vh b
noncomputable def Us:List Str:=[⟨#[78,65,77,69]⟩,⟨#[67,79,68,69]⟩,⟨#[78,85,77,66,69,82]⟩,⟨#[84,69,88,84]⟩,⟨#[69,78,68]⟩,⟨#[70,65,85,76,84]⟩]
def nm(n:Nat):Str:=if n<100 then(KEYWORDS.map TW.vh).getD n ⟨#[]⟩ else if n<200 then(SIGNS.map sgn).getD (n - 100) ⟨#[]⟩ else if n<1000 then Us.getD (n - 200) ⟨#[]⟩ else Q8.getD (n - 1000) ⟨#[]⟩
def enc(s:Str):Nat:=s.cps.toList.foldl (λa c=>a*256+c) 1
noncomputable def VC:List Nat:=List.range 80++(List.range 25).map (λi=>100+i)++(List.range 6).map (λi=>200+i)++[299]++(List.range 72).map (λi=>1000+i)
def yz:List Nat->Bool
 |[]=>true
 |a::l=>l.all (λb=>!(Nat.beq a b))&&yz l
theorem nP:∀{l:List Nat},yz l=true->l.Nodup
 |[],_=>List.nodup_nil
 |a::l,h=>by
  have h:=(Bool.and_eq_true _ _).mp h;refine List.nodup_cons.mpr ⟨λm=>?_,nP h.2⟩;have:=List.all_eq_true.mp h.1 a m;rw[Nat.beq_refl] at this;cases this
theorem HW:yz (VC.map λn=>enc (nm n))=true:=↑1
theorem lx{f:α->Nat}:∀{l:List α},(l.map f).Nodup->∀a∈l,∀b∈l,f a=f b->a=b
 |[],_,_,h,_,_,_=>by cases h
 |x::l,hn,a,ha,b,hb,e=>by
  rw[List.map_cons,List.nodup_cons] at hn;rcases List.mem_cons.mp ha with h1|ha
  ·rcases List.mem_cons.mp hb with h2|hb
   ·rw[h1,h2]
   ·rw[h1] at e;exact absurd (List.mem_map.mpr ⟨b,hb,e.symm⟩) hn.1
  ·rcases List.mem_cons.mp hb with h2|hb
   ·rw[h2] at e;exact absurd (List.mem_map.mpr ⟨a,ha,e⟩) hn.1
   ·exact lx hn.2 a ha b hb e
theorem yj{a b:Nat}(ha:a∈VC)(hb:b∈VC)(h:nm a=nm b):a=b:=lx (nP HW) a ha b hb (congrArg enc h)
def flat(i:Nat):List (List (Nat×List Sym))->List ((Nat×Nat)×List Sym)
 |[]=>[]
 |g::G=>g.map (λy=>((i,y.1),y.2))++flat (i+1) G
noncomputable def FT:List ((Nat×Nat)×List Sym):=flat 1000 cN
def c_:List ((Nat×Nat)×List Sym)->Nat->Nat->Option (List Sym)
 |[],_,_=>none
 |p::r,x,l=>if p.1.1=x/\p.1.2=l then some p.2 else c_ r x l
theorem vp:∀(a b:List ((Nat×Nat)×List Sym))(x l:Nat),c_ (a++b) x l=(c_ a x l).or (c_ b x l)
 |[],b,x,l=>rfl
 |p::a,b,x,l=>by
  show(if p.1.1=x/\p.1.2=l then some p.2 else c_ (a++b) x l)=(if p.1.1=x/\p.1.2=l then some p.2 else c_ a x l).or (c_ b x l);split
  ·rfl
  ·exact vp a b x l
theorem uO:∀(g:List (Nat×List Sym))(i x l:Nat),c_ (g.map λy=>((i,y.1),y.2)) x l=if i=x then aH g l else none
 |[],i,x,l=>by split <;> rfl
 |y::g,i,x,l=>by
  show(if i=x/\y.1=l then some y.2 else c_ (g.map λy=>((i,y.1),y.2)) x l)=if i=x then(if Nat.beq y.1 l=true then some y.2 else aH g l) else none;rw[uO g i x l];by_cases h:i=x
  ·rw[if_pos h,if_pos h];by_cases h2:y.1=l
   ·rw[if_pos ⟨h,h2⟩,if_pos (by rw[h2];exact Nat.beq_refl l)]
   ·rw[if_neg λc=>h2 c.2,if_neg λc=>h2 (Nat.eq_of_beq_eq_true c)]
  ·rw[if_neg λc=>h c.1,if_neg h,if_neg h]
theorem qK:∀(G:List (List (Nat×List Sym)))(i x l:Nat),c_ (flat i G) x l=if i<=x then(QD G (x - i)).bind (λg=>aH g l) else none
 |[],i,x,l=>by show none=_;split <;> rfl
 |g::G,i,x,l=>by
  show c_ (g.map (λy=>((i,y.1),y.2))++flat (i+1) G) x l=_;rw[vp,uO,qK G (i+1) x l];by_cases h:i=x
  ·subst h;rw[if_pos rfl,if_neg ↑2,if_pos (Nat.le_refl _),Nat.sub_self];show(aH g l).or none=aH g l;cases aH g l <;> rfl
  ·rw[if_neg h];by_cases h2:i<=x
   ·rw[if_pos h2,if_pos ↑2,show x - i=(x - (i+1))+1 by omega];rfl
   ·rw[if_neg h2,if_neg ↑2];rfl
theorem y0(x l:Nat):c_ FT x l=row x l:=by
 unfold FT row;rw[qK];by_cases h:1000<=x
 ·rw[if_pos h,if_pos (Nat.ble_eq_true_of_le h)];cases QD cN (x - 1000) <;> rfl
 ·rw[if_neg h,if_neg λc=>h (Nat.le_of_ble_eq_true c)]
def lD(n:Nat):Bool:=Nat.blt n 80||(Nat.ble 100 n&&Nat.blt n 125)||(Nat.ble 200 n&&Nat.blt n 206)||Nat.beq n 299||(Nat.ble 1000 n&&Nat.blt n (1000+72))
theorem cx(h:lD n=true):n∈VC:=by
 unfold lD at h;simp only[Bool.or_eq_true,Bool.and_eq_true] at h;unfold VC;simp only[List.mem_append,List.mem_map,List.mem_range,List.mem_singleton];rcases h with(((h|h)|h)|h)|h
 ·exact .inl (.inl (.inl (.inl (by have:=Nat.le_of_ble_eq_true h;omega))))
 ·have h1:=Nat.le_of_ble_eq_true h.1;have h2:n+1<=125:=Nat.le_of_ble_eq_true h.2;exact .inl (.inl (.inl (.inr ⟨n - 100,↑2,↑2⟩)))
 ·have h1:=Nat.le_of_ble_eq_true h.1;have h2:n+1<=206:=Nat.le_of_ble_eq_true h.2;exact .inl (.inl (.inr ⟨n - 200,↑2,↑2⟩))
 ·exact .inl (.inr (Nat.eq_of_beq_eq_true h))
 ·have h1:=Nat.le_of_ble_eq_true h.1;have h2:n+1<=1000+72:=Nat.le_of_ble_eq_true h.2;exact .inr ⟨n - 1000,↑2,↑2⟩
def QS:Sym->Bool
 | .w x=>lD x
 |_=>true
theorem RP:(FT.all λp=>lD p.1.1&&lD p.1.2&&p.2.all QS)=true:=↑1
theorem JD:yz (FT.map λp=>p.1.1*4096+p.1.2)=true:=↑1
theorem GX{t:Tok}(g:TW.Good t):lX t∈VC/\nm (lX t)=TW.bL t:=by
 rcases g with⟨h0,hm⟩|⟨h1,h4⟩|⟨h5,hm⟩
 ·obtain⟨i,hi⟩:∃i,(KEYWORDS.findIdx? λx=>x==t.bytes)=some i:=by
   cases h:KEYWORDS.findIdx? λx=>x==t.bytes with
   |some i=>exact⟨i,rfl⟩
   |none=>
    have:=List.findIdx?_eq_none_iff.mp h t.bytes hm;simp at this
  obtain⟨hl,hb,_⟩:=List.findIdx?_eq_some_iff_getElem.mp hi;have hb:KEYWORDS[i]=t.bytes:=by simpa using hb
  have h80:KEYWORDS.length=80:=↑1
  have e:lX t=i:=by unfold lX;rw[if_pos h0,hi]
  rw[e];refine⟨cx (by unfold lD;simp;omega),?_⟩;unfold nm TW.bL;rw[if_pos ↑2,if_pos h0,List.getD_eq_getElem?_getD,List.getElem?_map,List.getElem?_eq_getElem hl,hb];rfl
 ·have e:lX t=199+t.kind:=by
   unfold lX;rw[if_neg ↑2,if_neg ↑2];split
   ·omega
   split
   ·omega
   split
   ·omega
   split <;> omega
  rw[e];unfold TW.bL;have:t.kind=1\/t.kind=2\/t.kind=3\/t.kind=4:=↑2
  rcases this with h|h|h|h
  ·rw[h];exact⟨cx ↑0,(by decide+kernel:nm 200=Str.ofString "NAME")⟩
  ·rw[h];exact⟨cx ↑0,(by decide+kernel:nm 201=Str.ofString "CODE")⟩
  ·rw[h];exact⟨cx ↑0,(by decide+kernel:nm 202=Str.ofString "NUMBER")⟩
  ·rw[h];exact⟨cx ↑0,(by decide+kernel:nm 203=Str.ofString "TEXT")⟩
 ·obtain⟨i,hi⟩:∃i,(SIGNS.findIdx? λx=>x==t.bytes)=some i:=by
   cases h:SIGNS.findIdx? λx=>x==t.bytes with
   |some i=>exact⟨i,rfl⟩
   |none=>
    have:=List.findIdx?_eq_none_iff.mp h t.bytes hm;simp at this
  obtain⟨hl,hb,_⟩:=List.findIdx?_eq_some_iff_getElem.mp hi;have hb:SIGNS[i]=t.bytes:=by simpa using hb
  have h25:SIGNS.length=25:=↑1
  have e:lX t=100+i:=by unfold lX;rw[if_neg ↑2,if_pos h5,hi]
  rw[e];refine⟨cx (by unfold lD;simp;omega),?_⟩;unfold nm TW.bL;rw[if_neg ↑2,if_pos ↑2,if_neg ↑2,if_neg ↑2,if_neg ↑2,if_neg ↑2,if_neg ↑2,List.getD_eq_getElem?_getD,List.getElem?_map,show 100+i - 100=i by omega,List.getElem?_eq_getElem hl,hb];show sgn t.bytes=_;unfold sgn;split
  ·decide+kernel
  ·rfl
end
end MA
namespace MA
open EwTree RT TW
inductive Cr:Bytes->Bytes->Prop
 |nil:Cr [] []
 |Tx{c:UInt8} {y x:Bytes}:Cr y x->Cr (92::c::y) ((if c=110 then 10 else c)::x)
 |one{c:UInt8} {y x:Bytes}:c≠92->Cr y x->Cr (c::y) (c::x)
theorem jd:∀(m k p:Nat)(b:Bytes)(x:Bytes×Nat×Bytes),b.length<=m->k<=1024->itemsIn k p b= .ok x->∃y,b=y++34::x.2.2/\x.2.1=p+y.length+1/\Cr y x.1/\x.1.length+k<=1024
 |0,k,p,b,x,hb,hk,h=>by
  have:b=[]:=List.eq_nil_of_length_eq_zero ↑2;subst this;unfold itemsIn at h;cases h
 |m+1,k,p,b,x,hb,hk,h=>by
  cases b with
  |nil=>unfold itemsIn at h;cases h
  |cons c r=>
   have hb:r.length<=m:=by simpa using hb
   unfold itemsIn at h;split at h
   ·rename_i hc;cases h;exact⟨[],by rw[hc];rfl,rfl,.nil,by show 0+k<=1024;omega⟩
   split at h
   ·cases h
   rename_i hc1 hk1;have hk1:k<1024:=Nat.lt_of_not_le hk1;split at h
   ·cases h
   split at h
   ·rename_i hc2 hc;have two:∀(a d:UInt8)(s:Bytes),r=d::s->(if d=110 then 10 else d)=a->((itemsIn (k+1) (p+2) s).map λ(x:Bytes×Nat×Bytes)=>(a::x.1,x.2))= .ok x->∃y,c::r=y++34::x.2.2/\x.2.1=p+y.length+1/\Cr y x.1/\x.1.length+k<=1024:=by
     intro a d s er ea hx;cases q:itemsIn (k+1) (p+2) s with
     |error e=>rw[q] at hx;cases hx
     |ok w=>
      rw[q] at hx;cases hx;obtain⟨y,h1,h2,h3,h4⟩:=jd m (k+1) (p+2) s w (by rw[er] at hb;simp at hb;omega) ↑2 q;refine⟨92::d::y,by rw[hc,er,h1];rfl,by show w.2.1=_;rw[h2];simp only[List.length_cons];omega,?_,by show w.1.length+1+k<=1024;omega⟩;rw[<-ea];exact .Tx h3
    split at h
    ·exact two 34 34 _ rfl ↑0 h
    ·exact two 92 92 _ rfl ↑0 h
    ·exact two 10 110 _ rfl ↑0 h
    ·cases h
   ·rename_i hc;split at h
    ·cases q:itemsIn (k+1) (p+1) r with
     |error e=>rw[q] at h;cases h
     |ok w=>
      rw[q] at h;cases h;obtain⟨y,h1,h2,h3,h4⟩:=jd m (k+1) (p+1) r w hb ↑2 q;exact⟨c::y,by rw[h1];rfl,by show w.2.1=_;rw[h2];simp only[List.length_cons];omega,.one hc h3,by show w.1.length+1+k<=1024;omega⟩
    ·cases h
structure NZ(b:Bytes)(t:Tok):Prop where
 lo:t.place<t.halt_
 hi:t.halt_<=b.length
 raw:1<=t.kind->t.kind<=3->t.bytes=(b.drop t.place).take (t.halt_ - t.place)/\t.bytes.length<256
 txt:t.kind=4->Cr ((b.drop (t.place+1)).take (t.halt_ - 1 - (t.place+1))) t.bytes/\t.bytes.length<=1024/\t.place+1<=t.halt_ - 1
theorem Cj{w:Bytes}(h:isNumber w=true):w.length<256:=by unfold isNumber at h;have h:=(Bool.and_eq_true _ _).mp h;have h:=(Bool.and_eq_true _ _).mp h.2;have:w.length<=255:=of_decide_eq_true h.1;omega
theorem Hn{w:Bytes}(h:isCode w=true):w.length<256:=by unfold isCode at h;have h:=(Bool.and_eq_true _ _).mp h;have h:=(Bool.and_eq_true _ _).mp h.2;have h:=(Bool.and_eq_true _ _).mp h.2;have:w.length<=8:=of_decide_eq_true h.2;omega
theorem ej(f:UInt8->Bool):∀(b:Bytes),b.take (b.takeWhile f).length=b.takeWhile f
 |[]=>rfl
 |c::b=>by
  rw[List.takeWhile_cons];split
  ·rw[List.length_cons,List.take_succ_cons,ej f b]
  ·rfl
theorem Er{p:Nat}{b:Bytes}{t:Tok}{s:Bytes}(h:tokenIn p b= .ok (t,s)):(1<=t.kind->t.kind<=3->t.bytes=b.take (t.halt_ - p)/\t.bytes.length<256)/\
  (t.kind=4->Cr ((b.drop 1).take (t.halt_ - 1 - (p+1))) t.bytes/\t.bytes.length<=1024/\p+1<=t.halt_ - 1):=by
 unfold tokenIn at h;cases b with
 |nil=>cases h
 |cons c r=>
  dsimp only at h;split at h
  ·split at h
   ·cases h;exact⟨λh=>absurd (show 1<=0 from h) ↑0,λh=>absurd (show 0=4 from h) ↑0⟩
   ·split at h
    ·rename_i hl;cases h;refine⟨λ_ _=>⟨?_,?_⟩,λh=>absurd (show 1=4 from h) ↑0⟩
     ·show _=List.take (p+((c::r).takeWhile isWordByte).length - p) (c::r);rw[Nat.add_sub_cancel_left,ej]
     ·have:((c::r).takeWhile isWordByte).length<=31:=hl;show((c::r).takeWhile isWordByte).length<256;omega
    ·cases h
  split at h
  ·split at h
   ·rename_i hl;cases h;refine⟨λ_ _=>⟨?_,Hn hl⟩,λh=>absurd (show 2=4 from h) ↑0⟩;show _=List.take (p+((c::r).takeWhile isCodeByte).length - p) (c::r);rw[Nat.add_sub_cancel_left,ej]
   ·cases h
  split at h
  ·split at h
   ·rename_i hl;cases h;refine⟨λ_ _=>⟨?_,Cj hl⟩,λh=>absurd (show 3=4 from h) ↑0⟩;show _=List.take (p+(List.take _ (c::r)).length - p) (c::r);rw[Nat.add_sub_cancel_left,List.length_take];exact List.take_eq_take_iff.mpr ↑2
   ·cases h
  split at h
  ·cases q:itemsIn 0 (p+1) r with
   |error e=>rw[q] at h;cases h
   |ok x=>
    rw[q] at h;cases h;obtain⟨y,h1,h2,h3,h4⟩:=jd r.length 0 (p+1) r x (Nat.le_refl _) ↑0 q;refine⟨λ_ h=>absurd (show 4<=3 from h) ↑0,λ_=>⟨?_,h4,?_⟩⟩
    ·show Cr (List.take (x.2.1 - 1 - (p+1)) r) x.1;rw[h2,show p+1+y.length+1 - 1 - (p+1)=y.length by omega,h1,List.take_left];exact h3
    ·show p+1<=x.2.1 - 1;omega
  ·split at h
   ·cases h;exact⟨λ_ h=>absurd (show 5<=3 from h) ↑0,λh=>absurd (show 5=4 from h) ↑0⟩
   ·cases h
theorem Ng:∀(n p:Nat)(b:Bytes),b.length<=n->∀t∈(Tn p b).1,∃i s,i<=b.length/\tokenIn (p+i) (b.drop i)= .ok (t,s):=by
 intro n;induction n with
 |zero=>
  intro p b hb;have:b=[]:=List.eq_nil_of_length_eq_zero ↑2;subst this;rw[gP];intro t h;cases h
 |succ n ih=>
  intro p b hb t ht;cases b with
  |nil=>rw[gP] at ht;cases ht
  |cons c r=>
   simp only[List.length_cons] at hb;cases h1:isBlank c with
   |true=>
    rw[iI h1] at ht;obtain⟨i,s,hi,e⟩:=ih (p+1) r ↑2 t ht;exact⟨i+1,s,by simp only[List.length_cons];omega,by rw[List.drop_succ_cons,<-e];congr 1;omega⟩
   |false=>
    by_cases h2:c=35
    ·subst h2;rw[kK,List.takeWhile_cons,if_pos ↑0,List.length_cons,List.drop_succ_cons] at ht;obtain⟨i,s,hi,e⟩:=ih (p+((r.takeWhile isSeen).length+1)) (r.drop (r.takeWhile isSeen).length) (by rw[List.length_drop];omega) t ht;have hl:(r.takeWhile isSeen).length<=r.length:=by have:=dh isSeen r;omega
     rw[List.length_drop] at hi;refine⟨i+((r.takeWhile isSeen).length+1),s,by simp only[List.length_cons];omega,?_⟩;rw[List.drop_drop] at e;rw[show i+((r.takeWhile isSeen).length+1)=((r.takeWhile isSeen).length+i)+1 by omega,List.drop_succ_cons,<-e];congr 1;omega
    ·rw[nB h1 h2] at ht;cases e:tokenIn p (c::r) with
     |error z=>rw[e] at ht;cases ht
     |ok x=>
      obtain⟨u,s⟩:=x;obtain⟨q1,q2,q3,q4⟩:=iR e;rw[e] at ht;rcases List.mem_cons.mp ht with rfl|ht
      ·exact⟨0,s,Nat.zero_le _,e⟩
      ·have hs:s.length<=r.length:=by rw[q4,List.length_drop,List.length_cons];omega
       obtain⟨i,s',hi,e'⟩:=ih u.halt_ s ↑2 t ht;simp only[List.length_cons] at q3;have hsl:s.length=r.length+1 - (u.halt_ - p):=by rw[q4,List.length_drop,List.length_cons]
       refine⟨(u.halt_ - p)+i,s',by simp only[List.length_cons];omega,?_⟩;rw[<-List.drop_drop,<-q4,<-e'];congr 1;omega
theorem SQ(b:Bytes):∀t∈(Tn 0 b).1,NZ b t:=by
 intro t ht;obtain⟨i,s,hi,e⟩:=Ng b.length 0 b (Nat.le_refl _) t ht;rw[Nat.zero_add] at e;obtain⟨q1,q2,q3,q4⟩:=iR e;obtain⟨r1,r2⟩:=Er e;rw[List.length_drop] at q3;refine⟨↑2,↑2,λh1 h2=>?_,λh=>?_⟩
 ·rw[q1];exact r1 h1 h2
 ·obtain⟨a1,a2,a3⟩:=r2 h;rw[q1];refine⟨?_,a2,a3⟩;rw[<-List.drop_drop];exact a1
mutual
def Jy:Pt->Nat
 | .leaf b=>b.length+1
 | .bo _ _ l=>5+d6 l
def d6:List Pt->Nat
 |[]=>0
 |p::r=>Jy p+d6 r
end
theorem ip:∀l r:List Pt,d6 (l++r)=d6 l+d6 r
 |[],r=>(Nat.zero_add _).symm
 |p::l,r=>by show Jy p+d6 (l++r)=Jy p+d6 l+d6 r;rw[ip l r,Nat.add_assoc]
def gw:List Fr->Nat
 |[]=>0
 |fr::G=>5+d6 fr.parts+gw G
def sw:List Tok->Nat
 |[]=>0
 |t::r=>t.bytes.length+3+sw r
def Ox:Sym->Bool
 | .bW b=>Nat.ble b.length 1
 |_=>true
theorem TK:(FT.all λp=>p.2.all Ox)=true:=↑1
theorem uP:∀{L:List ((Nat×Nat)×List Sym)}{x l:Nat}{r:List Sym},c_ L x l=some r->∃p∈L,p.2=r
 |[],_,_,_,h=>by cases h
 |p::L,x,l,r,h=>by
  unfold c_ at h;split at h
  ·exact⟨p,List.mem_cons_self ..,Option.some.inj h⟩
  ·obtain⟨q,hq,e⟩:=uP h;exact⟨q,List.mem_cons_of_mem _ hq,e⟩
theorem LR{x l:Nat}{r:List Sym}(h:row x l=some r):∀y∈r,Ox y=true:=by rw[<-y0] at h;obtain⟨p,hp,rfl⟩:=uP h;exact List.all_eq_true.mp (List.all_eq_true.mp TK p hp)
theorem S1(t:Tok):d6 (lf t)<=t.bytes.length+3:=by
 unfold lf;split
 ·exact Nat.zero_le _
 ·split
  ·show(t.bytes.length+1+1)+1+0<=_;omega
  ·show(t.bytes.length+1)+1+0<=_;omega
theorem Ot{e:Bool}{z:Fault}{n:Nat}{K:List Sym}{s:St}{G:List Fr}{o:Out}(h:Runs e z n K s G o):(∀y∈K,Ox y=true)->∀G',o= .ok G'->gw G'<=gw G+5*n+sw s.toks:=by
 induction h with
 |halt s G=>intro _ G' e;cases e;omega
 |@bg n f K s G o _ ih=>
  intro hk G' e;have:=ih (λy hy=>hk y (List.mem_cons_of_mem _ hy)) G' e;have e1:gw (⟨f.at s,[]⟩::G)=5+0+gw G:=rfl;omega
 |@bW n b K s f l G o _ ih=>
  intro hk G' e;have h1:=ih (λy hy=>hk y (List.mem_cons_of_mem _ hy)) G' e;have h2:b.length<=1:=Nat.le_of_ble_eq_true (hk (.bW b) (List.mem_cons_self ..));have e1:gw (⟨f,l++[.leaf b]⟩::G)=5+d6 (l++[.leaf b])+gw G:=rfl;have e2:gw (⟨f,l⟩::G)=5+d6 l+gw G:=rfl;have e3:d6 [Pt.leaf b]=b.length+1+0:=rfl;rw[ip] at e1;omega
 |@take n p K s f h l r G o _ ih=>
  intro hk G' e;have h1:=ih (λy hy=>hk y (List.mem_cons_of_mem _ hy)) G' e;have e1:gw (⟨f.tk p,l++[p]⟩::⟨h,r⟩::G)=5+d6 (l++[p])+(5+d6 r+gw G):=rfl;have e2:gw (⟨f,l⟩::⟨h,r++[p]⟩::G)=5+d6 l+(5+d6 (r++[p])+gw G):=rfl;rw[ip] at e1 e2;omega
 |@turn n k K s f l G o _ ih=>
  intro hk G' e;have h1:=ih (λy hy=>hk y (List.mem_cons_of_mem _ hy)) G' e;have e1:gw (⟨f.turn k,l⟩::G)=gw (⟨f,l⟩::G):=rfl;omega
 |@fin n K s f h l r G o _ _ ih=>
  intro hk G' e;have h1:=ih (λy hy=>hk y (List.mem_cons_of_mem _ hy)) G' e;have e1:gw (⟨h,r++[done f s l]⟩::G)=5+d6 (r++[done f s l])+gw G:=rfl;have e2:gw (⟨f,l⟩::⟨h,r⟩::G)=5+d6 l+(5+d6 r+gw G):=rfl;have e3:d6 [done f s l]<=5+d6 l:=by
   unfold done;split
   ·show 1+1+0<=_;omega
   ·show 5+d6 l+0<=_;omega
  rw[ip] at e1;omega
 |@pass n K t p ts f l G o _ ih=>
  intro hk G' e;have h1:=ih (λy hy=>hk y (List.mem_cons_of_mem _ hy)) G' e;have e1:gw (⟨f,l++lf t⟩::G)=5+d6 (l++lf t)+gw G:=rfl;have e2:gw (⟨f,l⟩::G)=5+d6 l+gw G:=rfl;have e3:sw (t::ts)=t.bytes.length+3+sw ts:=rfl;have h2:=S1 t;rw[ip] at e1;dsimp only at h1 ⊢;omega
 |@go n x r K s G o _ h2 _ ih=>
  intro hk G' e;have h1:=ih (λy hy=>(List.mem_append.mp hy).elim (λz=>LR h2 y z) λz=>hk y (List.mem_cons_of_mem _ z)) G' e;omega
 |@Tp n x r K s G o _ _ h2 _ ih=>
  intro hk G' e;have h1:=ih (λy hy=>(List.mem_append.mp hy).elim (λz=>LR h2 y z) λz=>hk y (List.mem_cons_of_mem _ z)) G' e;omega
 |no _ _ _=>intro _ G' e;cases e
theorem Ko{y x:Bytes}(h:Cr y x):x.length<=y.length:=by
 induction h with
 |nil=>exact Nat.le_refl _
 |Tx _ ih=>simp only[List.length_cons];omega
 |one _ _ ih=>simp only[List.length_cons];omega
theorem GQ{p:Nat}{b:Bytes}{t:Tok}{s:Bytes}(h:tokenIn p b= .ok (t,s)):t.bytes.length<=t.halt_ - p:=by
 unfold tokenIn at h;cases b with
 |nil=>cases h
 |cons c r=>
  dsimp only at h;split at h
  ·split at h
   ·cases h;dsimp only;omega
   ·split at h
    ·cases h;dsimp only;omega
    ·cases h
  split at h
  ·split at h
   ·cases h;dsimp only;omega
   ·cases h
  split at h
  ·split at h
   ·cases h;dsimp only;omega
   ·cases h
  split at h
  ·cases q:itemsIn 0 (p+1) r with
   |error e=>rw[q] at h;cases h
   |ok x=>
    rw[q] at h;cases h;obtain⟨y,h1,h2,h3,h4⟩:=jd r.length 0 (p+1) r x (Nat.le_refl _) ↑0 q;have:=Ko h3;show x.1.length<=x.2.1 - p;omega
  ·split at h
   ·cases h;dsimp only;omega
   ·cases h
theorem QQ:∀(n:Nat)(p:Nat)(b:Bytes),b.length<=n->sw (Tn p b).1<=4*b.length:=by
 intro n;induction n with
 |zero=>
  intro p b hb;have:b=[]:=List.eq_nil_of_length_eq_zero ↑2;subst this;rw[gP];exact Nat.le_refl _
 |succ n ih=>
  intro p b hb;cases b with
  |nil=>rw[gP];exact Nat.le_refl _
  |cons c r=>
   simp only[List.length_cons] at hb ⊢;cases h1:isBlank c with
   |true=>rw[iI h1];have:=ih (p+1) r ↑2;omega
   |false=>
    by_cases h2:c=35
    ·subst h2;rw[kK,List.takeWhile_cons,if_pos ↑0,List.length_cons,List.drop_succ_cons];have:=ih (p+((r.takeWhile isSeen).length+1)) (r.drop (r.takeWhile isSeen).length) (by rw[List.length_drop];omega);rw[List.length_drop] at this;omega
    ·rw[nB h1 h2];cases e:tokenIn p (c::r) with
     |error z=>exact Nat.zero_le _
     |ok x=>
      obtain⟨u,s⟩:=x;obtain⟨q1,q2,q3,q4⟩:=iR e;have h3:=GQ e;simp only[List.length_cons] at q3;have hs:s.length=r.length+1 - (u.halt_ - p):=by rw[q4,List.length_drop,List.length_cons]
      have:=ih u.halt_ s ↑2;show u.bytes.length+3+sw (Tn u.halt_ s).1<=_;omega
theorem machine{b:Bytes}(hl:(Tn 0 b).1.length<=65536)(hw:sw (Tn 0 b).1<=4*65536):
  (∀er,EwTree.read b= .error er->∃n,n<=2400000/\Runs (Tn 0 b).2.isSome ((Tn 0 b).2.getD (3,b.length)) n [.w dv] ⟨0,(Tn 0 b).1⟩ [⟨.row ⟨0,(Tn 0 b).1⟩,[]⟩] (.fault er))/\
  ∀a,EwTree.read b= .ok a->∃n p,n<=2400000/\Runs (Tn 0 b).2.isSome ((Tn 0 b).2.getD (3,b.length)) n [.w dv] ⟨0,(Tn 0 b).1⟩ [⟨.row ⟨0,(Tn 0 b).1⟩,[]⟩] (.ok [⟨.row ⟨0,(Tn 0 b).1⟩,[p]⟩])/\yb p=a.1.bytes/\yk p=a.2.map yt/\Jy p<=15900000:=by
 have h:=O5 b;rw[EN] at h;have hb:bs [.w dv]<=100/\ds [.w dv]<=100:=↑1
 have hlen:len ⟨0,(Tn 0 b).1⟩=(Tn 0 b).1.length:=rfl;refine⟨λer e=>?_,λa e=>?_⟩
 ·rw[e] at h;obtain⟨n,hn,hr⟩:=h;exact⟨n,↑2,hr []⟩
 ·rw[e] at h;obtain⟨s',G',n,hn,⟨p,rfl,h1,h2⟩,hr⟩:=h;have hrun:=hr 0 [] _ (.halt s' _);rw[Nat.zero_add] at hrun;have hn':n<=2400000:=↑2
  refine⟨n,p,hn',hrun,h1,h2,?_⟩;have:=Ot hrun (λy hy=>by rw[List.mem_singleton.mp hy];rfl) _ rfl;have e1:gw [⟨.row ⟨0,(Tn 0 b).1⟩,[p]⟩]=5+(Jy p+0)+0:=rfl;have e2:gw [⟨.row ⟨0,(Tn 0 b).1⟩,[]⟩]=5+0+0:=rfl;dsimp only at this;omega
def wI(b:By):List Int:=
 if 65536<b.length then[-1] else if 100<depth b then[-6] else match EwTree.read b with
  | .error e=>[-2,(e.1:Int),(e.2:Int)]
  | .ok a=>0::(a.1.bytes.length:Int)::a.1.bytes.map λc=>(c.toNat:Int)
theorem Kf(ns:List Int):PyWrxthh.read ns=wI (WrxthhNeutral.text ns):=by
 show WrxthhNeutral.told (Wrxthh.answer (.read (WrxthhNeutral.text ns)))=_;unfold wI Wrxthh.answer Wrxthh.ofText Wrxthh.fits;generalize WrxthhNeutral.text ns=b;simp only[List.any_cons,List.any_nil,Bool.or_false,decide_eq_true_eq];have hl:Wrxthh.LONG=65536:=rfl;have hd:DEEPEST=100:=rfl;rw[hl,hd];by_cases h1:65536<b.length
 ·rw[if_pos h1,if_pos h1];rfl
 rw[if_neg h1,if_neg h1];by_cases h2:100<depth b
 ·rw[if_pos h2,if_pos h2];rfl
 rw[if_neg h2,if_neg h2];cases h:EwTree.read b with
 |error e=>rfl
 |ok a=>rfl
end MA
end
local macro_rules
 |`(tactic|omega)=>`(tactic|first|lia|omega (splitMinMax:=true))
namespace L2
open PySem PySem.Spec PyProof.Rows
def eP(H:Hp)(n:Nat)(fl:Value)(h:Heap)(e:Addr):Prop:=
 ∃(oe:Obj)(vs:Array Value)(T:Addr)(oT:Obj)(ts:Array Value),h.get? e=some oe/\oe.data= .fields vs/\vs[1]?=some (.ref T)/\n<=T/\H T=none/\T≠e/\h.get? T=some oT/\oT.data= .fields ts/\ts[3]?=some fl
def OS(h:Heap)(e:Addr):Prop:=∃(oe:Obj)(vs:Array Value),h.get? e=some oe/\oe.data= .fields vs/\vs[1]?=some .none
def DJ(H:Hp)(n:Nat)(L:Addr)(h:Heap)(e:Addr):Prop:=OS h e\/eP H n .none h e\/eP H n (rawInt L) h e
structure Flew(H:Hp)(n:Nat)(fs:List Addr)(e:Addr)(h h':Heap):Prop where
 keep:∀b o,h.get? b=some o->b∉fs->b≠e->(b<n\/H b≠none\/∀ts,o.data≠.fields ts)->h'.get? b=some o
 slot:∀b o,h.get? b=some o->b∈fs->∃sl,h'.get? b=some {o with slots:=sl}
 exc:∀o,h.get? e=some o->∃vs,h'.get? e=some {o with data:=.fields vs}
 there:∀b o,h.get? b=some o->∃o',h'.get? b=some o'
theorem Flew.refl{H:Hp}{n:Nat}{fs:List Addr}{e:Addr}{h:Heap}{oe:Obj}{vs:Array Value}(he:h.get? e=some oe)(hd:oe.data= .fields vs):Flew H n fs e h h:=
 ⟨λ_ _ q _ _ _=>q,λ_ o q _=>⟨o.slots,q⟩,λo q=>by
  rw[he] at q;cases q;exact⟨vs,by rw[he];obtain⟨_,_,_,_⟩:=oe;cases hd;rfl⟩,λ_ o q=>⟨o,q⟩⟩
theorem Flew.trans{H:Hp}{n:Nat}{fs:List Addr}{e:Addr}{h h1 h2:Heap}(a:Flew H n fs e h h1)(b:Flew H n fs e h1 h2):Flew H n fs e h h2 where
 keep:=λc o q hc he hk=>b.keep c o (a.keep c o q hc he hk) hc he hk
 slot:=λc o q hc=>by
  obtain⟨s1,e1⟩:=a.slot c o q hc;obtain⟨s2,e2⟩:=b.slot c _ e1 hc;exact⟨s2,e2⟩
 exc:=λo q=>by
  obtain⟨v1,e1⟩:=a.exc o q;obtain⟨v2,e2⟩:=b.exc _ e1;exact⟨v2,e2⟩
 there:=λc o q=>by
  obtain⟨o1,e1⟩:=a.there c o q;exact b.there c o1 e1
theorem iX{o:Obj}{vs:Array Value}(hd:o.data= .fields vs):o={o with data:=.fields vs}:=by obtain⟨_,_,_,_⟩:=o;cases hd;rfl
section
variable{M:Model}{A:Around}{E:Value->Shared->Prop}{s:Shared}{H:Hp}{n:Nat}{fs:List Addr}{e:Addr}{Q:Unit->Shared->Prop}
theorem xW{h:Heap}{a:Addr}{o:Obj}{vs:Array Value}(f:Array Value->Array Value)(ho:h.get? a=some o)(hd:o.data= .fields vs):(h.update a (Obj.mapFields f)).get? a=some {o with data:=.fields (f vs)}:=by have z:=Heap.get?_update_self (Obj.mapFields f) ho (Obj.isFreed_of_fields (Obj.data_mapFields hd f));rw[z];obtain⟨oc,od,odt,osl⟩:=o;cases hd;rfl
theorem xA{fl fl':Value}(hx:eP H n fl s.heap e)(hQ:∀h',eP H n fl' h' e->Flew H n fs e s.heap h'->Q () {s with heap:=h'})(hfs:∀T oT ts,s.heap.get? T=some oT->oT.data= .fields ts->T∉fs)(f:Option Addr)(hf:(f.elim Value.none λg=>rawInt g)=fl'):wpAny M A (setFlight (.ref e) f) Q E s:=by
 obtain⟨oe,vs,T,oT,ts,he,hd,h1,hn,hT0,hTe,hT,hdT,h3⟩:=hx;have hsz:3<ts.size:=(Array.getElem?_eq_some_iff.mp h3).1;unfold setFlight;refine wpAny_bind (wpAny_field he hd h1 ?_);rw[if_pos (show(Value.ref T != Value.none)=true from by simp)];refine wpAny_setField hT hdT hsz ?_;rw[hf];have hT':=xW (λa=>a.setIfInBounds 3 fl') hT hdT;have other:∀b,b≠T->(s.heap.update T (Obj.mapFields λa=>a.setIfInBounds 3 fl')).get? b=s.heap.get? b:=λb hb=>Heap.get?_update_other _ _ (Ne.symm hb);refine hQ _ ⟨oe,vs,T,_,_,(other e (Ne.symm hTe)).trans he,hd,h1,hn,hT0,hTe,hT',rfl,?_⟩ ⟨λb o q hb hbe hk=>?_,λb o q hb=>?_,λo q=>?_,λb o q=>?_⟩
 ·rw[Array.getElem?_setIfInBounds_self_of_lt hsz]
 ·refine(other b λz=>?_).trans q;subst z;rw[hT] at q;cases q;rcases hk with k|k|k
  ·exact absurd k (Nat.not_lt.mpr hn)
  ·exact k hT0
  ·exact k ts hdT
 ·refine⟨o.slots,(other b λz=>?_).trans q⟩;subst z;rw[hT] at q;cases q;exact hfs b oT ts hT hdT hb
 ·rw[he] at q;cases q;exact⟨vs,by rw[other e (Ne.symm hTe),he,<-iX hd]⟩
 ·by_cases z:b=T
  ·subst z;exact⟨_,hT'⟩
  ·exact⟨o,(other b z).trans q⟩
end
section
variable{M:Model}{A:Around}{E:Value->Shared->Prop}{s:Shared}{H:Hp}{n:Nat}{e:Addr}{Q:Unit->Shared->Prop}{base:Heap}{env:Env}{outer:List Env}{L:Addr}
theorem vf{h:Heap}{l:List Env}(hl:h.FunFrames base l){T:Addr}{oT:Obj}{ts:Array Value}(hT:h.get? T=some oT)(hd:oT.data= .fields ts):T∉km l:=λhm=>by
 obtain⟨_,o,ho,hnf⟩:=hl.mem hm;rw[hT] at ho;cases ho;exact hnf ts hd
theorem uQ{oe:Obj}{vs:Array Value}{head:Value}{had:Bool}(hfr:A.frames=some (env::outer))(hl:s.heap.FunFrames base (env::outer))(hf:env.frame=some L)(he:s.heap.get? e=some oe)(hd:oe.data= .fields vs)(h1:1<vs.size)(hn:n<=s.heap.objs.size)(hH:∀b,s.heap.objs.size<=b->H b=none)(hQ:∀h',eP H n (rawInt L) h' e->Flew H n (km (env::outer)) e s.heap h'->Q () {s with heap:=h'}):
  wpAny M A (do let a<-frameOf env;let pl<-entryPlaceOf L had;let b<-EntryCells.newEntry head a .none (rawInt L) .none pl;setField (.ref e) 1 b) Q E s:=by
 have hef:e∉km (env::outer):=vf hl he hd;refine wpAny_bind (wpAny_frameOf_fun hfr hl hf λg1 hs=>?_);refine wpAny_bind (wpAny_entryPlaceOf λpl hpl=>?_);unfold EntryCells.newEntry newFields;refine wpAny_bind (wpAny_newObj_type ?_ (hpl.sizeOk5 _ _ _ _ _));have e1:g1.get? e=some oe:=(hs.2.1 e hef).trans he;generalize hob:({cls:=Value.type "traceback",dict:=none,data:=Data.fields ([head,Value.ref L,Value.none,rawInt L,Value.none]++(if pl.isEmpty then List.replicate 6 Value.none else pl)).toArray}:Obj)=ob;have hobd:∃ts:Array Value,ob.data= .fields ts/\ts[3]?=some (rawInt L):=by
  rw[<-hob];refine⟨_,rfl,?_⟩;simp
 obtain⟨ts,hts,h3⟩:=hobd;have e2:(g1.push ob).get? e=some oe:=Heap.get?_push_of_some _ e1;refine wpAny_setField e2 hd h1 ?_;have hsz:g1.objs.size=s.heap.objs.size:=hs.1;have hTe:g1.objs.size≠e:=Nat.ne_of_gt (Heap.lt_size e1);have hT:((g1.push ob).update e (Obj.mapFields λa=>a.setIfInBounds 1 (Value.ref g1.objs.size))).get? g1.objs.size=some ob:=
  (Heap.get?_update_other _ _ (Ne.symm hTe)).trans (Heap.get?_push_at rfl (by rw[Obj.isFreed_of_fields hts]))
 have he':=xW (λa=>a.setIfInBounds 1 (Value.ref g1.objs.size)) e2 hd;have keep:∀b o,b≠e->g1.get? b=some o->((g1.push ob).update e (Obj.mapFields λa=>a.setIfInBounds 1 (Value.ref g1.objs.size))).get? b=some o:=λb o hbe q=>
  (Heap.get?_update_other _ _ (Ne.symm hbe)).trans (Heap.get?_push_of_some _ q)
 refine hQ _ ⟨_,_,g1.objs.size,ob,ts,he',rfl,by rw[Array.getElem?_setIfInBounds_self_of_lt h1],↑2,hH _ ↑2,hTe,hT,hts,h3⟩ ⟨λb o q hb hbe _=>keep b o hbe ((hs.2.1 b hb).trans q),λb o q hb=>?_,λo q=>?_,λb o q=>?_⟩
 ·obtain⟨sl,z⟩:=hs.2.2 b o q;exact⟨sl,keep b _ (λz=>hef (z▸hb)) z⟩
 ·rw[he] at q;cases q;exact⟨_,he'⟩
 ·by_cases z:b=e
  ·subst z;exact⟨_,he'⟩
  ·obtain⟨sl,q2⟩:=hs.2.2 b o q;exact⟨_,keep b _ z q2⟩
theorem Ai(hfr:A.frames=some (env::outer))(hl:s.heap.FunFrames base (env::outer))(hf:env.frame=some L)(hx:DJ H n L s.heap e)(hn:n<=s.heap.objs.size)(hH:∀b,s.heap.objs.size<=b->H b=none)(hQ:∀h',eP H n (rawInt L) h' e->Flew H n (km (env::outer)) e s.heap h'->Q () {s with heap:=h'}):wpAny M A (noteFrame (.ref e) env) Q E s:=by
 unfold noteFrame;simp only[hf];rcases hx with⟨oe,vs,he,hd,h1⟩|hx|hx
 ·refine wpAny_bind (wpAny_field he hd h1 ?_);rw[if_neg ↑0];exact uQ hfr hl hf he hd (Array.getElem?_eq_some_iff.mp h1).1 hn hH hQ
 ·obtain⟨oe,vs,T,oT,ts,he,hd,h1,hnT,hT0,hTe,hT,hdT,h3⟩:=hx;refine wpAny_bind (wpAny_field he hd h1 ?_);rw[if_pos (show(Value.ref T != Value.none)=true from by simp)];refine wpAny_bind (wpAny_field hT hdT h3 ?_);rw[if_neg (show ¬((Value.none==rawInt L)=true) from by simp[rawInt])];refine wpAny_bind (wpAny_setField hT hdT (Array.getElem?_eq_some_iff.mp h3).1 ?_);have hT':=xW (λa=>a.setIfInBounds 3 Value.none) hT hdT;have other:∀b,b≠T->(s.heap.update T (Obj.mapFields λa=>a.setIfInBounds 3 Value.none)).get? b=s.heap.get? b:=λb hb=>Heap.get?_update_other _ _ (Ne.symm hb);have hTf:T∉km (env::outer):=vf hl hT hdT;have fw:Flew H n (km (env::outer)) e s.heap (s.heap.update T (Obj.mapFields λa=>a.setIfInBounds 3 Value.none)):=by
   refine⟨λb o q hb hbe hk=>?_,λb o q hb=>?_,λo q=>?_,λb o q=>?_⟩
   ·refine(other b λz=>?_).trans q;subst z;rw[hT] at q;cases q;rcases hk with k|k|k
    ·exact absurd k (Nat.not_lt.mpr hnT)
    ·exact k hT0
    ·exact k ts hdT
   ·exact⟨o.slots,(other b λz=>hTf (z▸hb)).trans q⟩
   ·rw[he] at q;cases q;exact⟨vs,by rw[other e (Ne.symm hTe),he,<-iX hd]⟩
   ·by_cases z:b=T
    ·subst z;exact⟨_,hT'⟩
    ·exact⟨o,(other b z).trans q⟩
  refine uQ hfr (hl.of_keeps λb o q hnf=>⟨o,(other b λz=>?_).trans q,rfl⟩) hf ((other e (Ne.symm hTe)).trans he) hd (Array.getElem?_eq_some_iff.mp h1).1 (by rw[Heap.size_after_update];exact hn)
   (λb hb=>hH b (by rw[Heap.size_after_update] at hb;exact hb)) λh' a b=>hQ h' a (fw.trans b)
  subst z;rw[hT] at q;cases q;exact hnf ts hdT
 ·obtain⟨oe,vs,T,oT,ts,he,hd,h1,hnT,hT0,hTe,hT,hdT,h3⟩:=id hx;refine wpAny_bind (wpAny_field he hd h1 ?_);rw[if_pos (show(Value.ref T != Value.none)=true from by simp)];refine wpAny_bind (wpAny_field hT hdT h3 ?_);rw[if_pos (show(rawInt L==rawInt L)=true from by first|(simp;done)|exact beq_self_eq_true _)];exact wpAny_pure (hQ s.heap hx (Flew.refl he hd))
theorem eP.Ji{fl:Value}{h h':Heap}{fs:List Addr}(hl:h.FunFrames base (env::outer))(fw:Flew H n (km (env::outer)) e h h'):∀T oT ts,h'.get? T=some oT->oT.data= .fields ts->T∉km (env::outer):=λT oT ts hT hd hm=>by
 obtain⟨_,o,ho,hnf⟩:=hl.mem hm;obtain⟨sl,q⟩:=fw.slot T o ho hm;rw[hT] at q;cases q;exact hnf ts hd
theorem yO(hfr:A.frames=some (env::outer))(hl:s.heap.FunFrames base (env::outer))(hf:env.frame=some L)(hx:DJ H n L s.heap e)(hn:n<=s.heap.objs.size)(hH:∀b,s.heap.objs.size<=b->H b=none)(hQ:∀h',eP H n .none h' e->Flew H n (km (env::outer)) e s.heap h'->Q () {s with heap:=h'}):wpAny M A (noteFrame (.ref e) env) (λ_ s2=>wpAny M A (setFlight (.ref e) none) Q E s2) E s:=by refine Ai hfr hl hf hx hn hH λh1 a1 f1=>?_;refine xA (s:={s with heap:=h1}) (fs:=km (env::outer)) a1 (λh2 a2 f2=>hQ h2 a2 (f1.trans f2)) (eP.Ji (fl:=.none) (fs:=[]) hl f1) none rfl
theorem EU(hfr:A.frames=some (env::outer))(hl:s.heap.FunFrames base (env::outer))(hf:env.frame=some L)(hx:DJ H n L s.heap e)(hn:n<=s.heap.objs.size)(hH:∀b,s.heap.objs.size<=b->H b=none)(hQ:∀h',eP H n .none h' e->Flew H n (km (env::outer)) e s.heap h'->Q () {s with heap:=h'}):wpAny M A (leaving env (.ref e)) Q E s:=wpAny_bind (yO hfr hl hf hx hn hH hQ)
end
end L2
namespace XM
open PySem PySem.W
section
open Sem (wp)
structure Line(B:String)(bm:List Value):Prop where
 b:bm.contains (.type B)=true
 base:bm.contains (.type "BaseException")=true
 attr:bm.contains (.type "AttributeError")=false
 name:bm.contains (.type "NameError")=false
section
variable{prog:Program}{w:World}{A:Around}{E:Value->Shared->Prop}{h:Heap}{g:Array GenState}{d:Drawn}{t:Nat}{os:OsState}
variable{nm q:Str}{C N:Addr}{bs bm bmB:List Value}{hdct:Bool}{sn:List Str}{sub:List Value}{ab:Bool}{col:Option Bool}{dd:Option Addr}{k0 k1 k2 k3 k5:Option Value}{B newId initId:String}
theorem Ft{M:Model}(F:ExcBaseFacts B newId initId bmB)(l:Line B bm){rest:List Value}{Q:Unit->Shared->Prop}(hC:h.get? C=some (excClassObj nm q C N bs bm hdct sn sub ab col dd k0 k1 k2 k3 k5 newId))(z:Q () ⟨h,g,d,t,os⟩):wpAny M A (checkBuiltinCall newId ⟨.ref C::rest,[]⟩) Q E ⟨h,g,d,t,os⟩:=by
 have c1:(Value.ref C::bm).contains (.type B)=true:=by
  rw[List.contains_cons,l.b,Bool.or_true]
 have c2:=F.noStar;simp only[checkBuiltinCall,F.newKind,F.newSplit,F.newRow];repeat (first
  |refine wpAny_loadPart_at hC ?_
  |(refine wpAny_isSubtype_exc hC ?_;rw[c1])
  |refine wpAny_staticBase_exc hC ?_
  |refine wpAny_madeBy_exc hC ?_
  |simp only[bne_self_eq_false,Bool.false_eq_true,if_false]
  |wp_step)
 exact z
theorem FN{R:Result->Shared->Prop}(F:ExcBaseFacts B newId initId bmB)(l:Line B bm){rest:List Value}(hC:h.get? C=some (excClassObj nm q C N bs bm hdct sn sub ab col dd k0 k1 k2 k3 k5 newId))(z:R (.ok (.ret (.ref (h.objs.size+1))))
   ⟨(h.push {cls:=.type "tuple",data:=.seq rest.toArray}).push {cls:=.ref C,data:=.fields #[.ref h.objs.size,.none,.none,.none,.bool false,.none]},g,d,t,os⟩)(hz:rest.length<=sizeLine):codeAny (model prog w) A (.builtin newId ⟨.ref C::rest,[]⟩) R ⟨h,g,d,t,os⟩:=by
 have c0:=F.ends;have c1:(Value.ref C::bm).contains (.type B)=true:=by
  rw[List.contains_cons,l.b,Bool.or_true]
 have c2:(Value.ref C::bm).contains (.type "AttributeError")=false:=by
  rw[List.contains_cons,l.attr];rfl
 have c3:(Value.ref C::bm).contains (.type "NameError")=false:=by
  rw[List.contains_cons,l.name];rfl
 refine codeAny_builtinAt F.entry ?_;unfold Builtin.«BaseException.__new__»;refine wpAt_bind ?_;show wpAt _ _ _ (stack>>=_) _ _ _;refine wpAt_bind (wpAt_stack λp below=>wpAt_of_wpAny ?_)
 wp_walk
 refine wpAt_of_wpAny ?_;rw[F.owner];repeat (first
  |with_reducible refine wpAny_madeHere_exc F.canon hC ?_
  |with_reducible refine wpAny_loadPart_at hC ?_
  |(with_reducible refine wpAny_isSubtype_exc hC ?_;first|rw[c1]|rw[c2]|rw[c3])
  |wp_step)
 show R _ _;rw[Heap.size_push];exact z
theorem Rh(F:ExcBaseFacts B newId initId bmB)(l:Line B bm){rest:List Value}{fI:Addr}{oI:Obj}{Q:Fin->Shared->Prop}(hC:h.get? C=some (excClassObj nm q C N bs bm hdct sn sub ab col dd k0 k1 k2 k3 k5 newId))(hi:Looks (model prog w) h (typeLookup (.ref C) "__init__") (some (.ref fI)))(hfI:h.get? fI=some oI)(hfc:oI.cls= .type "function")(hz:rest.length<=sizeLine)(z:wpAny (model prog w) A (call (.ref fI) (.ref (h.objs.size+1)::rest)) (λr s'=>r= .none/\Q (.done (.ret (.ref (h.objs.size+1)))) s') E
   ⟨(h.push {cls:=.type "tuple",data:=.seq rest.toArray}).push {cls:=.ref C,data:=.fields #[.ref h.objs.size,.none,.none,.none,.bool false,.none]},g,d,t,os⟩):
  wpAny (model prog w) A (Builtin.«type.__call__» ⟨.ref C::rest,[]⟩) Q E ⟨h,g,d,t,os⟩:=by
 repeat (first
  |with_reducible refine wpAny_loadPart_at hC ?_
  |with_reducible refine wpAny_madeBy_exc hC ?_
  |wp_step)
 refine codeAny_call_builtin_code (Code.quiet_builtin _ F.quiet) (Ft F l hC ?_);refine FN F l hC ?_ hz;show wpAny _ _ _ _ _ _;have kp:∀b o,h.get? b=some o->((h.push {cls:=.type "tuple",data:=.seq rest.toArray}).push {cls:=.ref C,data:=.fields #[.ref h.objs.size,.none,.none,.none,.bool false,.none]}).get? b=some o:=λb o e=>
  Heap.get?_push_of_some _ (Heap.get?_push_of_some _ e)
 have hget:((h.push {cls:=.type "tuple",data:=.seq rest.toArray}).push {cls:=.ref C,data:=.fields #[.ref h.objs.size,.none,.none,.none,.bool false,.none]}).get? (h.objs.size+1)=
   some {cls:=.ref C,data:=.fields #[.ref h.objs.size,.none,.none,.none,.bool false,.none]}:=by heap_get
 have hC1:=kp _ _ hC;have cC:(Value.ref C::bm).contains (.ref C)=true:=by simp
 unfold isInstance;repeat (first
  |with_reducible refine wpAny_loadPart_at hget ?_
  |(with_reducible refine wpAny_isSubtype_exc hC1 ?_;rw[cC])
  |wp_step)
 show wpAny _ _ (typeLookup (.ref C) _) _ _ _;refine hi _ _ _ _ kp ?_;refine wpAny_holding (wpAny_bind ?_);unfold bindSpecial;refine wpAny_bind (wpAny_typeOf (T:="function") ⟨_,kp _ _ hfI,hfc⟩ ?_);rw[if_pos ↑0];refine wpAny_pure (wpAny_bind (wpAny_mono z (λr s' hr=>?_) λ_ _ x=>x));obtain⟨rfl,hQ⟩:=hr
 wp_walk
 exact hQ
theorem made(F:ExcBaseFacts B newId initId bmB)(l:Line B bm){rest:List Value}{fI:Addr}{oI:Obj}{Q:Value->Shared->Prop}(hC:h.get? C=some (excClassObj nm q C N bs bm hdct sn sub ab col dd k0 k1 k2 k3 k5 newId))(hi:Looks (model prog w) h (typeLookup (.ref C) "__init__") (some (.ref fI)))(hfI:h.get? fI=some oI)(hfc:oI.cls= .type "function")(hz:rest.length<=sizeLine)(z:wpAny (model prog w) (A.under (.builtin "type.__call__" ⟨.ref C::rest,[]⟩)) (call (.ref fI) (.ref (h.objs.size+1)::rest)) (λr s'=>r= .none/\Q (.ref (h.objs.size+1)) s') E
   ⟨(h.push {cls:=.type "tuple",data:=.seq rest.toArray}).push {cls:=.ref C,data:=.fields #[.ref h.objs.size,.none,.none,.none,.bool false,.none]},g,d,t,os⟩):
  wpAny (model prog w) A (call (.ref C) rest) Q E ⟨h,g,d,t,os⟩:=by
 have f1:=tc_lookup;have f2:=tc_bind (.ref C);have f3:(⟨h,g,d,t,os⟩:Shared).TypeIs (.ref C) "type":=⟨_,hC,rfl⟩
 refine wpAny_call (codeAny_of_tree ?_);show wpAny _ _ (callAny (.ref C) _) _ _ _;repeat (any_goals (first
  |assumption
  |with_reducible refine wpAny_loadPart_at hC ?_
  |wp_step))
 refine⟨rfl,?_⟩;exact codeAny_call_builtin_at (Code.quiet_builtin _ ↑1) entry_typeCall (wpAny_check_type_call_sub hC (Rh F l hC hi hfI hfc hz z))
theorem raises{M:Model}{s:Shared}{env:Env}{x:Sem Value}{Q:Flow->Shared->Prop}(hbase:bm.contains (.type "BaseException")=true)(hh:A.handled=none)(z:wpAny M A x (λv s₁=>∃(e:Addr)(oe:Obj)(vs:Array Value),v= .ref e/\s₁.heap.get? C=some (excClassObj nm q C N bs bm hdct sn sub ab col dd k0 k1 k2 k3 k5 newId)/\
   s₁.heap.get? e=some oe/\oe.cls= .ref C/\oe.data= .fields vs/\vs[1]?=some .none/\E (.ref e) s₁) E s):wpAny M A (raiseStmt env (some x) none) Q E s:=by
 have cB:(Value.ref C::bm).contains (.type "BaseException")=true:=by
  rw[List.contains_cons,hbase,Bool.or_true]
 unfold raiseStmt;refine wpAny_bind (wpAny_mono z (λv s₁ h₁=>?_) λ_ _ x=>x);obtain⟨e,oe,vs,rfl,hC,he,hcl,hd,h1,hE⟩:=h₁;obtain⟨oc,od,odt,osl⟩:=oe;cases hcl;cases hd;obtain⟨hp,g,d,tk,os⟩:=s₁;repeat (first
  |with_reducible refine wpAny_loadPart_at he ?_
  |with_reducible refine wpAny_loadPart_at hC ?_
  |(with_reducible refine wpAny_isSubtype_exc hC ?_;rw[cB])
  |with_reducible refine wpAny_field he rfl h1 ?_
  |wp_step)
 exact wpAny_raiseNew_none hh hE
end
end
section
open Builtin Builtin.ObjectAttr
def dN:List Value->Bool
 |[]=>false
 |v::r=>(match v with| .ref _=>dN r|_=>false)||decide (v::r=[.type "Exception",.type "BaseException",.type "object"])
theorem lU{v:Value}{r:List Value}(e:dN (v::r)=true):(∃c,v= .ref c/\dN r=true)\/v::r=[.type "Exception",.type "BaseException",.type "object"]:=by
 unfold dN at e;rw[Bool.or_eq_true] at e;rcases e with e|e
 ·cases v <;> first|exact .inl ⟨_,rfl,e⟩|cases e
 ·exact .inr (of_decide_eq_true e)
theorem ly(self:Value):∀(l:List Value),dN l=true->refuseLoop self "__setattr__" l=pure ()
 |[],e=>by cases e
 |v::r,e=>by
  rcases lU e with⟨c,rfl,e'⟩|e'
  ·rw[refuseLoop_ref];exact ly self r e'
  ·rw[e'];exact PySem.F.store_Exception.passes self
theorem oQ:∀(l:List Value),dN l=true->l.contains (.type "object")=true
 |[],e=>by cases e
 |v::r,e=>by
  rcases lU e with⟨c,rfl,e'⟩|e'
  ·rw[List.contains_cons,oQ r e',Bool.or_true]
  ·rw[e'];decide+kernel
theorem o9{prog:Program}{w:World}{A:Around}{K:Frag}{s:Shared}{x C:Addr}{R:Result->Shared->Prop}{obj:Obj}{dobj:Option Obj}{field:Str}{tok:Tok}{val:Value}{cd:ClassData}(KX:K.In s.heap)(J:InstAt s.heap x obj C dobj)(cls:clsIn K C=some cd)(line:dN cd.mro=true)(free:takerIn K C field=some none)(go:∀had,wpAny (model prog w) A.in1 (storeInOwnDict (.ref x) (.ref C) (.str field tok) field val had) (λfin s'=>match fin with| .done f=>R (.ok f) s'| .again c'=>c'.quiet=true/\codeAny (model prog w) A c' R s') (λe s'=>R (.error e) s') s):
  codeAny (model prog w) A (.call (.builtin "object.__setattr__") ⟨[.ref x,.str field tok,val],[]⟩) R s:=by
 have facts:=PySem.F.store_Exception;have full:cd.mro.isEmpty=false:=by
  cases q:cd.mro with
  |nil=>rw[q] at line;cases line
  |cons _ _=>rfl
 have isObj:Looks (model prog w) s.heap (isInstance (.ref x) (.type "object")) true:=by
  refine J.type.andThen (looks_mroIn KX ?_);unfold mroIn;rw[cls,Option.bind_some,if_neg (by rw[full];decide),oQ _ line]
 refine codeAny_call_builtin facts.slot.plain facts.entry ?_;refine @check_slot (model prog w) _ _ s "object.__setattr__" "object" "__setattr__" (.ref x) [.str field tok,val] [] _ facts.kind facts.split isObj (facts.args (.ref x) (.str field tok) val) ?_;obtain⟨attr,found,taken⟩:=Option.bind_eq_some_iff.mp free;have lmro:Looks (model prog w) s.heap (mroOf (.ref C)) cd.mro:=(looks_clsIn KX cls).andThen .now;have ltak:Looks (model prog w) s.heap (storeTaker? attr) none:=by
  cases attr with
  |none=>exact .now
  |some v=>
   obtain⟨b,hb,hbn⟩:=Option.map_eq_some_iff.mp taken;refine(looks_takesIn KX hb).andThen ?_;cases b
   ·exact .now
   ·cases hbn
 rw[osa_eq,refuse_eq];refine wpAny_bind (wpAny_bind (J.type.here (wpAny_bind (lmro.here ?_))));rw[ly (.ref x) _ line];exact wpAny_pure (wpAny_bind (J.type.here (wpAny_bind ((looks_findIn KX found).here (wpAny_bind (ltak.here (go _)))))))
section
variable{prog:Program}{w:World}{A:Around}{E:Value->Shared->Prop}{s:Shared}{K:Frag}{x dx C:Addr}{mA:Str->Option Value}{name:Str}{v:Value}{vs:Array Value}{sl:Array (Option Value)}
theorem D_{Q:Unit->Shared->Prop}(X:K.In s.heap)(hx:s.heap.get? x=some ⟨.ref C,none,.fields vs,sl⟩)(hs:findIn K (.ref C) "__setattr__"=some (some (.builtin "object.__setattr__"))){cd0:ClassData}(hp0:clsIn K C=some cd0)(hp:dN cd0.mro=true)(ht:takerIn K C name=some none)(hh:hasDictIn K C=true)(z:∀h',h'.Ns1 s.heap.objs.size (λy=>if y=name then some v else none)->h'.get? x=some ⟨.ref C,some s.heap.objs.size,.fields vs,sl⟩->(∀b o,b≠x->s.heap.get? b=some o->h'.get? b=some o)->Q () {s with heap:=h',toks:=s.toks+2}):
  wpAny (model prog w) A (setAttr (.ref x) name v) Q E s:=by
 have J:PySem.W.InstAt s.heap x ⟨.ref C,none,.fields vs,sl⟩ C none:=⟨hx,rfl,rfl,trivial⟩
 refine PySem.W.set_plain X J hs (o9 (s:={s with toks:=s.toks+1}) X J hp0 hp ht λb=>?_);obtain⟨cd,hc,hd'⟩:=PySem.W.any_some hh;refine wpAny_bind (wpAny_pure (wpAny_bind (wpAny_bind (wpAny_loadPart hx (wpAny_bind (PySem.W.Looks.here (s:={s with toks:=s.toks+1}) (PySem.W.looks_clsIn X hc) ?_))))));rw[hd'];have hx1:(s.heap.push {cls:=.type "dict",data:=.dict #[]}).get? x=some ⟨.ref C,none,.fields vs,sl⟩:=Heap.get?_push_of_some _ hx;have hxs:x≠s.heap.objs.size:=Nat.ne_of_lt (Heap.lt_size hx);show wpAny _ _ (do
  let d<-alloc {cls:=.type "dict",data:=.dict #[]}
  update x λo=>{o with dict:=some d}
  dictMade (.ref C) x d) _ _ _
 refine wpAny_bind (wpAny_alloc' (wpAny_bind (wpAny_update' hx1 ?_)));refine wpAny_pure (a:=some s.heap.objs.size) (wpAny_bind (wpAny_pure (wpAny_bind ?_)));have gx:((s.heap.push {cls:=.type "dict",data:=.dict #[]}).update x λo=>{o with dict:=some s.heap.objs.size}).get? x=some ⟨.ref C,some s.heap.objs.size,.fields vs,sl⟩:=Heap.get?_update_self _ hx1 rfl;have gd:((s.heap.push {cls:=.type "dict",data:=.dict #[]}).update x λo=>{o with dict:=some s.heap.objs.size}).get? s.heap.objs.size=some {cls:=.type "dict",data:=.dict #[]}:=
  (Heap.get?_update_other _ _ hxs).trans (Heap.get?_push_at rfl rfl)
 have nd:((s.heap.push {cls:=.type "dict",data:=.dict #[]}).update x λo=>{o with dict:=some s.heap.objs.size}).Ns s.heap.objs.size (λ_=>none):=
  ⟨_,#[],_,gd,rfl,λe he=>absurd he (by simp),λ_=>rfl⟩
 refine wpAny_nsSet1 (s:={s with heap:=_,toks:=s.toks+1}) (Heap.Ns1.of_empty nd) λh' hn2 hs2=>?_;obtain⟨oD,esD,epD,hoD,hdD,hcD⟩:=hn2.count (PySem.Within.cons name v PySem.Within.nil);refine wpAny_bind (wpAny_lookBehind hoD (by rw[hdD];exact pastItsLine_dict (Nat.le_trans hcD (by rw[List.length_cons,List.length_nil,sizeLine_eq];omega))) ?_);refine wpAny_pure (z _ hn2 ((hs2.2 x hxs).trans gx) λb o hb e=>?_);exact(hs2.2 b (Nat.ne_of_lt (Heap.lt_size e))).trans ((Heap.get?_update_other _ _ (Ne.symm hb)).trans (Heap.get?_push_of_some _ e))
theorem G1{ns:List Str}{Q:Unit->Shared->Prop}(X:K.In s.heap)(hx:s.heap.get? x=some ⟨.ref C,some dx,.fields vs,sl⟩)(hn:s.heap.Ns1 dx mA)(hne:dx≠x)(hs:findIn K (.ref C) "__setattr__"=some (some (.builtin "object.__setattr__"))){cd0:ClassData}(hp0:clsIn K C=some cd0)(hp:dN cd0.mro=true)(ht:takerIn K C name=some none)(hh:hasDictIn K C=true)(hw:PySem.Within mA ns)(hsz:ns.length<=sizeLine)(z:∀h',h'.Ns1 dx (λy=>if y=name then some v else mA y)->Heap.SameBut dx s.heap h'->Q () {s with heap:=h',toks:=s.toks+2}):
  wpAny (model prog w) A (setAttr (.ref x) name v) Q E s:=by
 have J:∃od,PySem.W.InstAt s.heap x ⟨.ref C,some dx,.fields vs,sl⟩ C (some od):=by
  obtain⟨o,_,_,ho,_⟩:=hn;exact⟨o,hx,rfl,rfl,ho⟩
 obtain⟨od,J⟩:=J;refine PySem.W.set_plain X J hs (o9 (s:={s with toks:=s.toks+1}) X J hp0 hp ht λb=>?_);obtain⟨cd,hc,hd'⟩:=PySem.W.any_some hh;refine wpAny_bind (wpAny_pure (wpAny_bind (wpAny_bind (wpAny_loadPart hx (wpAny_bind (PySem.W.Looks.here (s:={s with toks:=s.toks+1}) (PySem.W.looks_clsIn X hc) ?_))))));rw[hd'];refine wpAny_pure (a:=some dx) (wpAny_bind (wpAny_pure (wpAny_bind ?_)));refine wpAny_nsSet1 (s:={s with toks:=s.toks+1}) hn λh' hn2 hs2=>?_;obtain⟨oD,esD,epD,hoD,hdD,hcD⟩:=hn2.count (PySem.Within.cons name v hw);refine wpAny_bind (wpAny_lookBehind hoD (by rw[hdD];exact pastItsLine_dict (Nat.le_trans hcD (by rw[List.length_cons];omega))) ?_);exact wpAny_pure (z _ hn2 hs2)
theorem KC{expr:Bool}{ox:Obj}{od:Option Obj}{Q:Value->Shared->Prop}(X:K.In s.heap)(I:PySem.W.InstAt s.heap x ox C od)(hga:findIn K (.ref C) "__getattribute__"=some (some (.builtin "BaseException.__getattribute__")))(hgt:findIn K (.ref C) "__getattr__"=some none)(hsub:mroIn K C (.type "BaseException")=some true)(hf:findObj K C od name=some (.value v))(hv:handedIn v=true)(z:Q v {s with toks:=s.toks+1}):
  wpAny (model prog w) A (getAttr (.ref x) name expr) Q E s:=by
 obtain⟨hp,g,d,t,os⟩:=s;have L0:=I.type (M:=model prog w);have L1:=looks_findIn (M:=model prog w) X hga;have L2:=looks_findIn (M:=model prog w) X hgt;have L3:=looks_find (M:=model prog w) X I hf;have L4:Looks (model prog w) hp (isInstance (.ref x) (.type "BaseException")) true:=L0.andThen (looks_mroIn X hsub);unfold getAttr getAttrBy;refine wpAny_bind (wpAny_mkText (wpAny_holding (wpAny_bind (L0.at (wpAny_bind (L1.at ?_))))));have ne:(onTheHeap (Value.ref C)&&Value.builtin "BaseException.__getattribute__"==Value.builtin "object.__getattribute__")=false:=by
  rw[show(Value.builtin "BaseException.__getattribute__"==Value.builtin "object.__getattribute__")=false from ↑1,Bool.and_false]
 show wpAny _ _ (if(onTheHeap (Value.ref C)&&Value.builtin "BaseException.__getattribute__"==Value.builtin "object.__getattribute__")=true then _ else getAttrByItsOwn _ _ _ _ _ _) _ _ _;rw[ne,if_neg ↑0];unfold getAttrByItsOwn;refine wpAny_bind (L2.at (wpAny_bind (wpAny_attempt (wpAny_holding ?_))));unfold callGetattribute;rw[show(expr&&onTheHeap (Value.builtin "BaseException.__getattribute__"))=false from Bool.and_false _,if_neg ↑0];unfold boundAndCalled;rw[PySem.F.excAttr_ValueError.ga.bind];refine wpAny_bind (wpAny_pure ?_);show wpAny _ _ (call (.builtin "BaseException.__getattribute__") [.ref x,.str name t]) _ _ _;refine wpAny_call (codeAny_call_builtin PySem.F.excAttr_ValueError.ga.plain PySem.F.entry_bexc_ga ?_);refine @check_slot (model prog w) _ _ ⟨hp,g,d,t+1,os⟩ "BaseException.__getattribute__" "BaseException" "__getattribute__" (.ref x) [.str name t] [] _ ↑1 ↑1 L4 (PySem.F.args_bexc_ga (.ref x) (.str name t)) ?_;unfold Builtin.«object.__getattribute__»;refine wpAny_bind (wpAny_pure ?_);refine wpAny_bind (wpAny_pure ?_);refine wpAny_bind (L0.at (wpAny_bind (L3.at ?_)));refine wpAny_pure ?_;show wpAny _ _ (handedOut v) _ _ _;rw[handedOut_of hv];exact wpAny_pure z
end
end
end XM
namespace L2
open PySem PySem.Spec PyProof.Rows
def jT(e C:Addr)(dx:Option Addr):HO:=.ext λh=>∃(vs:Array Value)(sl:Array (Option Value)),h.get? e=some ⟨.ref C,dx,.fields vs,sl⟩
def eV(e C:Addr)(dx:Option Addr):HO:=.ext λh=>∃(vs:Array Value)(sl:Array (Option Value)),h.get? e=some ⟨.ref C,dx,.fields vs,sl⟩/\vs[1]?=some .none
def v8(d:Addr)(fs:List (Str×V)):HO:=.ext λh=>∃mA,h.Ns1 d mA/\(∀f,d5 (fs.lookup f) (mA f))/\PySem.Within mA (fs.map (·.1))/\fs.length<=1000
section
variable{P:Program}{w:World}{H:Hp}{h:Heap}{e C d:Addr}{dx:Option Addr}{vs:Array Value}{sl:Array (Option Value)}{fs:List (Str×V)}{mA:Str->Option Value}
theorem Cz(q:h.get? e=some ⟨.ref C,dx,.fields vs,sl⟩):bK P w H h e (jT e C dx):=
 ⟨⟨vs,sl,q⟩,⟨_,q⟩,λ_ _ ⟨vs,sl,z⟩ k=>⟨vs,sl,k _ z⟩⟩
theorem DV(q:h.get? e=some ⟨.ref C,dx,.fields vs,sl⟩)(q1:vs[1]?=some .none):bK P w H h e (eV e C dx):=
 ⟨⟨vs,sl,q,q1⟩,⟨_,q⟩,λ_ _ ⟨vs,sl,z,z1⟩ k=>⟨vs,sl,k _ z,z1⟩⟩
theorem FX(n:h.Ns1 d mA)(r:∀f,d5 (fs.lookup f) (mA f))(wi:PySem.Within mA (fs.map (·.1)))(l:fs.length<=1000):bK P w H h d (v8 d fs):=
 ⟨⟨mA,n,r,wi,l⟩,let⟨o,_,_,q,_⟩:=n;⟨o,q⟩,λ_ _ ⟨mA,n,r⟩ k=>⟨mA,n.at k,r⟩⟩
theorem r8(aZ:gA P w H h)(q:H e=some (jT e C dx)):∃vs sl,h.get? e=some ⟨.ref C,dx,.fields vs,sl⟩:=(aZ e _ q).1
theorem sC(aZ:gA P w H h)(q:H e=some (eV e C dx)):∃vs sl,h.get? e=some ⟨.ref C,dx,.fields vs,sl⟩/\vs[1]?=some .none:=(aZ e _ q).1
theorem Cw(aZ:gA P w H h)(q:H d=some (v8 d fs)):∃mA,h.Ns1 d mA/\(∀f,d5 (fs.lookup f) (mA f))/\PySem.Within mA (fs.map (·.1))/\fs.length<=1000:=(aZ d _ q).1
end
def Dd(H:Hp)(e:Addr):Prop:=∃C dx,H e=some (jT e C dx)
section
variable{X:Cx}{σ:St}{H:Hp}{s:Shared}{e:Addr}{h':Heap}
theorem Inv.flew(I:Inv X [] σ H s)(hpn:X.pn=[])(he:Dd H e)(fw:Flew H X.nO.heap.objs.size (km X.stack) e s.heap h'):Inv X [] σ H {s with heap:=h'}:=by
 obtain⟨C,dx,he⟩:=he;obtain⟨vs,sl,hge⟩:=r8 I.aZ he
 let isR:Addr->Bool:=λb=>match s.heap.get? b with|some o=>(match o.data with| .fields _=>true|_=>false)|none=>false
 let ch:List Addr:=(List.range s.heap.objs.size).filter λb=>decide (X.nO.heap.objs.size<=b)&&((H b).isNone&&isR b)
 have mem:∀b∈ch,X.nO.heap.objs.size<=b/\H b=none/\∃o ts,s.heap.get? b=some o/\o.data= .fields ts:=λb hb=>by
  have q:=(List.mem_filter.mp hb).2;simp only[Bool.and_eq_true,decide_eq_true_eq,Option.isNone_iff_eq_none] at q;refine⟨q.1,q.2.1,?_⟩;have z:isR b=true:=q.2.2;dsimp only[isR] at z;split at z
  ·rename_i o ho;split at z
   ·rename_i ts hd;exact⟨o,ts,ho,hd⟩
   ·cases z
  ·cases z
 have nmem:∀b o,s.heap.get? b=some o->b∉ch->H b=none->b<X.nO.heap.objs.size\/H b≠none\/∀ts,o.data≠.fields ts:=λb o q hb n=>by
  by_cases h1:X.nO.heap.objs.size<=b
  ·right;right;intro ts hd;apply hb;refine List.mem_filter.mpr ⟨List.mem_range.mpr (Heap.lt_size q),?_⟩;have z:isR b=true:=by dsimp only[isR];rw[q];dsimp only;rw[hd]
   rw[decide_eq_true h1,n,z];rfl
  ·exact .inl (Nat.lt_of_not_le h1)
 have ne:∀b,H b=none->b≠e:=λb n z=>by rw[z,he] at n;cases n
 have inS:∀b,b∈X.fs->b∈km X.stack:=λb hb=>by
  rcases I.ok.OF with z|⟨z,hf⟩
  ·rw[z];exact hb
  ·rw[z];unfold km;rw[List.filterMap_cons,hf];exact List.mem_cons_of_mem _ hb
 obtain⟨m0,⟨oL,esL,epL,hoL,hdL,rL⟩,_⟩:=id I.loc;have dictL:∀ts,oL.data≠.fields ts:=λts z=>by rw[hdL] at z;cases z
 have locK:∃sl,h'.get? X.env.locals=some {oL with slots:=sl}:=by
  by_cases hb:X.env.locals∈km X.stack
  ·exact fw.slot _ _ hoL hb
  ·exact⟨oL.slots,fw.keep _ _ hoL hb (ne _ I.free) (.inr (.inr dictL))⟩
 refine I.step (g':=s.gens) (d':=s.drawn) (t':=s.toks) (ch:=ch) (λb hb=>?_) (λb o h1 h2 h3 q n=>?_) (λb o h1 h2 h3 q n=>fw.slot b o q (inS b h2)) (λ_ _ _ _ n=>n) (λb o _ q=>fw.there b o q)
  (λ_ _ q=>q) (λ_ _ _ q=>q) (λb ps q=>⟨#[],by rw[q];simp⟩) (λm hm=>?_) (λb u q=>?_) I.bare
 ·obtain⟨h1,h2,o,ts,h3,h4⟩:=mem b hb;refine⟨.inr h1,λz=>?_,λx c hc z=>?_,λp hp=>?_⟩
  ·subst z;rw[hoL] at h3;cases h3;exact dictL ts h4
  ·subst z;obtain⟨v,o',q1,q2⟩:=I.cell x c hc;rw[h3] at q1;cases q1;rw[h4] at q2;cases q2
  ·rw[hpn] at hp;exact absurd hp (by simp)
 ·refine fw.keep b o q (λhb=>?_) (ne b n) (nmem b o q h3 n);rcases List.mem_cons.mp (I.wc b hb) with z|z
  ·exact h1 z
  ·exact h2 z
 ·obtain⟨o',es',ep',ho',r'⟩:=hm;rw[hoL] at ho';cases ho';obtain⟨sl,z⟩:=locK;exact⟨_,es',ep',z,r'⟩
 ·have tr:∀c v,H c=some v->c≠e->∀o,s.heap.get? c=some o->h'.get? c=some o:=λc v hc hce o ho=>fw.keep c o ho (λhb=>by rw[I.vF c hb] at hc;cases hc) hce (.inr (.inl (by rw[hc];exact λz=>by cases z)));by_cases hbe:b=e
  ·subst hbe;rw[he] at q;cases q;obtain⟨vs',z⟩:=fw.exc _ hge;exact Cz z
  ·refine(I.aZ b u q).zM (λc v hc r=>?_) (λ_ r=>r) λ_ _ r=>r;rcases hc with z|z
   ·rw[z] at r ⊢;exact tr b u q hbe _ r
   ·refine tr c _ z (λy=>?_) _ r;rw[y,he] at z;cases z
end
def MR(X:Cx)(R:St->Addr->Hp->Prop):Value->Shared->Prop:=λv s'=>∃(e:Addr)(σ:St)(H:Hp),v= .ref e/\Inv X [] σ H s'/\DJ H X.nO.heap.objs.size X.env.locals s'.heap e/\Dd H e/\R σ e H
abbrev xw(X:Cx)(R:St->Addr->Hp->Prop):Cx:=X.kr (MR X R)
def g9(P:Program)(w:World):yA:=λouter H s E v s'=>∃(e:Addr)(H':Hp),v= .ref e/\s'.os=s.os/\AllBare s'.gens/\Un (km outer) [] H H' s.heap s'.heap/\gA P w H' s'.heap/\
 eP H' s.heap.objs.size .none s'.heap e/\Dd H' e/\E (.ref e) none H'
structure Top(X:Cx):Prop where
 st:X.stack=X.env::X.outer
 fr:X.env.frame=some X.env.locals
 pn:X.pn=[]
section
variable{X:Cx}{R:St->Addr->Hp->Prop}
theorem eP.mono{H:Hp}{n m:Nat}{fl:Value}{h:Heap}{e:Addr}(x:eP H n fl h e)(k:m<=n):eP H m fl h e:=by obtain⟨oe,vs,T,oT,ts,a,b,c,d,r⟩:=x;exact⟨oe,vs,T,oT,ts,a,b,c,Nat.le_trans k d,r⟩
theorem vL(T:Top X):PassesOwn (model X.prog X.w) X.A X.env (MR X R):=by
 rintro v s' ⟨e,σ,H,rfl,I,fl,he,r⟩;have hl:s'.heap.FunFrames X.base (X.env::X.outer):=by have:=I.stack;rw[T.st] at this;exact this
 refine Ai (by rw[I.ok.frames,T.st]) hl T.fr fl I.sz (λb hb=>I.aZ.fresh hb) λh1 a1 f1=>?_;have I1:=I.flew T.pn he (by rw[T.st];exact f1);obtain⟨oe,vs,Tb,oT,ts,q1,q2,q3,q4⟩:=id a1;show wpAny _ _ (do
  if(<-field (.ref e) 1)==.none then unsupported "frame.own-activation:exception-without-traceback"
  setFlight (.ref e) X.env.frame) _ _ _
 refine wpAny_bind (wpAny_field (s:={s' with heap:=h1}) q1 q2 q3 ?_);rw[if_neg (show ¬((Value.ref Tb==Value.none)=true) from by simp),T.fr];refine xA (s:={s' with heap:=h1}) (fs:=km (X.env::X.outer)) a1 (λh2 a2 f2=>?_) (eP.Ji (fl:=.none) (fs:=[]) hl f1) (some X.env.locals) rfl;have I2:=Inv.flew (s:={s' with heap:=h1}) I1 T.pn he (by rw[T.st];exact f2);exact⟨e,σ,H,rfl,I2,.inr (.inr a2),he,r⟩
theorem wm{E:XK}{UP:List (Addr×Obj)}{σ:St}{H:Hp}{s s':Shared}{v:Value}(I:Inv X UP σ H s)(hq:g9 X.prog X.w X.stack H s E v s')(hE:∀e H',E (.ref e) none H'->R σ e H'):MR X R v s':=by obtain⟨e,H',rfl,os,bare,un,aZ,fl,he,z⟩:=hq;have I1:=I.LP os un aZ bare (ch:=[]) (λb z=>absurd z (by simp));exact⟨e,σ,H',rfl,I1.qx (pins':=[]) (λp hp=>absurd hp (by simp)),.inr (.inl (fl.mono I.sz)),he,hE e H' z⟩
theorem uY{E:XK}(hE:∀σ e H',E (.ref e) none H'->R σ e H'):Passes (g9 X.prog X.w) (xw X R) E:=λUP σ H s v s' I hq=>wm I.dU hq (hE σ)
end
section
variable{P:Program}{w:World}{K:Frag}{mg:Str->Option Value}{base:Heap}
theorem E6{N:List Str}{qual:Str}{scope:Scope}{f:Addr}{cd:Value}{A:Around}{outer:List Env}{s:Shared}{H:Hp}{E:XK}{R:St->Addr->Hp->Prop}{v:Value}{s':Shared}(h:MR (iQ (g9 P w) P w K mg base N qual scope f cd A outer s H E) R v s')(hR:∀σ e H',R σ e H'->E (.ref e) none H'):(iQ (g9 P w) P w K mg base N qual scope f cd A outer s H E).xe v s':=by
 obtain⟨e,σ,H',rfl,I,fl,he,r⟩:=h;have T:Top (iQ (g9 P w) P w K mg base N qual scope f cd A outer s H E):=⟨rfl,rfl,rfl⟩
 refine EU (base:=base) (L:=s.heap.objs.size) (env:=envOfC qual scope s.heap.objs.size f cd) (outer:=outer) I.ok.frames I.stack rfl fl I.sz (λb hb=>I.aZ.fresh hb) λh1 a1 f1=>?_;have I1:=I.flew T.pn he f1;exact⟨e,H',rfl,I1.os,I1.bare,I1.base,I1.aZ,a1,he,hR σ e H' r⟩
theorem js.um{x qual:Str}{st:Stmt}{f:Addr}{fd:FuncData}{N ps:List Str}{k:Nat}{sp:Sp}(F:js K x qual st f fd)(S:ax N ps (aq st))(len:∀vs H Q E,sp vs H Q E->vs.length=ps.length)(hbody:∀(UQ:Value)(A:Around)(outer:List Env)(s:Shared)(H:Hp)(vs:List V)(Q:VK)(E:XK),bC k (A.deeper (envOfC qual (aq st) s.heap.objs.size f UQ))->sp vs H Q E->
   ∃t,rT (xw (iQ (g9 P w) P w K mg base N qual (aq st) f UQ A outer s H E) λ_ e H'=>E (.ref e) none H') (bX st) t/\t {nx:=λ_ H'=>Q .bH H',rt:=Q} (start N vs) H):bY P w K mg base (g9 P w) (k+1) f fd ps sp:=by
 obtain⟨oc,od,kV,doc,pm,an,UQ,ct,osl,rfl,lk,hcd⟩:=F.ex;refine Mc lk hcd S len λA outer s H vs Q E hr hsp=>?_;obtain⟨t,h,q⟩:=hbody UQ A outer s H vs Q E hr hsp;refine⟨t,λUP s1 σ H1 D I hw=>wpAny_mono (h UP s1 σ H1 D (I.kr _) hw) (λ_ _ z=>z.dU) λv s2 z=>E6 z λ_ _ _ y=>y,q⟩
end
structure sj(K:Frag)(C:Addr):Prop where
 sa:PySem.W.findIn K (.ref C) "__setattr__"=some (some (.builtin "object.__setattr__"))
 po:∃cd,PySem.W.clsIn K C=some cd/\XM.dN cd.mro=true
 hd:PySem.W.hasDictIn K C=true
 ga:PySem.W.findIn K (.ref C) "__getattribute__"=some (some (.builtin "BaseException.__getattribute__"))
 gt:PySem.W.findIn K (.ref C) "__getattr__"=some none
 sub:PySem.W.mroIn K C (.type "BaseException")=some true
structure Ir(K:Frag)(C f:Addr):Prop where
 at_:∃(nm q:Str)(N:Addr)(bs bm:List Value)(hdct:Bool)(sn:List Str)(sub:List Value)(ab:Bool)(col:Option Bool)(dd:Option Addr)(k0 k1 k2 k3 k5:Option Value),
  K.lookup C=some (excClassObj nm q C N bs bm hdct sn sub ab col dd k0 k1 k2 k3 k5 "Exception.__new__")/\XM.Line "Exception" bm
 init:PySem.W.findIn K (.ref C) "__init__"=some (some (.ref f))
 fn:PySem.W.isFn K (.ref f)=true
 kp:PySem.W.keepIn K (.ref C)=true
section
variable{X:Cx}{UP:List (Addr×Obj)}{σ:St}{H:Hp}{s:Shared}{e C d:Addr}{fs:List (Str×V)}{f:Str}{A:Around}{E:Value->Shared->Prop}
theorem Bj{y:V}{u:Value}{Q:Unit->Shared->Prop}(I:Inv X UP σ H s)(he:H e=some (eV e C none))(c:sj X.K C)(n:aE X.K C f)(ry:RelV y u)(h:∀d s',H d=none->Inv X UP σ (upd (upd H d (v8 d [(f,y)])) e (eV e C (some d))) s'->Q () s'):wpAny (model X.prog X.w) A (setAttr (.ref e) f u) Q E s:=by
 obtain⟨vs,sl,q,q1⟩:=sC I.aZ he;obtain⟨cd0,cd1,cd2⟩:=c.po;refine XM.D_ I.dZ q c.sa cd1 cd2 n.G5 c.hd λh' n1 g1 kp=>?_;have hf:H s.heap.objs.size=none:=I.aZ.fresh (Nat.le_refl _);have hne:e≠s.heap.objs.size:=Nat.ne_of_lt (Heap.lt_size q);refine h s.heap.objs.size _ hf ?_;have u1:Un X.fs [] H (upd H s.heap.objs.size (v8 s.heap.objs.size [(f,y)])) s.heap (s.heap):=Un.laid (λ_ _ z=>z) (Nat.le_refl _) hf;have hmu:Pe (upd H s.heap.objs.size (v8 s.heap.objs.size [(f,y)]) e):=by rw[ah hne,he];exact True.intro
 have u2:Un X.fs [] (upd H s.heap.objs.size (v8 s.heap.objs.size [(f,y)])) (upd (upd H s.heap.objs.size (v8 s.heap.objs.size [(f,y)])) e (eV e C (some s.heap.objs.size))) s.heap h':=
  Un.write hmu (.inl rfl) (λb o hb z=>kp b o hb z) ⟨_,g1⟩
 have aZ:gA X.prog X.w (upd (upd H s.heap.objs.size (v8 s.heap.objs.size [(f,y)])) e (eV e C (some s.heap.objs.size))) h':=λb o z=>by
  by_cases hb:b=e
  ·subst hb;rw[ag] at z;cases z;exact DV g1 q1
  ·rw[ah hb] at z;by_cases hb2:b=s.heap.objs.size
   ·subst hb2;rw[ag] at z;cases z;refine FX n1 (λg=>?_) (λg hg=>?_) (by simp)
    ·show d5 (List.lookup g [(f,y)]) (if g=f then some u else none);by_cases gf:g=f
     ·subst gf;simp only[List.lookup,beq_self_eq_true,if_true];exact ry
     ·simp only[List.lookup,beq_eq_false_iff_ne.mpr gf,if_neg gf];trivial
    ·by_cases gf:g=f
     ·subst gf;simp
     ·simp[gf] at hg
   ·rw[ah hb2] at z;refine(I.aZ b o z).zM (λc v hc r=>kp c v ?_ r) (λc r=>?_) λc xs r=>?_
    ·rcases hc with y|y
     ·rw[y];exact hb
     ·exact λw'=>by rw[w',he] at y;cases y
    ·rw[ah (dA r he (by intro w';cases w')),ah (au r hf)];exact r
    ·rw[ah (dA r he (by intro w';cases w')),ah (au r hf)];exact r
 exact I.un (t':=s.toks+2) (u1.trans u2) aZ
theorem EK{y:V}{u:Value}{Q:Unit->Shared->Prop}(I:Inv X UP σ H s)(he:H e=some (eV e C (some d)))(hd:H d=some (v8 d fs))(c:sj X.K C)(n:aE X.K C f)(hl:fs.length<1000)(ry:RelV y u)(h:∀s',Inv X UP σ (upd H d (v8 d (aW f y fs))) s'->Q () s'):wpAny (model X.prog X.w) A (setAttr (.ref e) f u) Q E s:=by
 obtain⟨vs,sl,q,q1⟩:=sC I.aZ he;obtain⟨mA,n1,r,wi,_⟩:=Cw I.aZ hd;have hz:(fs.map (·.1)).length<=sizeLine:=by rw[List.length_map,sizeLine_eq];omega
 have hne:d≠e:=λz=>by
  subst z;obtain⟨o,_,_,ho,hdt,_⟩:=id n1;rw[q] at ho;cases ho;cases hdt
 obtain⟨cd0,cd1,cd2⟩:=c.po;refine XM.G1 I.dZ q n1 hne c.sa cd1 cd2 n.G5 c.hd wi hz λh' n2 sb=>h _ ?_;have hdo:∃o,h'.get? d=some o:=let⟨o,_,_,e',_⟩:=n2;⟨o,e'⟩;refine I.write (x:=d) (e:=d) (by rw[hd];exact True.intro) (.inl rfl) (λb q hb z=>(sb.2 b hb).trans z) hdo ?_;refine FX n2 (λg=>?_) (λg hg=>?_) (by have:=aG f y fs;omega)
 ·show d5 ((aW f y fs).lookup g) (if g=f then some u else mA g);rw[aA];by_cases q:g=f
  ·rw[if_pos q,if_pos q];exact ry
  ·rw[if_neg q,if_neg q];exact r g
 ·by_cases q:g=f
  ·rw[q];exact(f_ f y fs).1
  ·refine(f_ f y fs).2 g (wi g λz=>hg ?_);show(if g=f then some u else mA g)=none;rw[if_neg q];exact z
theorem TJ{b:Bool}{v:V}{Q:Value->Shared->Prop}(I:Inv X UP σ H s)(he:H e=some (jT e C (some d)))(hd:H d=some (v8 d fs))(c:sj X.K C)(n:aE X.K C f)(l:fs.lookup f=some v)(h:∀u s',Inv X UP σ H s'->RelV v u->Q u s'):wpAny (model X.prog X.w) A (getAttr (.ref e) f b) Q E s:=by
 obtain⟨vs,sl,q⟩:=r8 I.aZ he;obtain⟨mA,n1,r,_,_⟩:=Cw I.aZ hd;obtain⟨u,hu,ru⟩:=d5.some_of (v:=v) (o:=mA f) (by rw[<-l];exact r f);obtain⟨od,ho,hl⟩:=vD n1;have J:PySem.W.InstAt s.heap e ⟨.ref C,some d,.fields vs,sl⟩ C (some od):=⟨q,rfl,rfl,ho⟩
 exact XM.KC I.dZ J c.ga c.gt c.sub (PySem.W.findObj_own c.hd n rfl (by rw[hl,hu])) (vo ru) (h u _ (I.tok _) ru)
end
def Rn(K:Frag)(ta tv:TE)(f:Str):TS:=λD σ H=>tv σ H λy H1=>ta σ H1 λx H2=>∃e C,x= .ref e/\sj K C/\aE K C f/\
  ((H2 e=some (eV e C none)/\∀d,H2 d=none->D.nx σ (upd (upd H2 d (v8 d [(f,y)])) e (eV e C (some d))))\/
   ∃d fs,H2 e=some (eV e C (some d))/\H2 d=some (v8 d fs)/\fs.length<1000/\D.nx σ (upd H2 d (v8 d (aW f y fs))))
def Dl(K:Frag)(ta:TE)(f:Str):TE:=λσ H Q=>ta σ H λx H1=>∃e C d fs v,x= .ref e/\H1 e=some (jT e C (some d))/\H1 d=some (v8 d fs)/\sj K C/\aE K C f/\fs.lookup f=some v/\Q v H1
section
variable{X:Cx}{o e value:Expr}{f:Str}{pos pos' apos:Pos}{ta tv:TE}
theorem wb(ha:PE X o ta)(hv:PE X value tv)(hs:swapsWith value (some (.Attribute o f pos')) pos.line X.env=pure false):PS X (.Assign [.Attribute o f pos'] value pos) (Rn X.K ta tv f):=by
 intro UP s σ H D I h;refine plainObj_wpAny_Assign_Attribute (br (hv UP s σ H _ I h) λu s1 ⟨y,H1,I1,ry,q⟩=>br (ha UP s1 σ H1 _ I1 q) λov s2 ⟨x,H2,I2,rx,a,C,ex,c,n,q2⟩=>?_) hs;subst ex;obtain rfl:ov=Value.ref a:=rx;rcases q2 with⟨z1,z2⟩|⟨d,fs,z1,z2,z3,z4⟩
 ·exact Bj I2 z1 c n ry λd s3 hd I3=>⟨σ,_,I3,z2 d hd⟩
 ·exact EK I2 z1 z2 c n z3 ry λs3 I3=>⟨σ,_,I3,z4⟩
theorem xQ(he:PE X e ta)(hb:attributeBase e f X.env (eval e X.env)=eval e X.env):PE X (.Attribute e f pos) (Dl X.K ta f):=by intro UP s σ H Q I h;refine DF hb (br (he UP s σ H _ I h) λu s1 ⟨x,H1,I1,rx,a,C,d,fs,v,ex,ea,ed,c,n,l,q⟩=>?_);subst ex;obtain rfl:u=Value.ref a:=rx;exact TJ I1 ea ed c n l λu' s2 I2 ru=>⟨v,H1,I2,ru,q⟩
end
structure Gd(K:Frag)(C:Addr)(m:Str)(f:Addr):Prop where
 sp:PySem.W.specialIn K (.ref C) "__getattribute__"=some (some (.builtin "type.__getattribute__"))
 rd:PySem.W.readsIn K C (.type "type")=true
 at_:PySem.W.findCls K (.ref C) (.type "type") m=some (.val (.ref f))
 kp:PySem.W.keepIn K (.ref f)=true
section
variable{X:Cx}{CX:yA}{k:Nat}{f C:Addr}{fd:FuncData}{ps:List Str}{sp:Sp}{dvs:List V}{ds:List Value}{E:XK}{x m:Str}{p pos apos:Pos}{e o:Expr}{es:List Expr}{ta:TE}{t:TA}
theorem wK{pl:Sem Bool}(hg:Gl X x)(hm:X.mg x=some (.ref C))(c:Gd X.K C m f)(F:bY X.prog X.w X.K X.mg X.base CX k f fd ps sp)(hr:bC k X.A)(hb:Binds X.K fd ps ds)(hd:Vals dvs ds)(hx:Passes CX X E)(ha:PA X (e::es) t)(hdb:(x==("__debug__":Str))=false:=by decide)(hst:starEach (e::es) X.env=(false,eval e X.env)::starEach es X.env:=by rfl)(hpl:(backTo pos (starEach es X.env)).any (·.1)=false:=by rfl)(ht:eval (.Call (.Attribute (.Name x p) m apos) (e::es) [] pos) X.env=(do
   let ov<-eval (.Name x p) X.env
   standAt apos.atName
   let(f,first)<-holding [ov] (getMethod ov m pl)
   callWith pos f first (backTo pos (starEach (e::es) X.env)) (backToKw pos (keywordEach [] X.env))):=by rfl):
  PE X (.Call (.Attribute (.Name x p) m apos) (e::es) [] pos) (iT sp dvs E t):=by
 intro UP s σ H Q I h;refine PySem.W.methodCall_KW (pl:=pl) (dY I hg hm ?_ hdb) ht;refine PySem.W.method_cls I.dZ c.sp (PySem.W.cls_value I.dZ c.rd c.at_ rfl ?_);have I1:=I.tok (s.toks+1);refine PySem.W.callWith_K (first:=[]) (h₀:=X.base) I.ok.mod.EW c.kp (br (ha pos UP _ σ H _ I1 h) λus s2 ⟨vs,H2,I2,r,q2⟩=>⟨I2.dZ,?_⟩) hst hpl;exact oo (us:=us) (vs:=vs) F hr hb hd hx I2 r q2
def w9(C:Addr)(sp:Sp)(dvs:List V)(E:XK)(t:TA):TE:=λσ H Q=>t σ H λvs H1=>vs.length<=1000/\∀e,H1 e=none->sp (.ref e::(vs++dvs)) (upd H1 e (eV e C none)) (λv H2=>v= .bH/\Q (.ref e) H2) E
theorem vC{UP:List (Addr×Obj)}{σ:St}{H:Hp}{s:Shared}{Q:VK}{us:List Value}{vs:List V}(M:Ir X.K C f)(F:bY X.prog X.w X.K X.mg X.base CX k f fd ps sp)(hr:bC (k+1) X.A)(hb:Binds X.K fd ps ds)(hd:Vals dvs ds)(hx:Passes CX X E)(I:Inv X UP σ H s)(r:Vals vs us)(hl:vs.length<=1000)(h:∀e,H e=none->sp (.ref e::(vs++dvs)) (upd H e (eV e C none)) (λv H2=>v= .bH/\Q (.ref e) H2) E):wpAny (model X.prog X.w) X.A (call (.ref C) us) (EP X UP σ Q) X.xe s:=by
 have hq:=h (s.heap.objs.size+1) (I.aZ.fresh (Nat.le_succ _));obtain⟨nm,q,N,bs,bm,hdct,sn,sub,ab,col,dd,k0,k1,k2,k3,k5,hC,ln⟩:=M.at_;obtain⟨oI,hoI,hoc⟩:∃oI,X.K.lookup f=some oI/\oI.cls= .type "function":=by
  have z:=beq_iff_eq.mp M.fn;obtain⟨o,ho,z⟩:=Option.map_eq_some_iff.mp z;exact⟨o,ho,z⟩
 have hu:us.length<=sizeLine:=by rw[<-r.length,sizeLine_eq];omega
 have g1:((s.heap.push {cls:=.type "tuple",data:=.seq us.toArray}).push {cls:=.ref C,data:=.fields #[.ref s.heap.objs.size,.none,.none,.none,.bool false,.none]}).get? (s.heap.objs.size+1)=
   some ⟨.ref C,none,.fields #[.ref s.heap.objs.size,.none,.none,.none,.bool false,.none],#[]⟩:=by
  have:=Heap.get?_push_size (s.heap.push {cls:=.type "tuple",data:=.seq us.toArray}) (o:={cls:=.ref C,data:=.fields #[.ref s.heap.objs.size,.none,.none,.none,.bool false,.none]}) rfl
  rwa [Heap.size_push] at this
 have I2:Inv X UP σ (upd H (s.heap.objs.size+1) (eV (s.heap.objs.size+1) C none)) {s with heap:=(s.heap.push {cls:=.type "tuple",data:=.seq us.toArray}).push {cls:=.ref C,data:=.fields #[.ref s.heap.objs.size,.none,.none,.none,.bool false,.none]}}:=
  I.laid (t':=s.toks) (λb u z=>Heap.get?_push_of_some _ (Heap.get?_push_of_some _ z)) (Nat.le_succ _) (DV g1 rfl)
 have r2:Vals (V.ref (s.heap.objs.size+1)::(vs++dvs)) (Value.ref (s.heap.objs.size+1)::(us++ds)):=.cons rfl (r.append hd);have hl2:(Value.ref (s.heap.objs.size+1)::us++ds).length=ps.length:=by
  have e:=r2.length;rw[F.len _ _ _ _ hq] at e;exact e.symm
 obtain⟨hh,g,d,t,os⟩:=s;refine XM.made PySem.F.excBase_Exception ln (I.dZ _ _ hC) (PySem.W.looks_findIn I.dZ M.init) (I.dZ _ _ hoI) hoc hu ?_;refine wpAny_call (codeAny_mono (F.run _ X.stack _ _ ⟨Value.ref (hh.objs.size+1)::us,[]⟩ (Value.ref (hh.objs.size+1)::(us++ds)) _ _ E (hr.make C us [])
  (I2.EJ.make C us []) (hb _ (Value.ref (hh.objs.size+1)::us) I2.dZ hl2) r2 hq) λr s' hq'=>?_)
 cases r with
 |error e=>exact hx UP σ _ _ e s' I2 hq'
 |ok fl=>
  cases fl with
  |ret u=>
   obtain⟨v,H',I3,rv,ev,q3⟩:=I2.after hq';subst ev;exact⟨rv,⟨V.ref (hh.objs.size+1),H',I3,rfl,q3⟩⟩
  |next=>exact False.elim hq'
  |brk=>exact False.elim hq'
  |cont=>exact False.elim hq'
theorem G4(M:Ir X.K C f)(F:bY X.prog X.w X.K X.mg X.base CX k f fd ps sp)(hr:bC (k+1) X.A)(hg:Gl X x)(hm:X.mg x=some (.ref C))(hb:Binds X.K fd ps ds)(hd:Vals dvs ds)(hx:Passes CX X E)(ha:PA X (e::es) t)(hdb:(x==("__debug__":Str))=false:=by decide)(he:starEach (e::es) X.env=(false,eval e X.env)::starEach es X.env:=by rfl)(hpl:(backTo pos (starEach es X.env)).any (·.1)=false:=by rfl):
  PE X (.Call (.Name x p) (e::es) [] pos) (w9 C sp dvs E t):=by
 intro UP s σ H Q I h;refine wpAny_Call_Name_kw (dY I hg hm ?_ hdb);refine PySem.W.callWith_K (h₀:=X.base) I.ok.mod.EW M.kp (br (ha pos UP s σ H _ I h) λus s1 ⟨vs,H1,I1,r,hl,q⟩=>⟨I1.dZ,?_⟩) he hpl;exact vC M F hr hb hd hx I1 r hl q
theorem ET(M:Ir X.K C f)(F:bY X.prog X.w X.K X.mg X.base CX k f fd ps sp)(hr:bC (k+1) X.A)(hg:Gl X x)(hm:X.mg x=some (.ref C))(hb:Binds X.K fd ps ds)(hd:Vals dvs ds)(hx:Passes CX X E)(hdb:(x==("__debug__":Str))=false:=by decide):PE X (.Call (.Name x p) [] [] pos) (w9 C sp dvs E d4):=by intro UP s σ H Q I h;refine wpAny_Call_Name_kw (dY I hg hm ?_ hdb);exact PySem.W.callWith_K0 I.dZ M.kp (vC (us:=[]) M F hr hb hd hx I .nil h.1 h.2)
end
def N2(K:Frag)(R:St->Addr->Hp->Prop)(te:TE):TS:=λ_ σ H=>te σ H λx H1=>∃e C f dx,x= .ref e/\H1 e=some (eV e C dx)/\Ir K C f/\R σ e (upd H1 e (jT e C dx))
theorem cn{X:Cx}{R:St->Addr->Hp->Prop}{e:Expr}{te:TE}{pos:Pos}(hh:X.A.handled=none)(he:PE (xw X R) e te):PS (xw X R) (.Raise (some e) none pos) (N2 X.K R te):=by
 intro UP s σ H D I h;rw[arm_exec_Raise];refine wpAny_bind (wpAny_standAt ?_);show wpAny _ _ (raiseStmt _ (some (do let v<-eval e X.env;standAt pos;pure v)) none) _ _ _;have key:wpAny (model X.prog X.w) X.A (do let v<-eval e X.env;standAt pos;pure v) (λv s1=>∃(a C:Addr)(f:Addr)(dx:Option Addr)(H1:Hp),v= .ref a/\Inv X UP σ H1 s1/\H1 a=some (eV a C dx)/\Ir X.K C f/\R σ a (upd H1 a (jT a C dx))) (MR X R) s:=by
  refine wpAny_bind (br (he UP s σ H _ I h) λu s1 ⟨x,H1,I1,rx,a,C,f,dx,ex,h1,h2,h3⟩=>wpAny_bind (wpAny_standAt (wpAny_pure ?_)));subst ex;obtain rfl:u=Value.ref a:=rx;exact⟨a,C,f,dx,H1,rfl,I1.dU,h1,h2,h3⟩
 unfold raiseStmt;refine wpAny_bind (wpAny_mono key (λv s1 z=>?_) λ_ _ z=>z);obtain⟨a,C,f,dx,H1,rfl,I1,h1,M,h3⟩:=z;obtain⟨nm,q,N,bs,bm,hdct,sn,sub,ab,col,dd,k0,k1,k2,k3,k5,hC,ln⟩:=M.at_;obtain⟨vs,sl,hge,hv1⟩:=sC I1.aZ h1;have r0:=XM.raises (M:=model X.prog X.w) (A:=X.A) (E:=MR X R) (s:=s1) (env:=X.env) (x:=pure (.ref a)) (Q:=SP (xw X R) UP D) (C:=C) (nm:=nm) (q:=q) (N:=N) (bs:=bs) (bm:=bm) (hdct:=hdct) (sn:=sn) (sub:=sub) (ab:=ab) (col:=col) (dd:=dd) (k0:=k0) (k1:=k1) (k2:=k2) (k3:=k3) (k5:=k5) (newId:="Exception.__new__") ln.base hh
  (wpAny_pure ⟨a,_,vs,rfl,I1.dZ _ _ hC,hge,rfl,rfl,hv1,?_⟩)
 ·exact r0
 ·have I2:Inv X UP σ (upd H1 a (jT a C dx)) s1:=I1.write (x:=a) (e:=a) (h':=s1.heap) (t':=s1.toks) (by rw[h1];exact True.intro) (.inl rfl) (λb u _ z=>z) ⟨_,hge⟩ (Cz hge);exact⟨a,σ,_,rfl,I2.qx (pins':=[]) (λp hp=>absurd hp (by simp)),.inl ⟨_,vs,hge,rfl,hv1⟩,⟨C,dx,ag⟩,h3⟩
abbrev sx(X:Cx)(e:Addr):Cx:={X with A:=X.A.mark (some (.ref e)),calm:=false,xe:=λ_ _=>False}
section
variable{X:Cx}{UP:List (Addr×Obj)}{σ:St}{H:Hp}{s:Shared}{e:Addr}
theorem Inv.sx(I:Inv X UP σ H s)(e:Addr):Inv (sx X e) UP σ H s:=
 ⟨⟨I.ok.mod,I.ok.kind,I.ok.glob,I.ok.blt,I.ok.above,I.ok.inj,I.ok.has,I.ok.OO,(λz=>by cases z),I.ok.frames,I.ok.OF,I.ok.Pn,I.ok.bs,I.ok.FE,I.ok.Ba,I.ok.AD,I.ok.jQ,I.ok.Ju⟩,
  I.os,I.bare,I.base,I.loc,I.cell,I.free,I.fm,I.pin,I.aZ,I.len⟩
theorem Inv.SD(I:Inv (L2.sx X e) UP σ H s)(ok:X.Ok):Inv X UP σ H s:=⟨ok,I.os,I.bare,I.base,I.loc,I.cell,I.free,I.fm,I.pin,I.aZ,I.len⟩
theorem Inv.Rk{m':Str->Option Value}{h':Heap}{t':Nat}(I:Inv X UP σ H s)(hn:h'.Ns X.env.locals m')(hs:Heap.SameBut X.env.locals s.heap h'):Inv X UP (σ.map λ_=>none) H {s with heap:=h',toks:=t'}:=by
 have neL:∀b o,X.nO.heap.get? b=some o->b≠X.env.locals:=λb o q=>Nat.ne_of_lt (Nat.lt_of_lt_of_le (Heap.lt_size q) I.ok.above);refine⟨I.ok,I.os,I.bare,⟨λb o q n hb hx=>(hs.2 b (neL b o q)).trans (I.base.keep b o q n hb hx),λb o q n hb hx=>?_,I.base.free,λb o q hx=>?_,I.base.pP,I.base.nH,I.base.qa⟩,
  ⟨m',hn,λi x v _ e2 _=>?_⟩,λy c q=>?_,I.free,I.fm,λp hp=>?_,λb u q=>?_,by rw[List.length_map];exact I.len⟩
 ·obtain⟨sl,z⟩:=I.base.slot b o q n hb hx;exact⟨sl,(hs.2 b (neL b o q)).trans z⟩
 ·obtain⟨o',z⟩:=I.base.there b o q hx;exact⟨o',(hs.2 b (neL b o q)).trans z⟩
 ·rw[List.getElem?_map] at e2;cases z:σ[i]? with
  |none=>rw[z] at e2;cases e2
  |some y=>rw[z] at e2;cases e2
 ·obtain⟨w',z⟩:=I.cell y c q;exact⟨w',z.sameBut hs (I.L9 y c q)⟩
 ·obtain⟨q,n,ne,nf,d⟩:=I.pin p hp;exact⟨(hs.2 p.1 ne).trans q,n,ne,nf,d⟩
 ·refine(I.aZ b u q).zM (λc v hc r=>(hs.2 c λz=>?_).trans r) (λ_ r=>r) λ_ _ r=>r;rcases hc with y|y
  ·rw[<-y,z,I.free] at q;cases q
  ·rw[z,I.free] at y;cases y
end
def Th(X:Cx)(st:Stmt)(t:TS):Prop:=∀(s:Shared)(σ:St)(H:Hp)(D:Ends),Inv X [] σ H s->t D σ H->wpAny (model X.prog X.w) X.A (exec st X.env) (SP X [] D) X.xe s
def KP(X:Cx)(st:List Stmt)(t:TS):Prop:=∀(s:Shared)(σ:St)(H:Hp)(D:Ends),Inv X [] σ H s->t D σ H->wpAny (model X.prog X.w) X.A (execs st X.env) (SP X [] D) X.xe s
section
variable{X:Cx}{st:Stmt}{rest:List Stmt}{t u:TS}
theorem PS.Sk(h:PS X st t):Th X st t:=λs σ H D I q=>h [] s σ H D I q
theorem rT.Sk(h:rT X rest t):KP X rest t:=λs σ H D I q=>h [] s σ H D I q
theorem nY(h1:Th X st t)(h2:KP X rest u):KP X (st::rest) (AS t u):=by
 intro s σ H D I h;refine wpAny_execs_cons (br (h1 s σ H {D with nx:=u D} I h) λf s1 q=>?_);cases f with
 |next=>
  obtain⟨σ',H',I',q⟩:=q;exact h2 s1 σ' H' D I' q
 |ret v=>exact q
 |brk=>exact q
 |cont=>exact q
end
theorem js.Uh{P:Program}{w:World}{K:Frag}{mg:Str->Option Value}{base:Heap}{x qual:Str}{st:Stmt}{f:Addr}{fd:FuncData}{N ps:List Str}{k:Nat}{sp:Sp}(F:js K x qual st f fd)(S:ax N ps (aq st))(len:∀vs H Q E,sp vs H Q E->vs.length=ps.length)(hbody:∀(UQ:Value)(A:Around)(outer:List Env)(s:Shared)(H:Hp)(vs:List V)(Q:VK)(E:XK),bC k (A.deeper (envOfC qual (aq st) s.heap.objs.size f UQ))->sp vs H Q E->
   ∃t,KP (iQ bf P w K mg base N qual (aq st) f UQ A outer s H E).LL (bX st) t/\t {nx:=λ_ H'=>Q .bH H',rt:=Q} (start N vs) H):bY P w K mg base bf (k+1) f fd ps sp:=by
 obtain⟨oc,od,kV,doc,pm,an,UQ,ct,osl,rfl,lk,hcd⟩:=F.ex;refine⟨len,λA outer s H args us vs Q E hr e0 hb r hsp=>?_⟩;have KX:K.In s.heap:=e0.mod.EW.keeps λb o e=>(e0.bs b o e).1;have lim:s.heap.NoLimit:=e0.mod.nolimit.keeps λb o e=>(e0.bs b o e).1;refine codeAny_call_function hr.depth (KX _ _ lk) rfl S.co S.gen rfl (PySem.W.codeRec_of KX hcd) (hb _ _ _ _ ?_);refine wpAny_newFunctionEnv_cells S.kind (λ⟨n,v⟩ hy=>?_) λenv he s1 x=>?_
 ·rcases S.par n (List.of_mem_zip hy).1 with q|q
  ·exact .inl q
  ·exact .inr ⟨q,PySem.W.cellsFrom_some _ _ _ (.inl q)⟩
 ·subst he;refine⟨lim.keeps x.toInCall.keep,codeAny_func ?_⟩;obtain⟨t,ht,hq⟩:=hbody UQ A outer s H vs Q E (hr.deeper _) hsp;have I:Inv (iQ bf P w K mg base N qual (aq st) f UQ A outer s H E) [] (start N vs) H s1:=n8 S hr.hd e0 (len _ _ _ _ hsp) r x;refine wpAny_mono (ht s1 (start N vs) H _ (I.kr _) hq) (λfl s' hs=>?_) λe s' hs=>hs.elim;have fin:∀{σ':St}{H':Hp}{v:V}{u:Value},Inv (iQ bf P w K mg base N qual (aq st) f UQ A outer s H E).LL [] σ' H' s'->RelV v u->Q v H'->CE outer P w H s Q u s':=
   λ{σ' H' v u} J rv q=>⟨v,H',J.os,J.bare,J.base,J.aZ,rv,q⟩
  cases fl with
  |ret u=>
   obtain⟨v,σ',H',J,rv,q⟩:=hs;exact fin J rv q
  |next=>
   obtain⟨σ',H',J,q⟩:=hs;exact fin (v:=V.bH) (u:=Value.none) J rfl q
  |brk=>
   obtain⟨_,_,_,q⟩:=hs;exact False.elim q
  |cont=>
   obtain⟨_,_,_,q⟩:=hs;exact False.elim q
def Sz(K:Frag)(R:St->Addr->Hp->Prop)(C0:Addr)(i:Nat)(tb ts:TS):TS:=λD σ H=>tb D σ H/\
 ∀e σ' H',Dd H' e->R σ' e H'->(∃C dx,H' e=some (jT e C dx)/\PySem.W.exmOne K (.ref C) (.ref C0)=some true)/\ts {nx:=λ_ _=>False,rt:=D.rt} (σ'.set i (some (.ref e))) H'
theorem DS{X:Cx}{R:St->Addr->Hp->Prop}{body suite:List Stmt}{b0:Stmt}{x n:Str}{np hpos pos:Pos}{tb ts:TS}{i:Nat}{C0:Addr}(T:Top X)(hb:rT (xw X R) body tb)(hs:∀e,rT (sx X e) (b0::suite) ts)(hnd:X.N.Nodup)(hi:X.N[i]?=some n)(hl:X.env.scope.names.lookup n=some .local)(hg:Gl X x)(hm:X.mg x=some (.ref C0))(hdb:(x==("__debug__":Str))=false:=by decide):
  Th X (.Try body [.ExceptHandler (some (.Name x np)) (some n) (b0::suite) hpos] [] [] pos) (Sz X.K R C0 i tb ts):=by
 intro s σ H D I h;obtain⟨h1,h2⟩:=h;refine wpAny_Try_except (wpAny_mono (hb [] s σ H D (I.kr _) h1) (λf s1 q=>?_) λv s1 q=>?_)
 ·have q:=SP.dU q;cases f with
  |next=>exact wpAny_execs_nil q
  |ret v=>exact q
  |brk=>exact q
  |cont=>exact q
 ·obtain⟨e,σ',H',rfl,I1,fl,he,r⟩:=q;obtain⟨⟨C,dx,hC,hx⟩,h3⟩:=h2 e σ' H' he r;have hfr:s1.heap.FunFrames X.base (X.env::X.outer):=by have:=I1.stack;rw[T.st] at this;exact this
  refine yO (by rw[I1.ok.frames,T.st]) hfr T.fr fl I1.sz (λb hb=>I1.aZ.fresh hb) λg2 a2 f2=>?_;have I2:=I1.flew T.pn he (by rw[T.st];exact f2);have I3:=I2.sx e;refine wpAny_handleBy_cons (codeAny_handlers_test ?_) (by intro q;cases q);refine dY (X:=L2.sx X e) I3 hg hm ?_ hdb;obtain⟨vs,sl,hge⟩:=r8 I2.aZ hC;have LT:PySem.W.Looks (model X.prog X.w) g2 (typeOf (.ref e)) (⟨.ref C,dx,.fields vs,sl⟩:Obj).cls:=(PySem.W.Looks.ld hge).andThen .now;refine PySem.W.Looks.here (s:={s1 with heap:=g2}) (PySem.W.exm_one I2.dZ LT hx) ?_;refine codeAny_handlers_suite_as ?_;refine xA (s:={s1 with heap:=g2}) (fs:=km (X.env::X.outer)) a2 (λg3 a3 f3=>?_) (eP.Ji (fl:=.none) (fs:=[]) hfr f2) none rfl;have I4:=(Inv.flew (s:={s1 with heap:=g2}) I2 T.pn he (by rw[T.st];exact f3)).sx e;refine kO (X:=L2.sx X e) I4 hnd hi (.inl hl) (v:=.ref e) rfl (λs5 I5=>?_) (.inr hl);refine wpAny_mono (hs e [] s5 _ H' _ I5 h3) (λf s6 q6=>?_) (λ_ _ z=>z.elim);cases f with
  |next=>obtain⟨_,_,_,z⟩:=q6;exact z.elim
  |brk=>obtain⟨_,_,_,z⟩:=q6;exact z.elim
  |cont=>obtain⟨_,_,_,z⟩:=q6;exact z.elim
  |ret u=>
   obtain⟨v,σ6,H6,I6,r6,z6⟩:=q6;obtain⟨m6,hn6,_⟩:=id I6.loc;have hp:(X.env.scope.kind==.class||(X.env.scope.kind==.module&&X.env.locals != X.env.globals))=false:=by rw[I.ok.kind];rfl
   refine wpAny_nameGoes hl hn6 hp λh' m' hn' sb=>?_;exact⟨v,_,H6,((I6.SD I.ok).Rk hn' sb),r6,z6⟩
abbrev ER(R:St->Addr->Hp->Prop)(σ:St):XK:=λv _ H'=>∃e,v= .ref e/\R σ e H'
def N6(sp:Sp)(R:St->Addr->Hp->Prop)(t:TA):TE:=λσ H Q=>t σ H λvs H1=>sp vs H1 Q (ER R σ)
structure Ok(P:Program)(w:World)(K:Frag)(mg:Str->Option Value)(base:Heap)(CX:yA)(k:Nat)(nm:Str)(ps:List Str)(sp:Sp):Prop where
 ex:∃(f:Addr)(fd:FuncData),bY P w K mg base CX k f fd ps sp/\Binds K fd ps []/\mg nm=some (.ref f)/\PySem.W.keepIn K (.ref f)=true
structure Def(K:Frag)(mg:Str->Option Value)(nm:Str)(st:Stmt)(ps:List Str):Prop where
 ex:∃(f:Addr)(fd:FuncData),js K nm nm st f fd/\Binds K fd ps []/\mg nm=some (.ref f)
section
variable{P:Program}{w:World}{K:Frag}{mg:Str->Option Value}{base:Heap}{CX:yA}{k j:Nat}{nm:Str}{ps:List Str}{sp sp':Sp}{st:Stmt}
theorem Def.ok(d:Def K mg nm st ps)(h:∀f fd,js K nm nm st f fd->bY P w K mg base CX k f fd ps sp):Ok P w K mg base CX k nm ps sp:=by obtain⟨f,fd,F,b,m⟩:=d.ex;exact⟨f,fd,h f fd F,b,m,F.kp⟩
end
section
variable{X:Cx}{CX:yA}{k:Nat}{ps:List Str}{sp:Sp}{E:XK}{x:Str}{p pos:Pos}{e:Expr}{es:List Expr}{t:TA}{R:St->Addr->Hp->Prop}
theorem tG(o:Ok X.prog X.w X.K X.mg X.base CX k x ps sp)(hr:bC k X.A)(hx:Passes CX X E)(ha:PA X (e::es) t)(hg:Gl X x:=by rfl)(hdb:(x==("__debug__":Str))=false:=by decide)(he:starEach (e::es) X.env=(false,eval e X.env)::starEach es X.env:=by rfl)(hpl:(backTo pos (starEach es X.env)).any (·.1)=false:=by rfl):PE X (.Call (.Name x p) (e::es) [] pos) (iT sp [] E t):=by obtain⟨f,fd,F,b,m,kp⟩:=o.ex;exact Lv F hr hg m kp b .nil hx ha hdb he hpl
theorem aM(o:Ok X.prog X.w X.K X.mg X.base bf k x ps sp)(hr:bC k X.A)(ha:PA X (e::es) t)(hg:Gl X x:=by rfl)(hdb:(x==("__debug__":Str))=false:=by decide)(he:starEach (e::es) X.env=(false,eval e X.env)::starEach es X.env:=by rfl)(hpl:(backTo pos (starEach es X.env)).any (·.1)=false:=by rfl):PE X (.Call (.Name x p) (e::es) [] pos) (iT sp [] E0 t):=
 tG o hr hJ ha hg hdb he hpl
theorem m7(o:Ok X.prog X.w X.K X.mg X.base (g9 X.prog X.w) k x ps sp)(hr:bC k X.A)(ha:PA (xw X R) (e::es) t)(hg:Gl X x:=by rfl)(hdb:(x==("__debug__":Str))=false:=by decide)(he:starEach (e::es) X.env=(false,eval e X.env)::starEach es X.env:=by rfl)(hpl:(backTo pos (starEach es X.env)).any (·.1)=false:=by rfl):PE (xw X R) (.Call (.Name x p) (e::es) [] pos) (N6 sp R t):=by
 intro UP s σ H Q I h;obtain⟨f,fd,F,hb,m,kp⟩:=o.ex;refine wpAny_Call_Name_kw (dY I hg m ?_ hdb);refine PySem.W.callWith_K (h₀:=X.base) I.ok.mod.EW kp (br (ha pos UP s σ H _ I h) λus s1 ⟨vs,H1,I1,r,q⟩=>⟨I1.dZ,?_⟩) he hpl;have hl:(us++[]).length=ps.length:=by rw[List.append_nil,<-r.length];exact F.len _ _ _ _ q
 have hb':=hb s1 us I1.dZ hl;rw[List.append_nil] at hb';refine wpAny_call (codeAny_mono (F.run X.A X.stack s1 H1 ⟨us,[]⟩ us vs Q (ER R σ) hr I1.EJ hb' r q) λr s' hq=>?_);cases r with
 |error v=>exact wm I1.dU hq λe H' ⟨e',z,y⟩=>by cases z;exact y
 |ok fl=>
  cases fl with
  |ret u=>exact I1.after hq
  |next=>exact False.elim hq
  |brk=>exact False.elim hq
  |cont=>exact False.elim hq
def Mp(X:Cx)(i k:Nat)(ps:List Str)(sp:Sp)(t:TA):TE:=λσ H Q=>∃(f:Addr)(fd:FuncData),σ[i]?=some (some (.ref f))/\bY X.prog X.w X.K X.mg X.base bf k f fd ps sp/\Binds X.K fd ps []/\PySem.W.keepIn X.K (.ref f)=true/\t σ H λvs H1=>sp vs H1 Q E0
theorem F4(i:Nat)(hr:bC k X.A)(ha:PA X (e::es) t)(hN:X.N[i]?=some x:=by rfl)(hv:Ni X.env.scope x:=by first|exact Or.inl rfl|exact Or.inr (Or.inl rfl)|exact Or.inr (Or.inr rfl))(hdb:(x==("__debug__":Str))=false:=by decide)(hcd:(x==("__classdict__":Str))=false:=by decide)(he:starEach (e::es) X.env=(false,eval e X.env)::starEach es X.env:=by rfl)(hpl:(backTo pos (starEach es X.env)).any (·.1)=false:=by rfl):
  PE X (.Call (.Name x p) (e::es) [] pos) (Mp X i k ps sp t):=by
 rintro UP s σ H Q I ⟨f,fd,hs,F,hb,kp,h⟩;refine wpAny_Call_Name_kw (br (GA (pos:=p) hN hv hdb hcd UP s σ H (λv H1=>v= .ref f/\H1=H) I ⟨_,hs,rfl,rfl⟩) λu s0 ⟨v,H0,I0,ru,ev,eh⟩=>?_);subst ev;subst eh;obtain rfl:u=Value.ref f:=ru;refine PySem.W.callWith_K (h₀:=X.base) I0.ok.mod.EW kp (br (ha pos UP s0 σ H0 _ I0 h) λus s1 ⟨vs,H1,I1,r,q⟩=>⟨I1.dZ,?_⟩) he hpl;exact oo (dvs:=[]) (ds:=[]) F hr hb .nil (hJ (X:=X)) I1 r (by rw[List.append_nil];exact q)
end
def oN(P:Params):List DictEntry->List Str->Prop
 |[],[]=>True
 |e::r,x::l=>(∃t,e.key= .str x t)/\e.hash=PyData.keyHash P x/\oN P r l
 |_,_=>False
def oW:List DictEntry->List (Int×Str)->Prop
 |[],[]=>True
 |e::r,x::l=>(∃t,e.key= .int x.1 t)/\e.hash=hashInt x.1/\(∃t,e.val= .str x.2 t)/\oW r l
 |_,_=>False
theorem oN.lit{P:Params}:∀{es:List DictEntry}{l:List Str},oN P es l->PySem.W.KeysLit P es
 |[],[],_=>True.intro
 |_::_,x::_,⟨⟨t,h1⟩,h2,r⟩=>⟨⟨x,t,h1,h2⟩,r.lit⟩
theorem oN.find{P:Params}(x:Str):∀{es:List DictEntry}{l:List Str},oN P es l->(es.find? λd=>Value.isStrOf x d.key).isSome=decide (x∈l)
 |[],[],_=>by simp
 |e::_,y::l,⟨⟨t,h1⟩,_,r⟩=>by
  rw[List.find?_cons,h1];have q:Value.isStrOf x (.str y t)=decide (x=y):=by
   by_cases z:x=y
   ·subst z;simp[Value.isStrOf]
   ·simp[Value.isStrOf,z,Ne.symm z]
  rw[q];by_cases z:x=y
  ·subst z;simp
  ·rw[decide_eq_false z,r.find x];simp[z]
theorem oW.find(k:Int):∀{es:List DictEntry}{l:List (Int×Str)},oW es l->d5 ((TW.lk l k).map V.str) ((es.find? λd=>Value.isInt k d.key).map (·.val))
 |[],[],_=>True.intro
 |e::_,y::l,⟨⟨t,h1⟩,_,⟨t',h2⟩,r⟩=>by
  have ih:=r.find k;unfold TW.lk at ih ⊢;rw[List.find?_cons,List.find?_cons,h1];have q:Value.isInt k (.int y.1 t)=decide (y.1=k):=by
   by_cases z:y.1=k
   ·subst z;simp[Value.isInt]
   ·simp[Value.isInt,z,Ne.symm z]
  rw[q];by_cases z:y.1=k
  ·rw[decide_eq_true z];exact⟨t',h2⟩
  ·rw[decide_eq_false z];exact ih
theorem oW.ok:∀{es:List DictEntry}{l:List (Int×Str)},oW es l->∀e∈es,∃k t,e.key= .int k t/\e.hash=hashInt k
 |[],_,_=>λe m=>by cases m
 |_::_,[],h=>by cases h
 |_::_,y::_,h=>λe m=>by
  obtain⟨⟨t,h1⟩,h2,_,r⟩:=h;cases m with
  |head=>exact⟨y.1,t,h1,h2⟩
  |tail _ m=>exact r.ok _ m
def Sh(K:Frag)(P:Params)(a:Addr)(l:List Str):Prop:=∃es n,K.lookup a=some ⟨.type "dict",none,.dict es n,#[]⟩/\oN P es.toList l/\(a==sysModules)=false
def Sd(K:Frag)(a:Addr)(l:List (Int×Str)):Prop:=∃es n,K.lookup a=some ⟨.type "dict",none,.dict es n,#[]⟩/\oW es.toList l/\(a==sysModules)=false
section
variable{X:Cx}
theorem find_eq{κ:Type}{is:κ->Value->Bool}{es:Array DictEntry}{k:κ}:findBy is es k=(es.toList.find? λd=>is k d.key).map (·.val):=by unfold findBy;rw[<-Array.find?_toList]
inductive UA(K:Frag)(P:Params)(x y:V)(H:Hp)(Q:VK):Prop
 |mk(z:Str) (a:Addr) (l:List Str) (_:x= .str z) (_:y= .ref a) (_:Sh K P a l) (_:Q (.bl (decide (z∈l))) H)
theorem A2:jh X (compareOp .In) (UA X.K X.w.params):=by
 rintro UP s σ H x y v u Q I rx ry ⟨z,a,l,rfl,rfl,⟨es,n,h1,h2,h3⟩,q⟩;obtain⟨t,rfl⟩:=(show ∃t,v=Value.str z t from rx)
 cases(show u=Value.ref a from ry);refine wpAny_in_of (strKind_is X.prog X.w z t) h3 (PySem.W.mapOf_K (prog:=X.prog) I.dZ h1 h2.lit) ?_;rw[find_eq,Option.isSome_map,h2.find z];exact⟨.bl _,H,I.tok _,rfl,q⟩
theorem R6{a:Addr}{l:List (Int×Str)}{h:Heap}(X0:X.K.In h){es:Array DictEntry}{n:Nat}(h1:X.K.lookup a=some ⟨.type "dict",none,.dict es n,#[]⟩)(h2:oW es.toList l):h.MapOf (PySem.intKind X.prog X.w) a (λk=>findBy Value.isInt es k):=
 ⟨_,es,n,X0 _ _ h1,⟨rfl,rfl,rfl⟩,rfl,λe he=>by
  obtain⟨k,t,e1,e2⟩:=h2.ok e (Array.mem_toList_iff.mpr he);exact⟨k,by rw[e1];exact intKind_is X.prog X.w k t,e2⟩,λ_=>rfl⟩
inductive UM(K:Frag)(x y:V)(H:Hp)(Q:VK):Prop
 |mk(k:Int) (a:Addr) (l:List (Int×Str)) (_:x= .int k) (_:y= .ref a) (_:Sd K a l) (_:Q (.bl (TW.lk l k).isSome) H)
theorem Gj:jh X (compareOp .In) (UM X.K):=by
 rintro UP s σ H x y v u Q I rx ry ⟨k,a,l,rfl,rfl,⟨es,n,h1,h2,h3⟩,q⟩;obtain⟨t,rfl⟩:=(show ∃t,v=Value.int k t from rx)
 cases(show u=Value.ref a from ry);refine wpAny_in_of (intKind_is X.prog X.w k t) h3 (R6 I.dZ h1 h2) ?_;have z:=h2.find k;rw[find_eq];have e:((es.toList.find? λd=>Value.isInt k d.key).map (·.val)).isSome=(TW.lk l k).isSome:=by
  cases q1:TW.lk l k with
  |none=>rw[q1] at z;rw[d5.none_of z];rfl
  |some x=>rw[q1] at z;obtain⟨u,hu,_⟩:=d5.some_of z;rw[hu];rfl
 rw[e];exact⟨.bl _,H,I.tok _,rfl,q⟩
inductive Uw(K:Frag)(x y:V)(H:Hp)(Q:VK):Prop
 |mk(k:Int) (a:Addr) (l:List (Int×Str)) (z:Str) (_:x= .ref a) (_:y= .int k) (_:Sd K a l) (_:TW.lk l k=some z) (_:Q (.str z) H)
theorem R7:Pg X (Uw X.K):=by
 rintro value UR UP s σ H x y v u Q I rx ry ⟨k,a,l,z,rfl,rfl,⟨es,n,h1,h2,h3⟩,e,q⟩ hs;cases(show v=Value.ref a from rx);obtain⟨t,rfl⟩:=(show ∃t,u=Value.int k t from ry)
 have r:=h2.find k;rw[e] at r;obtain⟨w',hw,rw'⟩:=d5.some_of r;have hm:=R6 (X:=X) I.dZ h1 h2;exact tail_any hm.typeIs PySem.F.slot_dict_getitem.lookup (wpAny_getItem_of (intKind_is X.prog X.w k t) hm (by rw[find_eq];exact hw) ⟨.str z,H,I.tok _,rw',q⟩) hs
end
def GI(mg:Str->Option Value)(nm:Str)(i:Int):Prop:=∃t,mg nm=some (.int i t)
def GS(mg:Str->Option Value)(nm:Str)(x:Str):Prop:=∃t,mg nm=some (.str x t)
section
variable{X:Cx}{x:Str}{pos:Pos}
theorem cz{i:Int}(g:GI X.mg x i)(hg:Gl X x:=by rfl)(hd:(x==("__debug__":Str))=false:=by decide):PE X (.Name x pos) (tC (.int i)):=by obtain⟨t,e⟩:=g;exact wO hg e ⟨t,rfl⟩ hd
theorem To{z:Str}(g:GS X.mg x z)(hg:Gl X x:=by rfl)(hd:(x==("__debug__":Str))=false:=by decide):PE X (.Name x pos) (tC (.str z)):=by obtain⟨t,e⟩:=g;exact wO hg e ⟨t,rfl⟩ hd
theorem fQ{a:Addr}(e:X.mg x=some (.ref a))(hg:Gl X x:=by rfl)(hd:(x==("__debug__":Str))=false:=by decide):PE X (.Name x pos) (tC (.ref a)):=wO hg e rfl hd
end
structure tR(k:Nat)(A:Around):Prop where
 dp:A.depth+3*k+5<recursionLimit
 un:A.units+16*k+200<cLine
theorem bC.h{k:Nat}{A:Around}(r:bC k A):tR k A:=⟨r.dp,r.un⟩
theorem tR.make{k:Nat}{A:Around}(r:tR (k+1) A)(C:Addr)(us:List Value)(kw:List (Str×Value)):tR k (A.under (.builtin "type.__call__" ⟨.ref C::us,kw⟩)):=
 ⟨by have:=r.dp;rw[rj];omega,by have:=r.un;rw[rP];omega⟩
structure zA(P:Program)(w:World)(K:Frag)(mg:Str->Option Value)(base:Heap)(k:Nat)(f:Addr)(fd:FuncData)(ps:List Str)(sp:Sp):Prop where
 len:∀vs H Q E,sp vs H Q E->vs.length=ps.length
 run:∀(A:Around)(outer:List Env)(s:Shared)(H:Hp)(args:Args)(us:List Value)(vs:List V)(Q:VK)(E:XK),tR k A->xk P w K mg base A outer s H->BindsTo s fd args (ps.zip us)->Vals vs us->sp vs H Q E->
  codeAny (model P w) A (.call (.ref f) args) (CR bf outer P w H s Q E) s
theorem zA.ok{P:Program}{w:World}{K:Frag}{mg:Str->Option Value}{base:Heap}{k:Nat}{f:Addr}{fd:FuncData}{ps:List Str}{sp:Sp}(F:zA P w K mg base k f fd ps sp):bY P w K mg base bf k f fd ps sp:=
 ⟨F.len,λA outer s H args us vs Q E hr=>F.run A outer s H args us vs Q E hr.h⟩
def So(P:Program)(w:World)(K:Frag)(mg:Str->Option Value)(base:Heap)(N:List Str)(qual:Str)(scope:Scope)(f:Addr)(cd:Value)(A:Around)(outer:List Env)(s:Shared)(H:Hp):Cx:=
 {iQ bf P w K mg base N qual scope f cd A outer s H E0 with calm:=false,xe:=λ_ _=>False}
theorem js.Ut{P:Program}{w:World}{K:Frag}{mg:Str->Option Value}{base:Heap}{x qual:Str}{st:Stmt}{f:Addr}{fd:FuncData}{N ps:List Str}{k:Nat}{sp:Sp}(F:js K x qual st f fd)(S:ax N ps (aq st))(len:∀vs H Q E,sp vs H Q E->vs.length=ps.length)(hbody:∀(UQ:Value)(A:Around)(outer:List Env)(s:Shared)(H:Hp)(vs:List V)(Q:VK)(E:XK),sp vs H Q E->
   ∃t,rT (So P w K mg base N qual (aq st) f UQ A outer s H) (bX st) t/\t {nx:=λ_ H'=>Q .bH H',rt:=Q} (start N vs) H):zA P w K mg base (k+1) f fd ps sp:=by
 obtain⟨oc,od,kV,doc,pm,an,UQ,ct,osl,rfl,lk,hcd⟩:=F.ex;refine⟨len,λA outer s H args us vs Q E hr e0 hb r hsp=>?_⟩;have KX:K.In s.heap:=e0.mod.EW.keeps λb o e=>(e0.bs b o e).1;have lim:s.heap.NoLimit:=e0.mod.nolimit.keeps λb o e=>(e0.bs b o e).1;refine codeAny_call_function (by have:=hr.dp;omega) (KX _ _ lk) rfl S.co S.gen rfl (PySem.W.codeRec_of KX hcd) (hb _ _ _ _ ?_);refine wpAny_newFunctionEnv_cells S.kind (λ⟨n,v⟩ hy=>?_) λenv he s1 x=>?_
 ·rcases S.par n (List.of_mem_zip hy).1 with q|q
  ·exact .inl q
  ·exact .inr ⟨q,PySem.W.cellsFrom_some _ _ _ (.inl q)⟩
 ·subst he;refine⟨lim.keeps x.toInCall.keep,codeAny_func ?_⟩;obtain⟨t,ht,hq⟩:=hbody UQ A outer s H vs Q E hsp;have e1:xk P w K mg base {A with handled:=none} outer s H:=⟨e0.frames,e0.mod,e0.bs,e0.FE,e0.jQ,e0.Ju,e0.aZ,e0.bare⟩
  have I0:Inv (iQ bf P w K mg base N qual (aq st) f UQ {A with handled:=none} outer s H E0) [] (start N vs) H s1:=n8 S rfl e1 (len _ _ _ _ hsp) r x;have I:Inv (So P w K mg base N qual (aq st) f UQ A outer s H) [] (start N vs) H s1:=
   ⟨⟨I0.ok.mod,I0.ok.kind,I0.ok.glob,I0.ok.blt,I0.ok.above,I0.ok.inj,I0.ok.has,I0.ok.OO,(λz=>by cases z),Around.frames_deeper e0.frames,I0.ok.OF,I0.ok.Pn,I0.ok.bs,I0.ok.FE,I0.ok.Ba,I0.ok.AD,I0.ok.jQ,I0.ok.Ju⟩,
    I0.os,I0.bare,I0.base,I0.loc,I0.cell,I0.free,I0.fm,I0.pin,I0.aZ,I0.len⟩
  refine wpAny_mono (ht [] s1 (start N vs) H _ I hq) (λfl s' hs=>?_) λe s' hs=>hs.elim;have fin:∀{σ':St}{H':Hp}{v:V}{u:Value},Inv (So P w K mg base N qual (aq st) f UQ A outer s H) [] σ' H' s'->RelV v u->Q v H'->CE outer P w H s Q u s':=
   λ{σ' H' v u} J rv q=>⟨v,H',J.os,J.bare,J.base,J.aZ,rv,q⟩
  cases fl with
  |ret u=>
   obtain⟨v,σ',H',J,rv,q⟩:=hs;exact fin J rv q
  |next=>
   obtain⟨σ',H',J,q⟩:=hs;exact fin (v:=V.bH) (u:=Value.none) J rfl q
  |brk=>
   obtain⟨_,_,_,q⟩:=hs;exact False.elim q
  |cont=>
   obtain⟨_,_,_,q⟩:=hs;exact False.elim q
section
variable{X:Cx}{k:Nat}{f C:Addr}{fd:FuncData}{ps:List Str}{sp:Sp}{x:Str}{p pos:Pos}{e:Expr}{es:List Expr}{t:TA}
theorem HX(M:Mk X.K C f)(F:zA X.prog X.w X.K X.mg X.base k f fd ps sp)(hr:tR (k+1) X.A)(hg:Gl X x)(hm:X.mg x=some (.ref C))(hb:Binds X.K fd ps [])(ha:PA X (e::es) t)(hdb:(x==("__debug__":Str))=false:=by decide)(he:starEach (e::es) X.env=(false,eval e X.env)::starEach es X.env:=by rfl)(hpl:(backTo pos (starEach es X.env)).any (·.1)=false:=by rfl):
  PE X (.Call (.Name x p) (e::es) [] pos) (uH C sp [] E0 t):=by
 intro UP s σ H Q I h;refine wpAny_Call_Name_kw (dY I hg hm ?_ hdb);refine PySem.W.callWith_K (h₀:=X.base) I.ok.mod.EW M.kp (br (ha pos UP s σ H _ I h) λus s1 ⟨vs,H1,I1,r,q⟩=>⟨I1.dZ,?_⟩) he hpl;have hq:=q (s1.heap.objs.size+1) s1.heap.objs.size (I1.aZ.fresh (Nat.le_succ _)) (I1.aZ.fresh (Nat.le_refl _)) (Nat.ne_of_lt (Nat.lt_succ_self _));rw[List.append_nil] at hq;have I2:=Inv.made (C:=C) I1;have r2:Vals (V.ref (s1.heap.objs.size+1)::vs) (Value.ref (s1.heap.objs.size+1)::us):=.cons rfl r;have hl:(Value.ref (s1.heap.objs.size+1)::us++[]).length=ps.length:=by
  rw[List.append_nil,<-r2.length];exact F.len _ _ _ _ hq
 have hb':=hb {s1 with heap:=(s1.heap.push PySem.W.emptyDict).push (PySem.W.instObj C s1.heap.objs.size)} (Value.ref (s1.heap.objs.size+1)::us) I2.dZ hl;rw[List.append_nil] at hb';refine wpAny_call (zQ (f:=f) I1.dZ M.makes M.init (beq_iff_eq.mp M.fn) (codeAny_mono (F.run _ X.stack _ _ ⟨Value.ref (s1.heap.objs.size+1)::us,[]⟩ (Value.ref (s1.heap.objs.size+1)::us) _ _ E0 (hr.make C us [])
  (I2.EJ.make C us []) hb' r2 hq) λr s' hq'=>?_))
 cases r with
 |error e=>exact(show False from hq').elim
 |ok fl=>
  cases fl with
  |ret u=>
   obtain⟨v,H',I3,rv,ev,q3⟩:=I2.after hq';subst ev;exact⟨rv,⟨V.ref (s1.heap.objs.size+1),H',I3,rfl,q3⟩⟩
  |next=>exact False.elim hq'
  |brk=>exact False.elim hq'
  |cont=>exact False.elim hq'
end
theorem rV{o:Option (Option V)}{v:V}{Q:VK}{H:Hp}(h:o=some (some v))(q:Q v H):Qz o Q H:=⟨v,h,q⟩
theorem rf{K:Frag}{H:Hp}{m:Str}{a C dx:Addr}{fs:List (Str×V)}{v:V}{Q:VK}(h1:H a=some (.ins C dx fs))(h2:tV K C)(h3:aE K C m)(h4:fs.lookup m=some v)(q:Q v H):RY K m Q (.ref a) H:=⟨a,C,dx,fs,v,rfl,h1,h2,h3,h4,q⟩
end L2
namespace TG
open PySem
def top(i:Nat):Stmt:=PySem.Challenge.pw_twigtext_s02_read.main.body.getD i (.Pass ⟨0,0,0,0⟩)
end TG
namespace L2
open PySem PySem.Spec PyProof.Rows
def UL(K:Frag)(H:Hp)(x:V)(t:Value):Prop:=n9 K H x t\/∃a xs,x= .ref a/\fN K H a xs/\t= .type "tuple"
def cv:V->Value
 | .ty n=>.type n
 | .ref a=>.ref a
 |_=>.none
theorem y9{α:Type}:∀(l:List α),(List.range l.length).filterMap (λk=>l[k]?)=l
 |[]=>rfl
 |a::l=>by
  rw[List.length_cons,List.range_succ_eq_map,List.filterMap_cons,List.filterMap_map];show a::(List.range l.length).filterMap (λk=>(a::l)[k+1]?)=a::l;have:(λk=>(a::l)[k+1]?)=λk=>l[k]?:=by funext k;simp
  rw[this,y9 l]
theorem tP{α β:Type}{f g:α->Option β}:∀(l:List α),(∀x∈l,f x=g x)->l.filterMap f=l.filterMap g
 |[],_=>rfl
 |a::l,h=>by
  rw[List.filterMap_cons,List.filterMap_cons,h a (List.mem_cons_self ..),tP l λx hx=>h x (List.mem_cons_of_mem _ hx)]
theorem Ho{α:Type}(l:List α):((List.range l.length).map λ(k:Nat)=>((l.length:Int) - 1+ -1*(k:Int)).toNat).filterMap (λi=>l[i]?)=l.reverse:=by
 rw[List.filterMap_map];have e:∀(m:Nat),m<=l.length->(List.range m).filterMap ((λi=>l[i]?)∘λ(k:Nat)=>((l.length:Int) - 1+ -1*(k:Int)).toNat)=(List.range m).filterMap (λk=>l.reverse[k]?):=by
  intro m hm;apply tP;intro k hk;have hk:k<m:=List.mem_range.mp hk;show l[((l.length:Int) - 1+ -1*(k:Int)).toNat]?=l.reverse[k]?;rw[List.getElem?_reverse ↑2];congr 1;omega
 rw[e _ (Nat.le_refl _)];have:=y9 l.reverse;rw[List.length_reverse] at this;exact this
section
variable{X:Cx}
inductive OJ(K:Frag)(vs:List V)(H:Hp)(Q:VK):Prop
 |mk(x c:V) (t:Value) (b:Bool) (_:vs=[x,c]) (_:(∃n,c= .ty n)\/∃a,c= .ref a) (_:UL K H x t) (_:PySem.W.kitOne K t (cv c)=some b) (_:Q (.bl b) H)
theorem lR:q_ X (.builtin "isinstance") (OJ X.K):=by
 rintro UP s σ H xs us Q I rv ⟨x,c,t,b,rfl,hc,ty,e,q⟩;obtain⟨u,u2,rfl,rx,rc⟩:=vals2 rv;have hu2:u2=cv c:=by
  rcases hc with⟨n,rfl⟩|⟨a,rfl⟩
  ·exact rc
  ·exact rc
 subst hu2;have fin:∀tk,EP X UP σ Q (.bool b) {s with toks:=tk}:=λtk=>⟨.bl b,H,I.tok tk,rfl,q⟩
 rcases ty with ty|⟨a,xs,rfl,hx,rfl⟩
 ·exact Ex I rx ty e fin
 ·cases(show u=Value.ref a from rx);obtain⟨its,r,ht,hz⟩:=I.tuple hx;exact PySem.W.kia_one PySem.W.kitx_tuple I.dZ ht.typeIs e (λz=>nomatch z) fin
end
theorem FU(its:List Value):slicePick its.toArray none none (some (-1))=its.reverse.toArray:=by
 unfold slicePick sliceBounds sliceRange;simp only[Option.getD_some,show ¬((-1:Int)>0) by decide,if_false,List.size_toArray];have hc:(if(its.length:Int) - 1> -1 then((its.length:Int) - 1 - -1 - -1 - 1) / (-(-1)) else 0)=(its.length:Int):=by
  split
  ·simp only[show(-(-1:Int))=1 from rfl,Int.ediv_one];omega
  ·omega
 rw[hc,Int.toNat_natCast];congr 1;have:=Ho its;simp only[List.getElem?_toArray];exact this
end L2
namespace HT
open PySem PySem.Spec PyProof.Rows
section
variable{prog:Program}{w:World}{A:Around}{E:Value->Shared->Prop}{s:Shared}
theorem mq{sl:Addr}{vs:Value}{n:Nat}{Q:Int×Int×Nat->Shared->Prop}(hs:s.heap.IsSliceOf sl .none .none vs)(ps:IsPart vs (some (-1)))(h:Q ((n:Int) - 1,-1,n) s):wpAny (model prog w) A (Builtin.Slice.sliceApplied (.ref sl) (pure (n:Int))) Q E s:=by
 obtain⟨os,hos,hcs,hds⟩:=id hs;unfold Builtin.Slice.sliceApplied Builtin.Slice.sliceFields;refine wpAny_bind (wpAny_bind (wpAny_field hos hds (x:=.none) rfl (wpAny_bind (wpAny_field hos hds (x:=.none) rfl (wpAny_bind (wpAny_field hos hds (x:=vs) rfl (wpAny_pure ?_)))))));refine wpAny_bind (jX ps ?_);show wpAny _ _ (if((-1:Int)==0)=true then _ else _) _ _ s;rw[if_neg ↑0];refine wpAny_bind (jX .none (wpAny_bind (jX .none (wpAny_bind (wpAny_pure ?_)))));show wpAny _ _ (pure ((n:Int) - 1,(-1:Int),Builtin.Slice.slicePlaces ((n:Int) - 1) (-1) (-1))) _ _ s;have e:Builtin.Slice.slicePlaces ((n:Int) - 1) (-1) (-1)=n:=by
  unfold Builtin.Slice.slicePlaces;rw[if_neg ↑0];split
  ·simp only[show(-(-1:Int))=1 from rfl,Int.ediv_one];omega
  ·omega
 rw[e];exact wpAny_pure h
theorem lA{t sl:Addr}{items:List Value}{vs:Value}{Q:Value->Shared->Prop}(ht:IsTup s.heap t items.toArray)(hs:s.heap.IsSliceOf sl .none .none vs)(ps:IsPart vs (some (-1)))(h:Q (.ref s.heap.objs.size) {s with heap:=s.heap.push {cls:=.type "tuple",data:=.seq items.reverse.toArray}})(hsz:items.length<=sizeLine):wpAny (model prog w) A (getItem (.ref t) (.ref sl)) Q E s:=by
 have htake:sizeOk (.seq items.reverse.toArray):=by
  show items.reverse.toArray.size<=sizeLine;rw[List.size_toArray,List.length_reverse];exact hsz
 obtain⟨os,hos,hcs,hds⟩:=id hs;have hTs:s.TypeIs (.ref sl) "slice":=⟨os,hos,hcs⟩
 unfold getItem
 try with_reducible refine wpAny_holding ?_
 first|refine wpAny_bind (wpAny_pure ?_)|skip
 refine wpAny_bind (wpAny_sequenceKey ht.typeIs ↑0 ?_);refine wpAny_bind (wpAny_callSpecial?_slot (name:=Str.ofString "__getitem__") ht.typeIs PyProof.Rows.slot_tuple_getitem
  (wpAny_call_entry PyProof.Rows.slot_tuple_getitem ht.typeIs entry_tuple_getitem ?_ (args_tuple_getitem _ _)))
 show wpAny _ _ (Builtin.Tuple.tupleItemsOf (.ref t)>>=_) _ _ s;refine wpAny_bind (tupleItemsOf_ ht ?_);refine wpAny_bind (wpAny_typeOf hTs ?_);rw[if_pos ↑0];refine wpAny_bind (mq hs ps ?_);have hno:¬((((items.toArray.size:Int) - 1)==0&&(-1:Int)==1&&items.toArray.size==items.toArray.size)=true):=by
  intro q;rw[Bool.and_eq_true,Bool.and_eq_true] at q;exact absurd q.1.2 ↑0
 show wpAny _ _ (if(((items.toArray.size:Int) - 1)==0&&(-1:Int)==1&&items.toArray.size==items.toArray.size)=true then _ else _) _ _ s;have hp:((List.range items.toArray.size).filterMap λ(k:Nat)=>items.toArray[(((items.toArray.size:Nat):Int) - 1+(k:Int)* -1).toNat]?).toArray=items.reverse.toArray:=by
  congr 1;have:=L2.Ho items;rw[List.filterMap_map] at this;rw[<-this];simp only[List.size_toArray,List.getElem?_toArray];apply L2.tP;intro k _;show items[_]?=items[_]?;congr 2;omega
 rw[if_neg hno,hp];first
  |exact wpAny_bind (m:=Builtin.Tuple.tupleExact _) (wpAny_newObj_type (wpAny_pure ⟨_,rfl,wpAny_pure h⟩) htake)
  |exact wpAny_bind (m:=Builtin.Tuple.tupleExact _) (wpAny_newObj_type (wpAny_bind (wpAny_pure (wpAny_pure ⟨_,rfl,wpAny_pure h⟩))) htake)
  |exact wpAny_bind (wpAny_bind (m:=Builtin.Tuple.tupleExact _) (wpAny_newObj_type (wpAny_pure (wpAny_pure ⟨_,rfl,wpAny_pure h⟩)) htake))
  |exact wpAny_bind (wpAny_bind (m:=Builtin.Tuple.tupleExact _) (wpAny_newObj_type (wpAny_pure ⟨_,rfl,wpAny_pure h⟩) htake))
end
end HT
namespace L2
open PySem PySem.Spec PyProof.Rows
section
variable{X:Cx}{e:Expr}{te:TE}{pos p2 p3 p4:Pos}{j:Nat}
def Tg(K:Frag)(te:TE):TE:=λσ H Q=>te σ H λx H1=>∃a xs,x= .ref a/\((bh K H1 a xs/\∀p,H1 p=none->Q (.ref p) (upd H1 p (.lst xs.reverse)))\/(fN K H1 a xs/\∀p,H1 p=none->Q (.ref p) (upd H1 p (.tup xs.reverse))))
theorem Jn(he:PE X e te):PE X (.Subscript e (.Slice none none (some (.UnaryOp .USub (.Constant (.int 1) j p4) p3)) p2) pos) (Tg X.K te):=by
 intro UP s σ H Q I h;refine Subscript_ (br (he UP s σ H _ I h) λv s1 ⟨x,H1,I1,r1,a,xs,ex,q⟩=>?_);subst ex;cases(show v=Value.ref a from r1);refine wpAny_Slice ?_;rw[evalPart_none];refine wpAny_pure (wpAny_pure ?_);refine br (bV (X:=X) (gy eg (aw (X:=X) (i:=1) (j:=j) (pos:=p4))) UP s1 σ H1 (λo H2=>o=some (-1)/\H2=H1) I1 ⟨1,rfl,⟨-1,rfl,rfl,rfl⟩⟩) λvs s3 ⟨o,H2,I3,ps,eo,eH⟩=>?_;subst eo;have I3:Inv X UP σ H1 s3:=eH▸I3;have I4:Inv X UP σ H1 {s3 with heap:=s3.heap.push {cls:=.type "slice",data:=.fields #[.none,.none,vs]}}:=I3.kept (t':=s3.toks) λb ob q=>Heap.get?_push_of_some _ q;have hsl:=Heap.IsSliceOf.new s3.heap .none .none vs;show wpAny (model X.prog X.w) X.A (subscriptTail e (.Slice none none (some (.UnaryOp .USub (.Constant (.int 1) j p4) p3)) p2) (.ref a) (.ref s3.heap.objs.size)) (EP X UP σ Q) X.xe {s3 with heap:=s3.heap.push {cls:=.type "slice",data:=.fields #[.none,.none,vs]}};rcases q with⟨hx,q⟩|⟨hx,q⟩
 ·obtain⟨its,r,ht,hz⟩:=I4.list hx;have hlen:=r.length;refine tail_any (ops:=[.ref a,.ref s3.heap.objs.size]) ht.isList.typeIs slot_list_getitem.lookup ?_ (by with_unfolding_all rfl);refine wpAny_getItem_list_slice ht.isList hsl .none .none ps (by simp) ?_ (by rw[List.size_toArray] <;> omega);rw[FU];refine⟨.ref _,_,I4.laid (t':=s3.toks) (o:=.lst xs.reverse) (λb ob q=>Heap.get?_push_of_some _ q) (Nat.le_refl _) ?_,rfl,q _ (I4.aZ.fresh (Nat.le_refl _))⟩;exact⟨by rw[List.length_reverse];exact hz,_,0,r.reverse,Heap.get?_push_size _ rfl⟩
 ·obtain⟨its,r,ht,hz⟩:=I4.tuple hx;have hlen:=r.length;refine tail_any (ops:=[.ref a,.ref s3.heap.objs.size]) ht.typeIs PyProof.Rows.slot_tuple_getitem.lookup ?_ (by with_unfolding_all rfl);refine HT.lA ht hsl ps ?_ ↑2;refine⟨.ref _,_,I4.laid (t':=s3.toks) (o:=.tup xs.reverse) (λb ob q=>Heap.get?_push_of_some _ q) (Nat.le_refl _) ?_,rfl,q _ (I4.aZ.fresh (Nat.le_refl _))⟩;exact⟨by rw[List.length_reverse];exact hz,_,r.reverse,IsTup.new _ _⟩
theorem mP(l:Addr)(items:Array Value)(n:Nat)(b:Addr)(items2:Array Value)(n2:Nat)(dd:Option Addr)(sl:Array (Option Value))(hs0:¬(!items.isEmpty&&Builtin.List.listTooLong (items.size+items2.size))=true)(hs1:items.size<=sizeLine)(hs2:items.size+items2.size<=sizeLine+1):
  Meets (Builtin.«list.extend» ⟨[.ref l,.ref b],[]⟩) (λ_ R s=>s.heap.get? l=some {cls:=.type "list",dict:=none,data:=.seq items n,slots:=#[]}/\s.heap.get? b=some {cls:=.type "tuple",dict:=dd,data:=.seq items2 n2,slots:=sl}/\R (.ok (.ret Value.none)) {s with heap:=s.heap.update l (Obj.mapSeq λx=>x++items2),toks:=s.toks}):=
 .of_wp λprog w A R s h=>by
  obtain⟨hp,g,d,tk,os⟩:=s;obtain⟨hl,hb,h⟩:=h;have f1:=AutoSeq1.idx_int;have f2:=AutoSeq1.sub_tuple_tuple;have f3:=AutoSeq1.sub_list_list;have f4:=AutoSeq1.sub_tuple_list;have f5:=AutoSeq1.sub_list_tuple;have hz':(items++items2).size<=sizeLine+1:=by rw[Array.size_append];exact hs2
  wp_walk using (wpAny_updateSeq hl rfl (hz:=hs1) (_hz':=hz')),AutoSeq1.wpAny_loadPart' hl,AutoSeq1.wpAny_loadPart' hb;exact ⟨_,rfl,h⟩
def Ip(K:Frag):V->List V->Hp->VK->Prop:=λx vs H Q=>∃l b xs zs,x= .ref l/\vs=[.ref b]/\H l=some (.lst xs)/\fN K H b zs/\xs.length+zs.length<=sizeLine/\Q .bH (upd H l (.lst (xs++zs)))
theorem rp:Sn X "list.extend" (Ip X.K):=by
 intro UP s σ H x vs v us Q I rx rv h;obtain⟨l,b,xs,zs,rfl,rfl,hH,hB,hz,q⟩:=h;cases rx;obtain⟨u,rfl,ru⟩:=rv.one;cases ru;obtain⟨z,its,n,r,hl,e⟩:=I.BM hH;obtain⟨its2,r2,ht,hz2⟩:=I.tuple hB;obtain⟨⟨cls2,dd2,data2,sl2⟩,e2,hc2,n2,hd2⟩:=id ht;simp only at hc2 hd2;subst hc2 hd2;have hl2:=r2.length;have hsz:its.toArray.size+its2.toArray.size<=sizeLine:=by rw[List.size_toArray,List.size_toArray];omega
 have hlong:¬(!its.toArray.isEmpty&&Builtin.List.listTooLong (its.toArray.size+its2.toArray.size))=true:=by
  rw[yU hsz,Bool.and_false];exact Bool.false_ne_true
 refine call_meets F.slot_list_extend ⟨_,e,rfl⟩ F.entry_list_extend (F.args_list_extend_2 _ _)
  (mP l its.toArray n b its2.toArray n2 dd2 sl2 hlong (by rw[List.size_toArray];omega) ↑2) ⟨e,e2,?_⟩
 refine⟨.bH,_,I.Lo (its':=its++its2) hH e (by simp) (r.append r2) ?_,rfl,q⟩;rw[List.length_append];omega
end
def p7(P:Params):List DictEntry->List (Str×V)->Prop
 |[],[]=>True
 |e::r,x::l=>(∃t,e.key= .str x.1 t)/\e.hash=PyData.keyHash P x.1/\RelV x.2 e.val/\p7 P r l
 |_,_=>False
theorem p7.keys{P:Params}:∀{es:List DictEntry}{l:List (Str×V)},p7 P es l->oN P es (l.map (·.1))
 |[],[],_=>True.intro
 |_::_,_::_,⟨h1,h2,_,r⟩=>⟨h1,h2,r.keys⟩
theorem p7.length{P:Params}:∀{es:List DictEntry}{l:List (Str×V)},p7 P es l->es.length=l.length
 |[],[],_=>rfl
 |_::_,_::_,⟨_,_,_,r⟩=>congrArg (·+1) r.length
theorem p7.get{P:Params}:∀{es:List DictEntry}{l:List (Str×V)}{i:Nat}{k:Str}{v:V},p7 P es l->l[i]?=some (k,v)->∃en t,es[i]?=some en/\en.key= .str k t
 |[],[],_,_,_,_,h=>by simp at h
 |e::_,x::_,0,_,_,⟨⟨t,h1⟩,_,_,_⟩,h=>by
  simp only[List.getElem?_cons_zero,Option.some.injEq] at h;subst h;exact⟨e,t,rfl,h1⟩
 |_::_,_::_,i+1,_,_,⟨_,_,_,r⟩,h=>by
  simp only[List.getElem?_cons_succ] at h ⊢;exact r.get h
def Pj(l:List (Str×V))(k:Str):Option V:=(l.find? λx=>decide (x.1=k)).map (·.2)
theorem p7.find{P:Params}(k:Str):∀{es:List DictEntry}{l:List (Str×V)},p7 P es l->d5 (Pj l k) ((es.find? λd=>Value.isStrOf k d.key).map (·.val))
 |[],[],_=>True.intro
 |e::_,y::l,⟨⟨t,h1⟩,_,h2,r⟩=>by
  have ih:=r.find k;unfold Pj at ih ⊢;rw[List.find?_cons,List.find?_cons,h1];have q:Value.isStrOf k (.str y.1 t)=decide (y.1=k):=by
   by_cases z:y.1=k
   ·subst z;simp[Value.isStrOf]
   ·simp[Value.isStrOf,z,Ne.symm z]
  rw[q];by_cases z:y.1=k
  ·rw[decide_eq_true z];exact h2
  ·rw[decide_eq_false z];exact ih
def Ph(K:Frag)(P:Params)(a:Addr)(l:List (Str×V)):Prop:=∃es n,K.lookup a=some ⟨.type "dict",none,.dict es n,#[]⟩/\p7 P es.toList l/\(a==sysModules)=false
section
variable{X:Cx}
theorem S0:Pg X (λx y H Q=>∃k a l v,x= .ref a/\y= .str k/\Ph X.K X.w.params a l/\Pj l k=some v/\Q v H):=by
 rintro value UR UP s σ H x y v u Q I rx ry ⟨k,a,l,z,rfl,rfl,⟨es,n,h1,h2,h3⟩,e,q⟩ hs;cases(show v=Value.ref a from rx);obtain⟨t,rfl⟩:=(show ∃t,u=Value.str k t from ry)
 have r:=h2.find k;rw[e] at r;obtain⟨w',hw,rw'⟩:=d5.some_of r;have hm:=PySem.W.mapOf_K (prog:=X.prog) I.dZ h1 h2.keys.lit;exact tail_any hm.typeIs PySem.F.slot_dict_getitem.lookup (wpAny_getItem_of (strKind_is X.prog X.w k t) hm (by rw[find_eq];exact hw) ⟨z,H,I.tok _,rw',q⟩) hs
def Qy(K:Frag)(P:Params)(d:Addr)(l:List (Str×V)):It:=
 ⟨λi H=>Ph K P d l/\i<l.length,λi H x H'=>H'=H/\∃k v,l[i]?=some (k,v)/\x= .str k,λi H=>Ph K P d l/\l.length<=i⟩
theorem NV{P:Program}{w:World}{K:Frag}{tg:Expr}{d:Addr}{l:List (Str×V)}{es:Array DictEntry}{ep:Nat}(it:Addr)(hk:K.lookup d=some ⟨.type "dict",none,.dict es ep,#[]⟩)(hes:p7 w.params es.toList l):Turn P w K tg (Qy K w.params d l) [it] it (λi h=>h.IsKeyIter it d i l.length ep) where
 mem:=by simp
 obj:=λi h st b hb=>by
  have e:b=it:=by simpa using hb
  subst e;obtain⟨oi,e,c,dd⟩:=st;exact⟨oi,e,λv z=>by rw[dd] at z;cases z⟩
 keep:=λi h h' st k=>st.at λoi e=>k it (by simp) oi e
 item:=by
  intro X hP hw hK hc i UP s σ H E I hf st hg;subst hP hw hK;obtain⟨hd,hi⟩:=hg;obtain⟨f0,f1,f2,f3,f4,f5⟩:=hf it (by simp);have hgd:=I.dZ _ _ hk;obtain⟨⟨k,v⟩,hkv⟩:∃p,l[i]?=some p:=⟨l[i],List.getElem?_eq_getElem hi⟩
  obtain⟨en,t,hen,hkey⟩:=hes.get hkv;refine tX st hgd rfl (by rw[<-Array.length_toList];exact hes.length) (by rw[<-Array.getElem?_toList];exact hen) λh' st' sb=>?_;have I1:Inv X UP σ H {s with heap:=h'}:=I.turned (t':=s.toks) (λb ob hb e=>(sb.2 b hb).trans e) f0 f1 f3 f4 f5;obtain⟨oi,e,c,dd⟩:=id st';exact⟨en.key,rfl,Dh (s:={s with heap:=h'}) e c dd ↑0 ⟨.str k,H,I1,by rw[hkey];exact⟨t,rfl⟩,⟨rfl,k,v,hkv,rfl⟩,st',λb hb=>(hf b hb).1⟩⟩
 done:=by
  intro X hP hw hK hc i UP s σ H E I hf st hg;subst hP hw hK;obtain⟨hd,hi⟩:=hg;obtain⟨f0,f1,f2,f3,f4,f5⟩:=hf it (by simp);have hgd:=I.dZ _ _ hk;exact v7 (I.ok.hd hc) st hgd rfl (by rw[<-Array.length_toList];exact hes.length) hi λh' eb=>⟨rfl,I.turned (t':=s.toks) (λb ob hb e=>eb b ob hb e) f0 f1 f3 f4 f5⟩
 self:=λA i s Q E st h=>wpAny_pyIter_keyiter st h
def UK(K:Frag)(P:Params)(td:TE):TI:=λσ H R=>td σ H λx H1=>∃d l,x= .ref d/\Ph K P d l/\R (Qy K P d l) H1
theorem SX{tg e:Expr}{td:TE}(he:PE X e td):PI X tg e (UK X.K X.w.params td):=by intro UP s σ H R I h;refine br (he UP s σ H _ I h) λu s1 ⟨x,H1,I1,rx,d,l,ex,⟨es,n,h1,h2,h3⟩,q⟩=>?_;subst ex;obtain rfl:u=Value.ref d:=rx;have hgd:=I1.dZ _ _ h1;refine Em h3 hgd ⟨rfl,rfl,rfl⟩ rfl (OL (tk:=s1.toks) I1 _ (NV _ h1 h2) ⟨_,Heap.get?_push_size _ rfl,rfl,?_⟩ q);rw[<-h2.length,Array.length_toList] <;> rfl
theorem Rg{K:Frag}{P:Params}{a:Addr}{l:List (Str×V)}{g:TG}{tb:TS}{D:Ends}{σ:St}{H:Hp}(hK:Ph K P a l)(Pv:Nat->St->Hp->Prop)(h0:Pv 0 σ H)(hs:∀i k v σ H,l[i]?=some (k,v)->Pv i σ H->g (.str k) σ H λσ2 H2=>tb {D with nx:=Pv (i+1),ct:=Pv (i+1),bk:=D.nx} σ2 H2)(hd:∀σ H,Pv l.length σ H->D.nx σ H):
  ∃W:Nat->Nat->St->Hp->Prop,(∃m,W 0 m σ H)/\∀i m σ H,W i m σ H->
   ((Qy K P a l).stop i H/\D.nx σ H)\/((Qy K P a l).go i H/\∃N:St->Hp->Prop,(∀σ' H',N σ' H'->∃m',m'<m/\W (i+1) m' σ' H')/\∀x H',(Qy K P a l).LN i H x H'->g x σ H' λσ2 H2=>tb {D with nx:=N,ct:=N,bk:=D.nx} σ2 H2):=by
 refine⟨λi m σ H=>m=l.length - i/\i<=l.length/\Pv i σ H,⟨l.length,by simp,Nat.zero_le _,h0⟩,?_⟩;rintro i m σ H ⟨rfl,hi,p⟩;by_cases hlt:i<l.length
 ·refine .inr ⟨⟨hK,hlt⟩,Pv (i+1),λσ' H' p'=>⟨l.length - (i+1),↑2,rfl,hlt,p'⟩,λx H' y=>?_⟩;obtain⟨rfl,k,v,hkv,rfl⟩:=y;exact hs i k v σ _ hkv p
 ·have e:i=l.length:=↑2
  subst e;exact .inl ⟨⟨hK,Nat.le_refl _⟩,hd σ H p⟩
end
end L2
namespace TG
open PySem PySem.Spec PyProof.Rows L2 TW
variable{P:Program}{w:World}{K:Frag}{mg:Str->Option Value}{base:Heap}
variable{H:Hp}{C:Addr}{ps:List Str}{fd:FuncData}{CT:Addr}{CF:Addr}{CG:Addr}{CW:Addr}
section
open EwTree (isSmall isBig isDigit isSeen isWordByte isCodeByte isMarkByte)
def iv(b:By):List V:=b.map λc=>V.int (c.toNat:Int)
theorem aT(b:By):(iv b).length=b.length:=List.length_map _
theorem Oy{b:By}{p:Nat}{c:UInt8}(h:b[p]?=some c):(iv b)[p]?=some (.int c.toNat):=by unfold iv;rw[List.getElem?_map,h];rfl
theorem dM{b:By}{p:Nat}{c:UInt8}(h:b[p]?=some c):vt (iv b) (p:Int)=some (.int c.toNat):=by have hp:p<b.length:=(List.getElem?_eq_some_iff.mp h).1;exact at_of (j:=p) rfl (Oy h)
inductive jc(p:Int->Bool)(vs:List V)(H:Hp)(Q:VK)(E:XK):Prop
 |mk(n:Int) (_:vs=[.int n]) (_:Q (.bl (p n)) H)
theorem gS(p:Int->Bool):∀vs H Q E,jc p vs H Q E->vs.length=(["byte"]:List Str).length:=by rintro vs H Q E ⟨n,rfl,_⟩;rfl
theorem kS{lo hi n:Int}{Q:VK}(k:Q (.bl (decide (lo<=n)&&decide (n<=hi))) H):
  if decide (lo<=n)=true then CA (λi j=>.bl (decide (i<=j))) (.int n) (.int hi) H Q else Q (.bl false) H:=by
 by_cases h:lo<=n
 ·rw[decide_eq_true h] at k ⊢;rw[if_pos rfl];exact⟨n,hi,rfl,rfl,k⟩
 ·rw[decide_eq_false h] at k ⊢;rw[if_neg ↑0];exact k
theorem Gk:ax ["byte"] ["byte"] (aq (top 10)):=↑3
theorem HZ(d:Def K mg "is_small" (top 10) ["byte"]):Ok P w K mg base bf 1 "is_small" ["byte"] (jc ic):=d.ok λf fd F=>by
 refine F.ok Gk (gS _) (λUQ A outer s H vs Q E hr h=>?_);obtain⟨n,rfl,k⟩:=h;refine⟨_,ai (aB (kD g8 g8 aw (pv 0) aw)),?_⟩;exact⟨_,rfl,_,_,rfl,rfl,_,rfl,kS k⟩
theorem M9:ax ["byte"] ["byte"] (aq (top 11)):=↑3
theorem Pd(d:Def K mg "is_capital" (top 11) ["byte"]):Ok P w K mg base bf 1 "is_capital" ["byte"] (jc uB):=d.ok λf fd F=>by
 refine F.ok M9 (gS _) (λUQ A outer s H vs Q E hr h=>?_);obtain⟨n,rfl,k⟩:=h;refine⟨_,ai (aB (kD g8 g8 aw (pv 0) aw)),?_⟩;exact⟨_,rfl,_,_,rfl,rfl,_,rfl,kS k⟩
theorem Hj:ax ["byte"] ["byte"] (aq (top 12)):=↑3
theorem GG(d:Def K mg "is_digit" (top 12) ["byte"]):Ok P w K mg base bf 1 "is_digit" ["byte"] (jc bZ):=d.ok λf fd F=>by
 refine F.ok Hj (gS _) (λUQ A outer s H vs Q E hr h=>?_);obtain⟨n,rfl,k⟩:=h;refine⟨_,ai (aB (kD g8 g8 aw (pv 0) aw)),?_⟩;exact⟨_,rfl,_,_,rfl,rfl,_,rfl,kS k⟩
theorem Kz:ax ["byte"] ["byte"] (aq (top 13)):=↑3
theorem Ke(d:Def K mg "is_printable" (top 13) ["byte"]):Ok P w K mg base bf 1 "is_printable" ["byte"] (jc g7):=d.ok λf fd F=>by
 refine F.ok Kz (gS _) (λUQ A outer s H vs Q E hr h=>?_);obtain⟨n,rfl,k⟩:=h;refine⟨_,ai (aB (kD g8 g8 aw (pv 0) aw)),?_⟩;exact⟨_,rfl,_,_,rfl,rfl,_,rfl,kS k⟩
theorem JE:ax ["byte"] ["byte"] (aq (top 14)):=↑3
theorem JZ(d:Def K mg "in_word" (top 14) ["byte"])(o1:Ok P w K mg base bf 1 "is_small" ["byte"] (jc ic))(o2:Ok P w K mg base bf 1 "is_digit" ["byte"] (jc bZ)):
  Ok P w K mg base bf 2 "in_word" ["byte"] (jc g_):=d.ok λf fd F=>by
 refine F.ok JE (gS _) (λUQ A outer s H vs Q E hr h=>?_);obtain⟨n,rfl,k⟩:=h;refine⟨_,ai (aB (zS (aM o1 hr (aa (pv 0) ao)) (zS (aM o2 hr (aa (pv 0) ao)) (gQ (dW cG (pv 0) aw (aJ _)))))),?_⟩;refine⟨_,rfl,n,rfl,_,rfl,aU (λh1=>?_) λh1=>?_⟩
 ·have e:g_ n=true:=by unfold g_;rw[h1];rfl
  rw[e] at k;exact k
 ·refine⟨_,rfl,n,rfl,_,rfl,aU (λh2=>?_) λh2=>?_⟩
  ·have e:g_ n=true:=by unfold g_;rw[h2];simp
   rw[e] at k;exact k
  ·refine⟨_,rfl,rfl,?_⟩;have e:g_ n=decide (n=95):=by
    unfold g_;rw[Bool.not_eq_true] at h1 h2;rw[h1,h2];rfl
   rw[e] at k;have e2:decide (V.int n=V.int 95)=decide (n=95):=by
    by_cases z:n=95
    ·subst z;simp
    ·simp[z]
   rw[e2];exact k
theorem KN:ax ["byte"] ["byte"] (aq (top 15)):=↑3
theorem KO(d:Def K mg "in_code" (top 15) ["byte"])(o1:Ok P w K mg base bf 1 "is_capital" ["byte"] (jc uB))(o2:Ok P w K mg base bf 1 "is_digit" ["byte"] (jc bZ)):
  Ok P w K mg base bf 2 "in_code" ["byte"] (jc oZ):=d.ok λf fd F=>by
 refine F.ok KN (gS _) (λUQ A outer s H vs Q E hr h=>?_);obtain⟨n,rfl,k⟩:=h;refine⟨_,ai (aB (zS (aM o1 hr (aa (pv 0) ao)) (gQ (aM o2 hr (aa (pv 0) ao))))),?_⟩;refine⟨_,rfl,n,rfl,_,rfl,aU (λh1=>?_) λh1=>?_⟩
 ·have e:oZ n=true:=by unfold oZ;rw[h1];rfl
  rw[e] at k;exact k
 ·refine⟨_,rfl,n,rfl,?_⟩;have e:oZ n=bZ n:=by
   unfold oZ;rw[Bool.not_eq_true] at h1;rw[h1];rfl
  rw[e] at k;exact k
theorem Lj:ax ["byte"] ["byte"] (aq (top 16)):=↑3
theorem KQ(d:Def K mg "in_mark" (top 16) ["byte"])(o1:Ok P w K mg base bf 2 "in_word" ["byte"] (jc g_))(o2:Ok P w K mg base bf 1 "is_capital" ["byte"] (jc uB)):
  Ok P w K mg base bf 3 "in_mark" ["byte"] (jc oH):=d.ok λf fd F=>by
 refine F.ok Lj (gS _) (λUQ A outer s H vs Q E hr h=>?_);obtain⟨n,rfl,k⟩:=h;refine⟨_,ai (aB (zS (aM o1 hr (aa (pv 0) ao)) (gQ (aM o2 (hr.mono ↑0) (aa (pv 0) ao))))),?_⟩;refine⟨_,rfl,n,rfl,_,rfl,aU (λh1=>?_) λh1=>?_⟩
 ·have e:oH n=true:=by unfold oH;rw[h1];rfl
  rw[e] at k;exact k
 ·refine⟨_,rfl,n,rfl,?_⟩;have e:oH n=uB n:=by
   unfold oH;rw[Bool.not_eq_true] at h1;rw[h1];rfl
  rw[e] at k;exact k
theorem bB{X:Cx}{e:Expr}{te:TE}{p pos:Pos}(ln:X.mg "len"=none)(he:PE X e te)(hg:Gl X "len":=by rfl)(hst:starEach [e] X.env=(false,eval e X.env)::starEach [] X.env:=by rfl)(hpl:(backTo pos (starEach [] X.env)).any (·.1)=false:=by rfl):
  PE X (.Call (.Name "len" p) [e] [] pos) (LA (zC X.K) (bT te d4)):=
 eB (e:=e) (es:=[]) (pos:=pos) vH hg ln PySem.boot_len (aa he ao hst) ↑0 ↑0 hst hpl
theorem P0{j:Nat}{xs:List V}(h:decide ((j:Int)<((xs.length:Nat):Int))=true):j<xs.length:=by have:=of_decide_eq_true h;omega
theorem PY{j:Nat}{xs:List V}(h:¬decide ((j:Int)<((xs.length:Nat):Int))=true):xs.length<=j:=by have:¬((j:Int)<((xs.length:Nat):Int)):=λz=>h (decide_eq_true z);omega
inductive ik(K:Frag)(vs:List V)(H:Hp)(Q:VK)(E:XK):Prop
 |mk(a:Addr) (b:By) (p:Nat) (_:vs=[.ref a,.int p]) (_:bh K H a (iv b)) (_:Q (.int (cQ b p)) H)
theorem JQ:ax ["text","place"] ["text","place"] (aq (top 17)):=↑3
theorem J4(d:Def K mg "byte_at" (top 17) ["text","place"])(ln:mg "len"=none):Ok P w K mg base bf 1 "byte_at" ["text","place"] (ik K):=d.ok λf fd F=>by
 refine F.ok JQ (by rintro vs H Q E ⟨a,b,p,rfl,_⟩;rfl) (λUQ A outer s H vs Q E hr h=>?_);obtain⟨a,b,p,rfl,hS,k⟩:=h;refine⟨_,aj (aR (aD pb (pv 1) (bB ln (pv 0)) (aJ _)) (ai (aB (bA aX (pv 0) (pv 1) (λ_ _=>rfl)))) aL) (ai (aB (gy eg aw))),?_⟩;refine⟨_,rfl,_,rfl,a,_,rfl,.inl hS,_,_,rfl,rfl,_,rfl,aU (λh1=>?_) λh1=>?_⟩
 ·have hp:p<b.length:=by rw[<-aT];exact P0 h1
  have hg:b[p]?=some b[p]:=List.getElem?_eq_getElem hp;refine⟨_,rfl,_,rfl,a,_,_,_,rfl,rfl,hS,dM hg,?_⟩;rw[cj hg] at k;exact k
 ·have hn:b[p]?=none:=List.getElem?_eq_none_iff.mpr (by rw[<-aT];exact PY h1);rw[iC hn] at k;exact⟨_,rfl,k⟩
inductive Fits(P:Program)(w:World)(K:Frag)(mg:Str->Option Value)(base:Heap)(f:Addr)(q:UInt8->Bool):Prop
 |mk(fd:FuncData) (pI:Int->Bool) (_:bY P w K mg base bf 3 f fd ["byte"] (jc pI)) (_:Binds K fd ["byte"] []) (_:PySem.W.keepIn K (.ref f)=true) (_:∀c:UInt8,pI c.toNat=q c)
inductive kL(P:Program)(w:World)(K:Frag)(mg:Str->Option Value)(base:Heap)(vs:List V)(H:Hp)(Q:VK)(E:XK):Prop
 |mk(a:Addr) (b:By) (p:Nat) (f:Addr) (q:UInt8->Bool) (_:vs=[.ref a,.int p,.ref f]) (_:bh K H a (iv b)) (_:p<=b.length) (_:Fits P w K mg base f q) (_:Q (.int (aK q b p)) H)
theorem Gh:ax ["text","place","fits"] ["text","place","fits"] (aq (top 18)):=↑3
theorem Ol(d:Def K mg "run_end" (top 18) ["text","place","fits"])(ln:mg "len"=none):Ok P w K mg base bf 4 "run_end" ["text","place","fits"] (kL P w K mg base):=d.ok λf fd F=>by
 refine F.ok Gh (by rintro vs H Q E ⟨a,b,p,f,q,rfl,_⟩;rfl) (λUQ A outer s H vs Q E hr h=>?_);obtain⟨a,b,p,g,q,rfl,hS,hp,⟨gd,pI,FG,bG,kG,eG⟩,k⟩:=h;refine⟨_,aj (fj PassesOwn.never (nU (aD pb (pv 1) (bB ln (pv 0)) (aJ _))
  (i9 (dr (F4 (k:=3) (ps:=["byte"]) (sp:=jc pI) 2 hr (aa (bA aX (pv 0) (pv 1) (λ_ _=>rfl)) ao))))).pt
  (ai (iE (i:=1) Gh.nd rfl (Or.inl rfl) aw gX))) (ai (aB (pv 1))),?_⟩
 refine⟨λm σ H'=>∃j:Nat,m=b.length - j/\σ=[some (.ref a),some (.int j),some (.ref g)]/\H'=H/\j<=b.length/\aK q b j=aK q b p,⟨_,p,rfl,rfl,rfl,hp,rfl⟩,?_⟩;rintro m σ H' ⟨j,rfl,rfl,rfl,hj,e⟩;refine⟨_,rfl,_,rfl,a,_,rfl,.inl hS,_,_,rfl,rfl,_,rfl,aU (λh1=>?_) λh1=>?_⟩
 ·have hjl:j<b.length:=by rw[<-aT];exact P0 h1
  have hg:b[j]?=some b[j]:=List.getElem?_eq_getElem hjl;refine⟨g,gd,rfl,FG,bG,kG,_,rfl,_,rfl,a,_,_,_,rfl,rfl,hS,dM hg,_,rfl,_,rfl,aU (λh2=>?_) λh2=>?_⟩
  ·rw[eG] at h2;refine⟨λσ' H2=>σ'=[some (.ref a),some (.int ((j+1:Nat):Int)),some (.ref g)]/\H2=H',λσ' H2 ⟨z1,z2⟩=>⟨b.length - (j+1),↑2,j+1,rfl,z1,z2,↑2,?_⟩,_,rfl,_,_,rfl,rfl,rfl,rfl⟩;rw[<-uZ hg h2];exact e
  ·rw[eG,Bool.not_eq_true] at h2;refine⟨_,rfl,?_⟩;rw[<-e,Fs hg h2] at k;exact k
 ·have hn:b[j]?=none:=List.getElem?_eq_none_iff.mpr (by rw[<-aT];exact PY h1);refine dR ⟨_,rfl,?_⟩;rw[<-e,F9 hn] at k;exact k
theorem fits_of{nm:Str}{pI:Int->Bool}{q:UInt8->Bool}{j:Nat}(o:Ok P w K mg base bf j nm ["byte"] (jc pI))(hj:j<=3)(e:∀c:UInt8,pI c.toNat=q c):∃f,mg nm=some (.ref f)/\Fits P w K mg base f q:=by obtain⟨f,fd,F,b,m,kp⟩:=o.ex;exact⟨f,m,fd,pI,F.mono hj,b,kp,e⟩
end
section
open EwTree (depthNow depthStep)
theorem O1:∀(xs ys:List Int),PyData.eqvAll (xs.map PyData.int) (ys.map PyData.int)=decide (xs=ys)
 |[],[]=>by simp[PyData.eqvAll]
 |[],y::ys=>by simp[PyData.eqvAll]
 |x::xs,[]=>by simp[PyData.eqvAll]
 |x::xs,y::ys=>by
  rw[List.map_cons,List.map_cons,PyData.eqvAll,O1 xs ys];by_cases h:x=y
  ·subst h;simp[PyData.eqv]
  ·simp[PyData.eqv,h]
theorem QU:∀(xs:List Int),PyData.canLayAll0 (xs.map PyData.int)=true/\PyData.depthAll (xs.map PyData.int)<=1
 |[]=>by simp[PyData.canLayAll0,PyData.depthAll]
 |x::xs=>by
  have ih:=QU xs;simp only[List.map_cons,PyData.canLayAll0,PyData.depthAll,PyData.canLay0,PyData.depth,ih.1,Bool.and_self,true_and];omega
theorem qk(xs:List Int):SeqAt.shaped (.list (xs.map PyData.int))=true:=by unfold SeqAt.shaped;have h:=QU xs;rw[show PyData.canLay0 (.list (xs.map PyData.int))=PyData.canLayAll0 (xs.map PyData.int) from by rw[PyData.canLay0],h.1,Bool.true_and];refine decide_eq_true ?_;rw[PyData.depth];omega
theorem Rt{K:Frag}:∀(xs:List Int),rR K H (xs.map V.int) (xs.map PyData.int)
 |[]=>.nil
 |x::xs=>.cons (.int x) (Rt xs)
inductive Qq(K:Frag)(x y:V)(H:Hp)(Q:VK):Prop
 |mk(a b:Addr) (xs ys:List Int) (_:x= .ref a) (_:y= .ref b) (_:bh K H a (xs.map V.int)) (_:bh K H b (ys.map V.int)) (_:Q (.bl (decide (xs=ys))) H)
inductive Rf(K:Frag)(x y:V)(H:Hp)(Q:VK):Prop
 |mk(a b:Addr) (xs ys:List Int) (_:x= .ref a) (_:y= .ref b) (_:bh K H a (xs.map V.int)) (_:bh K H b (ys.map V.int)) (_:Q (.bl (!decide (xs=ys))) H)
theorem m5{X:Cx}(hu:X.A.units+64<cLine):jh X (compareOp .Eq) (Qq X.K):=by
 rintro UP s σ H x y v u Q I rx ry ⟨a,b,xs,ys,rfl,rfl,h1,h2,q⟩;refine NN hu UP s σ H _ _ v u Q I rx ry ⟨_,_,.lst h1 (Rt xs),.lst h2 (Rt ys),qk xs,qk ys,?_⟩;have e:PyData.eqv (.list (xs.map PyData.int)) (.list (ys.map PyData.int))=decide (xs=ys):=by rw[PyData.eqv];exact O1 xs ys
 rw[e];exact q
theorem Gb{X:Cx}(hu:X.A.units+64<cLine):jh X (compareOp .NotEq) (Rf X.K):=by
 rintro UP s σ H x y v u Q I rx ry ⟨a,b,xs,ys,rfl,rfl,h1,h2,q⟩;refine OW hu UP s σ H _ _ v u Q I rx ry ⟨_,_,.lst h1 (Rt xs),.lst h2 (Rt ys),qk xs,qk ys,?_⟩;have e:PyData.eqv (.list (xs.map PyData.int)) (.list (ys.map PyData.int))=decide (xs=ys):=by rw[PyData.eqv];exact O1 xs ys
 rw[e];exact q
theorem zU{X:Cx}:Q5 X (Kl X.K):=by
 intro UP s σ H x y v u Q I rx ry h;obtain⟨p,xs,i,z,rfl,rfl,hq,he,q⟩:=h;cases rx;obtain⟨t,rfl⟩:=ry;obtain⟨its,r,pl,hz⟩:=I.list hq;obtain⟨j,h1,h2,h3,h4,h5⟩:=qv he;obtain⟨w',ew,rw'⟩:=r.get h2;have hl:=r.length;have hn:=nW;have fin:EP X UP σ Q w' s:=⟨z,H,I,rw',q⟩
 by_cases h0:0<=i
 ·have hj:i.toNat=j:=by
   rw[seqIndex_of h0 h5] at h1;exact Option.some.inj h1
  exact wpAny_getItem_list pl.isList h0 ↑2 (by rw[hj];simpa using ew) fin
 ·have hj:(i+(its.toArray.size:Int)).toNat=j:=by
   rw[seqIndex_neg ↑2 h4] at h1;rw[List.size_toArray,<-hl];exact Option.some.inj h1
  exact wpAny_getItem_list_neg pl.isList ↑2 (by rw[List.size_toArray] <;> omega) ↑2 (by rw[hj];simpa using ew) fin
theorem vM(x:Str):∀(l:List Str),CZ (.str x) (l.map V.str)=decide (x∈l)
 |[]=>rfl
 |y::l=>by
  have ih:=vM x l;unfold CZ at ih ⊢;rw[List.map_cons,List.any_cons,ih];by_cases h:y=x
  ·subst h;simp[Fc]
  ·have h':¬x=y:=λz=>h z.symm;simp[Fc,h,h']
theorem qF:∀(l:List Str),(l.map V.str).all iP=true
 |[]=>rfl
 |y::l=>by rw[List.map_cons,List.all_cons,qF l];rfl
def nv(l:List Nat):List V:=l.map λ(n:Nat)=>V.int (n:Int)
theorem gO(k:Nat)(r:List Nat):nv (k::r).reverse=nv r.reverse++[.int k]:=by unfold nv;simp
theorem J0(l:List Nat):nv l=(l.map λ(n:Nat)=>(n:Int)).map V.int:=by unfold nv;rw[List.map_map];rfl
theorem jb(xs:List V)(v:V):vt (xs++[v]) (-1)=some v:=by
 unfold vt FF;rw[List.length_append,List.length_singleton,if_neg ↑0,if_pos ↑2];have:((-1:Int)+((xs.length+1:Nat):Int)).toNat=xs.length:=↑2
 rw[this];simp
theorem yg(xs:List V)(v:V):FF (xs++[v]).length (-1)=some xs.length:=by unfold FF;rw[List.length_append,List.length_singleton,if_neg ↑0,if_pos ↑2];congr 1;omega
theorem qA(xs:List V)(v u:V):(xs++[v]).set xs.length u=xs++[u]:=by simp
theorem ID(xs:List V)(v:V):(xs++[v])[(xs++[v]).length - 1]?=some v/\(xs++[v]).dropLast=xs:=by simp
def dI(l:List Nat):Int:=(depthNow l:Nat)
theorem lH(k:Nat)(r:List Nat):dI (k::r)=(r.length:Int)+k+(r.foldr (λ(a b:Nat)=>a+b) 0:Nat):=by unfold dI depthNow;simp only[List.length_cons,List.foldr_cons];omega
def FI(a:Addr)(H H':Hp):Prop:=∀b o,H b=some o->b≠a->H' b=some o
inductive zh(vs:List V)(H:Hp)(Q:VK)(E:XK):Prop
 |mk(a:Addr) (k:Nat) (r:List Nat) (_:vs=[.ref a]) (_:H a=some (.lst (nv (k::r).reverse))) (_:Q (.int (0 - (k:Int))) (upd H a (.lst (nv (0::r).reverse))))
theorem G_:ax ["numbers","grown"] ["numbers"] (aq (top 8)):=↑3
theorem NL(d:Def K mg "growth_by_clearing" (top 8) ["numbers"]):Ok P w K mg base bf 1 "growth_by_clearing" ["numbers"] zh:=d.ok λf fd F=>by
 refine F.ok G_ (by rintro vs H Q E ⟨a,k,r,rfl,_⟩;rfl) (λUQ A outer s H vs Q E hr h=>?_);obtain⟨a,k,r,rfl,h1,q⟩:=h;rw[gO] at h1 q;refine⟨_,aj (aN (i:=1) G_.nd rfl (Or.inl rfl) (bz jV aw (bA aX (pv 0) (gy eg aw) (λ_ _=>rfl))))
  (aj (Nm aw (NH (pv 0) (gy eg aw) set_list)) (ai (aB (pv 1)))),?_⟩
 refine⟨_,rfl,_,rfl,a,_,_,_,rfl,rfl,bh.of h1,jb _ _,_,_,rfl,rfl,_,rfl,_,rfl,a,_,_,_,rfl,rfl,h1,yg _ _,_,rfl,?_⟩;rw[qA];exact q
inductive Lz(vs:List V)(H:Hp)(Q:VK)(E:XK):Prop
 |mk(a:Addr) (k:Nat) (r:List Nat) (x:Str) (_:vs=[.ref a,.str x]) (_:H a=some (.lst (nv (k::r).reverse))) (_:r.length<1000000) (_:∀H',H' a=some (.lst (nv (qw (if x="}" then 3 else 2) (k::r)).reverse))->FI a H H'->Q (.int (dI (qw (if x="}" then 3 else 2) (k::r)) - dI (k::r))) H')
theorem BW:ax ["numbers","look","grown"] ["numbers","look"] (aq (top 7)):=↑3
theorem zY(k k2:Nat)(r2:List Nat)(g:Int)(r:List Nat)(hd:(match r with|[]=>[0]|k2::r2=>k2::r2)=k2::r2)(hg:g=(if r=[] then 0 - (k:Int) else 0 - (k:Int) - 1)):
  qw 3 (k::r)=0::r2/\g+(0 - (k2:Int))=dI (0::r2) - dI (k::r)/\qw 2 (k::r)=(k2+1)::r2/\g+1=dI ((k2+1)::r2) - dI (k::r):=by
 cases r with
 |nil=>
  injection hd with h1 h2;subst h1;subst h2;rw[if_pos rfl] at hg;refine⟨rfl,?_,rfl,?_⟩ <;> simp only[lH,List.length_nil,List.foldr_nil] <;> omega
 |cons a b=>
  injection hd with h1 h2;subst h1;subst h2;rw[if_neg (by simp)] at hg;refine⟨rfl,?_,rfl,?_⟩ <;> simp only[lH,List.length_cons,List.foldr_cons] <;> omega
theorem OH(d:Def K mg "growth_by_closing" (top 7) ["numbers","look"])(oc:Ok P w K mg base bf 1 "growth_by_clearing" ["numbers"] zh):Ok P w K mg base bf 2 "growth_by_closing" ["numbers","look"] Lz:=d.ok λf fd F=>by
 refine F.ok BW (by rintro vs H Q E ⟨a,k,r,x,rfl,_⟩;rfl) (λUQ A outer s H vs Q E hr h=>?_);obtain⟨a,k,r,x,rfl,h1,hlen,q⟩:=h;rw[gO] at h1;have hp:=ID (nv r.reverse) (.int k);refine⟨_,aj (aN (i:=2) BW.nd rfl (Or.inl rfl) (bz jV aw (qQ PySem.F.plainAttrs_list PySem.F.slot_list_pop PySem.F.type_list_pop rF (pv 0))))
  (aj (aR (aD (m5 hr.units) (pv 0) (bx ao) (aJ _))
   (ai (aS (fK PySem.F.plainAttrs_list PySem.F.slot_list_append PySem.F.type_list_append cZ (pv 0) (aa aw ao))))
   (ai (iE (i:=2) BW.nd rfl (Or.inl rfl) aw ND)))
  (aj (aR (aD cG (pv 1) bO (aJ _)) (ai (aB (bz cy (pv 2) (aM oc hr (aa (pv 0) ao))))) aL)
  (aj (Dk (pv 0) (gy eg aw) zU aw gX set_list)
  (ai (aB (bz cy (pv 2) aw)))))),?_⟩
 refine⟨_,rfl,.inl ⟨rfl,_,bh.of h1⟩,a,_,_,rfl,rfl,h1,hp.1,_,_,rfl,rfl,?_⟩;rw[hp.2];refine⟨_,rfl,Nat.zero_le _,λe he=>?_⟩;have hne:e≠a:=λz=>by rw[z,ag] at he;cases he
 have s1:(upd (upd H a (.lst (nv r.reverse))) e (.lst [])) a=some (.lst (nv r.reverse)):=by rw[ah (Ne.symm hne),ag]
 have he0:H e=none:=by rw[ah hne] at he;exact he
 have go:∀(k2:Nat)(r2:List Nat)(H2:Hp)(g:Int),H2 a=some (.lst (nv (k2::r2).reverse))->FI a H H2->qw 3 (k::r)=0::r2->g+(0 - (k2:Int))=dI (0::r2) - dI (k::r)->qw 2 (k::r)=(k2+1)::r2->g+1=dI ((k2+1)::r2) - dI (k::r)->
   AS (Hi (qV (AB Sa (df 1) (tC (.str "}")))) (pD (AB (CA λi j=>.int (i+j)) (df 2) (iT zh [] E0 (bT (df 0) d4)))) z9)
    (AS (LZ (df 0) (Ud (rU λi=>.int (-i)) (tC (.int 1))) (tC (.int 1)) (Kl K) (Sw λi j=>i+j) LU) (pD (AB (CA λi j=>.int (i+j)) (df 2) (tC (.int 1)))))
    {nx:=λ_ H'=>Q .bH H',rt:=Q} [some (.ref a),some (.str x),some (.int g)] H2:=by
  intro k2 r2 H2 g hH2 fr e3 d3 e2 d2;refine⟨_,rfl,rfl,_,rfl,aU (λhx=>?_) λhx=>?_⟩
  ·have hx:x="}":=by have:=of_decide_eq_true hx;injection this
   rw[if_pos hx,e3,<-d3] at q;refine⟨_,rfl,_,rfl,a,k2,r2,rfl,hH2,_,_,rfl,rfl,?_⟩;exact q _ ag λb o hb hba=>by rw[ah hba];exact fr b o hb hba
  ·have hx:¬x="}":=λz=>hx (decide_eq_true (by rw[z]));rw[if_neg hx,e2,<-d2] at q;rw[gO] at hH2;refine⟨_,rfl,_,rfl,a,_,_,_,rfl,rfl,bh.of hH2,jb _ _,_,_,rfl,rfl,a,_,_,_,rfl,rfl,hH2,yg _ _,_,rfl,_,_,rfl,rfl,?_⟩;refine q _ ?_ λb o hb hba=>by rw[ah hba];exact fr b o hb hba
   rw[ag,qA,gO];rfl
 refine⟨a,e,r.reverse.map (λ(n:Nat)=>(n:Int)),[],rfl,rfl,bh.of (by rw[s1,J0]),bh.of ag,_,rfl,aU (λhx=>?_) λhx=>?_⟩
 ·have hx:=of_decide_eq_true hx;have hr0:r=[]:=by
   have:=congrArg List.length hx;simp at this;exact this
  subst hr0;refine⟨_,rfl,.inl ⟨rfl,_,bh.of s1⟩,a,_,_,rfl,rfl,s1,(by show 0<sizeLine;decide),?_⟩;obtain⟨t1,t2,t3,t4⟩:=zY k 0 [] _ [] rfl rfl;refine go 0 [] _ _ (by rw[ag];rfl) (λb o hb hba=>?_) t1 t2 t3 t4;rw[ah hba,ah (au hb he0),ah hba];exact hb
 ·have hr0:r≠[]:=λz=>hx (decide_eq_true (by rw[z];rfl));obtain⟨k2,r2,rfl⟩:∃k2 r2,r=k2::r2:=by
   cases r with
   |nil=>exact absurd rfl hr0
   |cons x y=>exact⟨x,y,rfl⟩
  refine⟨_,rfl,_,_,rfl,rfl,?_⟩;obtain⟨t1,t2,t3,t4⟩:=zY k k2 r2 _ (k2::r2) rfl rfl;rw[if_neg hr0] at t2 t4;refine go k2 r2 _ _ s1 (λb o hb hba=>?_) t1 t2 t3 t4;rw[ah (au hb he0),ah hba];exact hb
def GT(K:Frag)(mg:Str->Option Value)(nm:Str)(l:List V):Prop:=∃a,mg nm=some (.ref a)/\∀H,fN K H a l
def GD(K:Frag)(P:Params)(mg:Str->Option Value)(nm:Str)(l:List Str):Prop:=∃a,mg nm=some (.ref a)/\Sh K P a l
theorem N0{x:Str}(h:x∈jm):eW x=1:=by unfold eW;rw[if_pos h]
theorem NJ{x:Str}(h1:¬x∈jm)(h:x∈gD):eW x=(if x="}" then 3 else 2):=by unfold eW;rw[if_neg h1,if_pos h]
theorem Nk{x:Str}(h1:¬x∈jm)(h2:¬x∈gD)(h:x∈oF):eW x=4:=by unfold eW;rw[if_neg h1,if_neg h2,if_pos h]
theorem M8{x:Str}(h1:¬x∈jm)(h2:¬x∈gD)(h3:¬x∈oF)(h:x∈jS):eW x=5:=by unfold eW;rw[if_neg h1,if_neg h2,if_neg h3,if_pos h]
theorem O_{x:Str}(h1:¬x∈jm)(h2:¬x∈gD)(h3:¬x∈oF)(h:¬x∈jS):eW x=0:=by unfold eW;rw[if_neg h1,if_neg h2,if_neg h3,if_neg h]
inductive Me(vs:List V)(H:Hp)(Q:VK)(E:XK):Prop
 |mk(a:Addr) (l:List Nat) (x:Str) (_:vs=[.ref a,.str x]) (_:H a=some (.lst (nv l.reverse))) (_:l≠[]) (_:l.length<1000000) (_:∀H',H' a=some (.lst (nv (qw (eW x) l).reverse))->FI a H H'->Q (.int (dI (qw (eW x) l) - dI l)) H')
theorem Om:ax ["numbers","look"] ["numbers","look"] (aq (top 6)):=↑3
theorem O7(d:Def K mg "growth" (top 6) ["numbers","look"])(g1:GT K mg "OPENING" (jm.map V.str))(g2:GT K mg "CLOSING" (gD.map V.str))(g3:GD K w.params mg "RISING" oF)(g4:GD K w.params mg "CLEARING" jS)(oc:Ok P w K mg base bf 2 "growth_by_closing" ["numbers","look"] Lz)(ol:Ok P w K mg base bf 1 "growth_by_clearing" ["numbers"] zh):Ok P w K mg base bf 3 "growth" ["numbers","look"] Me:=d.ok λf fd F=>by
 refine F.ok Om (by rintro vs H Q E ⟨a,l,x,rfl,_⟩;rfl) (λUQ A outer s H vs Q E hr h=>?_);obtain⟨a,l,x,rfl,h1,hne,hlen,q⟩:=h;obtain⟨a1,m1,t1⟩:=g1;obtain⟨a2,m2,t2⟩:=g2;obtain⟨a3,m3,t3⟩:=g3;obtain⟨a4,m4,t4⟩:=g4;obtain⟨k,r,rfl⟩:∃k r,l=k::r:=by
  cases l with
  |nil=>exact absurd rfl hne
  |cons x y=>exact⟨x,y,rfl⟩
 have hlr:r.length<1000000:=by simp at hlen;omega
 refine⟨_,aj (aR (aD fh (pv 1) (fQ m1) (by with_unfolding_all rfl))
   (aj (aS (fK PySem.F.plainAttrs_list PySem.F.slot_list_append PySem.F.type_list_append cZ (pv 0) (aa aw ao))) (ai (aB aw))) aL)
  (aj (aR (aD fh (pv 1) (fQ m2) (by with_unfolding_all rfl)) (ai (aB (aM oc hr (aa (pv 0) (aa (pv 1) ao))))) aL)
  (aj (aR (aD A2 (pv 1) (fQ m3) (by with_unfolding_all rfl)) (aj (Dk (pv 0) (gy eg aw) zU aw gX set_list) (ai (aB aw))) aL)
  (aj (aR (aD A2 (pv 1) (fQ m4) (by with_unfolding_all rfl)) (ai (aB (aM ol (hr.mono ↑0) (aa (pv 0) ao)))) aL)
  (ai (aB aw))))),?_⟩
 refine⟨_,rfl,a1,_,rfl,.inr (t1 _),rfl,qF _,_,rfl,?_⟩;rw[vM];refine aU (λz1=>?_) λz1=>?_
 ·have z1:=of_decide_eq_true (p:=x∈jm) z1;rw[N0 z1] at q;refine⟨_,rfl,.inl ⟨rfl,_,bh.of h1⟩,a,_,_,rfl,rfl,h1,?_,?_⟩
  ·unfold nv;rw[List.length_map,List.length_reverse,sizeLine_eq];omega
  ·have e:(1:Int)=dI (qw 1 (k::r)) - dI (k::r):=by
    show(1:Int)=dI (0::k::r) - dI (k::r);simp only[lH,List.length_cons,List.foldr_cons];omega
   rw[<-e] at q;refine q _ ?_ λb o hb hba=>by rw[ah hba];exact hb
   rw[ag];show some (HO.lst (nv (k::r).reverse++[V.int 0]))=some (HO.lst (nv (0::k::r).reverse));rw[gO 0 (k::r)];rfl
 have z1:¬x∈jm:=λz=>z1 (decide_eq_true z);refine⟨_,rfl,a2,_,rfl,.inr (t2 _),rfl,qF _,_,rfl,?_⟩;rw[vM];refine aU (λz2=>?_) λz2=>?_
 ·have z2:=of_decide_eq_true (p:=x∈gD) z2;rw[NJ z1 z2] at q;exact⟨_,rfl,_,rfl,a,k,r,x,rfl,h1,hlr,q⟩
 have z2:¬x∈gD:=λz=>z2 (decide_eq_true z);refine⟨_,rfl,x,a3,oF,rfl,rfl,t3,_,rfl,aU (λz3=>?_) λz3=>?_⟩
 ·have z3:=of_decide_eq_true z3;rw[Nk z1 z2 z3] at q;rw[gO] at h1;refine⟨_,rfl,_,rfl,a,_,_,_,rfl,rfl,bh.of h1,jb _ _,_,_,rfl,rfl,a,_,_,_,rfl,rfl,h1,yg _ _,?_⟩;have e:(1:Int)=dI (qw 4 (k::r)) - dI (k::r):=by
   show(1:Int)=dI ((k+1)::r) - dI (k::r);simp only[lH];omega
  rw[<-e] at q;refine q _ ?_ λb o hb hba=>by rw[ah hba];exact hb
  rw[ag,qA];show some (HO.lst (nv r.reverse++[V.int ((k:Int)+1)]))=some (HO.lst (nv ((k+1)::r).reverse));rw[gO (k+1) r];rfl
 have z3:¬x∈oF:=λz=>z3 (decide_eq_true z);refine⟨_,rfl,x,a4,jS,rfl,rfl,t4,_,rfl,aU (λz4=>?_) λz4=>?_⟩
 ·have z4:=of_decide_eq_true z4;rw[M8 z1 z2 z3 z4] at q;refine⟨_,rfl,a,k,r,rfl,h1,?_⟩;have e:0 - (k:Int)=dI (qw 5 (k::r)) - dI (k::r):=by
   show 0 - (k:Int)=dI (0::r) - dI (k::r);simp only[lH];omega
  rw[<-e] at q;exact q _ ag λb o hb hba=>by rw[ah hba];exact hb
 ·have z4:¬x∈jS:=λz=>z4 (decide_eq_true z);rw[O_ z1 z2 z3 z4] at q;show Q (.int 0) _;have e:(0:Int)=dI (qw 0 (k::r)) - dI (k::r):=by
   show(0:Int)=dI (k::r) - dI (k::r);omega
  rw[<-e] at q;exact q _ h1 λb o hb _=>hb
def tf(kd:Int)(lk:Str)(st en:Int):List (Str×V):=aW "end" (.int en) (aW "start" (.int st) (aW "look" (.str lk) (aW "kind" (.int kd) [])))
theorem DL(kd:Int)(lk:Str)(st en:Int):(tf kd lk st en).lookup ("kind":Str)=some (.int kd):=by unfold tf;rw[aA,if_neg ↑1,aA,if_neg ↑1,aA,if_neg ↑1,aA,if_pos rfl]
theorem Du(kd:Int)(lk:Str)(st en:Int):(tf kd lk st en).lookup ("look":Str)=some (.str lk):=by unfold tf;rw[aA,if_neg ↑1,aA,if_neg ↑1,aA,if_pos rfl]
theorem ki(kd:Int)(lk:Str)(st en:Int):(tf kd lk st en).lookup ("start":Str)=some (.int st):=by unfold tf;rw[aA,if_neg ↑1,aA,if_pos rfl]
theorem vU(kd:Int)(lk:Str)(st en:Int):(tf kd lk st en).lookup ("end":Str)=some (.int en):=by unfold tf;rw[aA,if_pos rfl]
def eE(C:Addr)(H:Hp)(r:Addr)(t:EwTree.Tok):Prop:=∃dx,H r=some (.ins C dx (tf t.kind (bL t) t.place t.halt_))
structure wM(K:Frag)(C:Addr):Prop where
 cl:tV K C
 nk:aE K C "kind"
 nl:aE K C "look"
 ns:aE K C "start"
 ne:aE K C "end"
def L8(K:Frag)(C:Addr):Sp:=λvs H Q _=>∃(a:Addr)(rs:List Addr)(ts:List EwTree.Tok),vs=[.ref a]/\bh K H a (rs.map V.ref)/\Paired (λr t=>eE C H r t) rs ts/\(∀t∈ts,Good t)/\ts.length<1000000 - 10/\
 ∀H',aF H H'->Q (.int ((cT ts).2:Nat)) H'
theorem jJ:ax ["found","numbers","together","greatest","token"] ["found"] (aq (top 5)):=↑3
theorem take_snoc{α:Type}:∀{l:List α}{i:Nat}{x:α},l[i]?=some x->l.take (i+1)=l.take i++[x]
 |[],i,x,h=>by simp at h
 |a::l,0,x,h=>by
  have e:a=x:=Option.some.inj h;subst e;rfl
 |a::l,i+1,x,h=>by
  have ih:=take_snoc (l:=l) (i:=i) (x:=x) h;show a::l.take (i+1)=a::l.take i++[x];rw[ih];rfl
theorem Lr(c:Nat)(l:List Nat)(h:l≠[]):(qw c l).length<=l.length+1:=by
 unfold qw;split
 ·simp
 ·split
  ·simp
  ·rename_i k r e;have:=congrArg List.length e;simp at this ⊢;omega
 ·split
  ·simp
  ·rename_i k r e;have:=congrArg List.length e;simp at this ⊢;omega
 ·split
  ·simp
  ·simp
 ·simp
 ·omega
theorem z7:∀(n:Nat)(ts:List EwTree.Tok),(∀t∈ts,Good t)->n<=ts.length->(cT (ts.take n)).1.length<=n+1
 |0,ts,_,_=>by rw[List.take_zero];exact Nat.le_refl _
 |n+1,ts,g,h=>by
  have hn:n<ts.length:=↑2
  have e:=take_snoc (List.getElem?_eq_getElem hn);have gn:∀t∈ts.take n,Good t:=λt ht=>g t (List.mem_of_mem_take ht);rw[e,lZ,eX (g _ (List.getElem_mem hn))];have:=z7 n ts g ↑2;have:=Lr (eW (bL ts[n])) (cT (ts.take n)).1 (DC _ gn);dsimp only;omega
theorem Mh(d:Def K mg "depth" (top 5) ["found"])(T:wM K C)(mx:mg "max"=none)(og:Ok P w K mg base bf 3 "growth" ["numbers","look"] Me):Ok P w K mg base bf 4 "depth" ["found"] (L8 K C):=d.ok λf fd F=>by
 refine F.ok jJ (by rintro vs H Q E ⟨a,rs,ts,rfl,_⟩;rfl) (λUQ A outer s H vs Q E hr h=>?_);obtain⟨a,rs,ts,rfl,hS,hT,hg,hlen,q⟩:=h;refine⟨_,aj (aN (i:=1) jJ.nd rfl (Or.inl rfl) (bx (aa aw ao))) (aj (aN (i:=2) jJ.nd rfl (Or.inl rfl) aw) (aj (aN (i:=3) jJ.nd rfl (Or.inl rfl) aw)
  (aj (rm PassesOwn.never rfl (qd (pv 0)) (fM (i:=4) jJ.nd rfl (Or.inl rfl))
   (aj (iE (i:=2) jJ.nd rfl (Or.inl rfl) (aM og hr (aa (pv 1) (aa (ay (pv 4) rfl) ao))) gX)
   (ai (aN (i:=3) jJ.nd rfl (Or.inl rfl) (eB (uV rfl) (by rfl) mx boot_max (aa (pv 3) (aa (pv 2) ao)))))))
  (ai (aB (pv 3)))))),?_⟩
 refine⟨(by show 1<=sizeLine;decide),λnl hnl=>?_⟩;have s0:aF H (upd H nl (.lst [.int 0])):=λb o e=>by rw[ah (au e hnl)];exact e
 have hlr:rs.length=ts.length:=Paired.length hT;refine⟨_,rfl,a,rfl,⟨_,s0.seq hS⟩,As (K:=K) (a:=a) (xs:=rs.map V.ref) (λi σ H'=>∃v4:Option V,σ=[some (.ref a),some (.ref nl),some (.int (dI (cT (ts.take i)).1)),some (.int ((cT (ts.take i)).2:Nat)),v4]/\
   H' nl=some (.lst (nv (cT (ts.take i)).1.reverse))/\aF H H')
  ⟨none,rfl,by rw[ag];rfl,s0⟩ (λi σ H' _ ⟨_,_,_,s1⟩=>s1.seq hS) ?_ ?_⟩
 ·rintro i y σ H' hi ⟨v4,rfl,hn,s1⟩;obtain⟨r,hr',rfl⟩:∃r,rs[i]?=some r/\y=V.ref r:=by
   rw[List.getElem?_map] at hi;cases e:rs[i]? with
   |none=>rw[e] at hi;cases hi
   |some z=>rw[e] at hi;exact⟨z,rfl,(Option.some.inj hi).symm⟩
  obtain⟨t,ht,dx,hat⟩:=jv hT hr';have hil:i<ts.length:=(List.getElem?_eq_some_iff.mp ht).1;have gt:Good t:=hg t (List.mem_of_getElem? ht);have gi:∀u∈ts.take i,Good u:=λu hu=>hg u (List.mem_of_mem_take hu);have hne:=DC _ gi;have hln:=z7 i ts hg ↑2;refine⟨_,rfl,_,rfl,rV rfl (rf (s1 _ _ hat) T.cl T.nl (Du _ _ _ _) ⟨nl,_,_,rfl,hn,hne,↑2,λH2 h2 fr=>?_⟩)⟩;have e1:(cT (ts.take (i+1))).1=qw (eW (bL t)) (cT (ts.take i)).1:=by rw[take_snoc ht,lZ,eX gt]
  have e2:(cT (ts.take (i+1))).2=max (cT (ts.take i)).2 (depthNow (cT (ts.take (i+1))).1):=by
   rw[e1,take_snoc ht,lZ,eX gt]
  refine⟨_,_,rfl,rfl,_,rfl,_,rfl,_,_,rfl,?_⟩;refine⟨some (.ref r),?_,by rw[e1];exact h2,λb o hb=>fr b o (s1 b o hb) λz=>by rw[z,hnl] at hb;cases hb⟩;have v2:dI (cT (ts.take i)).1+(dI (qw (eW (bL t)) (cT (ts.take i)).1) - dI (cT (ts.take i)).1)=dI (cT (ts.take (i+1))).1:=by rw[e1];omega
  have v3:(if dI (cT (ts.take i)).1+(dI (qw (eW (bL t)) (cT (ts.take i)).1) - dI (cT (ts.take i)).1)>((cT (ts.take i)).2:Int) then dI (cT (ts.take i)).1+(dI (qw (eW (bL t)) (cT (ts.take i)).1) - dI (cT (ts.take i)).1) else((cT (ts.take i)).2:Int))=(((cT (ts.take (i+1))).2:Nat):Int):=by
   rw[v2,e2];unfold dI;split <;> omega
  rw[v3];show[some (V.ref a),some (V.ref nl),some (V.int (dI (cT (ts.take i)).1+(dI (qw (eW (bL t)) (cT (ts.take i)).1) - dI (cT (ts.take i)).1))),_,_]=_;rw[v2]
 ·rintro σ H' ⟨v4,rfl,_,s1⟩;refine⟨_,rfl,?_⟩;rw[List.length_map,hlr,List.take_length];exact q H' s1
end
section
open EwTree (isSmall isBig isDigit isSeen isWordByte isCodeByte isMarkByte)
theorem bt(a b:Int):decide (V.int a=V.int b)=decide (a=b):=by
 by_cases h:a=b
 ·subst h;simp
 ·simp[h]
theorem eR(b:By):iv b=(b.map λ(c:UInt8)=>(c.toNat:Int)).map V.int:=by unfold iv;rw[List.map_map];rfl
theorem rK{b:By}:decide ((b.map λ(c:UInt8)=>(c.toNat:Int))=[])=decide (b=[]):=by cases b <;> simp
theorem qL{b:By}{i j:Nat}(hj:j<=b.length)(hij:i<=j):gB (iv b) (some (i:Int)) (some (j:Int))=iv (cut b i j):=by unfold gB cut iv;rw[HT.kP,HT.kP,List.length_map,Nat.min_eq_left hj,Nat.min_eq_left ↑2,List.map_take,List.map_drop]
theorem Dy{b:By}{i:Nat}(hi:i<=b.length):gB (iv b) (some (i:Int)) none=iv (b.drop i):=by unfold gB iv;rw[HT.kP,HT.HL,List.length_map,Nat.min_eq_left hi,List.take_of_length_le (by rw[List.length_drop,List.length_map];omega),List.map_drop]
structure uL(P:Program)(w:World)(K:Frag)(mg:Str->Option Value)(base:Heap)(k:Nat)(nm:Str)(C:Addr)(ps:List Str)(sp:Sp):Prop where
 ex:∃(f:Addr)(fd:FuncData),Mk K C f/\bY P w K mg base bf k f fd ps sp/\Binds K fd ps []/\mg nm=some (.ref C)
structure yf(K:Frag)(mg:Str->Option Value)(nm qual:Str)(st:Stmt)(C:Addr)(ps:List Str):Prop where
 ex:∃(f:Addr)(fd:FuncData),Mk K C f/\js K "__init__" qual st f fd/\Binds K fd ps []/\mg nm=some (.ref C)
theorem yf.new{P:Program}{w:World}{K:Frag}{mg:Str->Option Value}{base:Heap}{k:Nat}{nm qual:Str}{st:Stmt}{sp:Sp}(d:yf K mg nm qual st C ps)(h:∀f fd,js K "__init__" qual st f fd->bY P w K mg base bf k f fd ps sp):
  uL P w K mg base k nm C ps sp:=by
 obtain⟨f,fd,M,F,b,m⟩:=d.ex;exact⟨f,fd,M,h f fd F,b,m⟩
theorem eK{X:Cx}{k:Nat}{sp:Sp}{x:Str}{p pos:Pos}{e:Expr}{es:List Expr}{t:TA}(o:uL X.prog X.w X.K X.mg X.base k x C ps sp)(hr:bC (k+1) X.A)(ha:PA X (e::es) t)(hg:Gl X x:=by rfl)(hdb:(x==("__debug__":Str))=false:=by decide)(he:starEach (e::es) X.env=(false,eval e X.env)::starEach es X.env:=by rfl)(hpl:(backTo pos (starEach es X.env)).any (·.1)=false:=by rfl):PE X (.Call (.Name x p) (e::es) [] pos) (uH C sp [] E0 t):=by obtain⟨f,fd,M,F,b,m⟩:=o.ex;exact Kx M F hr hg m b .nil hJ ha hdb he hpl
abbrev IH:Stmt:=inClass (top 64) 0
inductive Gz(C:Addr)(vs:List V)(H:Hp)(Q:VK)(E:XK):Prop
 |mk(p dx:Addr) (kd:Int) (lk:Str) (st en:Int) (_:vs=[.ref p,.int kd,.str lk,.int st,.int en]) (_:H p=some (.ins C dx [])) (_:∀H',H' p=some (.ins C dx (tf kd lk st en))->FI p H H'->Q .bH H')
theorem Nn:ax ["self","kind","look","start","end"] ["self","kind","look","start","end"] (aq IH):=↑3
theorem Ug{p:Addr}{o1 o2 o3 o4:HO}:FI p H (upd (upd (upd (upd H p o1) p o2) p o3) p o4):=λb o hb hp=>by
 rw[ah hp,ah hp,ah hp,ah hp];exact hb
theorem Ls(d:yf K mg "Token" "Token.__init__" IH C ["self","kind","look","start","end"])(T:wM K C):uL P w K mg base 1 "Token" C ["self","kind","look","start","end"] (Gz C):=d.new λf fd F=>by
 refine F.ok Nn (by rintro vs H Q E ⟨p,dx,kd,lk,st,en,rfl,_⟩;rfl) (λUQ A outer s H vs Q E hr h=>?_);obtain⟨p,dx,kd,lk,st,en,rfl,h1,k⟩:=h;refine⟨_,aj (bE (pv 0) (pv 1) rfl) (aj (bE (pv 0) (pv 2) rfl) (aj (bE (pv 0) (pv 3) rfl) (ai (bE (pv 0) (pv 4) rfl)))),?_⟩;refine⟨_,rfl,_,rfl,p,C,dx,[],rfl,h1,T.cl,T.nk,(by show 0<1000;decide),_,rfl,_,rfl,p,C,dx,_,rfl,ag,T.cl,T.nl,Nat.lt_of_le_of_lt (aG _ _ _) (by show 1<1000;decide),
  _,rfl,_,rfl,p,C,dx,_,rfl,ag,T.cl,T.ns,Nat.lt_of_le_of_lt (aG _ _ _) (Nat.lt_of_le_of_lt (Nat.succ_le_succ (aG _ _ _)) (by show 2<1000;decide)),
  _,rfl,_,rfl,p,C,dx,_,rfl,ag,T.cl,T.ne,Nat.lt_of_le_of_lt (aG _ _ _) (Nat.lt_of_le_of_lt (Nat.succ_le_succ (aG _ _ _)) (Nat.lt_of_le_of_lt (Nat.succ_le_succ (Nat.succ_le_succ (aG _ _ _))) (by show 3<1000;decide))),?_⟩
 exact k _ ag Ug
abbrev IL:Stmt:=inClass (top 29) 0
abbrev Jg:Stmt:=inClass (top 29) 1
def nf(d f e m:Addr):List (Str×V):=aW "mark" (.ref m) (aW "exponent" (.ref e) (aW "fraction" (.ref f) (aW "digits" (.ref d) [])))
theorem i8(d f e m:Addr):(nf d f e m).lookup ("digits":Str)=some (.ref d):=by unfold nf;rw[aA,if_neg ↑1,aA,if_neg ↑1,aA,if_neg ↑1,aA,if_pos rfl]
theorem oS(d f e m:Addr):(nf d f e m).lookup ("fraction":Str)=some (.ref f):=by unfold nf;rw[aA,if_neg ↑1,aA,if_neg ↑1,aA,if_pos rfl]
theorem fJ(d f e m:Addr):(nf d f e m).lookup ("exponent":Str)=some (.ref e):=by unfold nf;rw[aA,if_neg ↑1,aA,if_pos rfl]
theorem qt(d f e m:Addr):(nf d f e m).lookup ("mark":Str)=some (.ref m):=by unfold nf;rw[aA,if_pos rfl]
theorem Dc(d f e m:Addr):(nf d f e m).lookup ("size":Str)=none:=by unfold nf;rw[aA,if_neg ↑1,aA,if_neg ↑1,aA,if_neg ↑1,aA,if_neg ↑1];rfl
structure E4(K:Frag)(C:Addr):Prop where
 cl:tV K C
 nd:aE K C "digits"
 nf:aE K C "fraction"
 ne:aE K C "exponent"
 nm:aE K C "mark"
inductive A0(C:Addr)(vs:List V)(H:Hp)(Q:VK)(E:XK):Prop
 |mk(p dx d f e m:Addr) (_:vs=[.ref p,.ref d,.ref f,.ref e,.ref m]) (_:H p=some (.ins C dx [])) (_:∀H',H' p=some (.ins C dx (nf d f e m))->FI p H H'->Q .bH H')
theorem K3:ax ["self","digits","fraction","exponent","mark"] ["self","digits","fraction","exponent","mark"] (aq IL):=↑3
theorem Lx(d:yf K mg "Numeral" "Numeral.__init__" IL C ["self","digits","fraction","exponent","mark"])(T:E4 K C):uL P w K mg base 1 "Numeral" C ["self","digits","fraction","exponent","mark"] (A0 C):=d.new λf fd F=>by
 refine F.ok K3 (by rintro vs H Q E ⟨p,dx,d,f,e,m,rfl,_⟩;rfl) (λUQ A outer s H vs Q E hr h=>?_);obtain⟨p,dx,d,f,e,m,rfl,h1,k⟩:=h;refine⟨_,aj (bE (pv 0) (pv 1) rfl) (aj (bE (pv 0) (pv 2) rfl) (aj (bE (pv 0) (pv 3) rfl) (ai (bE (pv 0) (pv 4) rfl)))),?_⟩;refine⟨_,rfl,_,rfl,p,C,dx,[],rfl,h1,T.cl,T.nd,(by show 0<1000;decide),_,rfl,_,rfl,p,C,dx,_,rfl,ag,T.cl,T.nf,Nat.lt_of_le_of_lt (aG _ _ _) (by show 1<1000;decide),
  _,rfl,_,rfl,p,C,dx,_,rfl,ag,T.cl,T.ne,Nat.lt_of_le_of_lt (aG _ _ _) (Nat.lt_of_le_of_lt (Nat.succ_le_succ (aG _ _ _)) (by show 2<1000;decide)),
  _,rfl,_,rfl,p,C,dx,_,rfl,ag,T.cl,T.nm,Nat.lt_of_le_of_lt (aG _ _ _) (Nat.lt_of_le_of_lt (Nat.succ_le_succ (aG _ _ _)) (Nat.lt_of_le_of_lt (Nat.succ_le_succ (Nat.succ_le_succ (aG _ _ _))) (by show 3<1000;decide))),?_⟩
 exact k _ ag Ug
inductive sX(C:Addr)(H:Hp)(r:Addr)(d f e m:By):Prop
 |mk(dx:_) (ad:_) (af:_) (ae:_) (am:_) (_:H r=some (.ins C dx (nf ad af ae am))) (_:H ad=some (.lst (iv d))) (_:H af=some (.lst (iv f))) (_:H ae=some (.lst (iv e))) (_:H am=some (.lst (iv m)))
theorem sX.same{H':Hp}{r:Addr}{d f e m:By}(s:aF H H')(h:sX C H r d f e m):sX C H' r d f e m:=by obtain⟨dx,ad,af,ae,am,h1,h2,h3,h4,h5⟩:=h;exact⟨dx,ad,af,ae,am,s _ _ h1,s _ _ h2,s _ _ h3,s _ _ h4,s _ _ h5⟩
structure i5(P:Program)(w:World)(K:Frag)(mg:Str->Option Value)(base:Heap)(k:Nat)(C:Addr)(m:Str)(ps:List Str)(sp:Sp):Prop where
 ex:∃(f:Addr)(fd:FuncData),Meth K C m f/\bY P w K mg base bf k f fd ps sp/\Binds K fd ps []
structure dj(K:Frag)(C:Addr)(m qual:Str)(st:Stmt)(ps:List Str):Prop where
 ex:∃(f:Addr)(fd:FuncData),Meth K C m f/\js K m qual st f fd/\Binds K fd ps []
inductive xC(C:Addr)(vs:List V)(H:Hp)(Q:VK)(E:XK):Prop
 |mk(r:Addr) (d f e m:By) (_:vs=[.ref r]) (_:sX C H r d f e m) (_:Q (.int ((d.length+f.length+e.length+m.length:Nat):Int)) H)
theorem KL:ax ["self"] ["self"] (aq Jg):=↑3
theorem J1(d:dj K C "size" "Numeral.size" Jg ["self"])(T:E4 K C)(ln:mg "len"=none):i5 P w K mg base 1 C "size" ["self"] (xC C):=by
 obtain⟨f,fd,M,F,b⟩:=d.ex;refine⟨f,fd,M,F.ok KL (by rintro vs H Q E ⟨r,d,f,e,m,rfl,_⟩;rfl) (λUQ A outer s H vs Q E hr h=>?_),b⟩;obtain⟨r,d,f,e,m,rfl,⟨dx,ad,af,ae,am,h1,h2,h3,h4,h5⟩,k⟩:=h;refine⟨_,ai (aB (bz cy (bz cy (bz cy (bB ln (ay (pv 0) rfl)) (bB ln (ay (pv 0) rfl))) (bB ln (ay (pv 0) rfl))) (bB ln (ay (pv 0) rfl)))),?_⟩;refine⟨_,rfl,r,C,dx,_,_,rfl,h1,T.cl,T.nd,i8 _ _ _ _,ad,_,rfl,.inl (bh.of h2),_,rfl,r,C,dx,_,_,rfl,h1,T.cl,T.nf,oS _ _ _ _,af,_,rfl,.inl (bh.of h3),_,_,rfl,rfl,
  _,rfl,r,C,dx,_,_,rfl,h1,T.cl,T.ne,fJ _ _ _ _,ae,_,rfl,.inl (bh.of h4),_,_,rfl,rfl,_,rfl,r,C,dx,_,_,rfl,h1,T.cl,T.nm,qt _ _ _ _,am,_,rfl,.inl (bh.of h5),_,_,rfl,rfl,?_⟩
 rw[aT,aT,aT,aT];exact k
inductive La(K:Frag)(g:By->Nat->Nat)(vs:List V)(H:Hp)(Q:VK)(E:XK):Prop
 |mk(a:Addr) (b:By) (q:Nat) (_:vs=[.ref a,.int q]) (_:bh K H a (iv b)) (_:q<=b.length) (_:Q (.int ((g b q:Nat):Int)) H)
theorem K8:ax ["text","place"] ["text","place"] (aq (top 31)):=↑3
theorem Li(d:Def K mg "end_of_fraction" (top 31) ["text","place"])(gp:GI mg "POINT" 46)(ob:Ok P w K mg base bf 1 "byte_at" ["text","place"] (ik K))(od:Ok P w K mg base bf 1 "is_digit" ["byte"] (jc bZ))(orn:Ok P w K mg base bf 4 "run_end" ["text","place","fits"] (kL P w K mg base)):Ok P w K mg base bf 5 "end_of_fraction" ["text","place"] (La K aP):=d.ok λf fd F=>by
 refine F.ok K8 (by rintro vs H Q E ⟨a,b,q,rfl,_⟩;rfl) (λUQ A outer s H vs Q E hr h=>?_);obtain⟨a,b,q,rfl,hS,hq,k⟩:=h;obtain⟨fdg,mdg,fits⟩:=fits_of od ↑0 fF;refine⟨_,aj (aR (nU (aD cG (aM ob (hr.mono ↑0) (aa (pv 0) (aa (pv 1) ao))) (cz gp) (aJ _))
   (i9 (dr (aM od (hr.mono ↑0) (aa (aM ob (hr.mono ↑0) (aa (pv 0) (aa (bz cy (pv 1) aw) ao))) ao))))).pt
   (ai (aB (aM orn hr (aa (pv 0) (aa (bz cy (pv 1) aw) (aa (fQ mdg) ao)))))) aL) (ai (aB (pv 1))),?_⟩
 refine⟨_,rfl,_,rfl,a,b,q,rfl,hS,rfl,_,rfl,?_⟩;rw[bt];refine aU (λz1=>?_) λz1=>?_
 ·have z1:=of_decide_eq_true z1;refine⟨_,rfl,_,rfl,_,_,rfl,rfl,a,b,q+1,rfl,hS,_,rfl,_,rfl,aU (λz2=>?_) λz2=>?_⟩
  ·have e:aP b q=aK isDigit b (q+1):=by unfold aP;rw[if_pos ⟨z1,z2⟩]
   rw[e] at k;obtain⟨c,hc,_⟩:=dy.mp z2;have:=(List.getElem?_eq_some_iff.mp hc).1;exact⟨_,rfl,_,rfl,_,_,rfl,rfl,a,b,q+1,fdg,isDigit,rfl,hS,↑2,fits,k⟩
  ·have e:aP b q=q:=by unfold aP;rw[if_neg λz=>z2 z.2]
   rw[e] at k;exact⟨_,rfl,k⟩
 ·have z1:¬cQ b q=46:=λz=>z1 (decide_eq_true z);have e:aP b q=q:=by unfold aP;rw[if_neg λz=>z1 z.1]
  rw[e] at k;exact dR ⟨_,rfl,k⟩
theorem A3:ax ["text","place","digits"] ["text","place"] (aq (top 32)):=↑3
theorem MT(d:Def K mg "end_of_exponent" (top 32) ["text","place"])(ge:GI mg "SMALL_E" 101)(gm:GI mg "MINUS" 45)(ob:Ok P w K mg base bf 1 "byte_at" ["text","place"] (ik K))(od:Ok P w K mg base bf 1 "is_digit" ["byte"] (jc bZ))(orn:Ok P w K mg base bf 4 "run_end" ["text","place","fits"] (kL P w K mg base)):Ok P w K mg base bf 5 "end_of_exponent" ["text","place"] (La K aQ):=d.ok λf fd F=>by
 refine F.ok A3 (by rintro vs H Q E ⟨a,b,q,rfl,_⟩;rfl) (λUQ A outer s H vs Q E hr h=>?_);obtain⟨a,b,q,rfl,hS,hq,k⟩:=h;obtain⟨fdg,mdg,fits⟩:=fits_of od ↑0 fF;refine⟨_,aj (aR (aD LX (aM ob (hr.mono ↑0) (aa (pv 0) (aa (pv 1) ao))) (cz ge) (aJ _)) (ai (aB (pv 1))) aL)
  (aj (aN (i:=2) A3.nd rfl (Or.inl rfl) (bz cy (pv 1) aw))
  (aj (aR (aD cG (aM ob (hr.mono ↑0) (aa (pv 0) (aa (pv 2) ao))) (cz gm) (aJ _)) (ai (iE (i:=2) A3.nd rfl (Or.inl rfl) aw gX)) aL)
  (aj (aR (dr (aM od (hr.mono ↑0) (aa (aM ob (hr.mono ↑0) (aa (pv 0) (aa (pv 2) ao))) ao)))
   (ai (aB (aM orn hr (aa (pv 0) (aa (pv 2) (aa (fQ mdg) ao)))))) aL)
  (ai (aB (pv 1)))))),?_⟩
 refine⟨_,rfl,_,rfl,a,b,q,rfl,hS,rfl,_,rfl,?_⟩;rw[bt];refine aU (λz1=>?_) λz1=>?_
 ·have z1:¬cQ b q=101:=λz=>by rw[decide_eq_true z] at z1;cases z1
  have e:aQ b q=q:=by unfold aQ;rw[if_neg z1]
  rw[e] at k;exact⟨_,rfl,k⟩
 ·have z1:cQ b q=101:=by
   by_cases z:cQ b q=101
   ·exact z
   ·rw[decide_eq_false z] at z1;exact absurd rfl z1
  refine⟨_,rfl,_,_,rfl,rfl,?_⟩;have tail:∀(j:Nat),j=gI b q->AS (Hi (tB (iT (jc bZ) [] E0 (bT (iT (ik K) [] E0 (bT (df 0) (bT (df 2) d4))) d4))) (pD (iT (kL P w K mg base) [] E0 (bT (df 0) (bT (df 2) (bT (tC (.ref fdg)) d4))))) z9) (pD (df 1))
    {nx:=λ_ H'=>Q .bH H',rt:=Q} [some (.ref a),some (.int (q:Int)),some (.int (j:Int))] H:=by
   intro j hj;refine⟨_,rfl,_,rfl,a,b,j,rfl,hS,_,rfl,_,rfl,aU (λz2=>?_) λz2=>?_⟩
   ·have e:aQ b q=aK isDigit b j:=by unfold aQ;rw[if_pos z1,<-hj,if_pos z2]
    rw[e] at k;obtain⟨c,hc,_⟩:=dy.mp z2;have:=(List.getElem?_eq_some_iff.mp hc).1;exact⟨_,rfl,_,rfl,a,b,j,fdg,isDigit,rfl,hS,↑2,fits,k⟩
   ·have e:aQ b q=q:=by unfold aQ;rw[if_pos z1,<-hj,if_neg z2]
    rw[e] at k;exact⟨_,rfl,k⟩
  refine⟨_,rfl,_,rfl,a,b,q+1,rfl,hS,rfl,_,rfl,?_⟩;rw[bt];refine aU (λz2=>?_) λz2=>?_
  ·have z2:=of_decide_eq_true z2;exact⟨_,rfl,_,_,rfl,rfl,tail (q+2) (by unfold gI;rw[if_pos z2])⟩
  ·have z2:¬cQ b (q+1)=45:=λz=>z2 (decide_eq_true z);exact tail (q+1) (by unfold gI;rw[if_neg z2])
def EZ(b:By)(p:Nat):Nat:=aK isDigit b p
def Ct(b:By)(p:Nat):Nat:=aP b (EZ b p)
def II(b:By)(p:Nat):Nat:=aQ b (Ct b p)
def NX(b:By)(p:Nat):Nat:=aK isMarkByte b (II b p)
inductive LJ(K:Frag)(C:Addr)(vs:List V)(H:Hp)(Q:VK)(E:XK):Prop
 |mk(a:Addr) (b:By) (p:Nat) (_:vs=[.ref a,.int p]) (_:bh K H a (iv b)) (_:p<=b.length) (_:∀(H':Hp)(r:Addr),aF H H'->sX C H' r (cut b p (EZ b p)) (cut b (EZ b p) (Ct b p)) (cut b (Ct b p) (II b p)) (cut b (II b p) (NX b p))->Q (.ref r) H')
theorem rq:ax ["text","place","digits_end","fraction_end","exponent_end","mark_end"] ["text","place"] (aq (top 30)):=↑3
theorem aC{p:Addr}{o:HO}(h:H p=none):aF H (upd H p o):=λb u e=>by rw[ah (au e h)];exact e
theorem N1(d:Def K mg "numeral_at" (top 30) ["text","place"])(od:Ok P w K mg base bf 1 "is_digit" ["byte"] (jc bZ))(om:Ok P w K mg base bf 3 "in_mark" ["byte"] (jc oH))(orn:Ok P w K mg base bf 4 "run_end" ["text","place","fits"] (kL P w K mg base))(ofr:Ok P w K mg base bf 5 "end_of_fraction" ["text","place"] (La K aP))(oex:Ok P w K mg base bf 5 "end_of_exponent" ["text","place"] (La K aQ))(nw:uL P w K mg base 1 "Numeral" C ["self","digits","fraction","exponent","mark"] (A0 C)):Ok P w K mg base bf 6 "numeral_at" ["text","place"] (LJ K C):=d.ok λf fd F=>by
 refine F.ok rq (by rintro vs H Q E ⟨a,b,p,rfl,_⟩;rfl) (λUQ A outer s H vs Q E hr h=>?_);obtain⟨a,b,p,rfl,hS,hp,k⟩:=h;obtain⟨fdg,mdg,fits⟩:=fits_of od ↑0 fF;obtain⟨fmk,mmk,fitm⟩:=fits_of om ↑0 Lk;have l1:EZ b p<=b.length:=dH _ hp;have g1:p<=EZ b p:=bP _ _ _;obtain⟨_,_,g2,l2⟩:=wY b (EZ b p);have l2:=l2 l1;obtain⟨_,_,g3,l3,_⟩:=Cf b (Ct b p);have l3:=l3 l2;have l4:NX b p<=b.length:=dH _ l3;have g4:II b p<=NX b p:=bP _ _ _;refine⟨_,aj (aN (i:=2) rq.nd rfl (Or.inl rfl) (aM orn (hr.mono ↑0) (aa (pv 0) (aa (pv 1) (aa (fQ mdg) ao)))))
  (aj (aN (i:=3) rq.nd rfl (Or.inl rfl) (aM ofr hr (aa (pv 0) (aa (pv 2) ao))))
  (aj (aN (i:=4) rq.nd rfl (Or.inl rfl) (aM oex hr (aa (pv 0) (aa (pv 3) ao))))
  (aj (aN (i:=5) rq.nd rfl (Or.inl rfl) (aM orn (hr.mono ↑0) (aa (pv 0) (aa (pv 4) (aa (fQ mmk) ao)))))
  (ai (aB (eK nw (hr.mono ↑0) (aa (dE eS (pv 0) (bV (pv 1)) (bV (pv 2))) (aa (dE eS (pv 0) (bV (pv 2)) (bV (pv 3)))
   (aa (dE eS (pv 0) (bV (pv 3)) (bV (pv 4))) (aa (dE eS (pv 0) (bV (pv 4)) (bV (pv 5))) ao)))))))))),?_⟩
 refine⟨_,rfl,_,rfl,a,b,p,fdg,isDigit,rfl,hS,hp,fits,?_⟩;refine⟨_,rfl,_,rfl,a,b,EZ b p,rfl,hS,l1,?_⟩;refine⟨_,rfl,_,rfl,a,b,Ct b p,rfl,hS,l2,?_⟩;refine⟨_,rfl,_,rfl,a,b,II b p,fmk,isMarkByte,rfl,hS,l3,fitm,?_⟩;refine⟨_,rfl,_,rfl,_,rfl,_,rfl,_,rfl,a,_,rfl,hS,λp1 n1=>?_⟩;have s1:=aC (o:=.lst (gB (iv b) (some (p:Int)) (some (EZ b p:Int)))) n1;refine⟨_,rfl,_,rfl,_,rfl,_,rfl,_,rfl,a,_,rfl,s1.seq hS,λp2 n2=>?_⟩;have s2:=aC (o:=.lst (gB (iv b) (some (EZ b p:Int)) (some (Ct b p:Int)))) n2;refine⟨_,rfl,_,rfl,_,rfl,_,rfl,_,rfl,a,_,rfl,s2.seq (s1.seq hS),λp3 n3=>?_⟩;have s3:=aC (o:=.lst (gB (iv b) (some (Ct b p:Int)) (some (II b p:Int)))) n3;refine⟨_,rfl,_,rfl,_,rfl,_,rfl,_,rfl,a,_,rfl,s3.seq (s2.seq (s1.seq hS)),λp4 n4=>?_⟩;have s4:=aC (o:=.lst (gB (iv b) (some (II b p:Int)) (some (NX b p:Int)))) n4;intro x dx nx nd ne;refine⟨x,dx,p1,p2,p3,p4,rfl,ag,λH' h' fr=>⟨rfl,?_⟩⟩;have s5:=aF.made nx nd fr;refine k H' x ((((s1.trans s2).trans s3).trans s4).trans s5) ⟨dx,p1,p2,p3,p4,h',?_,?_,?_,?_⟩
 ·exact s5 _ _ (s4 _ _ (s3 _ _ (s2 _ _ (ag.trans (congrArg (λz=>some (HO.lst z)) (qL l1 g1))))))
 ·exact s5 _ _ (s4 _ _ (s3 _ _ (ag.trans (congrArg (λz=>some (HO.lst z)) (qL l2 g2)))))
 ·exact s5 _ _ (s4 _ _ (ag.trans (congrArg (λz=>some (HO.lst z)) (qL l3 g3))))
 ·exact s5 _ _ (ag.trans (congrArg (λz=>some (HO.lst z)) (qL l4 g4)))
def P7:List Int:=[109,120,100,115,104,105,112]
theorem qo(x:Int):∀(l:List Int),CZ (.int x) (l.map V.int)=decide (x∈l)
 |[]=>rfl
 |y::l=>by
  have ih:=qo x l;unfold CZ at ih ⊢;rw[List.map_cons,List.any_cons,ih];by_cases h:y=x
  ·subst h;simp[Fc]
  ·have h':¬x=y:=λz=>h z.symm;simp[Fc,h,h']
theorem z8:∀(l:List Int),(l.map V.int).all iP=true
 |[]=>rfl
 |y::l=>by rw[List.map_cons,List.all_cons,z8 l];rfl
theorem Oa(c:UInt8):decide ((c.toNat:Int)∈P7)=MK.contains c:=by
 have h:∀(n:Nat)(m:UInt8),m.toNat=n->(((c.toNat:Int)=(n:Int))↔c=m):=λn m hm=>⟨λz=>jf.mpr ↑2,λz=>by rw[z];omega⟩
 have e:(c.toNat:Int)∈P7↔c∈MK:=by
  unfold P7 MK;simp only[List.mem_cons,List.not_mem_nil,or_false];rw[<-h 109 109 rfl,<-h 120 120 rfl,<-h 100 100 rfl,<-h 115 115 rfl,<-h 104 104 rfl,<-h 105 105 rfl,<-h 112 112 rfl];exact Iff.rfl
 by_cases z:c∈MK
 ·rw[decide_eq_true (e.mpr z),List.contains_iff_mem.mpr z]
 ·rw[decide_eq_false (λy=>z (e.mp y))];cases q:MK.contains c with
  |false=>rfl
  |true=>exact absurd (List.contains_iff_mem.mp q) z
theorem i6{P:Program}{X:Cx}{k:Nat}{m:Str}{sp:Sp}{o:Expr}{ta:TE}{apos pos:Pos}{pl:Sem Bool}(h:i5 X.prog X.w X.K X.mg X.base k C m ps sp)(cl:tV X.K C)(hr:bC k X.A)(he:PE X o ta)(ht:eval (.Call (.Attribute o m apos) [] [] pos) X.env=(do
   let ov<-eval o X.env
   standAt apos.atName
   let(f,first)<-holding [ov] (getMethod ov m pl)
   callWith pos f first (backTo pos (starEach [] X.env)) (backToKw pos (keywordEach [] X.env))):=by rfl):PE X (.Call (.Attribute o m apos) [] [] pos) (zy C m sp [] E0 ta d4):=by
 obtain⟨f,fd,M,F,b⟩:=h.ex;exact Iv he cl M F hr b .nil hJ ht
inductive BE(K:Frag)(vs:List V)(H:Hp)(Q:VK)(E:XK):Prop
 |mk(a:Addr) (m:By) (_:vs=[.ref a]) (_:bh K H a (iv m)) (_:∀H',aF H H'->Q (.bl (oB m)) H')
theorem Oe:ax ["mark"] ["mark"] (aq (top 34)):=↑3
theorem NR(d:Def K mg "mark_is_right" (top 34) ["mark"])(gm:GT K mg "MARKS" (P7.map V.int))(ln:mg "len"=none):Ok P w K mg base bf 1 "mark_is_right" ["mark"] (BE K):=d.ok λf fd F=>by
 refine F.ok Oe (by rintro vs H Q E ⟨a,m,rfl,_⟩;rfl) (λUQ A outer s H vs Q E hr h=>?_);obtain⟨a,m,rfl,hS,k⟩:=h;obtain⟨am,mm,tm⟩:=gm;refine⟨_,ai (aB (zS (dW (m5 hr.units) (pv 0) (bx ao) (aJ _)) (gQ (tJ (dW cG (bB ln (pv 0)) aw (aJ _))
  (gQ (dW fh (bA aX (pv 0) aw (λ_ _=>rfl)) (fQ mm) (by with_unfolding_all rfl))))))),?_⟩
 refine⟨_,rfl,Nat.zero_le _,λe he=>?_⟩;have s1:=aC (o:=.lst []) he;refine⟨a,e,_,[],rfl,rfl,by rw[<-eR];exact s1.seq hS,bh.of ag,_,rfl,?_⟩;rw[rK];refine aU (λz1=>?_) λz1=>?_
 ·have q:=k _ s1;unfold oB at q;rw[z1] at q;exact q
 ·rw[Bool.not_eq_true] at z1;refine⟨_,rfl,a,_,rfl,.inl (s1.seq hS),rfl,_,rfl,?_⟩;rw[bt,aT];have q:=k _ s1;refine aU (λz2=>?_) λz2=>?_
  ·have z2:=of_decide_eq_true z2;obtain⟨c,rfl⟩:∃c,m=[c]:=by
    match m,z2 with
    |[c],_=>exact⟨c,rfl⟩
    |[],z=>simp at z
    |_::_::_,z=>simp at z;omega
   refine⟨_,rfl,a,_,_,_,rfl,rfl,s1.seq hS,dM (p:=0) (c:=c) rfl,am,_,rfl,.inr (tm _),rfl,z8 _,?_⟩;rw[qo,Oa];exact q
  ·have z2:¬m.length=1:=λz=>z2 (decide_eq_true ↑2);unfold oB at q;rw[z1,decide_eq_false z2] at q;exact q
inductive AE(C:Addr)(g:By->By->By->By->Bool)(vs:List V)(H:Hp)(Q:VK)(E:XK):Prop
 |mk(r:Addr) (d f e m:By) (_:vs=[.ref r]) (_:sX C H r d f e m) (_:∀H',aF H H'->Q (.bl (g d f e m)) H')
theorem Gy:ax ["numeral","alone"] ["numeral"] (aq (top 35)):=↑3
theorem Mx(d:Def K mg "packed_is_right" (top 35) ["numeral"])(T:E4 K C)(g:GI mg "MOST_PACKED_DIGITS" 31)(ln:mg "len"=none):Ok P w K mg base bf 1 "packed_is_right" ["numeral"] (AE C λd f e _=>i4 d f e):=d.ok λf fd F=>by
 refine F.ok Gy (by rintro vs H Q E ⟨r,d,f,e,m,rfl,_⟩;rfl) (λUQ A outer s H vs Q E hr h=>?_);obtain⟨r,d,f,e,m,rfl,hN,k⟩:=h;obtain⟨dx,ad,af,ae,am,h1,h2,h3,h4,h5⟩:=id hN;refine⟨_,aj (aN (i:=1) Gy.nd rfl (Or.inl rfl) (tJ (dW (m5 hr.units) (ay (pv 0) rfl) (bx ao) (aJ _)) (gQ (dW (m5 hr.units) (ay (pv 0) rfl) (bx ao) (aJ _)))))
  (ai (aB (tJ (pv 1) (gQ (dW g8 (bB ln (ay (pv 0) rfl)) (cz g) (aJ _)))))),?_⟩
 refine rV rfl (rf h1 T.cl T.nf (oS _ _ _ _) ⟨Nat.zero_le _,λe1 he1=>?_⟩);have s1:=aC (o:=.lst []) he1;refine⟨af,e1,_,[],rfl,rfl,bh.of (by rw[<-eR];exact s1 _ _ h3),bh.of ag,_,rfl,?_⟩;rw[rK];have fin:∀(c:Bool)(H2:Hp),aF H H2->i4 d f e=(c&&decide (d.length<=31))->
   pD (Di (df 1) (AB (CA λi j=>.bl (decide (i<=j))) (LA (zC K) (bT (Bp K (df 0) "digits") d4)) (tC (.int 31))))
    {nx:=λ_ H'=>Q .bH H',rt:=Q} [some (.ref r),some (.bl c)] H2:=by
  intro c H2 s2 e2;refine⟨_,rfl,_,rfl,aU (λz=>?_) λz=>?_⟩
  ·refine rV rfl (rf (s2 _ _ h1) T.cl T.nd (i8 _ _ _ _) ⟨ad,_,rfl,.inl (bh.of (s2 _ _ h2)),_,_,rfl,rfl,?_⟩);have q:Q (.bl (i4 d f e)) H2:=k _ s2;have e3:decide (((iv d).length:Int)<=31)=decide (d.length<=31):=by
    rw[aT];by_cases y:d.length<=31
    ·rw[decide_eq_true y];exact decide_eq_true ↑2
    ·rw[decide_eq_false y];exact decide_eq_false ↑2
   show Q (.bl (decide (((iv d).length:Int)<=31))) _;rw[e3];rw[e2,z,Bool.true_and] at q;exact q
  ·have q:Q (.bl (i4 d f e)) H2:=k _ s2;rw[Bool.not_eq_true] at z;rw[e2,z] at q;exact q
 refine aU (λz1=>?_) λz1=>?_
 ·refine rV rfl (rf (s1 _ _ h1) T.cl T.ne (fJ _ _ _ _) ⟨Nat.zero_le _,λe2 he2=>?_⟩);have s2:=aC (o:=.lst []) he2;refine⟨ae,e2,_,[],rfl,rfl,bh.of (by rw[<-eR];exact s2 _ _ (s1 _ _ h4)),bh.of ag,?_⟩;rw[rK];refine fin _ _ (s1.trans s2) ?_;unfold i4;rw[z1,Bool.true_and]
 ·rw[Bool.not_eq_true] at z1;refine fin _ _ s1 ?_;unfold i4;rw[z1];rfl
inductive xF(K:Frag)(vs:List V)(H:Hp)(Q:VK)(E:XK):Prop
 |mk(a:Addr) (e:By) (_:vs=[.ref a]) (_:bh K H a (iv e)) (_:1<e.length) (_:(∃x,(cF e)[0]?=some x)) (_:∀H',aF H H'->Q (.bl (ES e)) H')
theorem Cg:ax ["exponent","negative","digits"] ["exponent"] (aq (top 36)):=↑3
theorem Mn(d:Def K mg "exponent_is_right" (top 36) ["exponent"])(gm:GI mg "MINUS" 45)(gz:GI mg "ZERO" 48)(gx:GI mg "MOST_EXPONENT_DIGITS" 5)(ln:mg "len"=none):Ok P w K mg base bf 1 "exponent_is_right" ["exponent"] (xF K):=d.ok λf fd F=>by
 refine F.ok Cg (by rintro vs H Q E ⟨a,e,rfl,_⟩;rfl) (λUQ A outer s H vs Q E hr h=>?_);obtain⟨a,e,rfl,hS,hl,⟨x,hx⟩,k⟩:=h;refine⟨_,aj (aN (i:=1) Cg.nd rfl (Or.inl rfl) (dW cG (bA aX (pv 0) aw (λ_ _=>rfl)) (cz gm) (aJ _)))
  (aj (aN (i:=2) Cg.nd rfl (Or.inl rfl) (qY (dr (pv 1)) (dE eS (pv 0) (bV aw) DQ) (dE eS (pv 0) (bV aw) DQ)))
  (aj (aR (aD cG (bA aX (pv 2) aw (λ_ _=>rfl)) (cz gz) (aJ _)) (ai (aB (tJ (dW cG (bB ln (pv 2)) aw (aJ _)) (gQ (Nq (pv 1)))))) aL)
  (ai (aB (dW g8 (bB ln (pv 2)) (cz gx) (aJ _)))))),?_⟩
 have g1:e[1]?=some e[1]:=List.getElem?_eq_getElem hl;refine⟨_,rfl,a,_,_,_,rfl,rfl,hS,dM (p:=1) g1,rfl,?_⟩;rw[bt,<-cj g1];have hneg:decide (cQ e 1=45)=isNeg e:=rfl;rw[hneg];have fin:∀(p:Addr),H p=none->AS (Hi (qV (AB Sa (AB (Kl K) (df 2) (tC (.int 0))) (tC (.int 48)))) (pD (Di (AB Sa (LA (zC K) (bT (df 2) d4)) (tC (.int 1))) (L6 (df 1)))) z9)
   (pD (AB (CA λi j=>.bl (decide (i<=j))) (LA (zC K) (bT (df 2) d4)) (tC (.int 5))))
   {nx:=λ_ H'=>Q .bH H',rt:=Q} [some (.ref a),some (.bl (isNeg e)),some (.ref p)] (upd H p (.lst (iv (cF e)))):=by
  intro p hp;have s1:=aC (o:=.lst (iv (cF e))) hp;have hD:bh K (upd H p (.lst (iv (cF e)))) p (iv (cF e)):=bh.of ag;have q:=k _ s1;unfold ES at q;refine⟨_,rfl,p,_,_,_,rfl,rfl,hD,dM (p:=0) hx,rfl,_,rfl,?_⟩;rw[bt,<-cj hx];refine aU (λz1=>?_) λz1=>?_
  ·have z1:=of_decide_eq_true z1;rw[if_pos z1] at q;refine⟨_,rfl,p,_,rfl,.inl hD,rfl,_,rfl,?_⟩;rw[bt,aT];have e1:decide (((cF e).length:Int)=1)=decide ((cF e).length=1):=by
    by_cases y:(cF e).length=1
    ·rw[decide_eq_true y];exact decide_eq_true ↑2
    ·rw[decide_eq_false y];exact decide_eq_false ↑2
   rw[e1];refine aU (λz2=>?_) λz2=>?_
   ·rw[z2,Bool.true_and] at q;exact⟨_,rfl,_,rfl,q⟩
   ·rw[Bool.not_eq_true] at z2;rw[z2] at q;exact q
  ·have z1:¬cQ (cF e) 0=48:=λz=>z1 (decide_eq_true z);rw[if_neg z1] at q;refine⟨_,rfl,p,_,rfl,.inl hD,_,_,rfl,rfl,?_⟩;have e1:decide (((iv (cF e)).length:Int)<=5)=decide ((cF e).length<=5):=by
    rw[aT];by_cases y:(cF e).length<=5
    ·rw[decide_eq_true y];exact decide_eq_true ↑2
    ·rw[decide_eq_false y];exact decide_eq_false ↑2
   show Q (.bl (decide (((iv (cF e)).length:Int)<=5))) _;rw[e1];exact q
 refine⟨_,rfl,_,rfl,aU (λz=>?_) λz=>?_⟩
 ·refine⟨_,rfl,_,rfl,a,_,rfl,hS,λp hp=>?_⟩;have e1:gB (iv e) (some (2:Int)) none=iv (cF e):=by
   unfold cF;rw[if_pos z];exact Dy (i:=2) ↑2
  rw[e1];exact fin p hp
 ·refine⟨_,rfl,_,rfl,a,_,rfl,hS,λp hp=>?_⟩;have e1:gB (iv e) (some (1:Int)) none=iv (cF e):=by
   unfold cF;rw[if_neg z];exact Dy (i:=1) ↑2
  rw[e1];exact fin p hp
inductive Dn(C:Addr)(vs:List V)(H:Hp)(Q:VK)(E:XK):Prop
 |mk(r:Addr) (d f e m:By) (_:vs=[.ref r]) (_:sX C H r d f e m) (_:(e≠[]->1<e.length/\∃x,(cF e)[0]?=some x)) (_:∀H',aF H H'->Q (.bl (dc d f e m)) H')
theorem M7:ax ["numeral"] ["numeral"] (aq (top 33)):=↑3
theorem Mv{a b:By}(h:(a.map λ(c:UInt8)=>(c.toNat:Int))=b.map λ(c:UInt8)=>(c.toNat:Int)):a=b:=by
 induction a generalizing b with
 |nil=>cases b with
  |nil=>rfl
  |cons _ _=>simp at h
 |cons x a ih=>cases b with
  |nil=>simp at h
  |cons y b=>
   simp only[List.map_cons,List.cons.injEq] at h;rw[jf.mpr (show x.toNat=y.toNat by omega),ih h.2]
theorem Na(d:Def K mg "is_right" (top 33) ["numeral"])(T:E4 K C)(g1:GI mg "MOST_BYTES_numerals" 255)(g2:GI mg "PACKED" 112)(g3:GI mg "ZERO" 48)(ln:mg "len"=none)(osz:i5 P w K mg base 1 C "size" ["self"] (xC C))(omk:Ok P w K mg base bf 1 "mark_is_right" ["mark"] (BE K))(opk:Ok P w K mg base bf 1 "packed_is_right" ["numeral"] (AE C λd f e _=>i4 d f e))(oex:Ok P w K mg base bf 1 "exponent_is_right" ["exponent"] (xF K)):Ok P w K mg base bf 2 "is_right" ["numeral"] (Dn C):=d.ok λf fd F=>by
 refine F.ok M7 (by rintro vs H Q E ⟨r,d,f,e,m,rfl,_⟩;rfl) (λUQ A outer s H vs Q E hr h=>?_);obtain⟨r,d,f,e,m,rfl,hN,he,k⟩:=h;refine⟨_,aj (aR (L7 (aD oV (i6 (P:=P) osz T.cl hr (pv 0)) (cz g1) (aJ _)) (Ge (Hw (dr (aM omk hr (aa (ay (pv 0) rfl) ao)))))).pt (ai (aB Ij)) aL)
  (aj (aR (aD (m5 hr.units) (ay (pv 0) rfl) (bx (aa (cz g2) ao)) (aJ _)) (ai (aB (aM opk hr (aa (pv 0) ao)))) aL)
  (aj (aR (nU (aD oV (bB ln (ay (pv 0) rfl)) aw (aJ _)) (i9 (aD cG (bA aX (ay (pv 0) rfl) aw (λ_ _=>rfl)) (cz g3) (aJ _)))).pt (ai (aB Ij)) aL)
  (aj (aR (aD (m5 hr.units) (ay (pv 0) rfl) (bx ao) (aJ _)) (ai (aB Ij)) aL)
  (ai (aB (tJ (dW (Gb hr.units) (ay (pv 0) rfl) (bx ao) (aJ _)) (gQ (aM oex hr (aa (ay (pv 0) rfl) ao))))))))),?_⟩
 obtain⟨dx,ad,af,ae,am,h1,h2,h3,h4,h5⟩:=id hN;refine⟨_,rfl,r,dx,_,rfl,h1,Dc _ _ _ _,r,d,f,e,m,rfl,hN,_,_,rfl,rfl,_,rfl,?_⟩;have e0:decide ((255:Int)<((d.length+f.length+e.length+m.length:Nat):Int))=decide (255<d.length+f.length+e.length+m.length):=by
  by_cases y:255<d.length+f.length+e.length+m.length
  ·rw[decide_eq_true y];exact decide_eq_true ↑2
  ·rw[decide_eq_false y];exact decide_eq_false ↑2
 rw[e0];refine aU (λz0=>?_) λz0=>?_
 ·have q:=k H (aF.refl H);have e1:dc d f e m=false:=by unfold dc;rw[if_pos (of_decide_eq_true z0)]
  rw[e1] at q;exact fY q
 have z0:¬255<d.length+f.length+e.length+m.length:=λz=>z0 (decide_eq_true z);refine rV rfl (rf h1 T.cl T.nm (qt _ _ _ _) ⟨am,m,rfl,bh.of h5,λH1 s1=>⟨_,rfl,?_⟩⟩);refine aU (λz1=>?_) λz1=>?_
 ·have q:=k H1 s1;have e1:dc d f e m=false:=by unfold dc;rw[if_neg z0,if_pos (by simpa using z1)]
  rw[e1] at q;exact q
 have z1:oB m=true:=by simpa using z1
 refine rV rfl (rf (s1 _ _ h1) T.cl T.nm (qt _ _ _ _) ⟨(by show 1<=sizeLine;decide),λp2 n2=>?_⟩);have s2:=aC (o:=.lst [.int 112]) n2;refine⟨am,p2,_,[112],rfl,rfl,bh.of (by rw[<-eR];exact s2 _ _ (s1 _ _ h5)),bh.of ag,_,rfl,?_⟩;have e2:decide ((m.map λ(c:UInt8)=>(c.toNat:Int))=[112])=decide (m=[112]):=by
  by_cases y:m=[112]
  ·subst y;rfl
  ·rw[decide_eq_false y];exact decide_eq_false λz=>y (Mv z)
 rw[e2];have s12:=s1.trans s2;refine aU (λz2=>?_) λz2=>?_
 ·have z2:=of_decide_eq_true z2;refine⟨_,rfl,r,d,f,e,m,rfl,hN.same s12,λH3 s3=>?_⟩;have q:=k H3 (s12.trans s3);have e1:dc d f e m=i4 d f e:=by unfold dc;rw[if_neg z0,if_neg (by rw[z1];decide),if_pos z2]
  rw[e1] at q;exact q
 have z2:¬m=[112]:=λz=>z2 (decide_eq_true z);have rest:∀H3,aF H H3->¬(1<d.length/\cQ d 0=48)->
   AS (Hi (qV (AB (Qq K) (Bp K (df 0) "exponent") (NO d4))) (pD (tC (.bl true))) z9)
    (pD (Di (AB (Rf K) (Bp K (df 0) "mark") (NO d4)) (iT (xF K) [] E0 (bT (Bp K (df 0) "exponent") d4))))
    {nx:=λ_ H'=>Q .bH H',rt:=Q} [some (.ref r)] H3:=by
  intro H3 s3 z3;refine rV rfl (rf (s3 _ _ h1) T.cl T.ne (fJ _ _ _ _) ⟨Nat.zero_le _,λp4 n4=>?_⟩);have s4:=aC (o:=.lst []) n4;refine⟨ae,p4,_,[],rfl,rfl,bh.of (by rw[<-eR];exact s4 _ _ (s3 _ _ h4)),bh.of ag,_,rfl,?_⟩;rw[rK];have s34:=s3.trans s4;refine aU (λz4=>?_) λz4=>?_
  ·have z4:=of_decide_eq_true z4;have q:=k _ s34;have e1:dc d f e m=true:=by unfold dc;rw[if_neg z0,if_neg (by rw[z1];decide),if_neg z2,if_neg z3,if_pos z4]
   rw[e1] at q;exact q
  have z4:¬e=[]:=λz=>z4 (decide_eq_true z);have e1:dc d f e m=(!decide (m=[])&&ES e):=by unfold dc;rw[if_neg z0,if_neg (by rw[z1];decide),if_neg z2,if_neg z3,if_neg z4]
  refine rV rfl (rf (s34 _ _ h1) T.cl T.nm (qt _ _ _ _) ⟨Nat.zero_le _,λp5 n5=>?_⟩);have s5:=aC (o:=.lst []) n5;refine⟨am,p5,_,[],rfl,rfl,bh.of (by rw[<-eR];exact s5 _ _ (s34 _ _ h5)),bh.of ag,_,rfl,?_⟩;rw[rK];have s345:=s34.trans s5;refine aU (λz5=>?_) λz5=>?_
  ·refine rV rfl (rf (s345 _ _ h1) T.cl T.ne (fJ _ _ _ _) ⟨ae,e,rfl,bh.of (s345 _ _ h4),(he z4).1,(he z4).2,λH6 s6=>?_⟩);have q:=k H6 (s345.trans s6);rw[e1,z5,Bool.true_and] at q;exact q
  ·have q:=k _ s345;rw[Bool.not_eq_true] at z5;rw[e1,z5] at q;exact q
 refine rV rfl (rf (s12 _ _ h1) T.cl T.nd (i8 _ _ _ _) ⟨ad,_,rfl,.inl (bh.of (s12 _ _ h2)),_,_,rfl,rfl,_,rfl,?_⟩);have e3:decide ((1:Int)<((iv d).length:Int))=decide (1<d.length):=by
  rw[aT];by_cases y:1<d.length
  ·rw[decide_eq_true y];exact decide_eq_true ↑2
  ·rw[decide_eq_false y];exact decide_eq_false ↑2
 rw[e3];refine aU (λz3=>?_) λz3=>?_
 ·have z3:=of_decide_eq_true z3;have hd0:d[0]?=some d[0]:=List.getElem?_eq_getElem ↑2;refine rV rfl (rf (s12 _ _ h1) T.cl T.nd (i8 _ _ _ _) ⟨ad,_,_,_,rfl,rfl,bh.of (s12 _ _ h2),dM (p:=0) hd0,rfl,_,rfl,?_⟩);rw[bt,<-cj hd0];refine aU (λz4=>?_) λz4=>?_
  ·have z4:=of_decide_eq_true z4;have q:=k _ s12;have e1:dc d f e m=false:=by unfold dc;rw[if_neg z0,if_neg (by rw[z1];decide),if_neg z2,if_pos ⟨z3,z4⟩]
   rw[e1] at q;exact q
  ·exact rest _ s12 λz=>z4 (decide_eq_true z.2)
 ·exact dR (rest _ s12 λz=>z3 (decide_eq_true z.1))
abbrev o_:Stmt:=inClass (top 38) 0
abbrev OZ:Stmt:=inClass (top 39) 0
abbrev OK:Stmt:=inClass (top 40) 0
abbrev Io:Stmt:=inClass (top 41) 0
def Nums(H0 H:Hp)(e C:Addr)(ns:List Int):Prop:=∃d l,d≠e/\H0 d=none/\H e=some (eV e C (some d))/\H d=some (v8 d [("numbers",.ref l)])/\H l=some (.lst (ns.map V.int))
inductive Pr(K:Frag)(vs:List V)(H:Hp)(Q:VK)(E:XK):Prop
 |mk(e C l:Addr) (ns:List Int) (_:vs=[.ref e,.ref l]) (_:H e=some (eV e C none)) (_:sj K C) (_:aE K C "numbers") (_:H l=some (.lst (ns.map V.int))) (_:∀H',Nums H H' e C ns->FI e H H'->Q .bH H')
theorem NG:ax ["self","numbers"] ["self","numbers"] (aq o_):=↑3
theorem AK{f:Addr}(F:js K "__init__" "Refused.__init__" o_ f fd):bY P w K mg base bf 1 f fd ["self","numbers"] (Pr K):=by
 refine F.ok NG (by rintro vs H Q E ⟨e,C,l,ns,rfl,_⟩;rfl) (λUQ A outer s H vs Q E hr h=>?_);obtain⟨e,C,l,ns,rfl,h1,c,n,h2,k⟩:=h;refine⟨_,ai (wb (pv 0) (pv 1) rfl),?_⟩;refine⟨_,rfl,_,rfl,e,C,rfl,c,n,.inl ⟨h1,λd hd=>?_⟩⟩;have hle:l≠e:=dA h2 h1 (by intro z;cases z);have hde:d≠e:=λz=>by rw[z,h1] at hd;cases hd
 refine k _ ⟨d,l,hde,hd,ag,?_,?_⟩ λb o hb hbe=>?_
 ·rw[ah hde,ag]
 ·rw[ah hle,ah (au h2 hd)];exact h2
 ·rw[ah hbe,ah (au hb hd)];exact hb
theorem y'{l d:Addr}{o:HO}(h:upd H l o d=none):H d=none:=by
 by_cases z:d=l
 ·rw[z,ag] at h;cases h
 ·rw[ah z] at h;exact h
theorem Nums.low{H':Hp}{l e:Addr}{o:HO}{ns:List Int}(h:Nums (upd H l o) H' e C ns):Nums H H' e C ns:=by obtain⟨d,l',a,b,r⟩:=h;exact⟨d,l',a,y' b,r⟩
structure Gq(K:Frag)(mg:Str->Option Value)(C:Addr):Prop where
 mg:mg "Refused"=some (.ref C)
 ex:∃f fd,Gd K C "__init__" f/\js K "__init__" "Refused.__init__" o_ f fd/\Binds K fd ["self","numbers"] []
inductive JM(K:Frag)(ns:List Int)(vs:List V)(H:Hp)(Q:VK)(E:XK):Prop
 |mk(e C:Addr) (_:vs=[.ref e]) (_:H e=some (eV e C none)) (_:sj K C) (_:aE K C "numbers") (_:∀H',Nums H H' e C ns->FI e H H'->Q .bH H')
theorem Q2:ax ["self"] ["self"] (aq OZ):=↑3
theorem QR:ax ["self"] ["self"] (aq OK):=↑3
theorem QY{CR f:Addr}(F:js K "__init__" "TooLong.__init__" OZ f fd)(rc:Gq K mg CR):bY P w K mg base bf 2 f fd ["self"] (JM K [-1]):=by obtain⟨fR,fdR,cm,FR,bR⟩:=rc.ex;refine F.ok Q2 (by rintro vs H Q E ⟨e,C,rfl,_⟩;rfl) (λUQ A outer s H vs Q E hr h=>?_);obtain⟨e,C,rfl,h1,c,n,k⟩:=h;refine⟨_,ai (aS (wK rfl rc.mg cm (AK FR) hr bR .nil hJ (aa (pv 0) (aa (bx (aa (gy eg aw) ao)) ao)))),?_⟩;refine⟨_,rfl,_,rfl,(by show 1<=sizeLine;decide),λl hl=>?_⟩;have hle:e≠l:=au h1 hl;refine⟨e,C,l,[-1],rfl,by rw[ah hle];exact h1,c,n,ag,λH' nu fr=>?_⟩;exact k H' nu.low λb o hb hbe=>fr b o (by rw[ah (au hb hl)];exact hb) hbe
theorem Qo{CR f:Addr}(F:js K "__init__" "TooDeep.__init__" OK f fd)(rc:Gq K mg CR):bY P w K mg base bf 2 f fd ["self"] (JM K [-6]):=by obtain⟨fR,fdR,cm,FR,bR⟩:=rc.ex;refine F.ok QR (by rintro vs H Q E ⟨e,C,rfl,_⟩;rfl) (λUQ A outer s H vs Q E hr h=>?_);obtain⟨e,C,rfl,h1,c,n,k⟩:=h;refine⟨_,ai (aS (wK rfl rc.mg cm (AK FR) hr bR .nil hJ (aa (pv 0) (aa (bx (aa (gy eg aw) ao)) ao)))),?_⟩;refine⟨_,rfl,_,rfl,(by show 1<=sizeLine;decide),λl hl=>?_⟩;have hle:e≠l:=au h1 hl;refine⟨e,C,l,[-6],rfl,by rw[ah hle];exact h1,c,n,ag,λH' nu fr=>?_⟩;exact k H' nu.low λb o hb hbe=>fr b o (by rw[ah (au hb hl)];exact hb) hbe
def ff(r p:Int)(l:Addr):List (Str×V):=aW "place" (.int p) (aW "rule" (.int r) [("numbers",.ref l)])
theorem AY(r p:Int)(l:Addr):(ff r p l).lookup ("numbers":Str)=some (.ref l):=by unfold ff;rw[aA,if_neg ↑1,aA,if_neg ↑1];rfl
theorem J'(r p:Int)(l:Addr):(ff r p l).lookup ("rule":Str)=some (.int r):=by unfold ff;rw[aA,if_neg ↑1,aA,if_pos rfl]
theorem Im(r p:Int)(l:Addr):(ff r p l).lookup ("place":Str)=some (.int p):=by unfold ff;rw[aA,if_pos rfl]
inductive Sr(C:Addr)(H:Hp)(e:Addr)(r p:Int):Prop
 |mk(d:_) (l:_) (_:d≠e) (_:H e=some (eV e C (some d))) (_:H d=some (v8 d (ff r p l))) (_:H l=some (.lst [.int (-2),.int r,.int p]))
structure BL(K:Frag)(C:Addr):Prop where
 x:sj K C
 nn:aE K C "numbers"
 nr:aE K C "rule"
 np:aE K C "place"
inductive Iz(C:Addr)(vs:List V)(H:Hp)(Q:VK)(E:XK):Prop
 |mk(e:Addr) (r p:Int) (_:vs=[.ref e,.int r,.int p]) (_:H e=some (eV e C none)) (_:∀H',Sr C H' e r p->FI e H H'->Q .bH H')
theorem MB:ax ["self","rule","place"] ["self","rule","place"] (aq Io):=↑3
theorem HC{CR f:Addr}(F:js K "__init__" "Fault.__init__" Io f fd)(rc:Gq K mg CR)(T:BL K C):bY P w K mg base bf 2 f fd ["self","rule","place"] (Iz C):=by
 obtain⟨fR,fdR,cm,FR,bR⟩:=rc.ex;refine F.ok MB (by rintro vs H Q E ⟨e,r,p,rfl,_⟩;rfl) (λUQ A outer s H vs Q E hr h=>?_);obtain⟨e,r,p,rfl,h1,k⟩:=h;refine⟨_,aj (aS (wK rfl rc.mg cm (AK FR) hr bR .nil hJ (aa (pv 0) (aa (bx (aa (gy eg aw) (aa (pv 1) (aa (pv 2) ao)))) ao))))
  (aj (wb (pv 0) (pv 1) rfl) (ai (wb (pv 0) (pv 2) rfl))),?_⟩
 refine⟨_,rfl,_,rfl,_,rfl,_,rfl,(by show 3<=sizeLine;decide),λl hl=>?_⟩;have hle:e≠l:=au h1 hl;refine⟨e,C,l,[-2,r,p],rfl,by rw[ah hle];exact h1,T.x,T.nn,ag,λH1 nu fr=>?_⟩;obtain⟨d,l',hde,a0,a1,a2,a3⟩:=nu.low;have hld:l'≠d:=dA a3 a2 (by intro z;cases z);refine⟨_,rfl,_,rfl,e,C,rfl,T.x,T.nr,.inr ⟨d,_,a1,a2,(by show 1<1000;decide),?_⟩⟩;refine⟨_,rfl,_,rfl,e,C,rfl,T.x,T.np,.inr ⟨d,_,(by rw[ah (Ne.symm hde)];exact a1),ag,Nat.lt_of_le_of_lt (aG _ _ _) (by show 2<1000;decide),?_⟩⟩;refine k _ ⟨d,l',hde,(by rw[ah (Ne.symm hde),ah (Ne.symm hde)];exact a1),ag,(by rw[ah hld,ah hld];exact a3)⟩ λb o hb hbe=>?_;have hbd:b≠d:=λz=>by rw[z,a0] at hb;cases hb
 rw[ah hbd,ah hbd];exact fr b o (by rw[ah (au hb hl)];exact hb) hbe
structure KR(P:Program)(w:World)(K:Frag)(mg:Str->Option Value)(base:Heap)(k:Nat)(nm:Str)(C:Addr)(ps:List Str)(sp:Sp):Prop where
 ex:∃(f:Addr)(fd:FuncData),Ir K C f/\bY P w K mg base bf k f fd ps sp/\Binds K fd ps []/\mg nm=some (.ref C)
theorem iD{X:Cx}{k:Nat}{sp:Sp}{x:Str}{p pos:Pos}{e:Expr}{es:List Expr}{t:TA}(o:KR X.prog X.w X.K X.mg X.base k x C ps sp)(hr:bC (k+1) X.A)(ha:PA X (e::es) t)(hg:Gl X x:=by rfl)(hdb:(x==("__debug__":Str))=false:=by decide)(he:starEach (e::es) X.env=(false,eval e X.env)::starEach es X.env:=by rfl)(hpl:(backTo pos (starEach es X.env)).any (·.1)=false:=by rfl):PE X (.Call (.Name x p) (e::es) [] pos) (w9 C sp [] E0 t):=by obtain⟨f,fd,M,F,b,m⟩:=o.ex;exact G4 M F hr hg m b .nil hJ ha hdb he hpl
theorem IY{X:Cx}{k:Nat}{sp:Sp}{x:Str}{p pos:Pos}(o:KR X.prog X.w X.K X.mg X.base k x C ps sp)(hr:bC (k+1) X.A)(hg:Gl X x:=by rfl)(hdb:(x==("__debug__":Str))=false:=by decide):
  PE X (.Call (.Name x p) [] [] pos) (w9 C sp [] E0 d4):=by
 obtain⟨f,fd,M,F,b,m⟩:=o.ex;exact ET M F hr hg m b .nil hJ hdb
inductive ny(C:Addr)(H:Hp)(e:Addr)(r p:Int):Prop
 |mk(d:_) (l:_) (_:H e=some (jT e C (some d))) (_:H d=some (v8 d (ff r p l))) (_:H l=some (.lst [.int (-2),.int r,.int p]))
theorem bI{fX:Addr}{H1:Hp}{r p:Int}{R:Addr->Hp->Prop}(M:Ir K C fX)(k:∀e H',aF H1 H'->ny C H' e r p->R e H'):
  ([V.int r,V.int p]:List V).length<=1000/\∀e,H1 e=none->Iz C (.ref e::([V.int r,V.int p]++[])) (upd H1 e (eV e C none)) (λv H2=>v= .bH/\∃e' C' f' dx,V.ref e= .ref e'/\H2 e'=some (eV e' C' dx)/\Ir K C' f'/\R e' (upd H2 e' (jT e' C' dx))) E0:=by
 refine⟨(by show 2<=1000;decide),λe he=>⟨e,r,p,rfl,ag,λH' fn fr=>⟨rfl,?_⟩⟩⟩;obtain⟨d,l,hde,a1,a2,a3⟩:=fn;have s1:aF H1 (upd H' e (jT e C (some d))):=λb o hb=>by
  have hbe:=au hb he;rw[ah hbe];exact fr b o (by rw[ah hbe];exact hb) hbe
 have hle:l≠e:=dA a3 a1 (by intro z;cases z);exact⟨e,C,fX,some d,rfl,a1,M,k e _ s1 ⟨d,l,ag,by rw[ah hde];exact a2,by rw[ah hle];exact a3⟩⟩
end
section
open EwTree (isSmall isBig isDigit isSeen isWordByte isCodeByte isMarkByte tokenIn)
theorem yV{s:L2.St}{A B:Hp->Prop}(h:A H):RK s H (λb H3=>if b=true then A H3 else B H3):=by show(if true=true then A H else B H);exact fY h
def Si:Str:="abcdefghijklmnopqrstuvwxyz"
def one(c:UInt8):Str:=⟨#[c.toNat]⟩
theorem NW{c:UInt8}(h:isSmall c=true):vt Si.cps.toList ((c.toNat:Int) - 97)=some c.toNat:=by
 have hb:97<=c.toNat/\c.toNat<=122:=by
  unfold EwTree.isSmall at h;simp only[Bool.and_eq_true,decide_eq_true_eq] at h;exact⟨tU.mp h.1,tU.mp h.2⟩
 have key:∀n:Fin 26,vt Si.cps.toList ((n.val:Nat):Int)=some (97+n.val):=↑1
 have:=key ⟨c.toNat - 97,↑2⟩;have e1:((c.toNat:Int) - 97)=((c.toNat - 97:Nat):Int):=↑2
 rw[e1,this];congr 1;show 97+(c.toNat - 97)=c.toNat;omega
theorem join_one:∀(w:By),Str.join "" (w.map one)=vh w
 |[]=>rfl
 |[c]=>rfl
 |c::d::w=>by
  have ih:=join_one (d::w);show(one c++("":Str))++Str.join "" ((d::w).map one)=vh (c::d::w);rw[ih];show(⟨(#[c.toNat]++#[])++((d::w).map UInt8.toNat).toArray⟩:Str)=⟨((c::d::w).map UInt8.toNat).toArray⟩
  simp
theorem JY(w:By):((w.map one).map (·.length)).sum=w.length:=by
 induction w with
 |nil=>rfl
 |cons c w ih=>rw[List.map_cons,List.map_cons,List.sum_cons,ih];show 1+w.length=w.length+1;omega
inductive LM(K:Frag)(vs:List V)(H:Hp)(Q:VK)(E:XK):Prop
 |mk(a:Addr) (b:By) (_:vs=[.ref a]) (_:bh K H a (iv b)) (_:b.length<=100000) (_:∀H',aF H H'->Q (.str (qI b)) H')
theorem tQ:ax ["word","byte"] ["word"] (aq (top 70)):=↑3
theorem O2(d:Def K mg "spelled" (top 70) ["word"])(gl:GS mg "LETTERS" Si)(al:mg "all"=none)(os:Ok P w K mg base bf 1 "is_small" ["byte"] (jc ic)):Ok P w K mg base bf 2 "spelled" ["word"] (LM K):=d.ok λf fd F=>by
 refine F.ok tQ (by rintro vs H Q E ⟨a,b,rfl,_⟩;rfl) (λUQ A outer s H vs Q E hr h=>?_);obtain⟨a,b,rfl,hS,hl,k⟩:=h;refine⟨_,aj (aR (dr (eB (MM rfl) (by rfl) al boot_all (aa (L_ (own:=[("byte",1)]) rfl tQ.nd (qd (pv 0)) (show u7 ["word","byte"] (aq (top 70)) _ [("byte",1)] from yC ↑1) (λs H C cl fp=>fM (i:=1) tQ.nd rfl (Or.inl rfl)) (λs H C cl fp=>DR)
   (λs H C cl fp=>aM os hr (aa (pv 1) ao))) ao)))
  (ai (aB (JF bO (L_ (own:=[("byte",1)]) rfl tQ.nd (qd (pv 0)) (show u7 ["word","byte"] (aq (top 70)) _ [("byte",1)] from yC ↑1) (λs H C cl fp=>fM (i:=1) tQ.nd rfl (Or.inl rfl)) (λs H C cl fp=>DR)
   (λs H C cl fp=>bA O6 (To gl) (bz jV (pv 1) aw) (λ_ _=>rfl)))))) aL) (ai (aB bO)),?_⟩
 have hsz:sizeLine=16777216:=sizeLine_eq;refine⟨_,rfl,a,rfl,⟨_,hS⟩,λD hD=>CB (xs:=iv b) (λi H2=>H2 D=some (.lst ((b.take i).map λc=>V.bl (isSmall c)))/\aF H H2) ⟨ag,aC hD⟩ (λi H2 _ z=>z.2.seq hS) ?_ ?_⟩
 ·rintro i x H2 hi ⟨h1,h2⟩;obtain⟨c,hc,rfl⟩:∃c,b[i]?=some c/\x=V.int c.toNat:=by
   unfold iv at hi;rw[List.getElem?_map] at hi;cases e:b[i]? with
   |none=>rw[e] at hi;cases hi
   |some z=>rw[e] at hi;exact⟨z,rfl,(Option.some.inj hi).symm⟩
  have hil:=(List.getElem?_eq_some_iff.mp hc).1;refine⟨rfl,?_⟩;refine yV ?_;refine⟨_,rfl,c.toNat,rfl,_,h1,?_,?_,?_⟩
  ·rw[List.length_map,List.length_take,hsz];omega
  ·rw[ag,take_snoc hc,List.map_append,r9];rfl
  ·exact λb' o hb=>by rw[ah (au hb hD)];exact h2 b' o hb
 ·rintro H2 ⟨h1,h2⟩;rw[aT,List.take_length] at h1;have e0:(b.map λc=>V.bl (isSmall c))=(b.map isSmall).map V.bl:=by rw[List.map_map];rfl
  refine⟨D,b.map isSmall,rfl,bh.of (by rw[<-e0];exact h1),_,rfl,?_⟩;have e1:(b.map isSmall).all id=b.all isSmall:=by rw[List.all_map];rfl
  rw[e1];refine aU (λz=>?_) λz=>?_
  ·have hall:∀c∈b,isSmall c=true:=List.all_eq_true.mp z;refine⟨⟨_,rfl⟩,_,rfl,a,rfl,⟨_,h2.seq hS⟩,λD2 hD2=>CB (xs:=iv b) (λi H3=>H3 D2=some (.lst ((b.take i).map λc=>V.str (one c)))/\aF H H3) ⟨ag,h2.trans (aC hD2)⟩ (λi H3 _ z=>z.2.seq hS) ?_ ?_⟩
   ·rintro i x H3 hi ⟨h3,h4⟩;obtain⟨c,hc,rfl⟩:∃c,b[i]?=some c/\x=V.int c.toNat:=by
     unfold iv at hi;rw[List.getElem?_map] at hi;cases e:b[i]? with
     |none=>rw[e] at hi;cases hi
     |some z=>rw[e] at hi;exact⟨z,rfl,(Option.some.inj hi).symm⟩
    have hil:=(List.getElem?_eq_some_iff.mp hc).1;refine⟨rfl,?_⟩;refine yV ?_;refine⟨_,rfl,_,_,rfl,rfl,_,_,_,rfl,rfl,(by rw[hsz];decide+kernel),NW (hall c (List.mem_of_getElem? hc)),_,h3,?_,?_,?_⟩
    ·rw[List.length_map,List.length_take,hsz];omega
    ·rw[ag,take_snoc hc,List.map_append];rfl
    ·have hD2':H D2=none:=h2.free hD2;exact λb' o hb=>by rw[ah (au hb hD2')];exact h4 b' o hb
   ·rintro H3 ⟨h3,h4⟩;rw[aT,List.take_length] at h3;have e2:(b.map λc=>V.str (one c))=(b.map one).map V.str:=by rw[List.map_map];rfl
    refine⟨_,D2,b.map one,rfl,rfl,.inl (bh.of (by rw[<-e2];exact h3)),?_,?_⟩
    ·rw[JY,List.length_map];have:("":Str).length=0:=↑1
     rw[this];omega
    ·rw[TL.join_eq,join_one];have q:=k H3 h4;unfold qI at q;rw[if_pos z] at q;exact q
  ·have q:=k H2 h2;unfold qI at q;rw[if_neg z] at q;exact q
inductive ou(K:Frag)(CT CF:Addr)(pre:UInt8->Prop)(vs:List V)(H:Hp)(Q:VK)(E:XK):Prop
 |mk(a:Addr) (b:By) (p:Nat) (c:UInt8) (_:vs=[.ref a,.int p]) (_:bh K H a (iv b)) (_:b.length<=65536) (_:b[p]?=some c) (_:pre c) (_:(∀t s,tokenIn p (b.drop p)= .ok (t,s)->∀H' r,aF H H'->eE CT H' r t->Q (.ref r) H')) (_:(∀r q,tokenIn p (b.drop p)= .error (r,q)->∀H' e,aF H H'->ny CF H' e r q->E (.ref e) none H'))
theorem gv{K:Frag}{pre:UInt8->Prop}:∀vs H Q E,ou K CT CF pre vs H Q E->vs.length=(["text","place"]:List Str).length:=by rintro vs H Q E ⟨a,b,p,c,rfl,_⟩;rfl
theorem jK{H1:Hp}{t:EwTree.Tok}{kd:Int}{lk:Str}{st en:Int}{Q:VK}(k:∀H' r,aF H1 H'->eE CT H' r t->Q (.ref r) H')(e1:kd=t.kind)(e2:lk=bL t)(e3:st=t.place)(e4:en=t.halt_):
  ∀x dx,H1 x=none->H1 dx=none->dx≠x->Gz CT (.ref x::([V.int kd,.str lk,.int st,.int en]++[])) (upd (upd H1 dx (.own x)) x (.ins CT dx [])) (λv H2=>v= .bH/\Q (.ref x) H2) E0:=by
 intro x dx n1 n2 ne;refine⟨x,dx,kd,lk,st,en,rfl,ag,λH' h' fr=>⟨rfl,k H' x (aF.made n1 n2 fr) ⟨dx,?_⟩⟩⟩;rw[h',e1,e2,e3,e4]
def Ux(K:Frag)(w:World)(mg:Str->Option Value)(nm:Str)(l:List Str):Prop:=∃a,mg nm=some (.ref a)/\Sh K w.params a l
def T6(K:Frag)(mg:Str->Option Value)(nm:Str)(l:List (Int×Str)):Prop:=∃a,mg nm=some (.ref a)/\Sd K a l
abbrev Ee(P:Program)(w:World)(K:Frag)(mg:Str->Option Value)(base:Heap)(CT:Addr):Prop:=uL P w K mg base 1 "Token" CT ["self","kind","look","start","end"] (Gz CT)
abbrev wN(P:Program)(w:World)(K:Frag)(mg:Str->Option Value)(base:Heap)(CF:Addr):Prop:=KR P w K mg base 2 "Fault" CF ["self","rule","place"] (Iz CF)
theorem dD{b:By}{p:Nat}{c:UInt8}(h:b[p]?=some c):b.drop p=c::b.drop (p+1):=bp h
theorem Ig:ax ["text","place","end","word"] ["text","place"] (aq (top 69)):=↑3
theorem Qc(d:Def K mg "word_at" (top 69) ["text","place"])(ow:Ok P w K mg base bf 2 "in_word" ["byte"] (jc g_))(orn:Ok P w K mg base bf 4 "run_end" ["text","place","fits"] (kL P w K mg base))(os:Ok P w K mg base bf 2 "spelled" ["word"] (LM K))(nT:Ee P w K mg base CT)(nF:wN P w K mg base CF)(gk:Ux K w mg "KEYWORDS" Kk)(g0:GI mg "KEYWORD" 0)(g1:GI mg "NAME" 1)(gm:GI mg "MOST_NAME_BYTES" 31):
  Ok P w K mg base (g9 P w) 5 "word_at" ["text","place"] (ou K CT CF λc=>isSmall c=true):=d.ok λf fd F=>by
 refine F.um Ig gv (λUQ A outer s H vs Q E hr h=>?_);obtain⟨a,b,p,c,rfl,hS,hl,hc,pre,kq,ke⟩:=h;obtain⟨fw,mw,fits⟩:=fits_of ow ↑0 CM;obtain⟨ak,mk,tk⟩:=gk;obtain⟨fX,fdX,M,_⟩:=id nF.ex;have hp:p<b.length:=(List.getElem?_eq_some_iff.mp hc).1;have l1:aK isWordByte b p<=b.length:=dH _ (Nat.le_of_lt hp);have g2:p<=aK isWordByte b p:=bP _ _ _;have W:=JG (dD hc) pre;refine⟨_,aj (aN (i:=2) Ig.nd rfl (Or.inl rfl) (aM orn hr (aa (pv 0) (aa (pv 1) (aa (fQ mw) ao)))))
  (aj (aN (i:=3) Ig.nd rfl (Or.inl rfl) (aM os (hr.mono ↑0) (aa (dE eS (pv 0) (bV (pv 1)) (bV (pv 2))) ao)))
  (aj (aR (aD A2 (pv 3) (fQ mk) (by with_unfolding_all rfl)) (ai (aB (eK nT (hr.mono ↑0) (aa (cz g0) (aa (pv 3) (aa (pv 1) (aa (pv 2) ao))))))) aL)
  (aj (aR (aD oV (bz jV (pv 2) (pv 1)) (cz gm) (aJ _)) (ai (cn hr.hd (iD nF (hr.mono ↑0) (aa aw (aa (pv 1) ao))))) aL)
  (ai (aB (eK nT (hr.mono ↑0) (aa (cz g1) (aa bO (aa (pv 1) (aa (pv 2) ao)))))))))),?_⟩
 refine⟨_,rfl,_,rfl,a,b,p,fw,isWordByte,rfl,hS,Nat.le_of_lt hp,fits,?_⟩;refine⟨_,rfl,_,rfl,_,rfl,_,rfl,_,rfl,a,_,rfl,hS,λp1 n1=>?_⟩;have s1:=aC (o:=.lst (gB (iv b) (some (p:Int)) (some (aK isWordByte b p:Int)))) n1;refine⟨p1,cut b p (aK isWordByte b p),rfl,bh.of (by rw[<-qL l1 g2];exact ag),?_,λH2 s2=>?_⟩
 ·unfold cut;rw[List.length_take,List.length_drop];omega
 have s12:=s1.trans s2;refine⟨_,rfl,_,ak,_,rfl,rfl,tk,_,rfl,?_⟩;rw[EE];refine aU (λz1=>?_) λz1=>?_
 ·rw[if_pos z1] at W;refine⟨_,rfl,_,rfl,_,rfl,jK (λH' r s' h'=>kq _ _ W H' r (s12.trans s') h') rfl ?_ rfl rfl⟩;have hk:cut b p (aK isWordByte b p)∈EwTree.KEYWORDS:=by unfold EwTree.isKeyword at z1;exact List.contains_iff_mem.mp z1
  unfold qI bL;rw[if_pos (jO _ hk).1,if_pos rfl]
 rw[if_neg z1] at W;refine⟨_,rfl,_,rfl,_,_,rfl,rfl,_,_,rfl,rfl,_,rfl,?_⟩;refine aU (λz2=>?_) λz2=>?_
 ·have z2:=of_decide_eq_true z2;rw[if_neg ↑2] at W;exact⟨_,rfl,bI M λe H' s' h'=>ke _ _ W H' e (s12.trans s') h'⟩
 ·have z2:¬_:=λz=>z2 (decide_eq_true z);rw[if_pos ↑2] at W;exact⟨_,rfl,_,rfl,jK (λH' r s' h'=>kq _ _ W H' r (s12.trans s') h') rfl rfl rfl rfl⟩
theorem Eb{neg:Bool}{c:UInt8}{d:By}(hc:isDigit c=true):cF (cH (some (neg,c::d)))=c::d:=by
 have n1:isNeg (cH (some (neg,c::d)))=neg:=by
  cases neg with
  |true=>rfl
  |false=>
   refine decide_eq_false λz=>?_;have hz:((c.toNat:Nat):Int)=45:=z;unfold EwTree.isDigit at hc;simp only[Bool.and_eq_true,decide_eq_true_eq] at hc;have:=tU.mp hc.1;have h48:(48:UInt8).toNat=48:=rfl;omega
 unfold cF;rw[n1];cases neg <;> rfl
theorem Ly:ax ["text","place","end"] ["text","place"] (aq (top 71)):=↑3
theorem Qw(d:Def K mg "code_at" (top 71) ["text","place"])(ow:Ok P w K mg base bf 2 "in_code" ["byte"] (jc oZ))(orn:Ok P w K mg base bf 4 "run_end" ["text","place","fits"] (kL P w K mg base))(nT:Ee P w K mg base CT)(nF:wN P w K mg base CF)(g0:GI mg "CODE" 2)(g1:GI mg "LEAST_CODE_BYTES" 2)(gm:GI mg "MOST_CODE_BYTES" 8):
  Ok P w K mg base (g9 P w) 5 "code_at" ["text","place"] (ou K CT CF λc=>isSmall c=false/\isBig c=true):=d.ok λf fd F=>by
 refine F.um Ly gv (λUQ A outer s H vs Q E hr h=>?_);obtain⟨a,b,p,c,rfl,hS,hl,hc,pre,kq,ke⟩:=h;obtain⟨fw,mw,fits⟩:=fits_of ow ↑0 KA;obtain⟨fX,fdX,M,_⟩:=id nF.ex;have hp:p<b.length:=(List.getElem?_eq_some_iff.mp hc).1;have g2:p<=aK isCodeByte b p:=bP _ _ _;have W:=Kg (dD hc) pre.1 pre.2;refine⟨_,aj (aN (i:=2) Ly.nd rfl (Or.inl rfl) (aM orn hr (aa (pv 0) (aa (pv 1) (aa (fQ mw) ao)))))
  (aj (aR (GB g8 g8 (cz g1) (bz jV (pv 2) (pv 1)) (cz gm)) (ai (aB (eK nT (hr.mono ↑0) (aa (cz g0) (aa bO (aa (pv 1) (aa (pv 2) ao))))))) aL)
  (ai (cn hr.hd (iD nF (hr.mono ↑0) (aa aw (aa (pv 1) ao)))))),?_⟩
 refine⟨_,rfl,_,rfl,a,b,p,fw,isCodeByte,rfl,hS,Nat.le_of_lt hp,fits,?_⟩;refine⟨_,rfl,_,rfl,_,_,rfl,rfl,_,_,rfl,rfl,_,rfl,?_⟩;refine aU (λz1=>⟨_,_,rfl,rfl,_,rfl,aU (λz2=>?_) λz2=>?_⟩) λz1=>⟨_,rfl,dR ?_⟩
 ·have z1:=of_decide_eq_true z1;have z2:=of_decide_eq_true z2;rw[if_pos ↑2] at W;exact⟨_,rfl,_,rfl,jK (λH' r s' h'=>kq _ _ W H' r s' h') rfl rfl rfl rfl⟩
 ·have z2:¬_:=λz=>z2 (decide_eq_true z);rw[if_neg ↑2] at W;exact⟨_,rfl,bI M λe H' s' h'=>ke _ _ W H' e s' h'⟩
 ·have z1:¬_:=λz=>z1 (decide_eq_true z);rw[if_neg ↑2] at W;exact⟨_,rfl,bI M λe H' s' h'=>ke _ _ W H' e s' h'⟩
theorem Md:ax ["text","place","numeral"] ["text","place"] (aq (top 72)):=↑3
theorem qu{b:By}{i j:Nat}(hj:j<=b.length):(cut b i j).length=j - i:=by unfold cut;rw[List.length_take,List.length_drop];omega
theorem Ru{CN:Addr}(d:Def K mg "number_at" (top 72) ["text","place"])(T:E4 K CN)(on:Ok P w K mg base bf 6 "numeral_at" ["text","place"] (LJ K CN))(orr:Ok P w K mg base bf 2 "is_right" ["numeral"] (Dn CN))(osz:i5 P w K mg base 1 CN "size" ["self"] (xC CN))(nT:Ee P w K mg base CT)(nF:wN P w K mg base CF)(g0:GI mg "NUMBER" 3):
  Ok P w K mg base (g9 P w) 7 "number_at" ["text","place"] (ou K CT CF λc=>isSmall c=false/\isBig c=false/\isDigit c=true):=d.ok λf fd F=>by
 refine F.um Md gv (λUQ A outer s H vs Q E hr h=>?_);obtain⟨a,b,p,c,rfl,hS,hl,hc,pre,kq,ke⟩:=h;obtain⟨fX,fdX,M,_⟩:=id nF.ex;have hp:p<b.length:=(List.getElem?_eq_some_iff.mp hc).1;obtain⟨wd,W⟩:=Fp (dD hc) pre.1 pre.2.1 pre.2.2;have l1:EZ b p<=b.length:=dH _ (Nat.le_of_lt hp);have g1:p<=EZ b p:=bP _ _ _;obtain⟨_,_,g2,l2⟩:=wY b (EZ b p);have l2:=l2 l1;obtain⟨x1,x2,g3,l3,x5⟩:=Cf b (Ct b p);have l3:=l3 l2;have l4:NX b p<=b.length:=dH _ l3;have g4:II b p<=NX b p:=bP _ _ _;refine⟨_,aj (aN (i:=2) Md.nd rfl (Or.inl rfl) (aM on hr (aa (pv 0) (aa (pv 1) ao))))
  (aj (aR (dr (aM orr (hr.mono ↑0) (aa (pv 2) ao))) (ai (aB (eK nT (hr.mono ↑0) (aa (cz g0) (aa bO (aa (pv 1) (aa (bz cy (pv 1) (i6 (P:=P) osz T.cl (hr.mono ↑0) (pv 2))) ao))))))) aL)
  (ai (cn hr.hd (iD nF (hr.mono ↑0) (aa aw (aa (pv 1) ao)))))),?_⟩
 refine⟨_,rfl,_,rfl,a,b,p,rfl,hS,Nat.le_of_lt hp,λH1 r s1 hN=>?_⟩;refine⟨_,rfl,r,_,_,_,_,rfl,hN,?_,λH2 s2=>?_⟩
 ·intro z;have e1:cut b (Ct b p) (II b p)=cH (EwTree.expoIn (b.drop (Ct b p))).1:=x2;rw[e1] at z ⊢;cases hx:(EwTree.expoIn (b.drop (Ct b p))).1 with
  |none=>rw[hx] at z;exact absurd rfl z
  |some y=>
   obtain⟨c',d',y1,y2⟩:=x5 y hx;obtain⟨neg,ds⟩:=y;dsimp only at y1;subst y1;refine⟨?_,c',?_⟩
   ·cases neg <;> show 1<List.length _ <;> unfold cH <;> simp
   ·rw[Eb y2];rfl
 have s12:=s1.trans s2;have hN2:=hN.same s2;refine⟨_,rfl,aU (λz=>?_) λz=>?_⟩
 ·have W:=W.trans (if_pos z);obtain⟨dx,ad,af,ae,am,h1,_⟩:=id hN2;refine⟨_,rfl,_,rfl,_,rfl,r,dx,_,rfl,h1,Dc _ _ _ _,r,_,_,_,_,rfl,hN2,_,_,rfl,rfl,jK (λH' r' s' h'=>kq _ _ W H' r' (s12.trans s') h') rfl rfl rfl ?_⟩;rw[qu l1,qu (j:=Ct b p) l2,qu (j:=II b p) l3,qu l4];show((p:Nat):Int)+((_:Nat):Int)=((NX b p:Nat):Int)
  have g2':EZ b p<=Ct b p:=g2;have g3':Ct b p<=II b p:=g3;omega
 ·have W:=W.trans (if_neg z);exact⟨_,rfl,bI M λe H' s' h'=>ke _ _ W H' e (s12.trans s') h'⟩
inductive QF(K:Frag)(CF:Addr)(vs:List V)(H:Hp)(Q:VK)(E:XK):Prop
 |mk(a:Addr) (b:By) (p:Nat) (_:vs=[.ref a,.int p]) (_:bh K H a (iv b)) (_:p<=b.length) (_:(∀q,bq b p= .ok q->∀H',aF H H'->Q (.int q) H')) (_:(∀r q,bq b p= .error (r,q)->∀H' e,aF H H'->ny CF H' e r q->E (.ref e) none H'))
theorem Jo:ax ["text","place","byte","width"] ["text","place"] (aq (top 74)):=↑3
theorem Py(d:Def K mg "item_end" (top 74) ["text","place"])(ob:Ok P w K mg base bf 1 "byte_at" ["text","place"] (ik K))(op:Ok P w K mg base bf 1 "is_printable" ["byte"] (jc g7))(nF:wN P w K mg base CF)(ln:mg "len"=none)(gb:GI mg "BACKSLASH" 92)(gq:GI mg "QUOTE" 34)(gn:GI mg "SMALL_N" 110):Ok P w K mg base (g9 P w) 4 "item_end" ["text","place"] (QF K CF):=d.ok λf fd F=>by
 refine F.um Jo (by rintro vs H Q E ⟨a,b,p,rfl,_⟩;rfl) (λUQ A outer s H vs Q E hr h=>?_);obtain⟨a,b,p,rfl,hS,hp,kq,ke⟩:=h;obtain⟨fX,fdX,M,_⟩:=id nF.ex;refine⟨_,aj (aN (i:=2) Jo.nd rfl (Or.inl rfl) (aM ob (hr.mono ↑0) (aa (pv 0) (aa (pv 1) ao))))
  (aj (aN (i:=3) Jo.nd rfl (Or.inl rfl) (qY (aD cG (pv 2) (cz gb) (aJ _)) aw aw))
  (aj (aR (aD oV (bz cy (pv 1) (pv 3)) (bB ln (pv 0)) (aJ _)) (ai (cn hr.hd (iD nF hr (aa aw (aa (bB ln (pv 0)) ao))))) aL)
  (aj (aR (nU (aD cG (pv 3) aw (aJ _)) (i9 (Hw (dr (aM op (hr.mono ↑0) (aa (pv 2) ao)))))).pt (ai (cn hr.hd (iD nF hr (aa aw (aa (pv 1) ao))))) aL)
  (aj (aR (nU (aD cG (pv 3) aw (aJ _)) (i9 (aD xh (bA aX (pv 0) (bz cy (pv 1) aw) (λ_ _=>rfl)) (fW (aa (cz gq) (aa (cz gb) (aa (cz gn) ao)))) (by with_unfolding_all rfl)))).pt (ai (cn hr.hd (iD nF hr (aa aw (aa (pv 1) ao))))) aL)
  (ai (aB (bz cy (pv 1) (pv 3)))))))),?_⟩
 refine⟨_,rfl,_,rfl,a,b,p,rfl,hS,?_⟩;refine⟨_,rfl,rfl,_,rfl,?_⟩;rw[bt];have hlen:(iv b).length=b.length:=aT b;refine aU (λz=>?_) λz=>?_
 ·have z:=of_decide_eq_true z;have tw:two? b p=2:=by unfold two?;rw[if_pos z]
  refine⟨_,rfl,_,rfl,_,_,rfl,rfl,_,rfl,a,_,rfl,.inl hS,_,_,rfl,rfl,_,rfl,aU (λy=>?_) λy=>?_⟩
  ·have y:=of_decide_eq_true y;have W:bq b p= .error (3,b.length):=by unfold bq;rw[tw,if_pos ↑2]
   refine⟨_,rfl,a,_,rfl,.inl hS,?_⟩;rw[hlen];exact bI M λe H' s' h'=>ke _ _ W H' e s' h'
  ·have y:¬_:=λq=>y (decide_eq_true q);have hp1:p+1<b.length:=↑2
   have h1:b[p+1]?=some b[p+1]:=List.getElem?_eq_getElem hp1;have ix:vt (iv b) ((p:Int)+1)=some (.int b[p+1].toNat):=dM (p:=p+1) h1;refine⟨_,rfl,rfl,_,rfl,?_⟩;rw[bt];refine aU (λq=>absurd (of_decide_eq_true q) ↑0) λ_=>?_;refine dR ?_;refine⟨_,rfl,rfl,_,rfl,?_⟩;rw[bt];refine aU (λ_=>?_) λq=>absurd (decide_eq_true rfl) q;refine⟨_,rfl,_,rfl,_,_,rfl,rfl,a,_,_,_,rfl,rfl,hS,ix,(by show 3<=sizeLine;decide),λt ht=>?_⟩;have s1:=aC (o:=.tup [.int 34,.int 92,.int 110]) ht;refine⟨t,_,rfl,.inr (fN.of ag),rfl,rfl,_,rfl,?_⟩;have ei:CZ (.int b[p+1].toNat) [V.int 34,.int 92,.int 110]=decide (cQ b (p+1)=34\/cQ b (p+1)=92\/cQ b (p+1)=110):=by
    rw[show[V.int 34,.int 92,.int 110]=([34,92,110]:List Int).map V.int from rfl,qo,cj h1];simp only[List.mem_cons,List.not_mem_nil,or_false]
   rw[if_pos rfl,ei];refine aU (λq=>?_) λq=>?_
   ·have q:¬(cQ b (p+1)=34\/cQ b (p+1)=92\/cQ b (p+1)=110):=λx=>by rw[decide_eq_true x] at q;cases q
    have W:bq b p= .error (1,p):=by unfold bq;rw[tw,if_neg ↑2,if_neg ↑2,if_pos ⟨rfl,q⟩]
    exact⟨_,rfl,bI M λe H' s' h'=>ke _ _ W H' e (s1.trans s') h'⟩
   ·have q:cQ b (p+1)=34\/cQ b (p+1)=92\/cQ b (p+1)=110:=by
     apply Classical.byContradiction;intro x;rw[decide_eq_false x] at q;exact q rfl
    have W:bq b p= .ok (p+2):=by unfold bq;rw[tw,if_neg ↑2,if_neg ↑2,if_neg (λx=>x.2 q)]
    exact⟨_,rfl,_,rfl,_,_,rfl,rfl,kq _ W _ s1⟩
 ·have z:¬cQ b p=92:=λq=>z (decide_eq_true q);have tw:two? b p=1:=by unfold two?;rw[if_neg z]
  refine⟨_,rfl,_,rfl,_,_,rfl,rfl,_,rfl,a,_,rfl,.inl hS,_,_,rfl,rfl,_,rfl,aU (λy=>?_) λy=>?_⟩
  ·have y:=of_decide_eq_true y;have W:bq b p= .error (3,b.length):=by unfold bq;rw[tw,if_pos ↑2]
   refine⟨_,rfl,a,_,rfl,.inl hS,?_⟩;rw[hlen];exact bI M λe H' s' h'=>ke _ _ W H' e s' h'
  ·have y:¬_:=λq=>y (decide_eq_true q);refine⟨_,rfl,rfl,_,rfl,?_⟩;rw[bt];refine aU (λ_=>?_) λq=>absurd (decide_eq_true rfl) q;refine⟨_,rfl,_,rfl,_,rfl,aU (λq=>?_) λq=>?_⟩
   ·have q:g7 (cQ b p)=false:=by
     cases h:g7 (cQ b p) with
     |false=>rfl
     |true=>rw[h] at q;cases q
    have W:bq b p= .error (1,p):=by unfold bq;rw[tw,if_neg ↑2,if_pos ⟨rfl,q⟩]
    exact⟨_,rfl,bI M λe H' s' h'=>ke _ _ W H' e s' h'⟩
   ·have q:g7 (cQ b p)=true:=by
     cases h:g7 (cQ b p) with
     |true=>rfl
     |false=>rw[h] at q;exact absurd rfl q
    have W:bq b p= .ok (p+1):=by unfold bq;rw[tw,if_neg ↑2,if_neg (λx=>by rw[q] at x;cases x.2),if_neg ↑2]
    refine⟨_,rfl,rfl,_,rfl,?_⟩;rw[bt];refine aU (λq=>absurd (of_decide_eq_true q) ↑0) λ_=>?_;refine dR ?_;exact⟨_,rfl,_,rfl,_,_,rfl,rfl,kq _ W _ (aF.refl H)⟩
end
section
open EwTree (isSmall isBig isDigit isSeen isWordByte isCodeByte isMarkByte tokenIn itemsIn)
theorem H_{x:Except EwTree.Fault (EwTree.Bytes×Nat×EwTree.Bytes)}{e:EwTree.Fault}(h:E2 x= .error e):x= .error e:=by
 cases x with
 |error f=>exact congrArg Except.error (Except.error.inj h)
 |ok y=>cases h
theorem K_{x:Except EwTree.Fault (EwTree.Bytes×Nat×EwTree.Bytes)}{q:Nat}{r:EwTree.Bytes}(h:E2 x= .ok (q,r)):∃l,x= .ok (l,q,r):=by
 cases x with
 |error f=>cases h
 |ok y=>obtain⟨l,z⟩:=y;exact⟨l,by rw[show z=(q,r) from Except.ok.inj h]⟩
theorem zP:ax ["text","place","items","here"] ["text","place"] (aq (top 73)):=↑3
theorem Qh(d:Def K mg "text_at" (top 73) ["text","place"])(ob:Ok P w K mg base bf 1 "byte_at" ["text","place"] (ik K))(oi:Ok P w K mg base (g9 P w) 4 "item_end" ["text","place"] (QF K CF))(nT:Ee P w K mg base CT)(nF:wN P w K mg base CF)(ln:mg "len"=none)(g0:GI mg "TEXT" 4)(gq:GI mg "QUOTE" 34)(gm:GI mg "MOST_ITEMS" 1024):Ok P w K mg base (g9 P w) 5 "text_at" ["text","place"] (ou K CT CF λc=>c=34):=d.ok λf fd F=>by
 refine F.um zP gv (λUQ A outer s H vs Q E hr h=>?_);obtain⟨a,b,p,c,rfl,hS,hl,hc,rfl,kq,ke⟩:=h;obtain⟨fX,fdX,M,_⟩:=id nF.ex;have hp:p<b.length:=(List.getElem?_eq_some_iff.mp hc).1;have hlen:(iv b).length=b.length:=aT b;have T0:=Kh (dD hc);refine⟨_,aj (aN (i:=2) zP.nd rfl (Or.inl rfl) aw)
  (aj (aN (i:=3) zP.nd rfl (Or.inl rfl) (bz cy (pv 1) aw))
  (aj (fj (vL ⟨rfl,rfl,rfl⟩) (aD LX (aM ob (hr.mono ↑0) (aa (pv 0) (aa (pv 3) ao))) (cz gq) (aJ _))
   (aj (aR (nU (aD cG (pv 2) (cz gm) (aJ _)) (i9 (aD pb (pv 3) (bB ln (pv 0)) (aJ _)))).pt (ai (cn hr.hd (iD nF (hr.mono ↑0) (aa aw (aa (pv 3) ao))))) aL)
   (aj (aN (i:=3) zP.nd rfl (Or.inl rfl) (tG oi hr (uY λ_ _ _ z=>z) (aa (pv 0) (aa (pv 3) ao))))
   (ai (iE (i:=2) zP.nd rfl (Or.inl rfl) aw gX)))))
  (ai (aB (eK nT (hr.mono ↑0) (aa (cz g0) (aa bO (aa (pv 1) (aa (bz cy (pv 3) aw) ao))))))))),?_⟩
 refine⟨_,rfl,_,_,rfl,rfl,?_⟩;refine⟨λm σ H'=>∃(j k:Nat),m=b.length - j/\σ=[some (.ref a),some (.int p),some (.int k),some (.int j)]/\aF H H'/\p+1<=j/\j<=b.length/\k<=1024/\E2 (itemsIn 0 (p+1) (b.drop (p+1)))=E2 (itemsIn k j (b.drop j)),⟨_,p+1,0,rfl,rfl,aF.refl H,Nat.le_refl _,hp,↑0,rfl⟩,?_⟩;rintro m σ H1 ⟨j,k,rfl,rfl,s1,hpj,hj,hk,e⟩;refine⟨_,rfl,_,rfl,a,b,j,rfl,s1.seq hS,rfl,_,rfl,?_⟩;rw[bt];refine aU (λz=>?_) λz=>?_
 ·have z:¬cQ b j=34:=λq=>by rw[decide_eq_true q] at z;cases z
  refine⟨λσ' H2=>∃q:Nat,σ'=[some (.ref a),some (.int p),some (.int ((k+1:Nat):Int)),some (.int q)]/\aF H H2/\bq b j= .ok q/\(k<1024\/b.length<=j),?_,?_⟩
  ·rintro σ' H2 ⟨q,rfl,s2,hq,hkj⟩;obtain⟨q1,q2⟩:=Bv hq;refine⟨b.length - q,↑2,q,k+1,rfl,rfl,s2,↑2,q2,↑2,?_⟩;rw[e,HD z hkj hj,hq]
  ·
   have errF:(k<1024\/b.length<=j)->∀r q,bq b j= .error (r,q)->∀H2 x,aF H1 H2->ny CF H2 x r q->E (.ref x) none H2:=λhkj r q hq H2 x s2 h2=>by
    have W:E2 (itemsIn 0 (p+1) (b.drop (p+1)))= .error (r,q):=by rw[e,HD z hkj hj,hq]
    have W2:=H_ W;rw[W2] at T0;exact ke r q T0 H2 x (s1.trans s2) h2
   refine⟨_,rfl,rfl,_,rfl,?_⟩;rw[bt];refine aU (λy=>?_) λy=>?_
   ·have y:=of_decide_eq_true y;refine⟨_,rfl,_,rfl,a,_,rfl,.inl (s1.seq hS),_,_,rfl,rfl,_,rfl,aU (λx=>?_) λx=>?_⟩
    ·have x:=of_decide_eq_true x;rw[KD z ↑2 ↑2] at e;have W2:=H_ e;rw[W2] at T0;exact⟨_,rfl,bI M λx H' s' h'=>ke _ _ T0 H' x (s1.trans s') h'⟩
    ·have x:¬_:=λq=>x (decide_eq_true q);have hkj:k<1024\/b.length<=j:=.inr ↑2;exact⟨_,rfl,_,rfl,a,b,j,rfl,s1.seq hS,hj,λq hq H2 s2=>⟨_,rfl,_,_,rfl,rfl,q,rfl,s1.trans s2,hq,hkj⟩,errF hkj⟩
   ·have y:¬_:=λq=>y (decide_eq_true q);have hkj:k<1024\/b.length<=j:=.inl ↑2;exact dR ⟨_,rfl,_,rfl,a,b,j,rfl,s1.seq hS,hj,λq hq H2 s2=>⟨_,rfl,_,_,rfl,rfl,q,rfl,s1.trans s2,hq,hkj⟩,errF hkj⟩
 ·have z:cQ b j=34:=by
   apply Classical.byContradiction;intro x;rw[decide_eq_false x] at z;exact z rfl
  rw[Gu z] at e;obtain⟨l,W⟩:=K_ e;rw[W] at T0;exact⟨_,rfl,_,rfl,_,_,rfl,rfl,jK (λH' r s' h'=>kq _ _ T0 H' r (s1.trans s') h') rfl rfl rfl rfl⟩
theorem MQ(i:Int):(if(0:Int)>i then(0:Int) else i)=max i 0:=by
 by_cases h:(0:Int)>i
 ·rw[if_pos h];omega
 ·rw[if_neg h];omega
theorem LW:ax ["text","place","pair"] ["text","place"] (aq (top 75)):=↑3
theorem Q0(d:Def K mg "sign_at" (top 75) ["text","place"])(ob:Ok P w K mg base bf 1 "byte_at" ["text","place"] (ik K))(nT:Ee P w K mg base CT)(nF:wN P w K mg base CF)(mx:mg "max"=none)(g0:GI mg "SIGN" 5)(g1:T6 K mg "SIGNS_OF_ONE" Jv)(g2:T6 K mg "SIGNS_OF_TWO" Jt):
  Ok P w K mg base (g9 P w) 4 "sign_at" ["text","place"] (ou K CT CF λc=>isSmall c=false/\isBig c=false/\isDigit c=false/\c≠34):=d.ok λf fd F=>by
 refine F.um LW gv (λUQ A outer s H vs Q E hr h=>?_);obtain⟨a,b,p,c,rfl,hS,hl,hc,pre,kq,ke⟩:=h;obtain⟨fX,fdX,M,_⟩:=id nF.ex;obtain⟨a1,m1,t1⟩:=g1;obtain⟨a2,m2,t2⟩:=g2;obtain⟨W1,W2⟩:=Lh (dD hc) pre.1 pre.2.1 pre.2.2.1 pre.2.2.2;refine⟨_,aj (aN (i:=2) LW.nd rfl (Or.inl rfl) (bz cy (bz GL (bA aX (pv 0) (pv 1) (λ_ _=>rfl)) aw) (eB (uV rfl) (by rfl) mx boot_max (aa (aM ob (hr.mono ↑0) (aa (pv 0) (aa (bz cy (pv 1) aw) ao))) (aa aw ao)))))
  (aj (aR (aD Gj (pv 2) (fQ m2) (by with_unfolding_all rfl)) (ai (aB (eK nT (hr.mono ↑0) (aa (cz g0) (aa (bA R7 (fQ m2) (pv 2) (λ_ _=>rfl)) (aa (pv 1) (aa (bz cy (pv 1) aw) ao))))))) aL)
  (aj (aR (aD Gj (bA aX (pv 0) (pv 1) (λ_ _=>rfl)) (fQ m1) (by with_unfolding_all rfl)) (ai (aB (eK nT (hr.mono ↑0) (aa (cz g0) (aa (bA R7 (fQ m1) (bA aX (pv 0) (pv 1) (λ_ _=>rfl)) (λ_ _=>rfl)) (aa (pv 1) (aa (bz cy (pv 1) aw) ao))))))) aL)
  (ai (cn hr.hd (iD nF hr (aa aw (aa (pv 1) ao))))))),?_⟩
 refine⟨_,rfl,_,rfl,a,_,_,_,rfl,rfl,hS,dM hc,_,_,rfl,rfl,.inr ↑0,_,rfl,_,rfl,_,_,rfl,rfl,a,b,p+1,rfl,hS,_,_,rfl,_,_,rfl,rfl,?_⟩;have ep:(c.toNat:Int)*256+(if(0:Int)>cQ b (p+1) then(0:Int) else cQ b (p+1))=pairOf b p:=by
  unfold pairOf;rw[MQ,cj hc]
 refine⟨_,rfl,_,a2,_,rfl,rfl,t2,_,rfl,?_⟩;rw[ep];cases h2:lk Jt (pairOf b p) with
 |some x=>
  obtain⟨t,T1,T2,T3,T4,T5⟩:=W1 x h2;refine fY ⟨_,rfl,_,a2,_,x,rfl,rfl,t2,h2,_,rfl,_,rfl,_,_,rfl,rfl,jK (λH' r s' h'=>kq _ _ T1 H' r s' h') ?_ T5.symm ?_ ?_⟩
  ·rw[T2];rfl
  ·rw[T3]
  ·rw[T4];rfl
 |none=>
  obtain⟨W3,W4⟩:=W2 h2;refine dR ⟨_,rfl,_,rfl,a,_,_,_,rfl,rfl,hS,dM hc,_,a1,_,rfl,rfl,t1,_,rfl,?_⟩;rw[cj hc] at W3 W4;cases h1:lk Jv (c.toNat:Int) with
  |some x=>
   obtain⟨t,T1,T2,T3,T4,T5⟩:=W3 x h1;refine fY ⟨_,rfl,_,rfl,a,_,_,_,rfl,rfl,hS,dM hc,_,a1,_,x,rfl,rfl,t1,h1,_,rfl,_,rfl,_,_,rfl,rfl,jK (λH' r s' h'=>kq _ _ T1 H' r s' h') ?_ T5.symm ?_ ?_⟩
   ·rw[T2];rfl
   ·rw[T3]
   ·rw[T4];rfl
  |none=>
   have T0:=W4 h1;exact dR ⟨_,rfl,bI M λx H' s' h'=>ke _ _ T0 H' x s' h'⟩
theorem LV:ax ["text","place","byte"] ["text","place"] (aq (top 68)):=↑3
theorem PX(d:Def K mg "token_at" (top 68) ["text","place"])(o1:Ok P w K mg base bf 1 "is_small" ["byte"] (jc ic))(o2:Ok P w K mg base bf 1 "is_capital" ["byte"] (jc uB))(o3:Ok P w K mg base bf 1 "is_digit" ["byte"] (jc bZ))(ow:Ok P w K mg base (g9 P w) 5 "word_at" ["text","place"] (ou K CT CF λc=>isSmall c=true))(oc:Ok P w K mg base (g9 P w) 5 "code_at" ["text","place"] (ou K CT CF λc=>isSmall c=false/\isBig c=true))(on:Ok P w K mg base (g9 P w) 7 "number_at" ["text","place"] (ou K CT CF λc=>isSmall c=false/\isBig c=false/\isDigit c=true))(ot:Ok P w K mg base (g9 P w) 5 "text_at" ["text","place"] (ou K CT CF λc=>c=34))(os:Ok P w K mg base (g9 P w) 4 "sign_at" ["text","place"] (ou K CT CF λc=>isSmall c=false/\isBig c=false/\isDigit c=false/\c≠34))(gq:GI mg "QUOTE" 34):
  Ok P w K mg base (g9 P w) 8 "token_at" ["text","place"] (ou K CT CF λ_=>True):=d.ok λf fd F=>by
 refine F.um LV gv (λUQ A outer s H vs Q E hr h=>?_);obtain⟨a,b,p,c,rfl,hS,hl,hc,_,kq,ke⟩:=h;refine⟨_,aj (aN (i:=2) LV.nd rfl (Or.inl rfl) (bA aX (pv 0) (pv 1) (λ_ _=>rfl)))
  (aj (aR (dr (aM o1 (hr.mono ↑0) (aa (pv 2) ao))) (ai (aB (tG ow (hr.mono ↑0) (uY λ_ _ _ z=>z) (aa (pv 0) (aa (pv 1) ao))))) aL)
  (aj (aR (dr (aM o2 (hr.mono ↑0) (aa (pv 2) ao))) (ai (aB (tG oc (hr.mono ↑0) (uY λ_ _ _ z=>z) (aa (pv 0) (aa (pv 1) ao))))) aL)
  (aj (aR (dr (aM o3 (hr.mono ↑0) (aa (pv 2) ao))) (ai (aB (tG on hr (uY λ_ _ _ z=>z) (aa (pv 0) (aa (pv 1) ao))))) aL)
  (aj (aR (aD cG (pv 2) (cz gq) (aJ _)) (ai (aB (tG ot (hr.mono ↑0) (uY λ_ _ _ z=>z) (aa (pv 0) (aa (pv 1) ao))))) aL)
  (ai (aB (tG os (hr.mono ↑0) (uY λ_ _ _ z=>z) (aa (pv 0) (aa (pv 1) ao))))))))),?_⟩
 refine⟨_,rfl,_,rfl,a,_,_,_,rfl,rfl,hS,dM hc,?_⟩;refine⟨_,rfl,_,rfl,_,rfl,?_⟩;rw[r9];refine aU (λz1=>⟨_,rfl,_,rfl,a,b,p,c,rfl,hS,hl,hc,z1,kq,ke⟩) λz1=>?_;rw[Bool.not_eq_true] at z1;refine⟨_,rfl,_,rfl,_,rfl,?_⟩;rw[BX];refine aU (λz2=>⟨_,rfl,_,rfl,a,b,p,c,rfl,hS,hl,hc,⟨z1,z2⟩,kq,ke⟩) λz2=>?_;rw[Bool.not_eq_true] at z2;refine⟨_,rfl,_,rfl,_,rfl,?_⟩;rw[fF];refine aU (λz3=>⟨_,rfl,_,rfl,a,b,p,c,rfl,hS,hl,hc,⟨z1,z2,z3⟩,kq,ke⟩) λz3=>?_;rw[Bool.not_eq_true] at z3;refine⟨_,rfl,rfl,_,rfl,?_⟩;rw[bt];refine aU (λz4=>⟨_,rfl,_,rfl,a,b,p,c,rfl,hS,hl,hc,?_,kq,ke⟩) λz4=>⟨_,rfl,_,rfl,a,b,p,c,rfl,hS,hl,hc,⟨z1,z2,z3,?_⟩,kq,ke⟩
 ·exact jf.mpr (by have:=of_decide_eq_true z4;have h34:(34:UInt8).toNat=34:=rfl;omega)
 ·intro q;exact z4 (decide_eq_true (by rw[q];rfl))
end
section
open EwTree (isSmall isBig isDigit isSeen isWordByte isCodeByte isMarkByte tokenIn itemsIn isBlank)
theorem IG(c:UInt8):CZ (.int c.toNat) [V.int 32,.int 10,.int 59]=isBlank c:=by
 rw[show[V.int 32,.int 10,.int 59]=([32,10,59]:List Int).map V.int from rfl,qo];have h:∀(n:Nat)(m:UInt8),m.toNat=n->(((c.toNat:Int)=(n:Int))↔c=m):=λn m hm=>⟨λz=>jf.mpr ↑2,λz=>by rw[z];omega⟩
 have h1:((c.toNat:Int)=32)↔c=32:=h 32 32 rfl;have h2:((c.toNat:Int)=10)↔c=10:=h 10 10 rfl;have h3:((c.toNat:Int)=59)↔c=59:=h 59 59 rfl;unfold EwTree.isBlank;simp only[List.mem_cons,List.not_mem_nil,or_false,h1,h2,h3];by_cases z1:c=32 <;> by_cases z2:c=10 <;> by_cases z3:c=59 <;> simp[z1,z2,z3]
theorem IU{b:By}{j:Nat}(h:b[j]?=some 35):Tn j (b.drop j)=Tn (aK isSeen b j) (b.drop (aK isSeen b j)):=by rw[dD h,kK,<-dD h];have e:j+((b.drop j).takeWhile isSeen).length=aK isSeen b j:=rfl;rw[e,List.drop_drop];congr 2
theorem Ek{b:By}{j:Nat}(h:b[j]?=some 35):j<aK isSeen b j:=by rw[uZ h ↑1];have:=bP isSeen b (j+1);omega
inductive QO(K:Frag)(vs:List V)(H:Hp)(Q:VK)(E:XK):Prop
 |mk(a:Addr) (b:By) (p:Nat) (_:vs=[.ref a,.int p]) (_:bh K H a (iv b)) (_:p<=b.length) (_:∀(q:Nat) H',aF H H'->p<=q->q<=b.length->Tn p (b.drop p)=Tn q (b.drop q)->(∀c,b[q]?=some c->isBlank c=false/\c≠35)->Q (.int q) H')
theorem HE:ax ["text","place"] ["text","place"] (aq (top 67)):=↑3
theorem Qi(d:Def K mg "token_place" (top 67) ["text","place"])(op:Ok P w K mg base bf 1 "is_printable" ["byte"] (jc g7))(orn:Ok P w K mg base bf 4 "run_end" ["text","place","fits"] (kL P w K mg base))(ln:mg "len"=none)(gh:GI mg "HASH" 35)(gb:GI mg "BLANK" 32)(gl:GI mg "LINE_END" 10)(gs:GI mg "SEMICOLON" 59):Ok P w K mg base bf 5 "token_place" ["text","place"] (QO K):=d.ok λf fd F=>by
 refine F.ok HE (by rintro vs H Q E ⟨a,b,p,rfl,_⟩;rfl) (λUQ A outer s H vs Q E hr h=>?_);obtain⟨a,b,p,rfl,hS,hp,k⟩:=h;obtain⟨fp,mp,fits⟩:=fits_of op ↑0 Cu;have hlen:(iv b).length=b.length:=aT b;refine⟨_,aj (fj PassesOwn.never (aD pb (pv 1) (bB ln (pv 0)) (aJ _))
  (ai (aR (aD cG (bA aX (pv 0) (pv 1) (λ_ _=>rfl)) (cz gh) (aJ _)) (ai (aN (i:=1) HE.nd rfl (Or.inl rfl) (aM orn hr (aa (pv 0) (aa (pv 1) (aa (fQ mp) ao))))))
   (ai (aR (aD fh (bA aX (pv 0) (pv 1) (λ_ _=>rfl)) (fW (aa (cz gb) (aa (cz gl) (aa (cz gs) ao)))) (by with_unfolding_all rfl)) (ai (iE (i:=1) HE.nd rfl (Or.inl rfl) aw gX)) (ai (aB (pv 1))))))))
  (ai (aB (pv 1))),?_⟩
 refine⟨λm σ H'=>∃j:Nat,m=b.length - j/\σ=[some (.ref a),some (.int j)]/\aF H H'/\p<=j/\j<=b.length/\Tn p (b.drop p)=Tn j (b.drop j),⟨_,p,rfl,rfl,aF.refl H,Nat.le_refl _,hp,rfl⟩,?_⟩;rintro m σ H1 ⟨j,rfl,rfl,s1,hpj,hj,e⟩;have hS1:=s1.seq hS;refine⟨_,rfl,_,rfl,a,_,rfl,.inl hS1,_,_,rfl,rfl,_,rfl,aU (λh1=>?_) λh1=>?_⟩
 ·have hjl:j<b.length:=by rw[<-aT];exact P0 h1
  have hg:b[j]?=some b[j]:=List.getElem?_eq_getElem hjl;refine⟨λσ' H2=>∃q:Nat,σ'=[some (.ref a),some (.int q)]/\aF H H2/\j<q/\q<=b.length/\Tn p (b.drop p)=Tn q (b.drop q),?_,?_⟩
  ·rintro σ' H2 ⟨q,rfl,s2,q1,q2,e2⟩;exact⟨b.length - q,↑2,q,rfl,rfl,s2,↑2,q2,e2⟩
  refine⟨_,rfl,_,rfl,a,_,_,_,rfl,rfl,hS1,dM hg,rfl,_,rfl,?_⟩;rw[bt];refine aU (λz=>?_) λz=>?_
  ·have z:=of_decide_eq_true z;have z:b[j]=35:=jf.mpr (by have h35:(35:UInt8).toNat=35:=rfl;omega);rw[z] at hg;exact⟨_,rfl,_,rfl,a,b,j,fp,isSeen,rfl,hS1,Nat.le_of_lt hjl,fits,_,rfl,s1,Ek hg,dH _ hj,e.trans (IU hg)⟩
  ·have z:b[j]≠35:=λy=>z (decide_eq_true (by rw[y];rfl));refine⟨_,rfl,_,rfl,a,_,_,_,rfl,rfl,hS1,dM hg,(by show 3<=sizeLine;decide),λt ht=>?_⟩;have s2:=aC (o:=.tup [.int 32,.int 10,.int 59]) ht;refine⟨t,_,rfl,.inr (fN.of ag),rfl,rfl,CZ (.int ((b[j].toNat:Nat):Int)) [.int 32,.int 10,.int 59],rfl,?_⟩;rw[IG];refine aU (λy=>?_) λy=>?_
   ·refine⟨_,rfl,_,_,rfl,rfl,j+1,rfl,s1.trans s2,Nat.lt_succ_self _,hjl,?_⟩;rw[e,dD hg,iI y]
   ·rw[Bool.not_eq_true] at y;refine⟨_,rfl,k j _ (s1.trans s2) hpj hj e λc hc=>?_⟩;rw[hg] at hc;cases hc;exact⟨y,z⟩
 ·have hn:b[j]?=none:=List.getElem?_eq_none_iff.mpr (by rw[<-aT];exact PY h1);refine⟨_,rfl,k j _ s1 hpj hj e λc hc=>?_⟩;rw[hn] at hc;cases hc
abbrev Lm:Stmt:=inClass (top 65) 0
def sf(fo fa:V):List (Str×V):=aW "fault" fa (aW "found" fo [])
theorem gj(fo fa:V):(sf fo fa).lookup ("found":Str)=some fo:=by unfold sf;rw[aA,if_neg ↑1,aA,if_pos rfl]
theorem lh(fo fa:V):(sf fo fa).lookup ("fault":Str)=some fa:=by unfold sf;rw[aA,if_pos rfl]
structure w6(K:Frag)(C:Addr):Prop where
 cl:tV K C
 nf:aE K C "found"
 na:aE K C "fault"
def RO(H:Hp)(fa:V):Option EwTree.Fault->Prop
 |none=>fa= .bH
 |some (r,q)=>∃t,fa= .ref t/\H t=some (.tup [.int (r:Nat),.int (q:Nat)])
inductive iw(CS CT:Addr)(H:Hp)(r:Addr)(ts:List EwTree.Tok)(fl:Option EwTree.Fault):Prop
 |mk(dx:_) (l:_) (fa:_) (rs:_) (_:H r=some (.ins CS dx (sf (.ref l) fa))) (_:H l=some (.lst (rs.map V.ref))) (_:Paired (λx t=>eE CT H x t) rs ts) (_:RO H fa fl)
theorem eE.same{H':Hp}{r:Addr}{t:EwTree.Tok}(s:aF H H')(h:eE C H r t):eE C H' r t:=by obtain⟨dx,e⟩:=h;exact⟨dx,s _ _ e⟩
theorem iw.same{CS:Addr}{H':Hp}{r:Addr}{ts:List EwTree.Tok}{fl:Option EwTree.Fault}(s:aF H H')(h:iw CS CT H r ts fl):iw CS CT H' r ts fl:=by
 obtain⟨dx,l,fa,rs,h1,h2,h3,h4⟩:=h;refine⟨dx,l,fa,rs,s _ _ h1,s _ _ h2,L2.Paired.imp' (λ_ _ z=>eE.same s z) h3,?_⟩
 match fl,h4 with
 |none,z=>exact z
 |some (r,q),⟨t,z1,z2⟩=>exact⟨t,z1,s _ _ z2⟩
inductive Ah(C:Addr)(vs:List V)(H:Hp)(Q:VK)(E:XK):Prop
 |mk(p dx:Addr) (fo fa:V) (_:vs=[.ref p,fo,fa]) (_:H p=some (.ins C dx [])) (_:∀H',H' p=some (.ins C dx (sf fo fa))->FI p H H'->Q .bH H')
theorem Od:ax ["self","found","fault"] ["self","found","fault"] (aq Lm):=↑3
theorem DN{f:Addr}(F:js K "__init__" "Scanned.__init__" Lm f fd)(T:w6 K C):zA P w K mg base 1 f fd ["self","found","fault"] (Ah C):=by refine F.Ut Od (by rintro vs H Q E ⟨p,dx,fo,fa,rfl,_⟩;rfl) (λUQ A outer s H vs Q E h=>?_);obtain⟨p,dx,fo,fa,rfl,h1,k⟩:=h;refine⟨_,aj (bE (pv 0) (pv 1) rfl) (ai (bE (pv 0) (pv 2) rfl)),?_⟩;refine⟨_,rfl,_,rfl,p,C,dx,[],rfl,h1,T.cl,T.nf,(by show 0<1000;decide),_,rfl,_,rfl,p,C,dx,_,rfl,ag,T.cl,T.na,Nat.lt_of_le_of_lt (aG _ _ _) (by show 1<1000;decide),?_⟩;exact k _ ag λb o hb hp=>by rw[ah hp,ah hp];exact hb
abbrev MY(K:Frag)(mg:Str->Option Value)(C:Addr):Prop:=yf K mg "Scanned" "Scanned.__init__" Lm C ["self","found","fault"]
theorem NY(d:MY K mg C)(T:w6 K C):uL P w K mg base 1 "Scanned" C ["self","found","fault"] (Ah C):=d.new λf fd F=>(DN F T).ok
theorem LQ{CS:Addr}{H1:Hp}{l:Addr}{fa:V}{rs:List Addr}{ts:List EwTree.Tok}{fl:Option EwTree.Fault}{Q:VK}(h2:H1 l=some (.lst (rs.map V.ref)))(h3:Paired (λx t=>eE CT H1 x t) rs ts)(h4:RO H1 fa fl)(k:∀H' r,aF H1 H'->iw CS CT H' r ts fl->Q (.ref r) H'):
  ∀x dx,H1 x=none->H1 dx=none->dx≠x->Ah CS (.ref x::([V.ref l,fa]++[])) (upd (upd H1 dx (.own x)) x (.ins CS dx [])) (λv H2=>v= .bH/\Q (.ref x) H2) E0:=by
 intro x dx n1 n2 ne;refine⟨x,dx,.ref l,fa,rfl,ag,λH' h' fr=>⟨rfl,?_⟩⟩;have s:=aF.made n1 n2 fr;refine k H' x s ⟨dx,l,fa,rs,h',s _ _ h2,L2.Paired.imp' (λ_ _ z=>eE.same s z) h3,?_⟩
 match fl,h4 with
 |none,z=>exact z
 |some (r,q),⟨t,z1,z2⟩=>exact⟨t,z1,s _ _ z2⟩
inductive Ht(K:Frag)(CS CT:Addr)(vs:List V)(H:Hp)(Q:VK)(E:XK):Prop
 |mk(a:Addr) (b:By) (_:vs=[.ref a]) (_:bh K H a (iv b)) (_:b.length<=65536) (_:∀H' r,aF H H'->iw CS CT H' r (Tn 0 b).1 (Tn 0 b).2->Q (.ref r) H')
theorem ja:ax ["text","found","place","token","e"] ["text"] (aq (top 66)):=↑3
def zc:Stmt->List Stmt
 | .Try _ [.ExceptHandler _ _ b _] _ _ _=>b
 |_=>[]
def RS(CT CF:Addr)(b:By)(a:Addr)(H0:Hp):L2.St->Addr->Hp->Prop:=λσ e H'=>∃(l:Addr)(pl tk:Option V)(rs:List Addr)(ts:List EwTree.Tok)(r q:Nat),σ=[some (.ref a),some (.ref l),pl,tk,none]/\H' l=some (.lst (rs.map V.ref))/\Paired (λx t=>eE CT H' x t) rs ts/\
 Tn 0 b=(ts,some (r,q))/\ny CF H' e r q/\aF H0 H'
theorem KY{CS:Addr}(d:Def K mg "scan" (top 66) ["text"])(dS:MY K mg CS)(TS:w6 K CS)(TT:wM K CT)(TF:BL K CF)(otp:Ok P w K mg base bf 5 "token_place" ["text","place"] (QO K))(ota:Ok P w K mg base (g9 P w) 8 "token_at" ["text","place"] (ou K CT CF λ_=>True))(ln:mg "len"=none)(mf:mg "Fault"=some (.ref CF))(xf:PySem.W.exmOne K (.ref CF) (.ref CF)=some true):
    Ok P w K mg base bf 9 "scan" ["text"] (Ht K CS CT):=d.ok λf fd F=>by
  refine F.Uh ja (by rintro vs H Q E ⟨a,b,rfl,_⟩;rfl) (λUQ A outer s H vs Q E hr h=>?_);obtain⟨a,b,rfl,hS,hl,k⟩:=h;obtain⟨fS,fdS,MS,FS,bS,mS⟩:=id dS.ex;have nS:uL P w K mg base 1 "Scanned" CS ["self","found","fault"] (Ah CS):=NY dS TS;have rh:tR 2 (A.deeper (envOfC "scan" (aq (top 66)) s.heap.objs.size f UQ)):=(hr.mono ↑0).h;have hs:∀e,rT (sx (iQ bf P w K mg base ["text","found","place","token","e"] "scan" (aq (top 66)) f UQ A outer s H E).LL e) (zc ((bX (top 66)).getD 1 (.Pass ⟨0,0,0,0⟩)))
      (pD (uH CS (Ah CS) [] E0 (bT (df 1) (bT (Lb (bT (Dl K (df 4) "rule") (bT (Dl K (df 4) "place") d4))) d4)))):=λe=>
    ai (aB (HX MS (DN FS TS) ⟨rh.dp,rh.un⟩ (by rfl) mS bS (aa (pv 1) (aa (fW (aa (xQ (pv 4) rfl) (aa (xQ (pv 4) rfl) ao))) ao))))
  refine⟨_,nY (PS.Sk (aN (i:=1) ja.nd rfl (Or.inl rfl) (bx ao))) (nY (DS (i:=4) (R:=RS CT CF b a H) ⟨rfl,rfl,rfl⟩
      (aj (aN (i:=2) ja.nd rfl (Or.inl rfl) (aM otp (hr.mono ↑0) (aa (pv 0) (aa aw ao))))
       (ai (fj (vL ⟨rfl,rfl,rfl⟩) (aD pb (pv 2) (bB ln (pv 0)) (aJ _))
        (aj (aN (i:=3) ja.nd rfl (Or.inl rfl) (m7 ota hr (aa (pv 0) (aa (pv 2) ao))))
        (aj (aS (fK PySem.F.plainAttrs_list PySem.F.slot_list_append PySem.F.type_list_append cZ (pv 1) (aa (pv 3) ao)))
        (ai (aN (i:=2) ja.nd rfl (Or.inl rfl) (aM otp (hr.mono ↑0) (aa (pv 0) (aa (ay (pv 3) rfl) ao))))))))))
      hs
      ja.nd rfl rfl rfl mf) (rT.Sk (ai (aB (eK nS (hr.mono ↑0) (aa (pv 1) (aa BB ao))))))),?_⟩
  refine⟨Nat.zero_le _,λl hl0=>⟨?_,?_⟩⟩
  · have s0:=aC (o:=.lst []) hl0;refine⟨_,rfl,a,b,0,rfl,s0.seq hS,Nat.zero_le _,λq0 H1 s1 _ hq0 e0 hb0=>?_⟩;refine⟨λm σ H'=>∃(j:Nat)(tk:Option V)(rs:List Addr)(ts:List EwTree.Tok),m=b.length - j/\σ=[some (.ref a),some (.ref l),some (.int j),tk,none]/\H' l=some (.lst (rs.map V.ref))/\Paired (λx t=>eE CT H' x t) rs ts/\aF H H'/\
      j<=b.length/\rs.length<=j/\Tn 0 b=(ts++(Tn j (b.drop j)).1,(Tn j (b.drop j)).2)/\∀c,b[j]?=some c->isBlank c=false/\c≠35,
      ⟨_,q0,none,[],[],rfl,rfl,s1 _ _ ag,Paired.nil,s0.trans s1,hq0,Nat.zero_le _,?_,hb0⟩,?_⟩
    · rw[<-e0];rfl
    rintro m σ H2 ⟨j,tk,rs,ts,rfl,rfl,hL,hP,s2,hj,hrs,eT,hb⟩;have hS2:=s2.seq hS;refine⟨_,rfl,_,rfl,a,_,rfl,.inl hS2,_,_,rfl,rfl,_,rfl,aU (λh1=>?_) λh1=>?_⟩
    · have hjl:j<b.length:=by rw[<-aT];exact P0 h1
      have hg:b[j]?=some b[j]:=List.getElem?_eq_getElem hjl;obtain⟨hb1,hb2⟩:=hb _ hg;refine⟨_,λ_ _ z=>z,?_⟩;have eT1:=nB (p:=j) (r:=b.drop (j+1)) hb1 hb2;rw[<-dD hg] at eT1;refine⟨_,rfl,_,rfl,a,b,j,b[j],rfl,hS2,hl,hg,trivial,λt sx' ht H3 r s3 hT=>?_,λr q ht H3 e s3 hF=>?_⟩
      · obtain⟨t1,t2,t3,t4⟩:=iR ht;rw[List.length_drop] at t3;rw[ht] at eT1;have hL3:=s3 _ _ hL;obtain⟨dx,hTa⟩:=hT;have hrl:r≠l:=dA hTa hL3 (by intro z;cases z);have hsz:sizeLine=16777216:=sizeLine_eq;refine⟨_,rfl,.inl ⟨rfl,_,bh.of hL3⟩,_,rfl,l,_,_,rfl,rfl,hL3,(by rw[List.length_map,hsz];omega),?_⟩;have s4:aF H (upd H3 l (.lst (rs.map V.ref++[V.ref r]))):=λb' o hb'=>by rw[ah (au hb' hl0)];exact s3 _ _ (s2 _ _ hb')
        refine⟨_,rfl,rV rfl (rf ((by rw[ah hrl];exact hTa)) TT.cl TT.ne (vU _ _ _ _) ⟨a,b,t.halt_,rfl,s4.seq hS,↑2,λq H5 s5 q1 q2 e5 hb5=>?_⟩)⟩;refine⟨b.length - q,↑2,q,some (.ref r),rs++[r],ts++[t],rfl,rfl,?_,?_,s4.trans s5,q2,(by rw[List.length_append];simp;omega),?_,hb5⟩
        · rw[s5 _ _ ag,List.map_append];rfl
        · refine Paired.snoc ?_ ?_
          · refine L2.Paired.imp' (λx u z=>?_) hP;obtain⟨dz,hz⟩:=z;have hxl:x≠l:=dA hz hL (by intro z;cases z);exact⟨dz,s5 _ _ (by rw[ah hxl];exact s3 _ _ hz)⟩
          · exact⟨dx,s5 _ _ (by rw[ah hrl];exact hTa)⟩
        · rw[eT,eT1,List.append_assoc,<-e5];have et:(b.drop j).drop (t.halt_ - j)=b.drop t.halt_:=by rw[List.drop_drop];congr 1;omega
          rw[t4,et];rfl
      · rw[ht] at eT1;refine⟨e,rfl,l,_,_,rs,ts,r,q,rfl,s3 _ _ hL,L2.Paired.imp' (λx u z=>eE.same s3 z) hP,?_,hF,s2.trans s3⟩;rw[eT,eT1,List.append_nil]
    · have hn:b.length<=j:=by rw[<-aT];exact PY h1
      rw[List.drop_eq_nil_of_le hn,gP,List.append_nil] at eT;refine⟨_,rfl,LQ (fl:=none) hL hP rfl λH' r s' h'=>k H' r (s2.trans s') ?_⟩;rw[eT];exact h'
  · rintro e σ' H' he ⟨l',pl,tk,rs,ts,r,q,rfl,hL,hP,eT,⟨dF,lF,f1,f2,f3⟩,s2⟩;refine⟨⟨CF,some dF,f1,xf⟩,?_⟩;refine⟨_,rfl,_,rfl,e,CF,dF,_,_,rfl,f1,f2,TF.x,TF.nr,J' _ _ _,_,rfl,e,CF,dF,_,_,rfl,f1,f2,TF.x,TF.np,Im _ _ _,(by show 2<=sizeLine;decide),λt ht=>?_⟩;have s3:=aC (o:=.tup [.int (r:Nat),.int (q:Nat)]) ht;refine LQ (fl:=some (r,q)) (s3 _ _ hL) (L2.Paired.imp' (λx u z=>eE.same s3 z) hP) ⟨t,rfl,ag⟩ λH4 x s4 h4=>k H4 x (s2.trans (s3.trans s4)) ?_;rw[eT];exact h4
theorem Hr:∀(n:Nat)(p:Nat)(b:By),b.length<=n->(Tn p b).1.length<=b.length:=by
 intro n;induction n with
 |zero=>
  intro p b hb;have:b=[]:=List.eq_nil_of_length_eq_zero ↑2;subst this;rw[gP];exact Nat.le_refl _
 |succ n ih=>
  intro p b hb;cases b with
  |nil=>rw[gP];exact Nat.le_refl _
  |cons c r=>
   simp only[List.length_cons] at hb ⊢;cases h1:isBlank c with
   |true=>rw[iI h1];have:=ih (p+1) r ↑2;omega
   |false=>
    by_cases h2:c=35
    ·subst h2;rw[kK,List.takeWhile_cons,if_pos ↑0,List.length_cons,List.drop_succ_cons];have:=ih (p+((r.takeWhile isSeen).length+1)) (r.drop (r.takeWhile isSeen).length) (by rw[List.length_drop];omega);rw[List.length_drop] at this;omega
    ·rw[nB h1 h2];cases e:tokenIn p (c::r) with
     |error z=>exact Nat.zero_le _
     |ok x=>
      obtain⟨u,s⟩:=x;obtain⟨q1,q2,q3,q4⟩:=iR e;have hs:s.length<=r.length:=by rw[q4,List.length_drop,List.length_cons];omega
      have:=ih u.halt_ s ↑2;dsimp only;rw[List.length_cons];omega
inductive xx(K:Frag)(CR:Addr)(H:Hp)(e:Addr)(ns:List Int):Prop
 |mk(C:_) (d:_) (l:_) (fs:_) (_:sj K C) (_:aE K C "numbers") (_:PySem.W.exmOne K (.ref C) (.ref CR)=some true) (_:H e=some (jT e C (some d))) (_:H d=some (v8 d fs)) (_:fs.lookup ("numbers":Str)=some (.ref l)) (_:H l=some (.lst (ns.map V.int)))
structure PU(P:Program)(w:World)(K:Frag)(mg:Str->Option Value)(base:Heap)(nm:Str)(C CR:Addr)(ns:List Int):Prop where
 nw:KR P w K mg base 2 nm C ["self"] (JM K ns)
 x:sj K C
 nn:aE K C "numbers"
 is:PySem.W.exmOne K (.ref C) (.ref CR)=some true
theorem zr{CR fX:Addr}{nm:Str}{ns:List Int}{H1:Hp}{R:Addr->Hp->Prop}(T:PU P w K mg base nm C CR ns)(M:Ir K C fX)(k:∀e H',aF H1 H'->xx K CR H' e ns->R e H'):
  ([]:List V).length<=1000/\∀e,H1 e=none->JM K ns (.ref e::(([]:List V)++[])) (upd H1 e (eV e C none)) (λv H2=>v= .bH/\∃e' C' f' dx,V.ref e= .ref e'/\H2 e'=some (eV e' C' dx)/\Ir K C' f'/\R e' (upd H2 e' (jT e' C' dx))) E0:=by
 refine⟨Nat.zero_le _,λe he=>⟨e,C,rfl,ag,T.x,T.nn,λH' nu fr=>⟨rfl,?_⟩⟩⟩;obtain⟨d,l,hde,hd0,a1,a2,a3⟩:=nu;have s1:aF H1 (upd H' e (jT e C (some d))):=λb o hb=>by
  have hbe:=au hb he;rw[ah hbe];exact fr b o (by rw[ah hbe];exact hb) hbe
 have hle:l≠e:=dA a3 a1 (by intro z;cases z);exact⟨e,C,fX,some d,rfl,a1,M,k e _ s1 ⟨C,d,l,_,T.x,T.nn,T.is,ag,by rw[ah hde];exact a2,rfl,by rw[ah hle];exact a3⟩⟩
inductive Rq(K:Frag)(CR:Addr)(vs:List V)(H:Hp)(Q:VK)(E:XK):Prop
 |mk(a:Addr) (b:By) (_:vs=[.ref a]) (_:bh K H a (iv b)) (_:(65536<b.length->∀H' e,aF H H'->xx K CR H' e [-1]->E (.ref e) none H')) (_:(b.length<=65536->Q .bH H))
theorem Pp:ax ["text"] ["text"] (aq (top 98)):=↑3
theorem P1{CR CL:Addr}(d:Def K mg "refuse_long" (top 98) ["text"])(tl:PU P w K mg base "TooLong" CL CR [-1])(ln:mg "len"=none)(gb:GI mg "MOST_BYTES_calls" 65536):Ok P w K mg base (g9 P w) 4 "refuse_long" ["text"] (Rq K CR):=d.ok λf fd F=>by
 refine F.um Pp (by rintro vs H Q E ⟨a,b,rfl,_⟩;rfl) (λUQ A outer s H vs Q E hr h=>?_);obtain⟨a,b,rfl,hS,k1,k3⟩:=h;obtain⟨fL,_,ML,_⟩:=id tl.nw.ex;refine⟨_,ai (aR (aD oV (bB ln (pv 0)) (cz gb) (aJ _)) (ai (cn hr.hd (IY tl.nw (hr.mono ↑0)))) aL),?_⟩;refine⟨_,rfl,a,_,rfl,.inl hS,_,_,rfl,rfl,_,rfl,aU (λz=>?_) λz=>?_⟩
 ·have z:=of_decide_eq_true z;rw[aT] at z;exact zr tl ML λe H' s' h'=>k1 ↑2 H' e s' h'
 ·have z:¬_:=λy=>z (decide_eq_true y);rw[aT] at z;exact k3 ↑2
inductive Qg(K:Frag)(CS CT CR:Addr)(vs:List V)(H:Hp)(Q:VK)(E:XK):Prop
 |mk(a:Addr) (b:By) (_:vs=[.ref a]) (_:bh K H a (iv b)) (_:b.length<=65536) (_:(100<EwTree.depth b->∀H' e,aF H H'->xx K CR H' e [-6]->E (.ref e) none H')) (_:(¬100<EwTree.depth b->∀H' r,aF H H'->iw CS CT H' r (Tn 0 b).1 (Tn 0 b).2->Q (.ref r) H'))
theorem LK:ax ["text","scanned"] ["text"] (aq (top 99)):=↑3
theorem Q7{CS CR CD:Addr}(d:Def K mg "scan_shallow" (top 99) ["text"])(TS:w6 K CS)(os:Ok P w K mg base bf 9 "scan" ["text"] (Ht K CS CT))(od:Ok P w K mg base bf 4 "depth" ["found"] (L8 K CT))(td:PU P w K mg base "TooDeep" CD CR [-6])(gd:GI mg "MOST_DEPTH" 100):Ok P w K mg base (g9 P w) 10 "scan_shallow" ["text"] (Qg K CS CT CR):=d.ok λf fd F=>by
 refine F.um LK (by rintro vs H Q E ⟨a,b,rfl,_⟩;rfl) (λUQ A outer s H vs Q E hr h=>?_);obtain⟨a,b,rfl,hS,hl,k2,k3⟩:=h;obtain⟨fD,_,MD,_⟩:=id td.nw.ex;refine⟨_,aj (aN (i:=1) LK.nd rfl (Or.inl rfl) (aM os hr (aa (pv 0) ao)))
  (aj (aR (aD oV (aM od (hr.mono ↑0) (aa (ay (pv 1) rfl) ao)) (cz gd) (aJ _)) (ai (cn hr.hd (IY td.nw (hr.mono ↑0)))) aL)
  (ai (aB (pv 1)))),?_⟩
 refine⟨_,rfl,a,b,rfl,hS,hl,λH1 r s1 hA=>?_⟩;obtain⟨dx,l,fa,rs,a1,a2,a3,a4⟩:=id hA;have hln:=Hr b.length 0 b (Nat.le_refl _);refine rV rfl (rf a1 TS.cl TS.nf (gj _ _) ⟨l,rs,_,rfl,bh.of a2,a3,tu b.length 0 b (Nat.le_refl _),↑2,λH2 s2=>?_⟩);have ed:(cT (Tn 0 b).1).2=EwTree.depth b:=by rw[E8];rfl
 rw[ed];refine⟨_,_,rfl,rfl,_,rfl,aU (λy=>?_) λy=>?_⟩
 ·have y:=of_decide_eq_true y;exact zr td MD λe H' s' h'=>k2 ↑2 H' e (s1.trans (s2.trans s')) h'
 ·have y:¬_:=λq=>y (decide_eq_true q);exact⟨_,rfl,k3 ↑2 _ r (s1.trans s2) (hA.same s2)⟩
inductive Ln(K:Frag)(CS CT CR:Addr)(vs:List V)(H:Hp)(Q:VK)(E:XK):Prop
 |mk(a:Addr) (b:By) (_:vs=[.ref a]) (_:bh K H a (iv b)) (_:(65536<b.length->∀H' e,aF H H'->xx K CR H' e [-1]->E (.ref e) none H')) (_:(b.length<=65536->100<EwTree.depth b->∀H' e,aF H H'->xx K CR H' e [-6]->E (.ref e) none H')) (_:(b.length<=65536->¬100<EwTree.depth b->∀H' r,aF H H'->iw CS CT H' r (Tn 0 b).1 (Tn 0 b).2->Q (.ref r) H'))
theorem Pw:ax ["text"] ["text"] (aq (top 97)):=↑3
theorem RL{CS CR:Addr}(d:Def K mg "scan_allowed" (top 97) ["text"])(orl:Ok P w K mg base (g9 P w) 4 "refuse_long" ["text"] (Rq K CR))(oss:Ok P w K mg base (g9 P w) 10 "scan_shallow" ["text"] (Qg K CS CT CR)):
  Ok P w K mg base (g9 P w) 11 "scan_allowed" ["text"] (Ln K CS CT CR):=d.ok λf fd F=>by
 refine F.um Pw (by rintro vs H Q E ⟨a,b,rfl,_⟩;rfl) (λUQ A outer s H vs Q E hr h=>?_);obtain⟨a,b,rfl,hS,k1,k2,k3⟩:=h;refine⟨_,aj (aS (m7 orl (hr.mono ↑0) (aa (pv 0) ao))) (ai (aB (m7 oss hr (aa (pv 0) ao)))),?_⟩;refine⟨_,rfl,a,b,rfl,hS,λz H' e s' h'=>⟨e,rfl,k1 z H' e s' h'⟩,λz=>?_⟩;exact⟨_,rfl,a,b,rfl,hS,z,λy H' e s' h'=>⟨e,rfl,k2 z y H' e s' h'⟩,λy H' r s' h'=>k3 z y H' r s' h'⟩
end
def uA(n k:Nat):List Int:=(List.range k).map λi=>((n / 256 ^ i % 256:Nat):Int)
theorem Ed(n k:Nat):uA n (k+1)=uA n k++[((n / 256 ^ k % 256:Nat):Int)]:=by unfold uA;rw[List.range_succ,List.map_append];rfl
theorem K7(n k:Nat):Builtin.bitAnd ((n:Int) / 2 ^ (8*((0:Int)+(k:Int))).toNat) 255=((n / 256 ^ k % 256:Nat):Int):=by rw[bitAnd_m8,show(8*((0:Int)+(k:Int))).toNat=8*k by omega,show(2:Int) ^ (8*k)=((2 ^ (8*k):Nat):Int) by norm_cast,Nat.pow_mul];rfl
inductive DP(vs:List V)(H:Hp)(Q:VK)(E:XK):Prop
 |mk(n k:Nat) (_:vs=[.int n,.int k]) (_:k<=8) (_:∀H' r,aF H H'->H' r=some (.lst ((uA n k).map V.int))->Q (.ref r) H')
theorem Br:ax ["number","size","told","at"] ["number","size"] (aq (top 82)):=↑3
theorem Mg(d:Def K mg "low_first" (top 82) ["number","size"])(rg:mg "range"=none):Ok P w K mg base bf 1 "low_first" ["number","size"] DP:=d.ok λf fd F=>by
 refine F.ok Br (by rintro vs H Q E ⟨n,k,rfl,_⟩;rfl) (λUQ A outer s H vs Q E hr h=>?_);obtain⟨n,k,rfl,hk,q⟩:=h;refine⟨_,aj (aN (i:=2) Br.nd rfl (Or.inl rfl) (bx ao))
  (aj (rm PassesOwn.never rfl (D' rfl rg (aa (pv 1) ao)) (fM (i:=3) Br.nd rfl (Or.inl rfl))
   (ai (aS (fK PySem.F.plainAttrs_list PySem.F.slot_list_append PySem.F.type_list_append cZ (pv 2) (aa (bz MF (bz Nu (pv 0) (bz GL aw (pv 3))) aw) ao)))))
  (ai (aB (pv 2)))),?_⟩
 refine⟨Nat.zero_le _,λl hl=>?_⟩;refine⟨_,rfl,k,rfl,↑2,↑2,Fu (lo:=0) (n:=k) (λi σ H'=>∃v3,σ=[some (.int n),some (.int k),some (.ref l),v3]/\H' l=some (.lst ((uA n i).map V.int))/\aF H H') ?_ ?_ ?_⟩
 ·exact⟨_,rfl,ag,aC hl⟩
 ·rintro i σ H1 hi ⟨v3,rfl,h1,s1⟩;refine⟨_,rfl,.inl ⟨rfl,_,bh.of h1⟩,_,rfl,_,rfl,_,_,rfl,rfl,.inl ⟨↑0,↑0⟩,_,_,rfl,rfl,↑2,_,_,rfl,rfl,l,_,_,rfl,rfl,h1,?_,?_⟩
  ·have hsz:sizeLine=16777216:=sizeLine_eq;rw[List.length_map,hsz];unfold uA;rw[List.length_map,List.length_range];omega
  ·refine⟨_,rfl,?_,λb o hb=>?_⟩
   ·try dsimp only
    rw[ag,Ed,List.map_append,K7];rfl
   ·rw[ah (au hb hl)];exact s1 _ _ hb
 ·rintro σ H1 ⟨v3,rfl,h1,s1⟩;exact⟨_,rfl,q H1 l s1 h1⟩
theorem fP{k:Str}{v:V}{r:List (Str×V)}:List.lookup k ((k,v)::r)=some v:=by simp[List.lookup]
theorem aO{k g:Str}{v:V}{r:List (Str×V)}(h:k≠g):List.lookup k ((g,v)::r)=List.lookup k r:=by
 have:(k==g)=false:=by simpa using h
 simp[List.lookup,this]
theorem wH{k:Str}{v x:V}{r:List (Str×V)}:aW k v ((k,x)::r)=(k,v)::r:=if_pos rfl
theorem aV{k g:Str}{v x:V}{r:List (Str×V)}(h:g≠k):aW k v ((g,x)::r)=(g,x)::aW k v r:=if_neg h
def rG(a b c d:V):List (Str×V):=[("form",a),("parts",b),("first",c),("behind",d)]
section
variable{a b c d v:V}
theorem lC:(rG a b c d).lookup ("form":Str)=some a:=fP
theorem d9:(rG a b c d).lookup ("parts":Str)=some b:=(aO ↑1).trans fP
theorem EB:(rG a b c d).lookup ("first":Str)=some c:=(aO ↑1).trans ((aO ↑1).trans fP)
theorem EX:aW "form" v (rG a b c d)=rG v b c d:=wH
theorem B4:aW "first" v (rG a b c d)=rG a b v d:=(aV ↑1).trans (congrArg _ ((aV ↑1).trans (congrArg _ wH)))
theorem Ak:aW "behind" v (rG a b c d)=rG a b c v:=(aV ↑1).trans (congrArg _ ((aV ↑1).trans (congrArg _ ((aV ↑1).trans (congrArg _ wH)))))
theorem K0:aW "behind" d (aW "first" c (aW "parts" b (aW "form" a [])))=rG a b c d:=by have h1:aW "parts" b (aW "form" a [])=[(("form":Str),a),(("parts":Str),b)]:=(aV ↑1).trans rfl;have h2:aW "first" c [(("form":Str),a),(("parts":Str),b)]=[(("form":Str),a),(("parts":Str),b),(("first":Str),c)]:=(aV ↑1).trans (congrArg _ ((aV ↑1).trans rfl));rw[h1,h2];exact(aV ↑1).trans (congrArg _ ((aV ↑1).trans (congrArg _ ((aV ↑1).trans rfl))))
end
structure Jz(K:Frag)(C:Addr):Prop where
 cl:tV K C
 nf:aE K C "form"
 np:aE K C "parts"
 n1:aE K C "first"
 nb:aE K C "behind"
 ha:PySem.W.findIn K (.ref C) "__class__"=some (some (.builtin "object.__class__"))
 hn:PySem.W.specialIn K (.builtin "object.__class__") "__get__"=some (some (.builtin "getset_descriptor.__get__"))
 ht:PySem.W.takesIn K (.builtin "object.__class__")=some true
 hm:PySem.W.mroIn K C (.type "object")=some true
 kl:PySem.W.kitOne K (.type "list") (.ref C)=some false
theorem Jz.yes{K:Frag}(T:Jz K C):PySem.W.kitOne K (.ref C) (.ref C)=some true:=by unfold PySem.W.kitOne;rw[if_pos (by simp)]
def yB:MA.Fm->V
 | .kind k _=>.int k
 | .row _=>.str "@row"
 | .count _=>.str "@count"
 | .set _=>.str "@set"
def ye:MA.Fm->Prop
 | .kind k _=>k<256
 |_=>True
def UD(N:Nat)(s:EwTree.St)(d:V):MA.Fm->Prop
 | .kind _ _=>d= .int ((N:Int) - MA.len s)
 |_=>True
mutual
inductive k_(C:Addr)(N:Nat)(H:Hp):V->MA.Pt->Prop
 |leaf{a:Addr} {b:By}:H a=some (.lst (iv b))->k_ C N H (.ref a) (.leaf b)
 |bo{a dx l:Addr} {f:MA.Fm} {s:EwTree.St} {ps:List MA.Pt} {vs:List V} {d:V}:H a=some (.ins C dx (rG (yB f) (.ref l) (.int ((N:Int) - MA.len f.yJ)) d))->H l=some (.lst vs)->f.isSet=false->ye f->UD N s d f->b_ C N H vs ps->k_ C N H (.ref a) (.bo f s ps)
inductive b_(C:Addr)(N:Nat)(H:Hp):List V->List MA.Pt->Prop
 |nil:b_ C N H [] []
 |cons{v:V} {p:MA.Pt} {vs:List V} {ps:List MA.Pt}:k_ C N H v p->b_ C N H vs ps->b_ C N H (v::vs) (p::ps)
end
section
variable{C:Addr}{N:Nat}{H H':Hp}
mutual
theorem k_.same(s:aF H H'):∀{v:V}{p:MA.Pt},k_ C N H v p->k_ C N H' v p
 |_,_,.leaf h=>.leaf (s _ _ h)
 |_,_,.bo h1 h2 h3 h4 h5 h6=>.bo (s _ _ h1) (s _ _ h2) h3 h4 h5 (b_.same s h6)
theorem b_.same(s:aF H H'):∀{vs:List V}{ps:List MA.Pt},b_ C N H vs ps->b_ C N H' vs ps
 |_,_,.nil=>.nil
 |_,_,.cons h r=>.cons (k_.same s h) (b_.same s r)
end
theorem b_.length:∀{vs:List V}{ps:List MA.Pt},b_ C N H vs ps->vs.length=ps.length
 |_,_,.nil=>rfl
 |_,_,.cons _ r=>congrArg (·+1) r.length
theorem b_.app:∀{vs ws:List V}{ps qs:List MA.Pt},b_ C N H vs ps->b_ C N H ws qs->b_ C N H (vs++ws) (ps++qs)
 |_,_,_,_,.nil,h=>h
 |_,_,_,_,.cons h r,q=>.cons h (r.app q)
theorem b_.snoc_inv:∀{vs:List V}{ps:List MA.Pt}{p:MA.Pt},b_ C N H vs (ps++[p])->∃ws v,vs=ws++[v]/\b_ C N H ws ps/\k_ C N H v p
 |_,[],_,.cons h .nil=>⟨[],_,rfl,.nil,h⟩
 |_,_::_,_,.cons h r=>by
  obtain⟨ws,v,e,h1,h2⟩:=r.snoc_inv;exact⟨_::ws,v,by rw[e];rfl,.cons h h1,h2⟩
end
mutual
def wt:MA.Pt->Nat
 | .leaf b=>b.length+1
 | .bo _ _ l=>5+lY l
def lY:List MA.Pt->Nat
 |[]=>0
 |p::r=>wt p+lY r
end
theorem GJ:∀p:MA.Pt,1<=wt p
 | .leaf b=>Nat.le_add_left ..
 | .bo _ _ l=>by show 1<=5+lY l;omega
theorem vJ:∀l:List MA.Pt,l.length<=lY l
 |[]=>Nat.le_refl _
 |p::r=>by
  have:=vJ r;have:=GJ p;show r.length+1<=wt p+lY r;omega
theorem wq:∀l r:List MA.Pt,lY (l++r)=lY l+lY r
 |[],r=>(Nat.zero_add _).symm
 |p::l,r=>by show wt p+lY (l++r)=wt p+lY l+lY r;rw[wq l r,Nat.add_assoc]
theorem IM(f:MA.Fm)(n:Nat):(MA.hb f n).length<=4:=by
 cases f
 ·exact(by decide:1<=4)
 ·exact(by decide:0<=4)
 ·exact(by decide:4<=4)
 ·exact(by decide:0<=4)
mutual
theorem Iu:∀p:MA.Pt,(MA.yb p).length<=wt p
 | .leaf b=>Nat.le_succ _
 | .bo f s l=>by
  have h1:=DD l;have h2:=IM f l.length;show(MA.hb f l.length++MA.cq l).length<=5+lY l;rw[List.length_append];omega
theorem DD:∀l:List MA.Pt,(MA.cq l).length<=lY l
 |[]=>Nat.le_refl _
 |p::r=>by
  have h1:=Iu p;have h2:=DD r;show(MA.yb p++MA.cq r).length<=wt p+lY r;rw[List.length_append];omega
end
theorem wC(a b:By):iv (a++b)=iv a++iv b:=List.map_append
theorem R9(n:Nat):(uA n 4).map V.int=iv (EwTree.count n):=by
 have u:∀m:Nat,m<256->(UInt8.ofNat m).toNat=m:=λm hm=>by simp[Nat.mod_eq_of_lt hm]
 show[V.int ((n / 256 ^ 0 % 256:Nat):Int),.int ((n / 256 ^ 1 % 256:Nat):Int),.int ((n / 256 ^ 2 % 256:Nat):Int),.int ((n / 256 ^ 3 % 256:Nat):Int)]=[V.int ((UInt8.ofNat (n % 256)).toNat:Int),.int ((UInt8.ofNat (n / 256 % 256)).toNat:Int),.int ((UInt8.ofNat (n / 65536 % 256)).toNat:Int),.int ((UInt8.ofNat (n / 16777216 % 256)).toNat:Int)]
 rw[u _ (Nat.mod_lt _ ↑0),u _ (Nat.mod_lt _ ↑0),u _ (Nat.mod_lt _ ↑0),u _ (Nat.mod_lt _ ↑0),Nat.pow_zero,Nat.div_one]
inductive GK(C:Addr)(vs:List V)(H:Hp)(Q:VK)(E:XK):Prop
 |mk(a dx l:Addr) (f:MA.Fm) (us:List V) (c d:V) (_:vs=[.ref a]) (_:H a=some (.ins C dx (rG (yB f) (.ref l) c d))) (_:H l=some (.lst us)) (_:f.isSet=false) (_:ye f) (_:∀H' r,aF H H'->H' r=some (.lst (iv (MA.hb f us.length)))->Q (.ref r) H')
theorem Kw:ax ["twig"] ["twig"] (aq (top 81)):=↑3
theorem J8(d:Def K mg "head_bytes" (top 81) ["twig"])(T:Jz K C)(ln:mg "len"=none)(ol:Ok P w K mg base bf 1 "low_first" ["number","size"] DP):Ok P w K mg base bf 2 "head_bytes" ["twig"] (GK C):=d.ok λf fd F=>by
 refine F.ok Kw (by rintro vs H Q E ⟨a,dx,l,f,us,c,d,rfl,_⟩;rfl) (λUQ A outer s H vs Q E hr h=>?_);obtain⟨a,dx,l,f,us,c,d,rfl,h1,h2,h3,h4,q⟩:=h;refine⟨_,aj (aR (aD cG (ay (pv 0) rfl) bO (aJ _)) (ai (aB (bx ao))) aL)
  (aj (aR (aD cG (ay (pv 0) rfl) bO (aJ _)) (ai (aB (aM ol hr (aa (bB ln (ay (pv 0) rfl)) (aa aw ao))))) aL)
  (ai (aB (bx (aa (ay (pv 0) rfl) ao))))),?_⟩
 have hs:Hv (yB f) (.str "@row")=true/\Hv (yB f) (.str "@count")=true:=by cases f <;> exact⟨rfl,rfl⟩
 refine rV rfl (rf h1 T.cl T.nf lC ⟨hs.1,_,rfl,aU (λz1=>?_) λz1=>?_⟩)
 ·have z1:=of_decide_eq_true z1;cases f with
  |row b=>exact⟨Nat.zero_le _,λr hr=>q _ r (aC hr) ag⟩
  |kind k b=>cases z1
  |count b=>exact absurd z1 (by show V.str "@count"≠V.str "@row";decide+kernel)
  |set b=>cases h3
 refine rV rfl (rf h1 T.cl T.nf lC ⟨hs.2,_,rfl,aU (λz2=>?_) λz2=>?_⟩)
 ·have z2:=of_decide_eq_true z2;cases f with
  |row b=>exact absurd (decide_eq_true rfl) z1
  |kind k b=>cases z2
  |set b=>cases h3
  |count b=>
   refine rV rfl (rf h1 T.cl T.np d9 ⟨l,_,rfl,.inl (bh.of h2),us.length,4,rfl,↑0,λH' r s' h'=>q H' r s' ?_⟩);rw[h',R9];rfl
 ·cases f with
  |row b=>exact absurd (decide_eq_true rfl) z1
  |count b=>exact absurd (decide_eq_true rfl) z2
  |set b=>cases h3
  |kind k b=>
   refine rV rfl (rf h1 T.cl T.nf lC ⟨(by show 1<=sizeLine;decide),λr hr=>q _ r (aC hr) ?_⟩);rw[ag];have hk:k<256:=h4;show some (HO.lst [V.int k])=some (HO.lst [V.int ((UInt8.ofNat k).toNat:Int)]);rw[show(UInt8.ofNat k).toNat=k by simp[Nat.mod_eq_of_lt hk]]
inductive Mr(C:Addr)(vs:List V)(H:Hp)(Q:VK)(E:XK):Prop
 |mk(v:V) (p:MA.Pt) (N:Nat) (_:vs=[v]) (_:k_ C N H v p) (_:wt p<=16000000) (_:∀H' r,aF H H'->H' r=some (.lst (iv (MA.yb p)))->Q (.ref r) H')
theorem C6:ax ["twig","told","parts","part"] ["twig"] (aq (top 80)):=↑3
theorem Qn(d:Def K mg "tree_bytes" (top 80) ["twig"])(T:Jz K C)(mC:mg "Twig"=some (.ref C))(ln:mg "len"=none)(isi:mg "isinstance"=none)(oh:Ok P w K mg base bf 2 "head_bytes" ["twig"] (GK C)):Ok P w K mg base bf 3 "tree_bytes" ["twig"] (Mr C):=d.ok λf fd F=>by
 refine F.ok C6 (by rintro vs H Q E ⟨v,p,N,rfl,_⟩;rfl) (λUQ A outer s H vs Q E hr h=>?_);obtain⟨v,p,N,rfl,hP,hw,q⟩:=h;refine⟨_,aj (aN (i:=1) C6.nd rfl (Or.inl rfl) (bx ao)) (aj (aN (i:=2) C6.nd rfl (Or.inl rfl) (bx (aa (pv 0) ao)))
  (aj (fj PassesOwn.never (aD oV (bB ln (pv 2)) aw (aJ _))
   (aj (aN (i:=3) C6.nd rfl (Or.inl rfl) (qQ PySem.F.plainAttrs_list PySem.F.slot_list_pop PySem.F.type_list_pop rF (pv 2)))
   (ai (aR (dr (eB lR (by rfl) isi PyProof.Rows.boot_isinstance (aa (pv 3) (aa (fQ mC) ao))))
    (aj (aS (fK PySem.F.plainAttrs_list PySem.F.slot_list_extend PySem.F.type_list_extend oj (pv 1) (aa (aM oh hr (aa (pv 3) ao)) ao)))
    (ai (aS (fK PySem.F.plainAttrs_list PySem.F.slot_list_extend PySem.F.type_list_extend oj (pv 2) (aa (Jn (ay (pv 3) rfl)) ao)))))
    (ai (aS (fK PySem.F.plainAttrs_list PySem.F.slot_list_extend PySem.F.type_list_extend oj (pv 1) (aa (pv 3) ao))))))))
  (ai (aB (pv 1))))),?_⟩
 have hsz:sizeLine=16777216:=sizeLine_eq;refine⟨Nat.zero_le _,λlt hlt=>?_⟩;have s1:=aC (o:=.lst []) hlt;refine⟨_,rfl,(by show 1<=sizeLine;decide),λlp hlp=>?_⟩;have hlp0:H lp=none:=s1.free hlp;have hne:lt≠lp:=au ag hlp;have s2:=s1.trans (aC (o:=.lst [v]) hlp);refine⟨λm σ H'=>∃(x:By)(ws:List V)(qs:List MA.Pt)(v3:Option V),m=lY qs/\σ=[some v,some (.ref lt),some (.ref lp),v3]/\H' lt=some (.lst (iv x))/\H' lp=some (.lst ws.reverse)/\b_ C N H ws qs/\x++MA.cq qs=MA.yb p/\x.length+lY qs<=wt p/\aF H H',
  ⟨_,[],[v],[p],none,rfl,rfl,by rw[ah hne,ag];rfl,ag,.cons hP .nil,by show MA.yb p++[]=_;rw[List.append_nil],by show 0+(wt p+0)<=wt p;omega,s2⟩,?_⟩
 rintro m σ H1 ⟨x,ws,qs,v3,rfl,rfl,h1,h2,hq,ex,hb,sH⟩;refine⟨_,rfl,lp,_,rfl,.inl (bh.of h2),_,_,rfl,rfl,_,rfl,aU (λz=>?_) λz=>?_⟩
 ·cases hq with
  |nil=>exact absurd (of_decide_eq_true z) (by show ¬((0:Int)<0);decide)
  |@cons v0 p0 ws qs hp hq=>
   have er:(v0::ws).reverse=ws.reverse++[v0]:=List.reverse_cons;rw[er] at h2;have hbx:x.length+(wt p0+lY qs)<=wt p:=hb;refine⟨_,λ_ _ z=>z,_,rfl,.inl ⟨rfl,_,bh.of h2⟩,lp,_,v0,rfl,rfl,h2,(by rw[List.length_append,List.getElem?_append_right (by simp)];simp),?_⟩;rw[List.dropLast_concat];have hl3:(upd H1 lp (.lst ws.reverse)) lt=some (.lst (iv x)):=by rw[ah hne];exact h1
   have sU:aF H (upd H1 lp (.lst ws.reverse)):=λb o hb'=>by rw[ah (au hb' hlp0)];exact sH _ _ hb'
   have hp':=hp.same sU;cases hp with
   |@leaf a0 b0 ha0=>
    have ha1:=sU _ _ ha0;refine⟨_,rfl,_,_,_,_,rfl,.inr ⟨C,rfl⟩,.inl (.lst ha1),T.kl,_,rfl,dR ?_⟩;refine⟨_,rfl,.inl ⟨rfl,_,bh.of hl3⟩,_,rfl,lt,a0,_,_,rfl,rfl,hl3,ha1,?_,?_⟩
    ·have hw0:wt (.leaf b0)=b0.length+1:=rfl;rw[aT,aT,hsz];omega
    ·refine⟨lY qs,by have:=GJ (.leaf b0);show lY qs<wt (.leaf b0)+lY qs;omega,x++b0,ws,qs,_,rfl,rfl,by rw[ag,wC],by rw[ah (Ne.symm hne),ag],hq,by rw[List.append_assoc];exact ex,?_,λb o hb'=>by rw[ah (au hb' hlt)];exact sU _ _ hb'⟩;have hw0:wt (.leaf b0)=b0.length+1:=rfl;rw[List.length_append];omega
   |@bo a0 dx l0 f0 s0 ps0 vs0 d0 ha hl hf hk hc hps=>
    have ha1:=sU _ _ ha;have hll:=hps.length;refine⟨_,rfl,_,_,_,_,rfl,.inr ⟨C,rfl⟩,.inl (.ins ha1 T.cl T.ha T.hn T.ht T.hm),T.yes,_,rfl,fY ?_⟩;refine⟨_,rfl,.inl ⟨rfl,_,bh.of hl3⟩,_,rfl,a0,dx,l0,f0,vs0,_,d0,rfl,ha1,sU _ _ hl,hf,hk,λH2 r s3 h3=>?_⟩;have hl4:=s3 _ _ hl3;have hw0:wt (.bo f0 s0 ps0)=5+lY ps0:=rfl;have hbl:=IM f0 vs0.length;have hwl:=vJ ps0;refine⟨lt,r,_,_,rfl,rfl,hl4,h3,(by rw[aT,aT,hsz];omega),?_⟩;have hp4:H2 lp=some (.lst ws.reverse):=s3 _ _ ag;have hp5:(upd H2 lt (.lst (iv x++iv (MA.hb f0 vs0.length)))) lp=some (.lst ws.reverse):=by rw[ah (Ne.symm hne)];exact hp4
    have sV:aF H (upd H2 lt (.lst (iv x++iv (MA.hb f0 vs0.length)))):=λb o hb'=>by rw[ah (au hb' hlt)];exact s3 _ _ (sU _ _ hb')
    refine⟨_,rfl,.inl ⟨rfl,_,bh.of hp5⟩,rV rfl (rf (sV _ _ ha) T.cl T.np d9 ⟨l0,vs0,rfl,.inl ⟨bh.of (sV _ _ hl),λr2 hr2=>?_⟩⟩)⟩;have hne2:lp≠r2:=au hp5 hr2;refine⟨lp,r2,_,_,rfl,rfl,(by rw[ah hne2];exact hp5),ag,?_,?_⟩
    ·have:=hq.length;have:=vJ qs;rw[List.length_reverse,List.length_reverse,hsz];omega
    ·refine⟨lY (ps0++qs),by rw[wq];show lY ps0+lY qs<wt (.bo f0 s0 ps0)+lY qs;omega,x++MA.hb f0 vs0.length,vs0++ws,ps0++qs,_,rfl,rfl,?_,?_,hps.app hq,?_,?_,?_⟩
     ·rw[ah hne,ah (λz=>by have:=sV;rw[<-z,ag] at hr2;cases hr2),ag,wC]
     ·rw[ag,List.reverse_append]
     ·rw[MA.qS,List.append_assoc,hll];rw[<-ex];show _=x++((MA.hb f0 ps0.length++MA.cq ps0)++MA.cq qs);rw[List.append_assoc]
     ·rw[List.length_append,wq];omega
     ·exact λb o hb'=>by
       rw[ah (au hb' hlp0),ah (au (sV _ _ hb') hr2)];exact sV _ _ hb'
 ·cases hq with
  |nil=>
   have ex:x++[]=MA.yb p:=ex;rw[List.append_nil] at ex;exact⟨_,rfl,q H1 lt sH (by rw[h1,ex])⟩
  |@cons v0 p0 ws qs hp hq=>exact absurd (decide_eq_true (by rw[List.length_reverse,List.length_cons];omega)) z
theorem N4:∀a<128,∀k<7,Builtin.bitOr ((a:Nat):Int) (1*2 ^ ((k:Nat):Int).toNat)=((a ||| 2 ^ k:Nat):Int):=↑1
theorem Pq:∀a<128,∀k<7,a ||| 2 ^ k<128:=↑1
theorem tD{l:List MA.Pt}(h:MA.iW l):∀i,i<=l.length->MA.eI (l.take i)<128
 |0,_=>by show 0<128;decide
 |i+1,hi=>by
  have hl:l[i]?=some l[i]:=List.getElem?_eq_getElem ↑2;obtain⟨k,hk,e⟩:=h l[i] (List.getElem_mem _);rw[take_snoc hl,e,MA.iU,show(UInt8.ofNat k).toNat=k by simp;omega];exact Pq _ (tD h i ↑2) k hk
theorem b_.get{N:Nat}:∀{vs:List V}{ps:List MA.Pt}{i:Nat}{v:V},b_ C N H vs ps->vs[i]?=some v->∃p,ps[i]?=some p/\k_ C N H v p
 |_,_,_,_,.nil,h=>by simp at h
 |_,_,0,_,.cons hp _,h=>by simp at h;subst h;exact⟨_,rfl,hp⟩
 |_,_,i+1,_,.cons _ r,h=>by simp at h;obtain⟨p,h1,h2⟩:=r.get h;exact⟨p,by simpa using h1,h2⟩
inductive Oz(C:Addr)(vs:List V)(H:Hp)(Q:VK)(E:XK):Prop
 |mk(l:Addr) (us:List V) (ps:List MA.Pt) (N:Nat) (_:vs=[.ref l]) (_:H l=some (.lst us)) (_:b_ C N H us ps) (_:MA.iW ps) (_:Q (.int (MA.eI ps:Nat)) H)
theorem DU:ax ["bits","byte","bit"] ["bits"] (aq (top 79)):=↑3
theorem QJ(d:Def K mg "set_byte" (top 79) ["bits"]):Ok P w K mg base bf 1 "set_byte" ["bits"] (Oz C):=d.ok λf fd F=>by
 refine F.ok DU (by rintro vs H Q E ⟨l,us,ps,N,rfl,_⟩;rfl) (λUQ A outer s H vs Q E hr h=>?_);obtain⟨l,us,ps,N,rfl,hl,hp,hs,q⟩:=h;refine⟨_,aj (aN (i:=1) DU.nd rfl (Or.inl rfl) aw)
  (aj (rm PassesOwn.never rfl (qd (pv 0)) (fM (i:=2) DU.nd rfl (Or.inl rfl))
   (ai (aN (i:=1) DU.nd rfl (Or.inl rfl) (bz Qx (pv 1) (bz Oo aw (bA aX (pv 2) aw (λ_ _=>rfl)))))))
  (ai (aB (pv 1)))),?_⟩
 have hll:=hp.length;refine⟨_,rfl,l,rfl,⟨_,bh.of hl⟩,As (K:=K) (a:=l) (xs:=us) (λi σ H'=>∃v2,σ=[some (.ref l),some (.int (MA.eI (ps.take i):Nat)),v2]/\H'=H) ⟨_,rfl,rfl⟩ (λi σ H' _ ⟨_,_,e⟩=>by rw[e];exact bh.of hl) ?_ ?_⟩
 ·rintro i v σ H' hi ⟨v2,rfl,rfl⟩;obtain⟨p,hpi,hpt⟩:=hp.get hi;have hil:i<ps.length:=(List.getElem?_eq_some_iff.mp hpi).1;obtain⟨k,hk,e⟩:=hs p (List.mem_of_getElem? hpi);subst e;cases hpt with
  |@leaf a b ha=>
   have hs1:=tD hs i ↑2;refine⟨_,rfl,_,rfl,a,_,_,_,rfl,rfl,bh.of ha,dM (p:=0) (c:=UInt8.ofNat k) rfl,_,_,rfl,rfl,⟨↑2,by simp;omega,↑0⟩,_,_,rfl,rfl,some (.ref a),?_,rfl⟩;have hku:(UInt8.ofNat k).toNat=k:=by simp;omega
   try dsimp only
   rw[hku,N4 _ hs1 k hk,take_snoc hpi,MA.iU,hku];rfl
 ·rintro σ H' ⟨v2,rfl,rfl⟩;refine⟨_,rfl,?_⟩;rw[hll,List.take_length];exact q
inductive Gp(K:Frag)(vs:List V)(H:Hp)(Q:VK)(E:XK):Prop
 |mk(a:Addr) (y x:By) (_:vs=[.ref a]) (_:bh K H a (iv y)) (_:MA.Cr y x) (_:x.length<=1024) (_:∀H' r,aF H H'->H' r=some (.lst (iv x))->Q (.ref r) H')
theorem rN:ax ["items","held","place"] ["items"] (aq (top 85)):=↑3
theorem xV{y:By}{j:Nat}{c:UInt8}{r:By}(h:y.drop j=c::r):y[j]?=some c/\y.drop (j+1)=r/\j<y.length:=by
 have h1:(y.drop j)[0]?=some c:=by rw[h];rfl
 rw[List.getElem?_drop,Nat.add_zero] at h1;refine⟨h1,?_,(List.getElem?_eq_some_iff.mp h1).1⟩;rw[<-List.drop_drop,h];rfl
theorem Nb(d:Def K mg "item_bytes" (top 85) ["items"])(ln:mg "len"=none)(gb:GI mg "BACKSLASH" 92)(gl:GI mg "LINE_END" 10)(gn:GI mg "SMALL_N" 110):Ok P w K mg base bf 1 "item_bytes" ["items"] (Gp K):=d.ok λf fd F=>by
 refine F.ok rN (by rintro vs H Q E ⟨a,y,x,rfl,_⟩;rfl) (λUQ A outer s H vs Q E hr h=>?_);obtain⟨a,y,x,rfl,hS,hy,hx,q⟩:=h;refine⟨_,aj (aN (i:=1) rN.nd rfl (Or.inl rfl) (bx ao)) (aj (aN (i:=2) rN.nd rfl (Or.inl rfl) aw)
  (aj (fj PassesOwn.never (aD pb (pv 2) (bB ln (pv 0)) (aJ _))
   (aj (aR (aD cG (bA aX (pv 0) (pv 2) (λ_ _=>rfl)) (cz gb) (aJ _))
    (aj (iE (i:=2) rN.nd rfl (Or.inl rfl) aw gX)
    (ai (aS (fK PySem.F.plainAttrs_list PySem.F.slot_list_append PySem.F.type_list_append cZ (pv 1) (aa (qY (aD cG (bA aX (pv 0) (pv 2) (λ_ _=>rfl)) (cz gn) (aJ _)) (cz gl) (bA aX (pv 0) (pv 2) (λ_ _=>rfl))) ao)))))
    (ai (aS (fK PySem.F.plainAttrs_list PySem.F.slot_list_append PySem.F.type_list_append cZ (pv 1) (aa (bA aX (pv 0) (pv 2) (λ_ _=>rfl)) ao)))))
   (ai (iE (i:=2) rN.nd rfl (Or.inl rfl) aw gX))))
  (ai (aB (pv 1))))),?_⟩
 have hsz:sizeLine=16777216:=sizeLine_eq;refine⟨Nat.zero_le _,λl hl=>?_⟩;refine⟨λm σ H'=>∃(j:Nat)(x1 x2:By),m=y.length - j/\σ=[some (.ref a),some (.ref l),some (.int j)]/\H' l=some (.lst (iv x1))/\x1++x2=x/\MA.Cr (y.drop j) x2/\aF H H',⟨_,0,[],x,rfl,rfl,ag,rfl,hy,aC hl⟩,?_⟩;rintro m σ H1 ⟨j,x1,x2,rfl,rfl,h1,e,hi,s1⟩;have hS1:=s1.seq hS;have hxl:x1.length+x2.length=x.length:=by rw[<-e,List.length_append]
 refine⟨_,rfl,_,rfl,a,_,rfl,.inl hS1,_,_,rfl,rfl,_,rfl,aU (λz=>?_) λz=>?_⟩
 ·have hj:j<y.length:=by rw[<-aT];exact P0 z
  generalize hd:y.drop j=yd at hi;have sU:∀(zs:List V),aF H (upd H1 l (.lst zs)):=λzs b o hb=>by rw[ah (au hb hl)];exact s1 _ _ hb
  cases hi with
  |nil=>rw[List.drop_eq_nil_iff] at hd;omega
  |@Tx c y2 x3 hi=>
   obtain⟨g1,g2,g3⟩:=xV hd;obtain⟨k1,k2,k3⟩:=xV g2;refine⟨_,λ_ _ z=>z,_,rfl,_,rfl,a,_,_,_,rfl,rfl,hS1,dM g1,rfl,_,rfl,?_⟩;rw[bt];refine fY ⟨_,rfl,_,_,rfl,rfl,_,rfl,.inl ⟨rfl,_,bh.of h1⟩,_,rfl,_,rfl,a,_,_,_,rfl,rfl,hS1,(show vt (iv y) ((j+1:Nat):Int)=_ from dM k1),rfl,_,rfl,?_⟩;rw[bt];have fin:∀u:UInt8,u=(if c=110 then 10 else c)->∃m',m'<y.length - j/\∃(j':Nat)(z1 z2:By),m'=y.length - j'/\[some (V.ref a),some (.ref l),some (.int ((j:Int)+1+1))]=[some (.ref a),some (.ref l),some (.int j')]/\(upd H1 l (.lst (iv x1++[V.int (u.toNat:Int)]))) l=some (.lst (iv z1))/\z1++z2=x/\MA.Cr (y.drop j') z2/\aF H (upd H1 l (.lst (iv x1++[V.int (u.toNat:Int)]))):=by
    intro u hu;refine⟨y.length - (j+2),↑2,j+2,x1++[u],x3,rfl,rfl,?_,?_,?_,sU _⟩
    ·rw[ag,wC];rfl
    ·rw[List.append_assoc,hu];exact e
    ·rw[show j+2=j+1+1 from rfl,k2];exact hi
   have hlen:(iv x1).length<sizeLine:=by
    rw[aT,hsz];omega
   refine aU (λz2=>?_) λz2=>?_
   ·have z2:=of_decide_eq_true z2;have hc:c=110:=jf.mpr (by have:(110:UInt8).toNat=110:=rfl;omega);exact⟨l,_,_,rfl,rfl,h1,hlen,_,rfl,_,_,rfl,rfl,fin 10 (by rw[if_pos hc])⟩
   ·have hc:c≠110:=λy=>z2 (decide_eq_true (by rw[y];rfl));exact⟨_,rfl,_,rfl,a,_,_,_,rfl,rfl,hS1,(show vt (iv y) ((j+1:Nat):Int)=_ from dM k1),l,_,_,rfl,rfl,h1,hlen,_,rfl,_,_,rfl,rfl,fin c (by rw[if_neg hc])⟩
  |@one c y2 x3 hc hi=>
   obtain⟨g1,g2,g3⟩:=xV hd;refine⟨_,λ_ _ z=>z,_,rfl,_,rfl,a,_,_,_,rfl,rfl,hS1,dM g1,rfl,_,rfl,?_⟩;rw[bt];have hne:¬decide (((c.toNat:Nat):Int)=92)=true:=λq=>hc (jf.mpr (by have q:=of_decide_eq_true q;have:(92:UInt8).toNat=92:=rfl;omega));have hlen:(iv x1).length<sizeLine:=by
    rw[aT,hsz];omega
   refine aU (λz=>absurd z hne) λ_=>?_;refine⟨_,rfl,.inl ⟨rfl,_,bh.of h1⟩,_,rfl,_,rfl,a,_,_,_,rfl,rfl,hS1,dM g1,l,_,_,rfl,rfl,h1,hlen,_,rfl,_,_,rfl,rfl,y.length - (j+1),↑2,j+1,x1++[c],x3,rfl,rfl,?_,?_,?_,sU _⟩
   ·rw[ag,wC];rfl
   ·rw[List.append_assoc];exact e
   ·rw[g2];exact hi
 ·have hn:y.length<=j:=by rw[<-aT];exact PY z
  rw[List.drop_eq_nil_of_le hn] at hi;cases hi;rw[List.append_nil] at e;exact⟨_,rfl,q H1 l s1 (by rw[h1,e])⟩
def FC(t:EwTree.Tok):By:=if t.kind=0\/t.kind=5 then[] else if t.kind=4 then EwTree.long t.bytes else EwTree.short t.bytes
theorem R'{n:Nat}(h:n<=1024):(uA n 2).map V.int=iv [UInt8.ofNat (n % 256),UInt8.ofNat (n / 256)]:=by
 have u:∀m:Nat,m<256->(UInt8.ofNat m).toNat=m:=λm hm=>by simp[Nat.mod_eq_of_lt hm]
 show[V.int ((n / 256 ^ 0 % 256:Nat):Int),.int ((n / 256 ^ 1 % 256:Nat):Int)]=[V.int ((UInt8.ofNat (n % 256)).toNat:Int),.int ((UInt8.ofNat (n / 256)).toNat:Int)]
 rw[u _ (Nat.mod_lt _ ↑0),u _ ↑2,Nat.pow_zero,Nat.div_one,Nat.pow_one,Nat.mod_eq_of_lt (a:=n / 256) ↑2]
theorem xu(b:By)(i j:Nat)(h:i<=j)(hj:j<=b.length):gB (iv b) (some (i:Int)) (some (j:Int))=iv ((b.drop i).take (j - i)):=by unfold gB iv;rw[HT.kP,HT.kP,List.length_map,Nat.min_eq_left hj,Nat.min_eq_left (a:=i) ↑2,List.map_take,List.map_drop]
inductive QH(K:Frag)(CT:Addr)(vs:List V)(H:Hp)(Q:VK)(E:XK):Prop
 |mk(a r:Addr) (b:By) (t:EwTree.Tok) (_:vs=[.ref a,.ref r]) (_:bh K H a (iv b)) (_:eE CT H r t) (_:Good t) (_:MA.NZ b t) (_:∀H' x,aF H H'->H x=none->H' x=some (.lst (iv (FC t)))->Q (.ref x) H')
theorem LY:ax ["text","token","held"] ["text","token"] (aq (top 84)):=↑3
theorem Qm(d:Def K mg "leaf_bytes" (top 84) ["text","token"])(T:wM K CT)(ln:mg "len"=none)(gk:GI mg "KEYWORD" 0)(gs:GI mg "SIGN" 5)(gt:GI mg "TEXT" 4)(oi:Ok P w K mg base bf 1 "item_bytes" ["items"] (Gp K))(ol:Ok P w K mg base bf 1 "low_first" ["number","size"] DP):Ok P w K mg base bf 2 "leaf_bytes" ["text","token"] (QH K CT):=d.ok λf fd F=>by
 refine F.ok LY (by rintro vs H Q E ⟨a,r,b,t,rfl,_⟩;rfl) (λUQ A outer s H vs Q E hr h=>?_);obtain⟨a,r,b,t,rfl,hS,⟨dx,hT⟩,hg,hB,q⟩:=h;refine⟨_,aj (aR (aD fh (ay (pv 1) rfl) (fW (aa (cz gk) (aa (cz gs) ao))) (by with_unfolding_all rfl)) (ai (aB (bx ao))) aL)
  (aj (aR (aD cG (ay (pv 1) rfl) (cz gt) (aJ _))
   (aj (aN (i:=2) LY.nd rfl (Or.inl rfl) (aM oi hr (aa (dE eS (pv 0) (bV (bz cy (ay (pv 1) rfl) aw)) (bV (bz jV (ay (pv 1) rfl) aw))) ao)))
   (ai (aB (bz Cd (aM ol hr (aa (bB ln (pv 2)) (aa aw ao))) (pv 2))))) aL)
  (ai (aB (bz Cd (bx (aa (bz jV (ay (pv 1) rfl) (ay (pv 1) rfl)) ao)) (dE eS (pv 0) (bV (ay (pv 1) rfl)) (bV (ay (pv 1) rfl))))))),?_⟩
 have hsz:sizeLine=16777216:=sizeLine_eq;refine rV rfl (rf hT T.cl T.nk (DL _ _ _ _) ⟨(by show 2<=sizeLine;decide),λu hu=>?_⟩);have s1:=aC (o:=.tup [.int 0,.int 5]) hu;have hk5:t.kind<=5:=by rcases hg with⟨h,_⟩|⟨_,h⟩|⟨h,_⟩ <;> omega
 have hin:CZ (.int (t.kind:Nat)) [.int 0,.int 5]=decide (t.kind=0\/t.kind=5):=by
  have:t.kind=0\/t.kind=1\/t.kind=2\/t.kind=3\/t.kind=4\/t.kind=5:=↑2
  rcases this with h|h|h|h|h|h <;> rw[h] <;> rfl
 refine⟨u,_,rfl,.inr (fN.of ag),rfl,rfl,CZ (.int ((t.kind:Nat):Int)) [.int 0,.int 5],rfl,?_⟩;rw[hin];refine aU (λz1=>?_) λz1=>?_
 ·have z1:=of_decide_eq_true z1;refine⟨Nat.zero_le _,λx hx=>q _ x (s1.trans (aC hx)) (s1.free hx) ?_⟩;rw[ag];unfold FC;rw[if_pos z1];rfl
 have z1:¬(t.kind=0\/t.kind=5):=λz=>z1 (decide_eq_true z);have hT1:=s1 _ _ hT;have hS1:=s1.seq hS;refine rV rfl (rf hT1 T.cl T.nk (DL _ _ _ _) ⟨rfl,_,rfl,?_⟩);rw[bt];have hlo:=hB.lo;have hhi:=hB.hi;refine aU (λz2=>?_) λz2=>?_
 ·have z2:t.kind=4:=by have:=of_decide_eq_true z2;omega
  obtain⟨b1,b2,b3⟩:=hB.txt z2;refine⟨_,rfl,rV rfl (rf hT1 T.cl T.ns (ki _ _ _ _) ⟨_,_,rfl,rfl,_,rfl,rV rfl (rf hT1 T.cl T.ne (vU _ _ _ _) ⟨_,_,rfl,rfl,_,rfl,a,_,rfl,hS1,λc hc=>?_⟩)⟩)⟩;have s2:=aC (o:=.lst (gB (iv b) (some ((t.place:Int)+1)) (some ((t.halt_:Int) - 1)))) hc;refine⟨c,_,t.bytes,rfl,?_,b1,b2,λH2 l s3 h3=>?_⟩
  ·rw[<-xu b (t.place+1) (t.halt_ - 1) b3 ↑2];have e1:((t.place+1:Nat):Int)=(t.place:Int)+1:=↑2
   have e2:((t.halt_ - 1:Nat):Int)=(t.halt_:Int) - 1:=↑2
   rw[e1,e2];exact bh.of ag
  refine⟨_,rfl,l,_,rfl,.inl (bh.of h3),t.bytes.length,2,by rw[aT];rfl,↑0,λH3 m s4 h4=>?_⟩;refine⟨_,rfl,m,l,_,_,rfl,rfl,h4,s4 _ _ h3,?_,λp hp=>q _ p (s1.trans (s2.trans (s3.trans (s4.trans (aC hp))))) ((s1.trans (s2.trans (s3.trans s4))).free hp) ?_⟩
  ·rw[List.length_map,aT,hsz];show(uA _ 2).length+_<=_;unfold uA;rw[List.length_map,List.length_range];omega
  ·rw[ag,R' b2];unfold FC;rw[if_neg z1,if_pos z2];rfl
 ·have z2:t.kind≠4:=λy=>z2 (decide_eq_true (by rw[y];rfl));obtain⟨b1,b2⟩:=hB.raw ↑2 ↑2;refine rV rfl (rf hT1 T.cl T.ne (vU _ _ _ _) (rV rfl (rf hT1 T.cl T.ns (ki _ _ _ _) ⟨_,_,rfl,rfl,(by show 1<=sizeLine;decide),λl hl=>?_⟩)));have s2:=aC (o:=.lst [V.int ((t.halt_:Int) - (t.place:Int))]) hl;have hT2:=s2 _ _ hT1;refine⟨_,rfl,rV rfl (rf hT2 T.cl T.ns (ki _ _ _ _) ⟨_,rfl,rV rfl (rf hT2 T.cl T.ne (vU _ _ _ _) ⟨_,rfl,a,_,rfl,s2.seq hS1,λc hc=>?_⟩)⟩)⟩;have s3:=aC (o:=.lst (gB (iv b) (some ((t.place:Nat):Int)) (some ((t.halt_:Nat):Int)))) hc;refine⟨l,c,_,_,rfl,rfl,s3 _ _ ag,ag,?_,λp hp=>q _ p (s1.trans (s2.trans (s3.trans (aC hp)))) ((s1.trans (s2.trans s3)).free hp) ?_⟩
  ·have:=oU (iv b) (some ((t.place:Nat):Int)) (some ((t.halt_:Nat):Int));rw[xu b t.place t.halt_ ↑2 hhi,<-b1,aT,hsz];show 1+_<=_;omega
  ·rw[ag,xu b t.place t.halt_ ↑2 hhi,<-b1];unfold FC;rw[if_neg z1,if_neg z2];have hl:t.bytes.length=t.halt_ - t.place:=by
    rw[b1,List.length_take,List.length_drop];omega
   show some (HO.lst (V.int ((t.halt_:Int) - (t.place:Int))::iv t.bytes))=some (HO.lst (V.int ((UInt8.ofNat t.bytes.length).toNat:Int)::iv t.bytes));rw[show(UInt8.ofNat t.bytes.length).toNat=t.bytes.length by simp;omega,hl,show((t.halt_ - t.place:Nat):Int)=(t.halt_:Int) - (t.place:Int) by omega]
section
open MA (nm VC FT flat c_)
def ud(K:Frag):V->MA.Sym->Prop
 |v,.bg (.kind k)=>v= .int k/\k<256
 |v,.bg .row=>v= .str "@row"
 |v,.bg .count=>v= .str "@count"
 |v,.bg .set=>v= .str "@set"
 |v,.bW b=>∃a,v= .ref a/\b.length=1/\∀H,fN K H a (iv b)
 |v,.turn k=>∃a,v= .ref a/\k<256/\∀H,fN K H a [.str "@turn",.int k]
 |v,.take=>v= .str "@take"
 |v,.fin=>v= .str "@end"
 |v,.w x=>v= .str (nm x)/\x∈VC
inductive Il(K:Frag)(v:V)(y:Nat×List MA.Sym):Prop
 |mk(a:_) (b:_) (us:_) (_:v= .ref a) (_:(∀H,fN K H a [.str (nm y.1),.ref b])) (_:(∀H,fN K H b us)) (_:Paired (ud K) us y.2)
inductive Jb(K:Frag)(v:V)(g:List (Nat×List MA.Sym)):Prop
 |mk(a:_) (vs:_) (_:v= .ref a) (_:(∀H,fN K H a vs)) (_:Paired (Il K) vs g)
def xE(K:Frag):Nat->List (Str×V)->List (List (Nat×List MA.Sym))->Prop
 |_,[],[]=>True
 |i,kv::l,g::G=>kv.1=nm i/\Jb K kv.2 g/\xE K (i+1) l G
 |_,_,_=>False
inductive F1(K:Frag)(P:Params)(mg:Str->Option Value):Prop
 |mk(a:_) (l:_) (_:mg "RULES"=some (.ref a)) (_:Ph K P a l) (_:xE K 1000 l MA.cN)
inductive Jx(K:Frag)(H:Hp)(kv:List Key×V)(p:(Nat×Nat)×List MA.Sym):Prop
 |mk(_:kv.1=[.inr (nm p.1.1),.inr (nm p.1.2)]) (b:_) (us:_) (_:kv.2= .ref b) (_:H b=some (.tup us.reverse)) (_:Paired (ud K) us p.2)
inductive rB(K:Frag)(H:Hp)(d:Addr):Prop
 |mk(kvs:_) (_:H d=some (.dT kvs)) (_:Paired (Jx K H) kvs FT)
theorem Jx.same{K:Frag}{H':Hp}{kv:List Key×V}{p:(Nat×Nat)×List MA.Sym}(s:∀b xs,H b=some (.tup xs)->H' b=some (.tup xs))(h:Jx K H kv p):Jx K H' kv p:=by obtain⟨h1,b,us,h2,h3,h4⟩:=h;exact⟨h1,b,us,h2,s _ _ h3,h4⟩
theorem rB.same{K:Frag}{H':Hp}{d:Addr}(s:aF H H')(h:rB K H d):rB K H' d:=by obtain⟨kvs,h1,h2⟩:=h;exact⟨kvs,s _ _ h1,L2.Paired.imp' (λ_ _ z=>Jx.same (λb xs=>s b _) z) h2⟩
theorem xE.length{K:Frag}:∀{i:Nat}{l:List (Str×V)}{G:List (List (Nat×List MA.Sym))},xE K i l G->l.length=G.length
 |_,[],[],_=>rfl
 |_,_::_,_::_,⟨_,_,r⟩=>congrArg (·+1) r.length
theorem xE.get{K:Frag}:∀{i:Nat}{l:List (Str×V)}{G:List (List (Nat×List MA.Sym))}{j:Nat}{kv:Str×V},xE K i l G->l[j]?=some kv->∃g,G[j]?=some g/\kv.1=nm (i+j)/\Jb K kv.2 g
 |_,[],[],_,_,_,h=>by simp at h
 |i,_::_,g::_,0,_,⟨h1,h2,_⟩,h=>by
  simp only[List.getElem?_cons_zero,Option.some.injEq] at h;subst h;exact⟨g,rfl,h1,h2⟩
 |i,_::_,_::_,j+1,_,⟨_,_,r⟩,h=>by
  simp only[List.getElem?_cons_succ] at h ⊢;obtain⟨g,a,b,c⟩:=r.get h;exact⟨g,a,by rw[b];congr 1;omega,c⟩
theorem xE.find{K:Frag}:∀{i:Nat}{l:List (Str×V)}{G:List (List (Nat×List MA.Sym))}{j:Nat}{kv:Str×V},xE K i l G->(∀m,i<=m->m<i+G.length->m∈VC)->l[j]?=some kv->Pj l kv.1=some kv.2
 |_,[],[],_,_,_,_,h=>by simp at h
 |i,x::_,g::_,0,kv,_,_,h=>by
  simp only[List.getElem?_cons_zero,Option.some.injEq] at h;subst h;unfold Pj;rw[List.find?_cons,decide_eq_true rfl];rfl
 |i,x::l,g::G,j+1,kv,⟨h1,_,r⟩,hv,h=>by
  simp only[List.getElem?_cons_succ] at h;have hj:j<l.length:=(List.getElem?_eq_some_iff.mp h).1;have hl:=r.length;obtain⟨_,_,hn,_⟩:=r.get h;have ne:¬x.1=kv.1:=by
   rw[h1,hn];intro e;have:=MA.yj (hv i (Nat.le_refl _) (by simp only[List.length_cons];omega)) (hv (i+1+j) ↑2 (by simp only[List.length_cons];omega)) e;omega
  have ih:=r.find (λm a b=>hv m ↑2 (by simp only[List.length_cons];omega)) h;unfold Pj at ih ⊢;rw[List.find?_cons,decide_eq_false ne];exact ih
theorem Dm:∀m,1000<=m->m<1000+MA.cN.length->m∈VC:=λm a b=>MA.cx (by
 have:MA.cN.length=72:=rfl;unfold MA.lD;simp only[Bool.or_eq_true,Bool.and_eq_true];exact .inr ⟨Nat.ble_eq_true_of_le a,Nat.ble_eq_true_of_le ↑2⟩)
theorem xK{K:Frag}:∀{kvs:List (List Key×V)}{L:List ((Nat×Nat)×List MA.Sym)}{x l:Nat},Paired (Jx K H) kvs L->(∀p∈L,p.1.1∈VC/\p.1.2∈VC)->x∈VC->l∈VC->
  (c_ L x l=none->jw kvs [.inr (nm x),.inr (nm l)]=none)/\∀r,c_ L x l=some r->∃b us,jw kvs [.inr (nm x),.inr (nm l)]=some (.ref b)/\H b=some (.tup us.reverse)/\Paired (ud K) us r
 |_,_,x,l,.nil,_,_,_=>⟨λ_=>rfl,λr h=>by cases h⟩
 |_,_,x,l,@Paired.cons _ _ _ kv p kvs L h r,hv,hx,hl=>by
  obtain⟨h1,b,us,h2,h3,h4⟩:=h;have hp:=hv p (List.mem_cons_self ..);have ih:=xK (x:=x) (l:=l) r (λq hq=>hv q (List.mem_cons_of_mem _ hq)) hx hl;unfold c_;by_cases e:p.1.1=x/\p.1.2=l
  ·rw[if_pos e];refine⟨λh=>(by cases h),λr hr=>?_⟩;cases hr;refine⟨b,us,?_,h3,h4⟩;rw[kT (by rw[h1,e.1,e.2]),h2]
  ·rw[if_neg e];have ne:¬kv.1=[Sum.inr (nm x),Sum.inr (nm l)]:=by
    rw[h1];intro c;simp only[List.cons.injEq,Sum.inr.injEq,and_true] at c;exact e ⟨MA.yj hp.1 hx c.1,MA.yj hp.2 hl c.2⟩
   rw[ll ne];exact ih
theorem C1:∀p∈FT,p.1.1∈VC/\p.1.2∈VC:=λp hp=>by
 have:=List.all_eq_true.mp MA.RP p hp;simp only[Bool.and_eq_true] at this;exact⟨MA.cx this.1.1,MA.cx this.1.2⟩
theorem N_{pre post:List ((Nat×Nat)×List MA.Sym)}{p:(Nat×Nat)×List MA.Sym}(h:FT=pre++p::post):c_ pre p.1.1 p.1.2=none:=by
 have nd:=MA.nP MA.JD;rw[h,List.map_append,List.map_cons] at nd;have nd:=(List.nodup_append.mp nd).2.2;have key:∀(L:List ((Nat×Nat)×List MA.Sym)),(∀q∈L,q.1.1*4096+q.1.2≠p.1.1*4096+p.1.2)->c_ L p.1.1 p.1.2=none:=by
  intro L;induction L with
  |nil=>intro _;rfl
  |cons q L ih=>
   intro hq;unfold c_;rw[if_neg λc=>hq q (List.mem_cons_self ..) (by rw[c.1,c.2])];exact ih λz hz=>hq z (List.mem_cons_of_mem _ hz)
 exact key pre λq hq e=>nd _ (List.mem_map.mpr ⟨q,hq,rfl⟩) _ (List.mem_cons_self ..) e
theorem qy:∀(A B:List (List (Nat×List MA.Sym)))(i:Nat),flat i (A++B)=flat i A++flat (i+A.length) B
 |[],B,i=>rfl
 |g::A,B,i=>by
  show g.map _++flat (i+1) (A++B)=(g.map _++flat (i+1) A)++flat (i+(A.length+1)) B;rw[qy A B (i+1),List.append_assoc,show i+1+A.length=i+(A.length+1) by omega]
def p_(i:Nat)(g:List (Nat×List MA.Sym))(j:Nat):List ((Nat×Nat)×List MA.Sym):=flat 1000 (MA.cN.take i)++(g.take j).map λy=>((1000+i,y.1),y.2)
theorem Oi{i j:Nat}{g:List (Nat×List MA.Sym)}{y:Nat×List MA.Sym}(hg:MA.cN[i]?=some g)(hy:g[j]?=some y):∃post,FT=p_ i g j++((1000+i,y.1),y.2)::post:=by
 have hi:i<MA.cN.length:=(List.getElem?_eq_some_iff.mp hg).1;have e1:MA.cN=MA.cN.take i++(g::MA.cN.drop (i+1)):=by
  conv=>lhs;rw[<-List.take_append_drop i MA.cN]
  rw[List.drop_eq_getElem_cons hi,(List.getElem?_eq_some_iff.mp hg).2]
 have e2:g=g.take j++(y::g.drop (j+1)):=by
  have hj:j<g.length:=(List.getElem?_eq_some_iff.mp hy).1;conv=>lhs;rw[<-List.take_append_drop j g]
  rw[List.drop_eq_getElem_cons hj,(List.getElem?_eq_some_iff.mp hy).2]
 refine⟨(g.drop (j+1)).map (λy=>((1000+i,y.1),y.2))++flat (1000+i+1) (MA.cN.drop (i+1)),?_⟩;unfold MA.FT p_;conv=>lhs;rw[e1]
 rw[qy,List.length_take,Nat.min_eq_left (Nat.le_of_lt hi)];show _++(g.map _++_)=_;conv=>lhs;rw[e2]
 rw[List.map_append,List.map_cons,List.append_assoc,List.append_assoc];rfl
theorem G7{i:Nat}{g:List (Nat×List MA.Sym)}(hg:MA.cN[i]?=some g):p_ i g g.length=flat 1000 (MA.cN.take (i+1)):=by have hi:i<MA.cN.length:=(List.getElem?_eq_some_iff.mp hg).1;unfold p_;rw[take_snoc hg,qy,List.take_length,List.length_take,Nat.min_eq_left (Nat.le_of_lt hi)];show _=_++(g.map _++[]);rw[List.append_nil]
theorem D6{i j:Nat}{g:List (Nat×List MA.Sym)}{y:Nat×List MA.Sym}(hy:g[j]?=some y):p_ i g (j+1)=p_ i g j++[((1000+i,y.1),y.2)]:=by unfold p_;rw[take_snoc hy,List.map_append,List.append_assoc];rfl
theorem OX(i:Nat)(g:List (Nat×List MA.Sym)):p_ i g 0=flat 1000 (MA.cN.take i):=by unfold p_;exact List.append_nil _
def Oj(K:Frag):Sp:=λvs H Q _=>vs=[]/\∀H' d,aF H H'->H d=none->rB K H' d->Q (.ref d) H'
theorem zL:ax ["rows","part","look","row"] [] (aq (top 88)):=↑3
theorem NA:FT.length<1000:=↑1
theorem QN(d:Def K mg "rows_by_token" (top 88) [])(hR:F1 K w.params mg):Ok P w K mg base bf 1 "rows_by_token" [] (Oj K):=d.ok λf fd F=>by
 refine F.ok zL (by rintro vs H Q E ⟨rfl,_⟩;rfl) (λUQ A outer s H vs Q E hr h=>?_);obtain⟨rfl,q⟩:=h;obtain⟨a,l,ma,hK,hL⟩:=hR;refine⟨_,aj (aN (i:=0) zL.nd rfl (Or.inl rfl) Hf)
  (aj (rm PassesOwn.never rfl (SX (fQ ma)) (fM (i:=1) zL.nd rfl (Or.inl rfl))
   (ai (rm PassesOwn.never rfl (Ow (bA S0 (fQ ma) (pv 1) (λ_ _=>rfl))) (Mt rfl (zG (fM (i:=2) zL.nd rfl (Or.inl rfl)) (zG (fM (i:=3) zL.nd rfl (Or.inl rfl)) Km)))
    (ai (JI (LC hr) (pv 0) (fW (aa (pv 1) (aa (pv 2) ao))) (Jn (pv 3)) rfl)))))
  (ai (aB (pv 0)))),?_⟩
 intro d hd;have hll:=hL.length;refine⟨a,l,rfl,hK,Rg hK (λi σ H'=>∃v1 v2 v3 kvs,σ=[some (.ref d),v1,v2,v3]/\H' d=some (.dT kvs)/\Paired (Jx K H') kvs (flat 1000 (MA.cN.take i))/\aF H H') ?_ ?_ ?_⟩
 ·exact⟨_,_,_,[],rfl,ag,.nil,aC hd⟩
 ·rintro i k v σ H1 hi ⟨v1,v2,v3,kvs,rfl,h1,h2,s1⟩;obtain⟨g,hg,hk,b,vs,hv,hT,hP⟩:=hL.get hi;have hf:=hL.find Dm hi;have hlen:vs.length=g.length:=Paired.length hP;have hi':i<MA.cN.length:=(List.getElem?_eq_some_iff.mp hg).1;dsimp only at hk hv hf;refine⟨_,rfl,k,a,l,v,rfl,rfl,hK,hf,b,hv,⟨_,hT _⟩,JC (K:=K) (a:=b) (xs:=vs) (λj σ H'=>∃v2 v3 kvs,σ=[some (.ref d),some (.str k),v2,v3]/\H' d=some (.dT kvs)/\Paired (Jx K H') kvs (p_ i g j)/\aF H H') ?_ (λ_ _ _ _ _=>hT _) ?_ ?_⟩
  ·exact⟨_,_,kvs,rfl,h1,by rw[OX];exact h2,s1⟩
  ·rintro j y σ H2 hj ⟨v2,v3,kvs,rfl,h3,h4,s2⟩;obtain⟨yy,hyy,c,e,us,rfl,t1,t2,t3⟩:=jv hP hj;obtain⟨post,hFT⟩:=Oi hg hyy;have hnew:=N_ hFT;have hin:∀p∈p_ i g j,p.1.1∈VC/\p.1.2∈VC:=λp hp=>C1 p (by rw[hFT];exact List.mem_append_left _ hp);have hme:=C1 ((1000+i,yy.1),yy.2) (by rw[hFT];exact List.mem_append_right _ (List.mem_cons_self ..));refine⟨c,_,rfl,t1 _,rfl,_,_,rfl,_,_,rfl,rfl,?_⟩;refine⟨_,rfl,e,us,rfl,.inr ⟨t2 _,λr hr=>?_⟩⟩;have n1:d≠r:=au h3 hr;refine⟨_,rfl,_,rfl,_,rfl,(by show 2<=sizeLine;decide),λt ht=>?_⟩;have hdt:(upd (upd H2 r (.tup us.reverse)) t (.tup [.str k,.str (nm yy.1)])) d=some (.dT kvs):=by
    have n2:d≠t:=au (show upd H2 r (.tup us.reverse) d=some (.dT kvs) by rw[ah n1];exact h3) ht;rw[ah n2,ah n1];exact h3
   have hkl:kvs.length<sizeLine:=by
    have e1:kvs.length=(p_ i g j).length:=Paired.length h4;have e2:=NA;rw[hFT,List.length_append] at e2;have:sizeLine=16777216:=sizeLine_eq;omega
   refine⟨d,_,rfl,Ih.t (k:=[.inr k,.inr (nm yy.1)]) hdt ag hkl,_,_,_,rfl,ag,?_,?_⟩
   ·have hval:jw kvs [Sum.inr k,Sum.inr (nm yy.1)]=none:=by
     rw[hk];exact(xK h4 hin hme.1 hme.2).1 hnew
    rw[Hu _ hval,D6 hyy];have tk:∀b' xs,H2 b'=some (.tup xs)->upd (upd (upd H2 r (.tup us.reverse)) t (.tup [.str k,.str (nm yy.1)])) d (.dT (kvs++[([Sum.inr k,Sum.inr (nm yy.1)],V.ref r)])) b'=some (.tup xs):=λb' xs hb'=>by
     have m1:b'≠d:=dA hb' h3 (by intro z;cases z);have m2:b'≠r:=au hb' hr;have m3:b'≠t:=au (show upd H2 r (.tup us.reverse) b'=some (.tup xs) by rw[ah m2];exact hb') ht;rw[ah m1,ah m3,ah m2];exact hb'
    refine Paired.snoc (L2.Paired.imp' (λ_ _ z=>Jx.same tk z) h4) ⟨by rw[hk],r,us,rfl,?_,t3⟩;have m3:r≠t:=au ag ht;rw[ah (Ne.symm n1),ah m3,ag]
   ·exact λb' o hb'=>by
     have m1:b'≠d:=au hb' hd;have m2:b'≠r:=au (s2 _ _ hb') hr;have m3:b'≠t:=au (show upd H2 r (.tup us.reverse) b'=some o by rw[ah m2];exact s2 _ _ hb') ht;rw[ah m1,ah m3,ah m2];exact s2 _ _ hb'
  ·rintro σ H2 ⟨v2,v3,kvs,rfl,h3,h4,s2⟩;exact⟨_,_,_,kvs,rfl,h3,by rw[<-G7 hg,<-hlen];exact h4,s2⟩
 ·rintro σ H1 ⟨v1,v2,v3,kvs,rfl,h1,h2,s1⟩;refine⟨_,rfl,q H1 d s1 hd ⟨kvs,h1,?_⟩⟩;rw[hll,List.take_length] at h2;exact h2
end
abbrev MO:Stmt:=inClass (top 77) 0
inductive DE(C:Addr)(vs:List V)(H:Hp)(Q:VK)(E:XK):Prop
 |mk(p dx:Addr) (f n:V) (_:vs=[.ref p,f,n]) (_:H p=some (.ins C dx [])) (_:∀H' l,H l=none->H' p=some (.ins C dx (rG f (.ref l) n n))->H' l=some (.lst [])->FI p H H'->Q .bH H')
theorem Mq:ax ["self","form","first"] ["self","form","first"] (aq MO):=↑3
abbrev Up(K:Frag)(mg:Str->Option Value)(C:Addr):Prop:=yf K mg "Twig" "Twig.__init__" MO C ["self","form","first"]
theorem NI(d:Up K mg C)(T:Jz K C):uL P w K mg base 1 "Twig" C ["self","form","first"] (DE C):=d.new λf fd F=>by
 refine F.ok Mq (by rintro vs H Q E ⟨p,dx,f,n,rfl,_⟩;rfl) (λUQ A outer s H vs Q E hr h=>?_);obtain⟨p,dx,f,n,rfl,h1,k⟩:=h;refine⟨_,aj (bE (pv 0) (pv 1) rfl) (aj (bE (pv 0) (bx ao) rfl) (aj (bE (pv 0) (pv 2) rfl) (ai (bE (pv 0) (pv 2) rfl)))),?_⟩;refine⟨_,rfl,_,rfl,p,C,dx,[],rfl,h1,T.cl,T.nf,(by show 0<1000;decide),Nat.zero_le _,λl hl=>?_⟩;have hlp:l≠p:=λz=>by rw[z,ag] at hl;cases hl
 have hl0:H l=none:=by rw[ah hlp] at hl;exact hl
 have hp2:(upd (upd H p (.ins C dx (aW "form" f []))) l (.lst [])) p=some (.ins C dx (aW "form" f [])):=by rw[ah (Ne.symm hlp),ag]
 refine⟨_,rfl,p,C,dx,_,rfl,hp2,T.cl,T.np,(by show 1<1000;decide),_,rfl,_,rfl,p,C,dx,_,rfl,ag,T.cl,T.n1,Nat.lt_of_le_of_lt (aG _ _ _) (by show 2<1000;decide),
  _,rfl,_,rfl,p,C,dx,_,rfl,ag,T.cl,T.nb,Nat.lt_of_le_of_lt (aG _ _ _) (Nat.lt_of_le_of_lt (Nat.succ_le_succ (aG _ _ _)) (by show 3<1000;decide)),?_⟩
 refine k _ l hl0 (by rw[ag,K0]) ?_ λb o hb hp=>?_
 ·rw[ah hlp,ah hlp,ah hlp,ag]
 ·rw[ah hp,ah hp,ah hp,ah (au hb hl0),ah hp];exact hb
def Ta(CW:Addr)(N:Nat)(F H:Hp)(a l:Addr)(fr:MA.Fr):Prop:=∃dx d vs,H a=some (.ins CW dx (rG (yB fr.form) (.ref l) (.int ((N:Int) - MA.len fr.form.yJ)) d))/\H l=some (.lst vs)/\b_ CW N F vs fr.parts/\F a=none/\F l=none/\ye fr.form
inductive eJ(CW:Addr)(N:Nat)(F H:Hp):List (Addr×Addr)->List MA.Fr->Prop
 |nil:eJ CW N F H [] []
 |cons{x:Addr×Addr} {fr:MA.Fr} {al:List (Addr×Addr)} {G:List MA.Fr}:Ta CW N F H x.1 x.2 fr->eJ CW N F H al G->eJ CW N F H (x::al) (fr::G)
section
variable{CW CG:Addr}{N:Nat}{F F' H H':Hp}{al:List (Addr×Addr)}{G:List MA.Fr}
theorem eJ.keep:∀{al:List (Addr×Addr)}{G:List MA.Fr},(∀b o,b∈al.map Prod.fst\/b∈al.map Prod.snd->H b=some o->H' b=some o)->eJ CW N F H al G->eJ CW N F H' al G
 :=by
  intro al G k h;induction h with
  |nil=>exact .nil
  |cons h r ih=>
    obtain⟨dx,d,vs,h1,h2,h3⟩:=h;exact .cons ⟨dx,d,vs,k _ _ (.inl (List.mem_cons_self ..)) h1,k _ _ (.inr (List.mem_cons_self ..)) h2,h3⟩ (ih λb o hb=>k b o (hb.elim (λz=>.inl (List.mem_cons_of_mem _ z)) λz=>.inr (List.mem_cons_of_mem _ z)))
theorem eJ.zu(s:aF F F'):∀{al:List (Addr×Addr)}{G:List MA.Fr},(∀b,b∈al.map Prod.fst\/b∈al.map Prod.snd->F' b=none)->eJ CW N F H al G->eJ CW N F' H al G
 :=by
  intro al G k h;induction h with
  |nil=>exact .nil
  |cons h r ih=>
    obtain⟨dx,d,vs,h1,h2,h3,h4,h5,h6⟩:=h;exact .cons ⟨dx,d,vs,h1,h2,h3.same s,k _ (.inl (List.mem_cons_self ..)),k _ (.inr (List.mem_cons_self ..)),h6⟩ (ih λb hb=>k b (hb.elim (λz=>.inl (List.mem_cons_of_mem _ z)) λz=>.inr (List.mem_cons_of_mem _ z)))
theorem eJ.ins:∀{al:List (Addr×Addr)}{G:List MA.Fr}{b:Addr},eJ CW N F H al G->b∈al.map Prod.fst->(∃dx fs,H b=some (.ins CW dx fs))/\F b=none
 :=by
  intro al G b f h;induction f with
  |nil=>cases h
  |cons f r ih=>
    rcases List.mem_cons.mp h with rfl|h
    · obtain⟨dx,d,vs,h1,h2,h3,h4,_⟩:=f;exact⟨⟨_,_,h1⟩,h4⟩
    · exact ih h
theorem eJ.lst:∀{al:List (Addr×Addr)}{G:List MA.Fr}{b:Addr},eJ CW N F H al G->b∈al.map Prod.snd->(∃vs,H b=some (.lst vs))/\F b=none
 :=by
  intro al G b f h;induction f with
  |nil=>cases h
  |cons f r ih=>
    rcases List.mem_cons.mp h with rfl|h
    · obtain⟨dx,d,vs,h1,h2,h3,h4,h5,_⟩:=f;exact⟨⟨_,h2⟩,h5⟩
    · exact ih h
def Own(bl:Addr)(al:List (Addr×Addr))(b:Addr):Prop:=b=bl\/b∈al.map Prod.fst\/b∈al.map Prod.snd
def Kept(bl:Addr)(al:List (Addr×Addr))(H H':Hp):Prop:=∀b o,H b=some o->¬Own bl al b->H' b=some o
structure cD(CG CW:Addr)(N:Nat)(F H:Hp)(g bl:Addr)(al:List (Addr×Addr))(G:List MA.Fr):Prop where
 sm:aF F H
 hg:∃dx,H g=some (.ins CG dx [("begun",.ref bl)])
 hb:H bl=some (.lst (al.map λx=>V.ref x.1).reverse)
 fs:eJ CW N F H al G
 n1:(al.map Prod.fst).Nodup
 n2:(al.map Prod.snd).Nodup
 nb:bl∉al.map Prod.snd
 fb:F bl=none
 ng:g∉al.map Prod.fst
theorem cD.bne{g bl:Addr}(h:cD CG CW N F H g bl al G){b:Addr}(hb:b∈al.map Prod.fst):b≠bl:=by obtain⟨⟨dx,fs,e⟩,_⟩:=h.fs.ins hb;exact dA e h.hb (by intro z;cases z)
theorem eJ.sep(h:eJ CW N F H al G){a b:Addr}(ha:a∈al.map Prod.fst)(hb:b∈al.map Prod.snd):a≠b:=by obtain⟨⟨dx,fs,e⟩,_⟩:=h.ins ha;obtain⟨⟨vs,e'⟩,_⟩:=h.lst hb;exact dA e e' (by intro z;cases z)
theorem cD.kept{g bl:Addr}(h:cD CG CW N F H g bl al G)(k:∀b o,H b=some o->Own bl al b\/b=g\/F b≠none->H' b=some o):cD CG CW N F H' g bl al G where
 sm:=λb o hb=>k b o (h.sm _ _ hb) (.inr (.inr (by rw[hb];intro z;cases z)))
 hg:=let⟨dx,e⟩:=h.hg;⟨dx,k _ _ e (.inr (.inl rfl))⟩
 hb:=k _ _ h.hb (.inl (.inl rfl))
 fs:=h.fs.keep λb o hb e=>k b o e (.inl (.inr hb))
 n1:=h.n1
 n2:=h.n2
 nb:=h.nb
 fb:=h.fb
 ng:=h.ng
end
theorem fz{v:V}:([(("begun":Str),v)]:List (Str×V)).lookup ("begun":Str)=some v:=fP
theorem gC{v:V}{m:Str}(h:m≠"begun"):([(("begun":Str),v)]:List (Str×V)).lookup m=none:=(aO h).trans rfl
structure FH(K:Frag)(C:Addr):Prop where
 cl:tV K C
 nb:aE K C "begun"
theorem ib{X:Cx}{k:Nat}{m:Str}{sp:Sp}{o e:Expr}{es:List Expr}{ta:TE}{t:TA}{apos pos:Pos}{pl:Sem Bool}(h:i5 X.prog X.w X.K X.mg X.base k C m ps sp)(cl:tV X.K C)(hr:bC k X.A)(he:PE X o ta)(ha:PA X (e::es) t)(hst:starEach (e::es) X.env=(false,eval e X.env)::starEach es X.env:=by rfl)(hpl:(backTo pos (starEach es X.env)).any (·.1)=false:=by rfl)(ht:eval (.Call (.Attribute o m apos) (e::es) [] pos) X.env=(do
   let ov<-eval o X.env
   standAt apos.atName
   let(f,first)<-holding [ov] (getMethod ov m pl)
   callWith pos f first (backTo pos (starEach (e::es) X.env)) (backToKw pos (keywordEach [] X.env))):=by rfl):PE X (.Call (.Attribute o m apos) (e::es) [] pos) (zy C m sp [] E0 ta t):=by
 obtain⟨f,fd,M,F,b⟩:=h.ex;exact JW he cl M F hr b .nil hJ ha hst hpl ht
theorem dj.ok{m qual:Str}{st:Stmt}{k:Nat}{sp:Sp}(d:dj K C m qual st ps)(h:∀f fd,js K m qual st f fd->bY P w K mg base bf k f fd ps sp):i5 P w K mg base k C m ps sp:=by obtain⟨f,fd,M,F,b⟩:=d.ex;exact⟨f,fd,M,h f fd F,b⟩
abbrev mQ(i:Nat):Stmt:=inClass (top 78) i
inductive O3(CG CW:Addr)(vs:List V)(H:Hp)(Q:VK)(E:XK):Prop
 |mk(g bl:Addr) (al:List (Addr×Addr)) (G:List MA.Fr) (N:Nat) (F:Hp) (f:MA.Fk) (s:EwTree.St) (_:vs=[.ref g,yB (f.at s),.int ((N:Int) - MA.len s)]) (_:cD CG CW N F H g bl al G) (_:al.length<16000000) (_:ye (f.at s)) (_:∀H' a l,cD CG CW N F H' g bl ((a,l)::al) (⟨f.at s,[]⟩::G)->H a=none->H l=none->Kept bl al H H'->Q .bH H')
theorem Ry:ax ["self","form","passed"] ["self","form","passed"] (aq (mQ 1)):=↑3
theorem M6(f:MA.Fk)(s:EwTree.St):(f.at s).yJ=s:=by cases f <;> rfl
theorem PH(d:dj K CG "begin" "Growth.begin" (mQ 1) ["self","form","passed"])(TG_:FH K CG)(nT:uL P w K mg base 1 "Twig" CW ["self","form","first"] (DE CW)):i5 P w K mg base 3 CG "begin" ["self","form","passed"] (O3 CG CW):=d.ok λf fd F=>by
 refine F.ok Ry (by rintro vs H Q E ⟨g,bl,al,G,N,F,f,s,rfl,_⟩;rfl) (λUQ A outer s H vs Q E hr h=>?_);obtain⟨g,bl,al,G,N,F,f,s,rfl,hG,hl,hk,q⟩:=h;obtain⟨dx,hg⟩:=hG.hg;refine⟨_,ai (aS (fK PySem.F.plainAttrs_list PySem.F.slot_list_append PySem.F.type_list_append cZ (ay (pv 0) rfl) (aa (eK nT hr (aa (pv 1) (aa (pv 2) ao))) ao))),?_⟩;have hsz:sizeLine=16777216:=sizeLine_eq;refine rV rfl (rf hg TG_.cl TG_.nb fz ⟨.inl ⟨rfl,_,bh.of hG.hb⟩,_,rfl,_,rfl,λx dx' nx nd ne=>⟨x,dx',_,_,rfl,ag,λH1 l hl0 h1 h2 fr=>⟨rfl,?_⟩⟩⟩);have s1:=aF.made nx nd fr;have hl1:H l=none:=by
  have:=hl0;by_cases z:l=x
  ·rw[z,ag] at this;cases this
  ·rw[ah z] at this;by_cases z2:l=dx'
   ·rw[z2,ag] at this;cases this
   ·rw[ah z2] at this;exact this
 have hb1:=s1 _ _ hG.hb;have nbx:bl≠x:=au hG.hb nx;have nbl:bl≠l:=au hG.hb hl1;refine⟨bl,_,_,rfl,rfl,hb1,(by rw[List.length_reverse,List.length_map,hsz];omega),?_⟩;have nx1:x∉al.map Prod.fst:=λz=>by obtain⟨⟨_,_,e⟩,_⟩:=hG.fs.ins z;rw[e] at nx;cases nx
 have nl1:l∉al.map Prod.snd:=λz=>by obtain⟨⟨_,e⟩,_⟩:=hG.fs.lst z;rw[e] at hl1;cases hl1
 have kp:∀b o,H b=some o->b≠bl->upd H1 bl (.lst ((al.map λx=>V.ref x.1).reverse++[V.ref x])) b=some o:=λb o hb nb=>by rw[ah nb];exact s1 _ _ hb
 refine q _ x l ⟨λb o hb=>?_,⟨dx,kp _ _ hg (dA hg hG.hb (by intro z;cases z))⟩,by rw[ag,List.map_cons,List.reverse_cons],.cons ⟨dx',.int ((N:Int) - MA.len s),[],?_,?_,.nil,hG.sm.free nx,hG.sm.free hl1,hk⟩ ?_,List.nodup_cons.mpr ⟨nx1,hG.n1⟩,List.nodup_cons.mpr ⟨nl1,hG.n2⟩,?_,hG.fb,?_⟩ nx hl1 λb o hb no=>kp b o hb λz=>no (.inl z)
 ·exact kp b o (hG.sm _ _ hb) (λz=>by rw[z,hG.fb] at hb;cases hb)
 ·rw[ah (Ne.symm nbx),h1,M6]
 ·rw[ah (Ne.symm nbl)];exact h2
 ·exact hG.fs.keep λb o hb e=>kp b o e (hb.elim (λz=>hG.bne z) λz y=>hG.nb (y▸z))
 ·exact λz=>(List.mem_cons.mp z).elim nbl hG.nb
 ·exact λz=>(List.mem_cons.mp z).elim (au hg nx) hG.ng
theorem iJ{al:List (Addr×Addr)}{x:Addr×Addr}:((x::al).map λx=>V.ref x.1).reverse=(al.map λx=>V.ref x.1).reverse++[V.ref x.1]:=by rw[List.map_cons,List.reverse_cons]
theorem cD.Qj{N:Nat}{F:Hp}{g bl:Addr}{x:Addr×Addr}{al:List (Addr×Addr)}{G:List MA.Fr}{fr fr':MA.Fr}{dx:Addr}{d:V}{vs:List V}(h:cD CG CW N F H g bl (x::al) (fr::G))(hl:H x.2=some (.lst vs))(hp:b_ CW N F vs fr'.parts)(hk:ye fr'.form):
  cD CG CW N F (upd H x.1 (.ins CW dx (rG (yB fr'.form) (.ref x.2) (.int ((N:Int) - MA.len fr'.form.yJ)) d))) g bl (x::al) (fr'::G)/\Kept bl (x::al) H (upd H x.1 (.ins CW dx (rG (yB fr'.form) (.ref x.2) (.int ((N:Int) - MA.len fr'.form.yJ)) d))):=by
 have hx:x.1∈(x::al).map Prod.fst:=List.mem_cons_self ..;have hx2:x.2∈(x::al).map Prod.snd:=List.mem_cons_self ..;have hF:=(h.fs.ins hx).2;have hF2:=(h.fs.lst hx2).2;have nb:=h.bne hx;have n12:=h.fs.sep hx hx2;have n1:=List.nodup_cons.mp h.n1;obtain⟨dg,hg⟩:=h.hg;have ngx:g≠x.1:=λz=>h.ng (z▸hx);refine⟨⟨λb o hb=>?_,⟨dg,by rw[ah ngx];exact hg⟩,by rw[ah (Ne.symm nb)];exact h.hb,.cons ⟨dx,d,vs,ag,by rw[ah (Ne.symm n12)];exact hl,hp,hF,hF2,hk⟩ ?_,h.n1,h.n2,h.nb,h.fb,h.ng⟩,λb o hb no=>?_⟩
 ·rw[ah (λz=>by rw[z,hF] at hb;cases hb)];exact h.sm _ _ hb
 ·cases h.fs with
  |cons _ r=>
   refine r.keep λb o hb e=>?_;rw[ah (hb.elim (λz (y:b=x.1)=>n1.1 (by rw[<-y];exact z)) λz=>Ne.symm (h.fs.sep hx (List.mem_cons_of_mem _ z)))];exact e
 ·rw[ah λ(z:b=x.1)=>no (.inr (.inl (by rw[z];exact hx)))];exact hb
theorem cD.Nj{N:Nat}{F:Hp}{g bl:Addr}{x:Addr×Addr}{al:List (Addr×Addr)}{G:List MA.Fr}{fr fr':MA.Fr}{vs:List V}(h:cD CG CW N F H g bl (x::al) (fr::G))(hp:b_ CW N F vs fr'.parts)(he:fr'.form=fr.form):
  cD CG CW N F (upd H x.2 (.lst vs)) g bl (x::al) (fr'::G)/\Kept bl (x::al) H (upd H x.2 (.lst vs)):=by
 have hx:x.1∈(x::al).map Prod.fst:=List.mem_cons_self ..;have hx2:x.2∈(x::al).map Prod.snd:=List.mem_cons_self ..;have hF:=(h.fs.ins hx).2;have hF2:=(h.fs.lst hx2).2;have nb:x.2≠bl:=λz=>h.nb (z▸hx2);have n12:=h.fs.sep hx hx2;have n2:=List.nodup_cons.mp h.n2;obtain⟨dg,hg⟩:=h.hg;obtain⟨⟨us,hl⟩,_⟩:=h.fs.lst hx2;have ngx:g≠x.2:=dA hg hl (by intro z;cases z);refine⟨⟨λb o hb=>?_,⟨dg,by rw[ah ngx];exact hg⟩,by rw[ah (Ne.symm nb)];exact h.hb,?_,h.n1,h.n2,h.nb,h.fb,h.ng⟩,λb o hb no=>?_⟩
 ·rw[ah (λz=>by rw[z,hF2] at hb;cases hb)];exact h.sm _ _ hb
 ·cases h.fs with
  |cons hf r=>
   obtain⟨dx,d,_,h1,_,_,_,_,h6⟩:=hf;refine .cons ⟨dx,d,vs,by rw[ah n12,he];exact h1,ag,hp,hF,hF2,by rw[he];exact h6⟩ (r.keep λb o hb e=>?_);rw[ah (hb.elim (λz=>h.fs.sep (List.mem_cons_of_mem _ z) hx2) λz (y:b=x.2)=>n2.1 (by rw[<-y];exact z))];exact e
 ·rw[ah λ(z:b=x.2)=>no (.inr (.inr (by rw[z];exact hx2)))];exact hb
inductive N7(CG CW:Addr)(vs:List V)(H:Hp)(Q:VK)(E:XK):Prop
 |mk(g bl:Addr) (al:List (Addr×Addr)) (fr:MA.Fr) (G:List MA.Fr) (N:Nat) (F:Hp) (k:Nat) (_:vs=[.ref g,.int k]) (_:cD CG CW N F H g bl al (fr::G)) (_:k<256) (_:∀H',cD CG CW N F H' g bl al (⟨fr.form.turn k,fr.parts⟩::G)->Kept bl al H H'->Q .bH H')
theorem LD:ax ["self","kind","twig"] ["self","kind"] (aq (mQ 2)):=↑3
theorem F5(k:Nat)(f:MA.Fm):(f.turn k).yJ=f.yJ/\yB (f.turn k)= .int k:=by cases f <;> exact⟨rfl,rfl⟩
theorem Ri(d:dj K CG "turn" "Growth.turn" (mQ 2) ["self","kind"])(TG_:FH K CG)(T:Jz K CW):i5 P w K mg base 1 CG "turn" ["self","kind"] (N7 CG CW):=d.ok λf fd F=>by
 refine F.ok LD (by rintro vs H Q E ⟨g,bl,al,fr,G,N,F,k,rfl,_⟩;rfl) (λUQ A outer s H vs Q E hr h=>?_);obtain⟨g,bl,al,fr,G,N,F,k,rfl,hG,hk,q⟩:=h;obtain⟨dg,hg⟩:=hG.hg;obtain⟨x,al,rfl⟩:∃x al',al=x::al':=by cases hG.fs;exact⟨_,_,rfl⟩
 have hfs:=hG.fs;cases hfs with
 |cons hf r=>
  obtain⟨dx,d,us,h1,h2,h3,h4,h5,h6⟩:=hf;refine⟨_,aj (aN (i:=2) LD.nd rfl (Or.inl rfl) (bA aX (ay (pv 0) rfl) (gy eg aw) (λ_ _=>rfl))) (ai (bE (pv 2) (pv 1) rfl)),?_⟩;have hb:=hG.hb;rw[iJ] at hb;refine rV rfl (rf hg TG_.cl TG_.nb fz ⟨_,rfl,bl,_,_,_,rfl,rfl,bh.of hb,jb _ _,_,rfl,_,rfl,x.1,CW,dx,_,rfl,h1,T.cl,T.nf,(by show 4<1000;decide),?_⟩);obtain⟨e1,e2⟩:=F5 k fr.form;have:=hG.Qj (fr':=⟨fr.form.turn k,fr.parts⟩) (dx:=dx) (d:=d) h2 h3 (by show ye (fr.form.turn k);cases fr.form <;> exact hk);dsimp only at this;rw[e1,e2] at this;rw[EX];exact q _ this.1 this.2
inductive GV(CG CW:Addr)(vs:List V)(H:Hp)(Q:VK)(E:XK):Prop
 |mk(g bl:Addr) (al:List (Addr×Addr)) (fr:MA.Fr) (G:List MA.Fr) (N:Nat) (F:Hp) (v:V) (p:MA.Pt) (_:vs=[.ref g,v]) (_:cD CG CW N F H g bl al (fr::G)) (_:k_ CW N F v p) (_:fr.parts.length<16000000) (_:∀H',cD CG CW N F H' g bl al (⟨fr.form,fr.parts++[p]⟩::G)->Kept bl al H H'->Q .bH H')
theorem Qu:ax ["self","part"] ["self","part"] (aq (mQ 3)):=↑3
theorem Qk(d:dj K CG "put" "Growth.put" (mQ 3) ["self","part"])(TG_:FH K CG)(T:Jz K CW):i5 P w K mg base 1 CG "put" ["self","part"] (GV CG CW):=d.ok λf fd F=>by
 refine F.ok Qu (by rintro vs H Q E ⟨g,bl,al,fr,G,N,F,v,p,rfl,_⟩;rfl) (λUQ A outer s H vs Q E hr h=>?_);obtain⟨g,bl,al,fr,G,N,F,v,p,rfl,hG,hP,hl,q⟩:=h;obtain⟨dg,hg⟩:=hG.hg;obtain⟨x,al,rfl⟩:∃x al',al=x::al':=by cases hG.fs;exact⟨_,_,rfl⟩
 have hfs:=hG.fs;cases hfs with
 |cons hf r=>
  obtain⟨dx,d,us,h1,h2,h3,h4,h5,h6⟩:=hf;refine⟨_,ai (aS (fK PySem.F.plainAttrs_list PySem.F.slot_list_append PySem.F.type_list_append cZ (ay (bA aX (ay (pv 0) rfl) (gy eg aw) (λ_ _=>rfl)) rfl) (aa (pv 1) ao))),?_⟩;have hb:=hG.hb;rw[iJ] at hb;have hsz:sizeLine=16777216:=sizeLine_eq;have hul:=h3.length;refine rV rfl (rf hg TG_.cl TG_.nb fz ⟨_,rfl,bl,_,_,_,rfl,rfl,bh.of hb,jb _ _,rf h1 T.cl T.np d9 ⟨.inl ⟨rfl,_,bh.of h2⟩,_,rfl,x.2,_,_,rfl,rfl,h2,(by rw[hul,hsz];omega),?_⟩⟩);have:=hG.Nj (fr':=⟨fr.form,fr.parts++[p]⟩) (h3.app (.cons hP .nil)) rfl;exact q _ this.1 this.2
theorem HY(xs:List V)(v u:V):vt (xs++[v]++[u]) (-2)=some v:=by
 unfold vt;have h:FF (xs++[v]++[u]).length (-2)=some xs.length:=by
  rw[List.length_append,List.length_append,List.length_singleton,List.length_singleton];unfold FF;rw[if_neg ↑2];rw[if_pos ↑2];congr 1;omega
 rw[h];show(xs++[v]++[u])[xs.length]?=some v;simp
theorem cD.T_{N:Nat}{F:Hp}{g bl:Addr}{x y:Addr×Addr}{al:List (Addr×Addr)}{G:List MA.Fr}{f0 fr fr':MA.Fr}{vs:List V}(h:cD CG CW N F H g bl (x::y::al) (f0::fr::G))(hp:b_ CW N F vs fr'.parts)(he:fr'.form=fr.form):
  cD CG CW N F (upd H y.2 (.lst vs)) g bl (x::y::al) (f0::fr'::G)/\Kept bl (x::y::al) H (upd H y.2 (.lst vs)):=by
 have hx:y.1∈(x::y::al).map Prod.fst:=List.mem_cons_of_mem _ (List.mem_cons_self ..);have hx2:y.2∈(x::y::al).map Prod.snd:=List.mem_cons_of_mem _ (List.mem_cons_self ..);have hF:=(h.fs.ins hx).2;have hF2:=(h.fs.lst hx2).2;have nb:y.2≠bl:=λz=>h.nb (z▸hx2);have n12:=h.fs.sep hx hx2;have nd:=List.nodup_cons.mp h.n2;have n2:=List.nodup_cons.mp nd.2;have nxy:x.2≠y.2:=λz=>nd.1 (by rw[List.map_cons,<-z];exact List.mem_cons_self ..);obtain⟨dg,hg⟩:=h.hg;obtain⟨⟨us,hl⟩,_⟩:=h.fs.lst hx2;have ngx:g≠y.2:=dA hg hl (by intro z;cases z);refine⟨⟨λb o hb=>?_,⟨dg,by rw[ah ngx];exact hg⟩,by rw[ah (Ne.symm nb)];exact h.hb,?_,h.n1,h.n2,h.nb,h.fb,h.ng⟩,λb o hb no=>?_⟩
 ·rw[ah (λz=>by rw[z,hF2] at hb;cases hb)];exact h.sm _ _ hb
 ·have hfs:=h.fs;cases hfs with
  |cons hf0 r0=>
   obtain⟨ex,ed,eu,k1,k2,k3⟩:=hf0;cases r0 with
   |cons hf r=>
    obtain⟨dx,d,_,h1,_,_,_,_,h6⟩:=hf;refine .cons ⟨ex,ed,eu,by rw[ah (h.fs.sep (List.mem_cons_self ..) hx2)];exact k1,by rw[ah nxy];exact k2,k3⟩ (.cons ⟨dx,d,vs,by rw[ah n12,he];exact h1,ag,hp,hF,hF2,by rw[he];exact h6⟩ (r.keep λb o hb e=>?_));rw[ah (hb.elim (λz=>h.fs.sep (List.mem_cons_of_mem _ (List.mem_cons_of_mem _ z)) hx2) λz (w:b=y.2)=>n2.1 (by rw[<-w];exact z))];exact e
 ·rw[ah λ(z:b=y.2)=>no (.inr (.inr (by rw[z];exact hx2)))];exact hb
theorem Kept.trans{bl:Addr}{al:List (Addr×Addr)}{H1 H2:Hp}(a:Kept bl al H H1)(b:Kept bl al H1 H2):Kept bl al H H2:=λc o h n=>b c o (a c o h n) n
theorem JR(p:MA.Pt)(f:MA.Fm):yB (f.tk p)=yB f/\(f.tk p).yJ=MA.st p f.yJ/\(ye f->ye (f.tk p)):=by cases f <;> exact⟨rfl,rfl,id⟩
inductive Ja(CG CW:Addr)(vs:List V)(H:Hp)(Q:VK)(E:XK):Prop
 |mk(g bl:Addr) (al:List (Addr×Addr)) (f h:MA.Fm) (l r:List MA.Pt) (p:MA.Pt) (G:List MA.Fr) (N:Nat) (F:Hp) (_:vs=[.ref g]) (_:cD CG CW N F H g bl al (⟨f,l⟩::⟨h,r++[p]⟩::G)) (_:l.length<16000000) (_:∀H',cD CG CW N F H' g bl al (⟨f.tk p,l++[p]⟩::⟨h,r⟩::G)->Kept bl al H H'->Q .bH H')
theorem BS:ax ["self","twig","part"] ["self"] (aq (mQ 4)):=↑3
theorem NT(d:dj K CG "take" "Growth.take" (mQ 4) ["self"])(TG_:FH K CG)(T:Jz K CW)(mC:mg "Twig"=some (.ref CW))(isi:mg "isinstance"=none):i5 P w K mg base 1 CG "take" ["self"] (Ja CG CW):=d.ok λf fd F=>by
 refine F.ok BS (by rintro vs H Q E ⟨g,bl,al,f,h,l,r,p,G,N,F,rfl,_⟩;rfl) (λUQ A outer s H vs Q E hr hh=>?_);obtain⟨g,bl,al,f,h,l,r,p,G,N,F,rfl,hG,hl,q⟩:=hh;obtain⟨dg,hg⟩:=hG.hg;obtain⟨x,y,al,rfl⟩:∃x y al',al=x::y::al':=by
  cases hG.fs with
  |cons _ r=>cases r;exact⟨_,_,_,rfl⟩
 have hfs:=hG.fs;cases hfs with
 |cons hf0 r0=>
  obtain⟨ex,ed,eu,k1,k2,k3,k4,k5,k6⟩:=hf0;cases r0 with
  |cons hf r1=>
   obtain⟨dx,dd,us,h1,h2,h3,h4,h5,h6⟩:=hf;obtain⟨ws,v,rfl,hws,hv⟩:=b_.snoc_inv (ps:=r) (p:=p) h3;refine⟨_,aj (aN (i:=1) BS.nd rfl (Or.inl rfl) (bA aX (ay (pv 0) rfl) (gy eg aw) (λ_ _=>rfl)))
    (aj (aN (i:=2) BS.nd rfl (Or.inl rfl) (qQ PySem.F.plainAttrs_list PySem.F.slot_list_pop PySem.F.type_list_pop rF (ay (bA aX (ay (pv 0) rfl) (gy eg aw) (λ_ _=>rfl)) rfl)))
    (aj (aR (dr (eB lR (by rfl) isi PyProof.Rows.boot_isinstance (aa (pv 2) (aa (fQ mC) ao)))) (ai (bE (pv 1) (ay (pv 2) rfl) rfl)) aL)
    (ai (aS (fK PySem.F.plainAttrs_list PySem.F.slot_list_append PySem.F.type_list_append cZ (ay (pv 1) rfl) (aa (pv 2) ao)))))),?_⟩
   have hb:=hG.hb;rw[iJ] at hb;have hb2:=hb;rw[iJ] at hb2;have hsz:sizeLine=16777216:=sizeLine_eq;refine rV rfl (rf hg TG_.cl TG_.nb fz ⟨_,rfl,bl,_,_,_,rfl,rfl,bh.of hb,jb _ _,?_⟩);refine rV rfl (rf hg TG_.cl TG_.nb fz ⟨_,rfl,bl,_,_,_,rfl,rfl,bh.of hb2,HY _ _ _,rf h1 T.cl T.np d9 ⟨.inl ⟨rfl,_,bh.of h2⟩,y.2,_,v,rfl,rfl,h2,(by rw[List.length_append,List.getElem?_append_right (by simp)];simp),?_⟩⟩);rw[List.dropLast_concat];obtain⟨g1,kp1⟩:=hG.T_ (fr':=⟨h,r⟩) hws rfl;have hx2:y.2∈(x::y::al).map Prod.snd:=List.mem_cons_of_mem _ (List.mem_cons_self ..);have hxx:=hG.fs.sep (List.mem_cons_self ..) hx2;have nd:=List.nodup_cons.mp hG.n2;have nxy:x.2≠y.2:=λz=>nd.1 (by rw[List.map_cons,<-z];exact List.mem_cons_self ..);have k1':(upd H y.2 (.lst ws)) x.1=_:=(ah hxx).trans k1;have k2':(upd H y.2 (.lst ws)) x.2=_:=(ah nxy).trans k2;have hul:=k3.length;obtain⟨e1,e2,e3⟩:=JR p f;cases hv with
   |@leaf a0 b0 ha0=>
    have ha1:=g1.sm _ _ ha0;refine⟨_,rfl,_,_,_,_,rfl,.inr ⟨CW,rfl⟩,.inl (.lst ha1),T.kl,_,rfl,dR ?_⟩;refine rV rfl (rf k1' T.cl T.np d9 ⟨.inl ⟨rfl,_,bh.of k2'⟩,_,rfl,x.2,_,_,rfl,rfl,k2',(by rw[hul,hsz];dsimp only;omega),?_⟩);have hf:f.tk (.leaf b0)=f:=by cases f <;> rfl
    obtain⟨g2,kp2⟩:=g1.Nj (fr':=⟨f.tk (.leaf b0),l++[.leaf b0]⟩) (k3.app (.cons (.leaf ha0) .nil)) hf;exact q _ g2 (kp1.trans kp2)
   |@bo a0 dx0 l0 f0 s0 ps0 vs0 d0 ha hlo hs hk hc hps=>
    have ha1:=g1.sm _ _ ha;refine⟨_,rfl,_,_,_,_,rfl,.inr ⟨CW,rfl⟩,.inl (.ins ha1 T.cl T.ha T.hn T.ht T.hm),T.yes,_,rfl,fY ?_⟩;refine rV rfl (rf ha1 T.cl T.n1 EB ⟨_,rfl,x.1,CW,ex,_,rfl,k1',T.cl,T.n1,(by show 4<1000;decide),?_⟩);rw[B4];obtain⟨g2,kp2⟩:=g1.Qj (fr':=⟨f.tk (.bo f0 s0 ps0),l⟩) (dx:=ex) (d:=ed) k2' k3 (e3 k6);dsimp only at g2 kp2 e1 e2;rw[e1,e2] at g2 kp2;have g2f:=g2.fs;cases g2f with
    |cons hf2 _=>
     obtain⟨m1,m2,m3,j1,j2,j3,j4,j5,j6⟩:=hf2;dsimp only at j1 j2;have n12:=hG.fs.sep (List.mem_cons_self ..) (show x.2∈(x::y::al).map Prod.snd from List.mem_cons_self ..);have j2':(upd (upd H y.2 (.lst ws)) x.1 (.ins CW ex (rG (yB f) (.ref x.2) (.int ((N:Int) - MA.len f0.yJ)) ed))) x.2=some (.lst eu):=(ah (Ne.symm n12)).trans k2';refine rV rfl (rf ag T.cl T.np d9 ⟨.inl ⟨rfl,_,bh.of j2'⟩,_,rfl,x.2,_,_,rfl,rfl,j2',(by rw[hul,hsz];dsimp only;omega),?_⟩);obtain⟨g3,kp3⟩:=g2.Nj (fr':=⟨f.tk (.bo f0 s0 ps0),l++[.bo f0 s0 ps0]⟩) (k3.app (.cons (.bo ha hlo hs hk hc hps) .nil)) rfl;exact q _ g3 (kp1.trans (kp2.trans kp3))
section
variable{CG CW:Addr}{N:Nat}{F F' H H':Hp}{g bl:Addr}{x:Addr×Addr}{al:List (Addr×Addr)}{fr:MA.Fr}{G:List MA.Fr}
theorem cD.pop(h:cD CG CW N F H g bl (x::al) (fr::G)):cD CG CW N F (upd H bl (.lst (al.map λx=>V.ref x.1).reverse)) g bl al G:=by
 obtain⟨dg,hg⟩:=h.hg;have ngb:g≠bl:=dA hg h.hb (by intro z;cases z);have hfs:=h.fs;cases hfs with
 |cons _ r=>
  refine⟨λb o hb=>?_,⟨dg,by rw[ah ngb];exact hg⟩,ag,r.keep λb o hb e=>?_,(List.nodup_cons.mp h.n1).2,(List.nodup_cons.mp h.n2).2,λz=>h.nb (List.mem_cons_of_mem _ z),h.fb,λz=>h.ng (List.mem_cons_of_mem _ z)⟩
  ·rw[ah (λz=>by rw[z,h.fb] at hb;cases hb)];exact h.sm _ _ hb
  ·rw[ah (hb.elim (λz=>h.bne (List.mem_cons_of_mem _ z)) λz (y:b=bl)=>h.nb (List.mem_cons_of_mem _ (by rw[<-y];exact z)))];exact e
theorem cD.zu(h:cD CG CW N F H g bl al G)(s:aF F F')(s2:aF F' H)(k:∀b,b∈al.map Prod.fst\/b∈al.map Prod.snd->F' b=none)(kb:F' bl=none):cD CG CW N F' H g bl al G:=
 ⟨s2,h.hg,h.hb,h.fs.zu s k,h.n1,h.n2,h.nb,kb,h.ng⟩
end
theorem R0{l:List MA.Pt}(h:MA.iW l):MA.eI l<128:=by have:=tD h l.length (Nat.le_refl _);rw[List.take_length] at this;exact this
inductive Qp(CG CW:Addr)(vs:List V)(H:Hp)(Q:VK)(E:XK):Prop
 |mk(g bl:Addr) (x:Addr×Addr) (al:List (Addr×Addr)) (f h:MA.Fm) (l r:List MA.Pt) (G:List MA.Fr) (N:Nat) (F:Hp) (s:EwTree.St) (_:vs=[.ref g,.int ((N:Int) - MA.len s)]) (_:cD CG CW N F H g bl (x::al) (⟨f,l⟩::⟨h,r⟩::G)) (_:(f.isSet=true->MA.iW l)) (_:r.length<16000000) (_:∀H' F',aF F F'->(∀b,F' b≠none->F b≠none\/Own bl (x::al) b\/H b=none)->cD CG CW N F' H' g bl al (⟨h,r++[MA.done f s l]⟩::G)->Kept bl (x::al) H H'->Q .bH H')
theorem Mf:ax ["self","passed","twig"] ["self","passed"] (aq (mQ 5)):=↑3
theorem Rw(d:dj K CG "finish" "Growth.finish" (mQ 5) ["self","passed"])(TG_:FH K CG)(T:Jz K CW)(op:i5 P w K mg base 1 CG "put" ["self","part"] (GV CG CW))(os:Ok P w K mg base bf 1 "set_byte" ["bits"] (Oz CW)):i5 P w K mg base 2 CG "finish" ["self","passed"] (Qp CG CW):=d.ok λf fd F=>by
 refine F.ok Mf (by rintro vs H Q E ⟨g,bl,x,al,f,h,l,r,G,N,F,s,rfl,_⟩;rfl) (λUQ A outer s H vs Q E hr hh=>?_);obtain⟨g,bl,x,al,f,h,l,r,G,N,F,s,rfl,hG,hset,hl,q⟩:=hh;obtain⟨dg,hg⟩:=hG.hg;have hfs:=hG.fs;cases hfs with
 |cons hf r1=>
  obtain⟨ex,ed,us,k1,k2,k3,k4,k5,k6⟩:=hf;dsimp only at k1 k2 k3 k6;refine⟨_,aj (aN (i:=2) Mf.nd rfl (Or.inl rfl) (qQ PySem.F.plainAttrs_list PySem.F.slot_list_pop PySem.F.type_list_pop rF (ay (pv 0) rfl)))
   (aj (bE (pv 2) (pv 1) rfl)
   (ai (aR (aD cG (ay (pv 2) rfl) bO (aJ _)) (ai (aS (ib op TG_.cl hr (pv 0) (aa (bx (aa (aM os hr (aa (ay (pv 2) rfl) ao)) ao)) ao)))) (ai (aS (ib op TG_.cl hr (pv 0) (aa (pv 2) ao))))))),?_⟩
  have hb:=hG.hb;rw[iJ] at hb;refine rV rfl (rf hg TG_.cl TG_.nb fz ⟨.inl ⟨rfl,_,bh.of hb⟩,bl,_,.ref x.1,rfl,rfl,hb,(by rw[List.length_append,List.getElem?_append_right (by simp)];simp),?_⟩);rw[List.dropLast_concat];have g1:=hG.pop;have hx:x.1∈(x::al).map Prod.fst:=List.mem_cons_self ..;have hx2:x.2∈(x::al).map Prod.snd:=List.mem_cons_self ..;have nb:=hG.bne hx;have nb2:x.2≠bl:=λz=>hG.nb (z▸hx2);have n12:=hG.fs.sep hx hx2;have n1:=List.nodup_cons.mp hG.n1;have n2:=List.nodup_cons.mp hG.n2;have ngx:g≠x.1:=λz=>hG.ng (z▸hx);have k1':(upd H bl (.lst (al.map λx=>V.ref x.1).reverse)) x.1=_:=(ah nb).trans k1;refine⟨_,rfl,_,rfl,x.1,CW,ex,_,rfl,k1',T.cl,T.nb,(by show 4<1000;decide),?_⟩;rw[Ak];generalize hH2:upd (upd H bl (.lst (al.map λx=>V.ref x.1).reverse)) x.1 (.ins CW ex (rG (yB f) (.ref x.2) (.int ((N:Int) - MA.len f.yJ)) (.int ((N:Int) - MA.len s))))=H2;have hx2':H2 x.2=some (.lst us):=by rw[<-hH2,ah (Ne.symm n12),ah nb2];exact k2
  have hx1':H2 x.1=some (.ins CW ex (rG (yB f) (.ref x.2) (.int ((N:Int) - MA.len f.yJ)) (.int ((N:Int) - MA.len s)))):=by rw[<-hH2,ag]
  have g2:cD CG CW N F H2 g bl al (⟨h,r⟩::G):=g1.kept λb o e ho=>by
   rw[<-hH2,ah]
   ·exact e
   ·rintro rfl;rcases ho with(z|z|z)|z|z
    ·exact nb z
    ·exact n1.1 z
    ·exact hG.fs.sep hx (List.mem_cons_of_mem _ z) rfl
    ·exact ngx z.symm
    ·exact z k4
  have kp2:Kept bl (x::al) H H2:=λb o hb no=>by
   rw[<-hH2,ah λ(z:b=x.1)=>no (.inr (.inl (by rw[z];exact hx))),ah λz=>no (.inl z)];exact hb
  have hg2:∃dg,H2 g=some (.ins CG dg [("begun",.ref bl)]):=g2.hg;obtain⟨dg2,hg2⟩:=hg2;have hsc:Hv (yB f) (.str "@set")=true:=by cases f <;> rfl
  refine rV rfl (rf hx1' T.cl T.nf lC ⟨hsc,_,rfl,aU (λz=>?_) λz=>?_⟩)
  ·have z:=of_decide_eq_true z;have hS:f.isSet=true:=by
    cases f with
    |kind k b=>cases z
    |row b=>exact absurd z (by show V.str "@row"≠V.str "@set";decide+kernel)
    |count b=>exact absurd z (by show V.str "@count"≠V.str "@set";decide+kernel)
    |set b=>rfl
   have aZ:=hset hS;refine⟨_,rfl,g,dg2,_,rfl,hg2,gC ↑1,rV rfl (rf hx1' T.cl T.np d9 ⟨x.2,us,l,N,rfl,hx2',k3.same g2.sm,aZ,(by show 1<=sizeLine;decide),λm hm=>?_⟩)⟩;have hFm:F m=none:=g2.sm.free hm;have hdone:MA.done f s l= .leaf [UInt8.ofNat (MA.eI l)]:=by unfold MA.done;rw[hS]
   have hiv:[V.int ((MA.eI l:Nat):Int)]=iv [UInt8.ofNat (MA.eI l)]:=by
    show _=[V.int ((UInt8.ofNat (MA.eI l)).toNat:Int)]
    rw[show(UInt8.ofNat (MA.eI l)).toNat=MA.eI l by have:=R0 aZ;simp;omega]
   have hmo:∀b o,H2 b=some o->b≠m:=λb o e=>au e hm;have g3:cD CG CW N (upd F m (.lst [V.int ((MA.eI l:Nat):Int)])) (upd H2 m (.lst [V.int ((MA.eI l:Nat):Int)])) g bl al (⟨h,r⟩::G):=by
    refine(g2.kept (H':=upd H2 m (.lst [V.int ((MA.eI l:Nat):Int)])) λb o e _=>by rw[ah (hmo b o e)];exact e).zu (aC hFm) (λb o hb=>?_) (λb hb=>?_) ?_
    ·by_cases z:b=m
     ·subst z;rw[ag] at hb ⊢;exact hb
     ·rw[ah z] at hb ⊢;exact g2.sm _ _ hb
    ·have:F b=none/\b≠m:=by
      rcases hb with hb|hb
      ·obtain⟨⟨_,_,e⟩,e2⟩:=g2.fs.ins hb;exact⟨e2,hmo _ _ e⟩
      ·obtain⟨⟨_,e⟩,e2⟩:=g2.fs.lst hb;exact⟨e2,hmo _ _ e⟩
     rw[ah this.2];exact this.1
    ·rw[ah (hmo _ _ g2.hb)];exact g2.fb
   refine⟨g,bl,al,⟨h,r⟩,G,N,_,.ref m,.leaf [UInt8.ofNat (MA.eI l)],rfl,g3,.leaf (by rw[ag,hiv]),hl,λH' g4 kp4=>q H' _ (aC hFm) (λb hb=>?_) (by rw[hdone];exact g4) ?_⟩
   ·by_cases z:b=m
    ·subst z;by_cases z1:b=bl
     ·exact .inr (.inl (.inl z1))
     ·by_cases z2:b=x.1
      ·exact .inr (.inl (.inr (.inl (by rw[z2];exact hx))))
      ·right;right;rw[<-hH2,ah z2,ah z1] at hm;exact hm
    ·rw[ah z] at hb;exact .inl hb
   ·exact λb o hb no=>kp4 b o (by have:=kp2 b o hb no;rw[ah (hmo _ _ this)];exact this) λz=>no (z.elim .inl λz=>.inr (z.elim (λz=>.inl (List.mem_cons_of_mem _ z)) λz=>.inr (List.mem_cons_of_mem _ z)))
  ·have hS:f.isSet=false:=by
    cases f with
    |set b=>exact absurd (decide_eq_true rfl) z
    |_=>rfl
   have hdone:MA.done f s l= .bo f s l:=by unfold MA.done;rw[hS]
   have sF:aF F (upd (upd F x.2 (.lst us)) x.1 (.ins CW ex (rG (yB f) (.ref x.2) (.int ((N:Int) - MA.len f.yJ)) (.int ((N:Int) - MA.len s))))):=(aC k5).trans (aC (by rw[ah n12];exact k4));have g3:cD CG CW N (upd (upd F x.2 (.lst us)) x.1 (.ins CW ex (rG (yB f) (.ref x.2) (.int ((N:Int) - MA.len f.yJ)) (.int ((N:Int) - MA.len s))))) H2 g bl al (⟨h,r⟩::G):=by
    refine g2.zu sF (λb o hb=>?_) (λb hb=>?_) ?_
    ·by_cases z1:b=x.1
     ·subst z1;rw[ag] at hb;rw[hx1'];exact hb
     ·rw[ah z1] at hb;by_cases z2:b=x.2
      ·subst z2;rw[ag] at hb;rw[hx2'];exact hb
      ·rw[ah z2] at hb;exact g2.sm _ _ hb
    ·have:F b=none/\b≠x.1/\b≠x.2:=by
      rcases hb with hb|hb
      ·exact⟨(g2.fs.ins hb).2,λz=>n1.1 (z▸hb),hG.fs.sep (List.mem_cons_of_mem _ hb) hx2⟩
      ·exact⟨(g2.fs.lst hb).2,Ne.symm (hG.fs.sep hx (List.mem_cons_of_mem _ hb)),λz=>n2.1 (z▸hb)⟩
     rw[ah this.2.1,ah this.2.2];exact this.1
    ·rw[ah (Ne.symm nb),ah (Ne.symm nb2)];exact g2.fb
   refine⟨_,rfl,g,dg2,_,rfl,hg2,gC ↑1,_,rfl,g,bl,al,⟨h,r⟩,G,N,_,.ref x.1,.bo f s l,rfl,g3,.bo ag (by rw[ah (Ne.symm n12),ag]) hS k6 ?_ (k3.same sF),hl,λH' g4 kp4=>q H' _ sF (λb hb=>?_) (by rw[hdone];exact g4) ?_⟩
   ·cases f <;> first|exact True.intro|rfl
   ·by_cases z1:b=x.1
    ·exact .inr (.inl (.inr (.inl (by rw[z1];exact hx))))
    ·rw[ah z1] at hb;by_cases z2:b=x.2
     ·exact .inr (.inl (.inr (.inr (by rw[z2];exact hx2))))
     ·rw[ah z2] at hb;exact .inl hb
   ·exact λb o hb no=>kp4 b o (kp2 b o hb no) λz=>no (z.elim .inl λz=>.inr (z.elim (λz=>.inl (List.mem_cons_of_mem _ z)) λz=>.inr (List.mem_cons_of_mem _ z)))
inductive OQ(CG CW:Addr)(vs:List V)(H:Hp)(Q:VK)(E:XK):Prop
 |mk(g bl:Addr) (x:Addr×Addr) (fr:MA.Fr) (N:Nat) (F:Hp) (_:vs=[.ref g]) (_:cD CG CW N F H g bl [x] [fr]) (_:Q (.ref x.1) H)
theorem QK:ax ["self"] ["self"] (aq (mQ 6)):=↑3
theorem QI(d:dj K CG "grown" "Growth.grown" (mQ 6) ["self"])(TG_:FH K CG):i5 P w K mg base 1 CG "grown" ["self"] (OQ CG CW):=d.ok λf fd F=>by
 refine F.ok QK (by rintro vs H Q E ⟨g,bl,x,fr,N,F,rfl,_⟩;rfl) (λUQ A outer s H vs Q E hr hh=>?_);obtain⟨g,bl,x,fr,N,F,rfl,hG,q⟩:=hh;obtain⟨dg,hg⟩:=hG.hg;refine⟨_,ai (aB (bA aX (ay (pv 0) rfl) aw (λ_ _=>rfl))),?_⟩;exact rV rfl (rf hg TG_.cl TG_.nb fz ⟨bl,_,_,_,rfl,rfl,bh.of hG.hb,at_of (j:=0) rfl rfl,q⟩)
abbrev Uv(K:Frag)(mg:Str->Option Value)(C:Addr):Prop:=yf K mg "Growth" "Growth.__init__" (mQ 0) C ["self"]
inductive O0(CG CW:Addr)(vs:List V)(H:Hp)(Q:VK)(E:XK):Prop
 |mk(p dx:Addr) (_:vs=[.ref p]) (_:H p=some (.ins CG dx [])) (_:∀H' bl a l dxa,H bl=none->H a=none->H l=none->bl≠l->H' p=some (.ins CG dx [("begun",.ref bl)])->H' bl=some (.lst [.ref a])->H' a=some (.ins CW dxa (rG (.str "@row") (.ref l) (.int 0) (.int 0)))->H' l=some (.lst [])->FI p H H'->Q .bH H')
theorem P':ax ["self"] ["self"] (aq (mQ 0)):=↑3
theorem Nr(d:Uv K mg CG)(TG_:FH K CG)(nT:uL P w K mg base 1 "Twig" CW ["self","form","first"] (DE CW)):uL P w K mg base 3 "Growth" CG ["self"] (O0 CG CW):=d.new λf fd F=>by
 refine F.ok P' (by rintro vs H Q E ⟨p,dx,rfl,_⟩;rfl) (λUQ A outer s H vs Q E hr h=>?_);obtain⟨p,dx,rfl,h1,q⟩:=h;refine⟨_,ai (bE (pv 0) (bx (aa (eK nT hr (aa bO (aa aw ao))) ao)) rfl),?_⟩;refine λx dx' nx nd ne=>⟨x,dx',_,_,rfl,ag,λH1 l hl0 k1 k2 fr=>⟨rfl,(by show 1<=sizeLine;decide),λbl hbl=>?_⟩⟩
 have s1:=aF.made nx nd fr;have hl1:H l=none:=by
  have:=hl0;by_cases z:l=x
  ·rw[z,ag] at this;cases this
  ·rw[ah z] at this;by_cases z2:l=dx'
   ·rw[z2,ag] at this;cases this
   ·rw[ah z2] at this;exact this
 have hp1:=s1 _ _ h1;have npb:p≠bl:=au hp1 hbl;have nxb:x≠bl:=au k1 hbl;have nlb:l≠bl:=au k2 hbl;have npx:p≠x:=au h1 nx;have npl:p≠l:=au h1 hl1;refine⟨_,rfl,p,CG,dx,_,rfl,(by rw[ah npb];exact hp1),TG_.cl,TG_.nb,(by show 0<1000;decide),?_⟩;refine q _ bl x l dx' (s1.free hbl) nx hl1 (Ne.symm nlb) ag ?_ ?_ ?_ λb o hb hnp=>?_
 ·rw[ah (Ne.symm npb),ag]
 ·rw[ah (Ne.symm npx),ah nxb];exact k1
 ·rw[ah (Ne.symm npl),ah nlb];exact k2
 ·rw[ah hnp,ah (au (s1 _ _ hb) hbl)];exact s1 _ _ hb
section
open MA (nm VC)
structure jI(P:Program)(w:World)(K:Frag)(mg:Str->Option Value)(base:Heap)(k:Nat)(C:Addr)(m:Str)(ps:List Str)(sp:Sp):Prop where
 ex:∃(f:Addr)(fd:FuncData),Meth K C m f/\bY P w K mg base (g9 P w) k f fd ps sp/\Binds K fd ps []
def Ik(C:Addr)(m:Str)(sp:Sp)(R:L2.St->Addr->Hp->Prop)(ta:TE)(t:TA):TE:=λσ H Q=>ta σ H λx H1=>Q3 C m (λH1=>t σ H1 λvs H2=>sp (x::vs) H2 Q (ER R σ)) x H1
theorem dj.um{P:Program}{w:World}{K:Frag}{mg:Str->Option Value}{base:Heap}{m qual:Str}{st:Stmt}{k:Nat}{sp:Sp}(d:dj K C m qual st ps)(h:∀f fd,js K m qual st f fd->bY P w K mg base (g9 P w) k f fd ps sp):jI P w K mg base k C m ps sp:=by obtain⟨f,fd,M,F,b⟩:=d.ex;exact⟨f,fd,M,h f fd F,b⟩
section
variable{X:Cx}{k:Nat}{C:Addr}{m:Str}{ps:List Str}{sp:Sp}{o e:Expr}{es:List Expr}{ta:TE}{t:TA}{apos pos:Pos}{pl:Sem Bool}{R:L2.St->Addr->Hp->Prop}
theorem yF{UP:List (Addr×Obj)}{σ:L2.St}{H1 H2:Hp}{s2:Shared}{Q:VK}{a f:Addr}{us:List Value}{vs:List V}(F:bY X.prog X.w X.K X.mg X.base (g9 X.prog X.w) k f fd ps sp)(hb:Binds X.K fd ps [])(hr:bC k X.A)(I2:Inv (xw X R) UP σ H2 s2)(r:Vals vs us)(q:sp (.ref a::vs) H2 Q (ER R σ)):
  wpAny (model X.prog X.w) X.A (call (.ref f) (.ref a::us)) (EP (xw X R) UP σ Q) (MR X R) s2:=by
 have r':Vals (V.ref a::vs) (Value.ref a::us):=.cons rfl r;have hl:(Value.ref a::us++[]).length=ps.length:=by rw[List.append_nil,<-r'.length];exact F.len _ _ _ _ q
 have hb':=hb s2 (.ref a::us) I2.dZ hl;rw[List.append_nil] at hb';refine wpAny_call (codeAny_mono (F.run X.A X.stack s2 H2 ⟨.ref a::us,[]⟩ (.ref a::us) (.ref a::vs) Q (ER R σ) hr I2.EJ hb' r' q) λr s' hq=>?_);cases r with
 |error v=>exact wm I2.dU hq λe H' ⟨e',z,y⟩=>by cases z;exact y
 |ok fl=>
  cases fl with
  |ret u=>exact I2.after hq
  |next=>exact False.elim hq
  |brk=>exact False.elim hq
  |cont=>exact False.elim hq
theorem CO(h:jI X.prog X.w X.K X.mg X.base k C m ps sp)(c:tV X.K C)(hr:bC k X.A)(he:PE (xw X R) o ta)(ha:PA (xw X R) (e::es) t)(hst:starEach (e::es) X.env=(false,eval e X.env)::starEach es X.env:=by rfl)(hpl:(backTo pos (starEach es X.env)).any (·.1)=false:=by rfl)(ht:eval (.Call (.Attribute o m apos) (e::es) [] pos) X.env=(do
   let ov<-eval o X.env
   standAt apos.atName
   let(f,first)<-holding [ov] (getMethod ov m pl)
   callWith pos f first (backTo pos (starEach (e::es) X.env)) (backToKw pos (keywordEach [] X.env))):=by rfl):PE (xw X R) (.Call (.Attribute o m apos) (e::es) [] pos) (Ik C m sp R ta t):=by
 intro UP s σ H Q I hh;obtain⟨f,fd,M,F,hb⟩:=h.ex;refine PySem.W.methodCall_KW (pl:=pl) (br (he UP s σ H _ I hh) λu s1 ⟨x,H1,I1,rx,a,dx,fs,ex,ea,l,q⟩=>?_) ht;subst ex;obtain rfl:u=Value.ref a:=rx;refine gT I1 ea c M l ?_;refine PySem.W.callWith_K (first:=[.ref a]) (h₀:=X.base) I.ok.mod.EW M.kp (br (ha pos UP s1 σ H1 _ I1 q) λus s2 ⟨vs,H2,I2,r,q2⟩=>⟨I2.dZ,?_⟩) hst hpl;exact yF (H1:=H1) F hb hr I2 r q2
theorem Av(h:jI X.prog X.w X.K X.mg X.base k C m ps sp)(c:tV X.K C)(hr:bC k X.A)(he:PE (xw X R) o ta)(ht:eval (.Call (.Attribute o m apos) [] [] pos) X.env=(do
   let ov<-eval o X.env
   standAt apos.atName
   let(f,first)<-holding [ov] (getMethod ov m pl)
   callWith pos f first (backTo pos (starEach [] X.env)) (backToKw pos (keywordEach [] X.env))):=by rfl):PE (xw X R) (.Call (.Attribute o m apos) [] [] pos) (Ik C m sp R ta d4):=by
 intro UP s σ H Q I hh;obtain⟨f,fd,M,F,hb⟩:=h.ex;refine PySem.W.methodCall_KW (pl:=pl) (br (he UP s σ H _ I hh) λu s1 ⟨x,H1,I1,rx,a,dx,fs,ex,ea,l,q⟩=>?_) ht;subst ex;obtain rfl:u=Value.ref a:=rx;refine gT I1 ea c M l ?_;exact PySem.W.callWith_K0 (first:=[.ref a]) I1.dZ M.kp (yF (us:=[]) (H1:=H1) F hb hr I1 .nil q)
end
def FD(t sc n d c g:V):List (Str×V):=[("text",t),("scanned",sc),("passed",n),("rows",d),("coming",c),("growth",g)]
section
variable{t sc n d c g v:V}
theorem Az:(FD t sc n d c g).lookup ("text":Str)=some t:=fP
theorem bU:(FD t sc n d c g).lookup ("scanned":Str)=some sc:=(aO ↑1).trans fP
theorem cX:(FD t sc n d c g).lookup ("passed":Str)=some n:=(aO ↑1).trans ((aO ↑1).trans fP)
theorem kH:(FD t sc n d c g).lookup ("rows":Str)=some d:=(aO ↑1).trans ((aO ↑1).trans ((aO ↑1).trans fP))
theorem gM:(FD t sc n d c g).lookup ("coming":Str)=some c:=(aO ↑1).trans ((aO ↑1).trans ((aO ↑1).trans ((aO ↑1).trans fP)))
theorem dn:(FD t sc n d c g).lookup ("growth":Str)=some g:=(aO ↑1).trans ((aO ↑1).trans ((aO ↑1).trans ((aO ↑1).trans ((aO ↑1).trans fP))))
theorem zi:aW "passed" v (FD t sc n d c g)=FD t sc v d c g:=(aV ↑1).trans (congrArg _ ((aV ↑1).trans (congrArg _ wH)))
theorem J2:aW "growth" g (aW "coming" c (aW "rows" d (aW "passed" n (aW "scanned" sc (aW "text" t [])))))=FD t sc n d c g:=by have h1:aW "scanned" sc (aW "text" t [])=[(("text":Str),t),(("scanned":Str),sc)]:=(aV ↑1).trans rfl;have h2:aW "passed" n [(("text":Str),t),(("scanned":Str),sc)]=[(("text":Str),t),(("scanned":Str),sc),(("passed":Str),n)]:=(aV ↑1).trans (congrArg _ ((aV ↑1).trans rfl));have h3:aW "rows" d [(("text":Str),t),(("scanned":Str),sc),(("passed":Str),n)]=[(("text":Str),t),(("scanned":Str),sc),(("passed":Str),n),(("rows":Str),d)]:=(aV ↑1).trans (congrArg _ ((aV ↑1).trans (congrArg _ ((aV ↑1).trans rfl))));have h4:aW "coming" c [(("text":Str),t),(("scanned":Str),sc),(("passed":Str),n),(("rows":Str),d)]=[(("text":Str),t),(("scanned":Str),sc),(("passed":Str),n),(("rows":Str),d),(("coming":Str),c)]:=(aV ↑1).trans (congrArg _ ((aV ↑1).trans (congrArg _ ((aV ↑1).trans (congrArg _ ((aV ↑1).trans rfl))))));rw[h1,h2,h3,h4];exact(aV ↑1).trans (congrArg _ ((aV ↑1).trans (congrArg _ ((aV ↑1).trans (congrArg _ ((aV ↑1).trans (congrArg _ ((aV ↑1).trans rfl))))))))
end
structure JA(K:Frag)(C:Addr):Prop where
 cl:tV K C
 nt:aE K C "text"
 ns:aE K C "scanned"
 np:aE K C "passed"
 nr:aE K C "rows"
 nc:aE K C "coming"
 ng:aE K C "growth"
structure Cs where
 CR:Addr
 CG:Addr
 CW:Addr
 CS:Addr
 CT:Addr
 CF:Addr
structure Env(K:Frag)(c:Cs)(F:Hp)(b:By)(ta sa d:Addr):Prop where
 tx:bh K F ta (iv b)
 sc:iw c.CS c.CT F sa (Tn 0 b).1 (Tn 0 b).2
 rw:rB K F d
 bl:b.length<=65536
abbrev nT(b:By):Nat:=(Tn 0 b).1.length
abbrev eF(b:By):Bool:=(Tn 0 b).2.isSome
abbrev zF(b:By):EwTree.Fault:=(Tn 0 b).2.getD (3,b.length)
structure Rd(K:Frag)(c:Cs)(b:By)(F H:Hp)(R dx ta sa d cl g bl:Addr)(al:List (Addr×Addr))(vs:List V)(n:Int)(Ks:List MA.Sym)(G:List MA.Fr):Prop where
 hR:H R=some (.ins c.CR dx (FD (.ref ta) (.ref sa) (.int n) (.ref d) (.ref cl) (.ref g)))
 hc:H cl=some (.lst vs.reverse)
 sy:Paired (ud K) vs Ks
 gr:cD c.CG c.CW (nT b) F H g bl al G
 ev:Env K c F b ta sa d
 fR:F R=none
 fc:F cl=none
 oR:¬Own bl al R
 oc:¬Own bl al cl
 rg:R≠g
def JH(b:By)(s:EwTree.St):Prop:=MA.len s<=nT b/\s.toks=(Tn 0 b).1.drop (nT b - MA.len s)
inductive lK(K:Frag)(c:Cs)(b:By)(F H:Hp)(R:Addr)(Ks:List MA.Sym)(s:EwTree.St)(G:List MA.Fr):Prop
 |mk(_:JH b s) (dx:_) (ta:_) (sa:_) (d:_) (cl:_) (g:_) (bl:_) (al:_) (vs:_) (_:Rd K c b F H R dx ta sa d cl g bl al vs ((nT b:Int) - MA.len s) Ks G)
theorem Env.same{K:Frag}{c:Cs}{F F':Hp}{b:By}{ta sa d:Addr}(s:aF F F')(h:Env K c F b ta sa d):Env K c F' b ta sa d:=⟨s.seq h.tx,h.sc.same s,h.rw.same s,h.bl⟩
section
variable{K:Frag}{c:Cs}{b:By}{F F' H H':Hp}{R dx ta sa d cl g bl:Addr}{al al':List (Addr×Addr)}{vs:List V}{n:Int}{Ks:List MA.Sym}{G G':List MA.Fr}
theorem Rd.grown(h:Rd K c b F H R dx ta sa d cl g bl al vs n Ks G)(hg:cD c.CG c.CW (nT b) F' H' g bl al' G')(k:Kept bl al H H')(s:aF F F')(k1:∀x,F' x≠none->F x≠none\/Own bl al x\/H x=none)(k2:∀x,Own bl al' x->Own bl al x\/H x=none):Rd K c b F' H' R dx ta sa d cl g bl al' vs n Ks G':=by
 have fre:∀x o,H x=some o->F x=none->¬Own bl al x->F' x=none:=λx o hx hF hO=>by
  cases e:F' x with
  |none=>rfl
  |some u=>exact absurd (k1 x (by rw[e];intro z;cases z)) (by rintro(z|z|z);exact z hF;exact hO z;rw[hx] at z;cases z)
 have own:∀x o,H x=some o->¬Own bl al x->¬Own bl al' x:=λx o hx hO z=>(k2 x z).elim hO λy=>by rw[hx] at y;cases y
 exact⟨k _ _ h.hR h.oR,k _ _ h.hc h.oc,h.sy,hg,h.ev.same s,fre _ _ h.hR h.fR h.oR,fre _ _ h.hc h.fc h.oc,own _ _ h.hR h.oR,own _ _ h.hc h.oc,h.rg⟩
theorem kZ:∀x,Own bl al x->Own bl al x\/H x=none:=λ_ z=>.inl z
theorem Rd.self(h:Rd K c b F H R dx ta sa d cl g bl al vs n Ks G):∀x,F x≠none->F x≠none\/Own bl al x\/H x=none:=λ_ z=>.inl z
theorem Rd.cR(h:Rd K c b F H R dx ta sa d cl g bl al vs n Ks G):cl≠R:=dA h.hc h.hR (by intro z;cases z)
theorem Rd.cg(h:Rd K c b F H R dx ta sa d cl g bl al vs n Ks G):cl≠g:=by obtain⟨dg,e⟩:=h.gr.hg;exact dA h.hc e (by intro z;cases z)
theorem Rd.RF(h:Rd K c b F H R dx ta sa d cl g bl al vs n Ks G){ws:List V}{Ks':List MA.Sym}(hp:Paired (ud K) ws Ks'):Rd K c b F (upd H cl (.lst ws.reverse)) R dx ta sa d cl g bl al ws n Ks' G:=
 ⟨by rw[ah (Ne.symm h.cR)];exact h.hR,ag,hp,h.gr.kept λx o e ho=>by
   rw[ah]
   ·exact e
   ·rintro rfl;rcases ho with z|z|z
    ·exact h.oc z
    ·exact h.cg z
    ·exact z h.fc,h.ev,h.fR,h.fc,h.oR,h.oc,h.rg⟩
theorem Rd.pass(h:Rd K c b F H R dx ta sa d cl g bl al vs n Ks G){m:Int}{dx':Addr}:Rd K c b F (upd H R (.ins c.CR dx' (FD (.ref ta) (.ref sa) (.int m) (.ref d) (.ref cl) (.ref g)))) R dx' ta sa d cl g bl al vs m Ks G:=
 ⟨ag,by rw[ah h.cR];exact h.hc,h.sy,h.gr.kept λx o e ho=>by
   rw[ah]
   ·exact e
   ·rintro rfl;rcases ho with z|z|z
    ·exact h.oR z
    ·exact h.rg z
    ·exact z h.fR,h.ev,h.fR,h.fc,h.oR,h.oc,h.rg⟩
end
section
variable{K:Frag}{c:Cs}{b:By}{F F' H H':Hp}{R dx ta sa d cl g bl m:Addr}{o:HO}{al al':List (Addr×Addr)}{vs:List V}{n:Int}{Ks:List MA.Sym}{G G':List MA.Fr}
theorem cD.add{N:Nat}(h:cD CG CW N F H g bl al G)(s:aF H H')(hm:H m=none)(hm2:H' m=some o):cD CG CW N (upd F m o) H' g bl al G:=by
 have hFm:=h.sm.free hm;refine(h.kept λb o e _=>s _ _ e).zu (aC hFm) (λb u hb=>?_) (λb hb=>?_) ?_
 ·by_cases z:b=m
  ·subst z;rw[ag] at hb;exact hm2.trans hb
  ·rw[ah z] at hb;exact s _ _ (h.sm _ _ hb)
 ·have:F b=none/\b≠m:=by
   rcases hb with hb|hb
   ·obtain⟨⟨_,_,e⟩,e2⟩:=h.fs.ins hb;exact⟨e2,au e hm⟩
   ·obtain⟨⟨_,e⟩,e2⟩:=h.fs.lst hb;exact⟨e2,au e hm⟩
  rw[ah this.2];exact this.1
 ·rw[ah (au h.hb hm)];exact h.fb
theorem Rd.more(h:Rd K c b F H R dx ta sa d cl g bl al vs n Ks G)(s:aF H H'):Rd K c b F H' R dx ta sa d cl g bl al vs n Ks G:=
 h.grown (h.gr.kept λb o e _=>s _ _ e) (λb o e _=>s _ _ e) (aF.refl F) (λ_ z=>.inl z) λ_ z=>.inl z
theorem Rd.add(h:Rd K c b F H R dx ta sa d cl g bl al vs n Ks G)(s:aF H H')(hm:H m=none)(hm2:H' m=some o):Rd K c b (upd F m o) H' R dx ta sa d cl g bl al vs n Ks G:=
 h.grown (h.gr.add s hm hm2) (λb o e _=>s _ _ e) (aC (h.gr.sm.free hm)) (λx z=>by
  by_cases y:x=m
  ·rw[y];exact .inr (.inr hm)
  ·rw[ah y] at z;exact .inl z) λ_ z=>.inl z
end
section
variable{c:Cs}{b:By}
abbrev jD(i:Nat):Stmt:=inClass (top 90) i
inductive OI(K:Frag)(c:Cs)(b:By)(vs:List V)(H:Hp)(Q:VK)(E:XK):Prop
 |mk(R:Addr) (F:Hp) (Ks:List MA.Sym) (s:EwTree.St) (G:List MA.Fr) (_:vs=[.ref R]) (_:lK K c b F H R Ks s G) (_:Q (.str (nm (MA.lk (eF b) s))) H)
theorem P9:ax ["self"] ["self"] (aq (jD 1)):=↑3
theorem drop_cons{α:Type}{l r:List α}{i:Nat}{t:α}(h:l.drop i=t::r):l[i]?=some t/\l.drop (i+1)=r/\i<l.length:=by
 have h1:(l.drop i)[0]?=some t:=by rw[h];rfl
 rw[List.getElem?_drop,Nat.add_zero] at h1;refine⟨h1,?_,(List.getElem?_eq_some_iff.mp h1).1⟩;rw[<-List.drop_drop,h];rfl
theorem F7:nm 204=Str.ofString "END"/\nm 205=Str.ofString "FAULT":=↑1
theorem xD{K:Frag}{c:Cs}{b:By}{F:Hp}{sa:Addr}{s:EwTree.St}{t:EwTree.Tok}{r:List EwTree.Tok}(h:iw c.CS c.CT F sa (Tn 0 b).1 (Tn 0 b).2)(sm:aF F H)(hs:JH b s)(e:s.toks=t::r):
  ∃(dx l:Addr)(fa:V)(rs:List Addr)(x:Addr),H sa=some (.ins c.CS dx (sf (.ref l) fa))/\H l=some (.lst (rs.map V.ref))/\rs.length=nT b/\(rs.map V.ref)[nT b - MA.len s]?=some (.ref x)/\nT b - MA.len s<nT b/\eE c.CT F x t/\Good t/\MA.NZ b t/\1<=MA.len s:=by
 obtain⟨dx,l,fa,rs,h1,h2,h3,h4⟩:=h;have hd:=hs.2;rw[e] at hd;obtain⟨d1,d2,d3⟩:=drop_cons hd.symm;obtain⟨x,hx,hT⟩:∃x,rs[nT b - MA.len s]?=some x/\eE c.CT F x t:=by
  have hl:rs.length=(Tn 0 b).1.length:=Paired.length h3;have hlt:nT b - MA.len s<rs.length:=by rw[hl];exact d3
  obtain⟨u,hu,hT⟩:=jv h3 (List.getElem?_eq_getElem hlt);rw[d1] at hu;cases hu;exact⟨_,List.getElem?_eq_getElem hlt,hT⟩
 have hm:=List.mem_of_getElem? d1;refine⟨dx,l,fa,rs,x,sm _ _ h1,sm _ _ h2,Paired.length h3,by rw[List.getElem?_map,hx];rfl,d3,hT,tu b.length 0 b (Nat.le_refl _) t hm,MA.SQ b t hm,?_⟩;unfold MA.len;rw[e];exact Nat.succ_pos _
theorem Qv(d:dj K c.CR "ahead" "Reader.ahead" (jD 1) ["self"])(TR:JA K c.CR)(TS:w6 K c.CS)(TT:wM K c.CT)(ln:mg "len"=none):i5 P w K mg base 1 c.CR "ahead" ["self"] (OI K c b):=d.ok λf fd F=>by
 refine F.ok P9 (by rintro vs H Q E ⟨R,F,Ks,s,G,rfl,_⟩;rfl) (λUQ A outer s H vs Q E hr h=>?_);obtain⟨R,F,Ks,s,G,rfl,⟨hs,dx,ta,sa,d,cl,g,bl,al,vs,hD⟩,q⟩:=h;refine⟨_,aj (aR (aD pb (ay (pv 0) rfl) (bB ln (ay (ay (pv 0) rfl) rfl)) (aJ _)) (ai (aB (ay (bA aX (ay (ay (pv 0) rfl) rfl) (ay (pv 0) rfl) (λ_ _=>rfl)) rfl))) aL)
  (aj (aR (aD Hg (ay (ay (pv 0) rfl) rfl) BB (aJ _)) (ai (aB bO)) aL) (ai (aB bO))),?_⟩
 have sm:=hD.gr.sm;obtain⟨sx,sl,fa,rs,a1,a2,a3,a4⟩:=id hD.ev.sc;have a1':=sm _ _ a1;have a2':=sm _ _ a2;have hrl:rs.length=nT b:=Paired.length a3;have hle:=hs.1;refine rV rfl (rf hD.hR TR.cl TR.np cX (rV rfl (rf hD.hR TR.cl TR.ns bU (rf a1' TS.cl TS.nf (gj _ _) ⟨sl,_,rfl,.inl (bh.of a2'),_,_,rfl,rfl,_,rfl,aU (λz=>?_) λz=>?_⟩))))
 ·have z:=of_decide_eq_true z;rw[List.length_map,hrl] at z;have hl0:0<MA.len s:=↑2
  obtain⟨t,r,e⟩:∃t r,s.toks=t::r:=by
   unfold MA.len at hl0;cases e:s.toks with
   |nil=>rw[e] at hl0;exact absurd hl0 ↑0
   |cons t r=>exact⟨t,r,rfl⟩
  obtain⟨dx2,l2,fa2,rs2,x,b1,b2,b3,b4,b5,b6,b7,b8,b9⟩:=xD (K:=K) hD.ev.sc sm hs e;rw[a1'] at b1;cases b1;rw[a2'] at b2;have b2:(rs.map V.ref)=rs2.map V.ref:=by injection b2 with b2;injection b2
  obtain⟨dt,hT⟩:=b6;have hlk:MA.lk (eF b) s=MA.lX t:=by unfold MA.lk;rw[e]
  refine rV rfl (rf hD.hR TR.cl TR.ns bU (rf a1' TS.cl TS.nf (gj _ _) (rV rfl (rf hD.hR TR.cl TR.np cX ⟨sl,_,_,_,rfl,rfl,bh.of a2',at_of (j:=nT b - MA.len s) ↑2 (by rw[b2];exact b4),rf (sm _ _ hT) TT.cl TT.nl (Du _ _ _ _) ?_⟩))));rw[hlk,(MA.GX b7).2] at q;exact q
 ·have z:¬_:=λy=>z (decide_eq_true y);rw[List.length_map,hrl] at z;have hl0:MA.len s=0:=↑2
  have e:s.toks=[]:=List.eq_nil_of_length_eq_zero hl0;refine rV rfl (rf hD.hR TR.cl TR.ns bU (rf a1' TS.cl TS.na (lh _ _) ⟨rfl,_,rfl,?_⟩));have hlk:MA.lk (eF b) s=if(Tn 0 b).2.isSome=true then 205 else 204:=by unfold MA.lk;rw[e]
  rw[hlk] at q;generalize hfl:(Tn 0 b).2=fl at a4 q;cases fl with
  |none=>
   have a4:fa= .bH:=a4;subst a4;rw[decide_eq_true rfl];exact fY (by rw[if_neg ↑0,F7.1] at q;exact q)
  |some y=>
   obtain⟨rr,qq⟩:=y;obtain⟨t,e1,e2⟩:=a4;subst e1;rw[decide_eq_false (by intro z;cases z)];exact dR (by rw[if_pos (show(some (rr,qq)).isSome=true from rfl),F7.2] at q;exact q)
end
theorem Of(t:EwTree.Tok):MA.lf t=if FC t=[] then[] else[.leaf (FC t)]:=by
 unfold MA.lf FC;split
 ·rfl
 ·split <;> rfl
section
variable{c:Cs}{b:By}
inductive Nl(K:Frag)(c:Cs)(b:By)(vs:List V)(H:Hp)(Q:VK)(E:XK):Prop
 |mk(R:Addr) (F:Hp) (Ks:List MA.Sym) (p:Nat) (t:EwTree.Tok) (r:List EwTree.Tok) (f:MA.Fm) (l:List MA.Pt) (G:List MA.Fr) (_:vs=[.ref R]) (_:lK K c b F H R Ks ⟨p,t::r⟩ (⟨f,l⟩::G)) (_:l.length<16000000) (_:∀H' F',aF F F'->lK K c b F' H' R Ks ⟨t.halt_,r⟩ (⟨f,l++MA.lf t⟩::G)->Q .bH H')
theorem LB:ax ["self","leaf"] ["self"] (aq (jD 6)):=↑3
theorem QC(d:dj K c.CR "pass_token" "Reader.pass_token" (jD 6) ["self"])(TR:JA K c.CR)(TS:w6 K c.CS)(TT:wM K c.CT)(TG_:FH K c.CG)(ol:Ok P w K mg base bf 2 "leaf_bytes" ["text","token"] (QH K c.CT))(op:i5 P w K mg base 1 c.CG "put" ["self","part"] (GV c.CG c.CW)):i5 P w K mg base 3 c.CR "pass_token" ["self"] (Nl K c b):=d.ok λf fd F=>by
 refine F.ok LB (by rintro vs H Q E ⟨R,F,Ks,p,t,r,f,l,G,rfl,_⟩;rfl) (λUQ A outer s H vs Q E hr h=>?_);obtain⟨R,F,Ks,p,t,r,f,l,G,rfl,⟨hs,dx,ta,sa,d,cl,g,bl,al,vs,hD⟩,hl,q⟩:=h;refine⟨_,aj (aN (i:=1) LB.nd rfl (Or.inl rfl) (aM ol hr (aa (ay (pv 0) rfl) (aa (bA aX (ay (ay (pv 0) rfl) rfl) (ay (pv 0) rfl) (λ_ _=>rfl)) ao))))
  (aj (aR (aD (Gb hr.units) (pv 1) (bx ao) (aJ _)) (ai (aS (ib op TG_.cl (hr.mono ↑0) (ay (pv 0) rfl) (aa (pv 1) ao)))) aL)
  (ai (Fo (pv 0) aw M3))),?_⟩
 have sm:=hD.gr.sm;obtain⟨sx,sl,fa,rs,x,b1,b2,b3,b4,b5,b6,b7,b8,b9⟩:=xD (K:=K) hD.ev.sc sm hs rfl;obtain⟨dt,hT⟩:=b6;refine⟨_,rfl,R,c.CR,dx,_,_,rfl,hD.hR,TR.cl,TR.nt,Az,_,rfl,R,c.CR,dx,_,_,rfl,hD.hR,TR.cl,TR.ns,bU,sa,c.CS,sx,_,_,rfl,b1,TS.cl,TS.nf,gj _ _,_,rfl,R,c.CR,dx,_,_,rfl,hD.hR,TR.cl,TR.np,cX,sl,_,_,_,rfl,rfl,bh.of b2,at_of (j:=nT b - MA.len ⟨p,t::r⟩) (by have:=hs.1;omega) b4,ta,x,b,t,rfl,sm.seq hD.ev.tx,⟨dt,sm _ _ hT⟩,b7,b8,λH1 m s1 hm h1=>?_⟩;have hsz:sizeLine=16777216:=sizeLine_eq;refine⟨_,rfl,Nat.zero_le _,λe he=>?_⟩;have s2:=s1.trans (aC (o:=.lst []) he);have h1':(upd H1 e (.lst [])) m=some (.lst (iv (FC t))):=by rw[ah (au h1 he)];exact h1
 have hl2:MA.len ⟨p,t::r⟩=MA.len ⟨t.halt_,r⟩+1:=rfl;have hs':JH b ⟨t.halt_,r⟩:=by
  have a:=hs.1;have a2:=hs.2;rw[hl2] at a a2;obtain⟨d1,d2,d3⟩:=drop_cons a2.symm;refine⟨↑2,?_⟩;have hi:nT b - (MA.len ⟨t.halt_,r⟩+1)+1=nT b - MA.len ⟨t.halt_,r⟩:=↑2
  rw[hi] at d2;exact d2.symm
 have fin:∀(H3 F':Hp)(G3:List MA.Fr)(al3:List (Addr×Addr)),aF F F'->Rd K c b F' H3 R dx ta sa d cl g bl al3 vs ((nT b:Int) - MA.len ⟨p,t::r⟩) Ks G3->G3=(⟨f,l++MA.lf t⟩::G)->DZ K (df 0) (tC (.int 1)) Rv "passed" {nx:=λ_ H'=>Q .bH H',rt:=Q} [some (.ref R),some (.ref m)] H3:=by
  intro H3 F' G3 al3 sF hD3 eG;subst eG;refine⟨_,rfl,R,c.CR,dx,_,_,rfl,hD3.hR,TR.cl,TR.np,cX,_,_,rfl,rfl,dx,_,hD3.hR,(by show 6<1000;decide),?_⟩;rw[zi];refine q _ F' sF ⟨hs',dx,ta,sa,d,cl,g,bl,al3,vs,?_⟩;have:=hD3.pass (m:=(nT b:Int) - MA.len ⟨p,t::r⟩+1) (dx':=dx);rw[show(nT b:Int) - MA.len ⟨t.halt_,r⟩=(nT b:Int) - MA.len ⟨p,t::r⟩+1 by rw[hl2];omega];exact this
 refine⟨m,e,_,[],rfl,rfl,(by rw[<-eR];exact bh.of h1'),bh.of ag,_,rfl,aU (λz=>?_) λz=>?_⟩
 ·have hne:FC t≠[]:=λy=>by rw[y] at z;exact absurd z ↑0
  have hD2:=hD.add s2 hm h1';obtain⟨dg,hg⟩:=hD2.gr.hg;refine⟨_,rfl,R,c.CR,dx,_,_,rfl,hD2.hR,TR.cl,TR.ng,dn,g,dg,_,rfl,hg,gC ↑1,_,rfl,g,bl,al,⟨f,l⟩,G,nT b,_,.ref m,.leaf (FC t),rfl,hD2.gr,.leaf ag,hl,λH' g4 kp4=>?_⟩;refine fin H' _ _ al (aC (sm.free hm)) (hD2.grown g4 kp4 (aF.refl _) hD2.self kZ) ?_;rw[Of,if_neg hne]
 ·have heq:FC t=[]:=by
   cases hx:FC t with
   |nil=>rfl
   |cons a r=>rw[hx] at z;exact absurd rfl z
  refine fin _ F _ al (aF.refl F) (hD.more s2) ?_;rw[Of,if_pos heq,List.append_nil]
end
end
end TG
namespace L2
open PySem PySem.Spec PyProof.Rows
theorem zO(z:Str):∀xs:List Str,CZ (.str z) (xs.map V.str)=decide (z∈xs)
 |[]=>by simp[CZ]
 |y::xs=>by
  have ih:=zO z xs;unfold CZ at ih ⊢;rw[List.map_cons,List.any_cons,ih];have:Fc (.str y) (.str z)=decide (z=y):=by
   show(y==z)=_;by_cases h:z=y
   ·subst h;simp
   ·rw[decide_eq_false h];simpa using Ne.symm h
  rw[this];by_cases h:z=y
  ·subst h;simp
  ·rw[decide_eq_false h];simp[h]
theorem zT:∀{xs:List Str}{us:List Value},Vals (xs.map V.str) us->∀u∈us,∃z t,u= .str z t
 |[],_,.nil,_,h=>by cases h
 |x::xs,_,.cons r q,u,h=>by
  rcases List.mem_cons.mp h with rfl|h
  ·obtain⟨t,e⟩:=(show ∃t,_=Value.str x t from r);exact⟨x,t,e⟩
  ·exact zT q u h
theorem u4:∀xs:List Str,(xs.map V.str).all iP=true
 |[]=>rfl
 |_::xs=>by rw[List.map_cons,List.all_cons,u4 xs];rfl
inductive Pa(K:Frag)(x y:V)(H:Hp)(Q:VK):Prop
 |mk(p:Addr) (xs:List Str) (_:y= .ref p) (_:fN K H p (xs.map V.str)) (_:(∃z,x= .str z/\Q (.bl (decide (z∈xs))) H)\/∃a us,x= .ref a/\fN K H a us/\Q (.bl false) H)
theorem AX{X:Cx}(hu:X.A.units+64<cLine):jh X (compareOp .In) (Pa X.K):=by
 intro UP s σ H x y v u Q I rx ry h;obtain⟨p,xs,rfl,hq,h⟩:=h;rcases h with⟨z,rfl,q⟩|⟨a,us,rfl,ha,q⟩
 ·exact fh (X:=X) UP s σ H _ _ v u Q I rx ry ⟨p,_,rfl,.inr hq,rfl,u4 xs,by rw[if_neg ↑0,zO];exact q⟩
 ·cases ry;cases rx;obtain⟨its,r,pl,hz⟩:=I.tuple hq;obtain⟨its2,r2,pl2,hz2⟩:=I.tuple ha;refine SeqAt.in_tupleAt (λ_=>false) pl (λw hw=>?_) ⟨.bl false,H,I,?_,q⟩
  ·obtain⟨z,t,rfl⟩:=zT r w (by simpa using hw);exact SeqAt.EqAt.str_tuple z t pl2 (by show X.A.units+1<cLine;omega)
  ·show Value.bool _=Value.bool false;simp
end L2
namespace TG
open PySem PySem.Spec PyProof.Rows L2 TW
variable{P:Program}{w:World}{K:Frag}{mg:Str->Option Value}{base:Heap}
section
open MA (nm VC)
section
variable{c:Cs}{b:By}
inductive Pc(K:Frag)(c:Cs)(b:By)(vs:List V)(H:Hp)(Q:VK)(E:XK):Prop
 |mk(R:Addr) (F:Hp) (Ks:List MA.Sym) (s:EwTree.St) (G:List MA.Fr) (_:vs=[.ref R]) (_:lK K c b F H R Ks s G) (_:∀H' x,aF H H'->ny c.CF H' x (EwTree.bad (zF b) s).1 (EwTree.bad (zF b) s).2->E (.ref x) none H')
theorem Qe:ax ["self"] ["self"] (aq (jD 7)):=↑3
theorem PJ(d:dj K c.CR "refuse" "Reader.refuse" (jD 7) ["self"])(TR:JA K c.CR)(TS:w6 K c.CS)(TT:wM K c.CT)(nF:wN P w K mg base c.CF)(ln:mg "len"=none):jI P w K mg base 4 c.CR "refuse" ["self"] (Pc K c b):=d.um λf fd F=>by
 refine F.um Qe (by rintro vs H Q E ⟨R,F,Ks,s,G,rfl,_⟩;rfl) (λUQ A outer s H vs Q E hr h=>?_);obtain⟨R,F,Ks,s,G,rfl,⟨hs,dx,ta,sa,d,cl,g,bl,al,vs,hD⟩,q⟩:=h;obtain⟨fX,fdX,M,_⟩:=id nF.ex;refine⟨_,aj (aR (aD pb (ay (pv 0) rfl) (bB ln (ay (ay (pv 0) rfl) rfl)) (aJ _)) (ai (cn hr.hd (iD nF hr (aa aw (aa (ay (bA aX (ay (ay (pv 0) rfl) rfl) (ay (pv 0) rfl) (λ_ _=>rfl)) rfl) ao))))) aL)
  (aj (aR (aD Hg (ay (ay (pv 0) rfl) rfl) BB (aJ _)) (ai (cn hr.hd (iD nF hr (aa aw (aa (bB ln (ay (pv 0) rfl)) ao))))) aL)
  (ai (cn hr.hd (iD nF hr (aa (bA vX (ay (ay (pv 0) rfl) rfl) aw (λ_ _=>rfl)) (aa (bA vX (ay (ay (pv 0) rfl) rfl) aw (λ_ _=>rfl)) ao)))))),?_⟩
 have sm:=hD.gr.sm;obtain⟨sx,sl,fa,rs,a1,a2,a3,a4⟩:=id hD.ev.sc;have a1':=sm _ _ a1;have a2':=sm _ _ a2;have hrl:rs.length=nT b:=Paired.length a3;have hle:=hs.1;refine rV rfl (rf hD.hR TR.cl TR.np cX (rV rfl (rf hD.hR TR.cl TR.ns bU (rf a1' TS.cl TS.nf (gj _ _) ⟨sl,_,rfl,.inl (bh.of a2'),_,_,rfl,rfl,_,rfl,aU (λz=>?_) λz=>?_⟩))))
 ·have z:=of_decide_eq_true z;rw[List.length_map,hrl] at z;have hl0:0<MA.len s:=↑2
  obtain⟨t,r,e⟩:∃t r,s.toks=t::r:=by
   unfold MA.len at hl0;cases e:s.toks with
   |nil=>rw[e] at hl0;exact absurd hl0 ↑0
   |cons t r=>exact⟨t,r,rfl⟩
  obtain⟨dx2,l2,fa2,rs2,x,b1,b2,b3,b4,b5,b6,b7,b8,b9⟩:=xD (K:=K) hD.ev.sc sm hs e;rw[a1'] at b1;cases b1;rw[a2'] at b2;have b2:(rs.map V.ref)=rs2.map V.ref:=by injection b2 with b2;injection b2
  obtain⟨dt,hT⟩:=b6;have hbad:EwTree.bad (zF b) s=(2,t.place):=by unfold EwTree.bad;rw[e]
  rw[hbad] at q;refine rV rfl (rf hD.hR TR.cl TR.ns bU (rf a1' TS.cl TS.nf (gj _ _) (rV rfl (rf hD.hR TR.cl TR.np cX ⟨sl,_,_,_,rfl,rfl,bh.of a2',at_of (j:=nT b - MA.len s) ↑2 (by rw[b2];exact b4),rf (sm _ _ hT) TT.cl TT.ns (ki _ _ _ _) ?_⟩))));exact bI M λx H' s' h'=>q H' x s' h'
 ·have z:¬_:=λy=>z (decide_eq_true y);rw[List.length_map,hrl] at z;have hl0:MA.len s=0:=↑2
  have e:s.toks=[]:=List.eq_nil_of_length_eq_zero hl0;have hbad:EwTree.bad (zF b) s=zF b:=by unfold EwTree.bad;rw[e]
  rw[hbad] at q;unfold zF at q;refine rV rfl (rf hD.hR TR.cl TR.ns bU (rf a1' TS.cl TS.na (lh _ _) ⟨rfl,_,rfl,?_⟩));generalize hfl:(Tn 0 b).2=fl at a4 q;cases fl with
  |none=>
   have a4:fa= .bH:=a4;subst a4;rw[decide_eq_true rfl];refine fY ⟨_,rfl,R,c.CR,dx,_,_,rfl,hD.hR,TR.cl,TR.nt,Az,ta,_,rfl,.inl (sm.seq hD.ev.tx),?_⟩;rw[aT];exact bI M λx H' s' h'=>q H' x s' h'
  |some y=>
   obtain⟨rr,qq⟩:=y;obtain⟨t,e1,e2⟩:=a4;subst e1;rw[decide_eq_false (by intro z;cases z)];have hT:fN K H t [V.int (rr:Nat),.int (qq:Nat)]:=fN.of (sm _ _ e2);refine dR ⟨_,rfl,R,c.CR,dx,_,_,rfl,hD.hR,TR.cl,TR.ns,bU,sa,c.CS,sx,_,_,rfl,a1',TS.cl,TS.na,lh _ _,t,_,_,_,rfl,rfl,hT,(show vt [V.int (rr:Nat),.int (qq:Nat)] 0=some (.int (rr:Nat)) from at_of (j:=0) rfl rfl),_,rfl,R,c.CR,dx,_,_,rfl,hD.hR,TR.cl,TR.ns,bU,sa,c.CS,sx,_,_,rfl,a1',TS.cl,TS.na,lh _ _,t,_,_,_,rfl,rfl,hT,(show vt [V.int (rr:Nat),.int (qq:Nat)] 1=some (.int (qq:Nat)) from at_of (j:=1) rfl rfl),?_⟩;exact bI M λx H' s' h'=>q H' x s' h'
inductive OB(K:Frag)(c:Cs)(b:By)(vs:List V)(H:Hp)(Q:VK)(E:XK):Prop
 |mk(R:Addr) (F:Hp) (Ks:List MA.Sym) (s:EwTree.St) (f:MA.Fm) (l:List MA.Pt) (G:List MA.Fr) (v:V) (y:MA.Sym) (_:vs=[.ref R,v]) (_:lK K c b F H R Ks s (⟨f,l⟩::G)) (_:ud K v y) (_:l.length<16000000) (_:((∃bb,y= .bW bb/\∀H' F',aF F F'->lK K c b F' H' R Ks s (⟨f,l++[.leaf bb]⟩::G)->Q .bH H')\/∃k,y= .turn k/\∀H' F',aF F F'->lK K c b F' H' R Ks s (⟨f.turn k,l⟩::G)->Q .bH H'))
theorem Px:ax ["self","symbol"] ["self","symbol"] (aq (jD 4)):=↑3
theorem QG(d:dj K c.CR "grow" "Reader.grow" (jD 4) ["self","symbol"])(TR:JA K c.CR)(TG_:FH K c.CG)(ml:mg "list"=none)(ot:i5 P w K mg base 1 c.CG "turn" ["self","kind"] (N7 c.CG c.CW))(op:i5 P w K mg base 1 c.CG "put" ["self","part"] (GV c.CG c.CW)):i5 P w K mg base 2 c.CR "grow" ["self","symbol"] (OB K c b):=d.ok λf fd F=>by
 refine F.ok Px (by rintro vs H Q E ⟨R,F,Ks,s,f,l,G,v,y,rfl,_⟩;rfl) (λUQ A outer s H vs Q E hr h=>?_);obtain⟨R,F,Ks,s,f,l,G,v,y,rfl,⟨hs,dx,ta,sa,d,cl,g,bl,al,vs,hD⟩,hy,hl,q⟩:=h;obtain⟨dg,hg⟩:=hD.gr.hg;refine⟨_,ai (aR (aD cG (bA vX (pv 1) aw (λ_ _=>rfl)) bO (aJ _)) (ai (aS (ib ot TG_.cl hr (ay (pv 0) rfl) (aa (bA vX (pv 1) aw (λ_ _=>rfl)) ao))))
  (ai (aS (ib op TG_.cl hr (ay (pv 0) rfl) (aa (ED wy (by rfl) ml PyProof.Rows.boot_list (aa (pv 1) ao)) ao))))),?_⟩
 rcases q with⟨bb,rfl,q⟩|⟨k,rfl,q⟩
 ·obtain⟨a,rfl,hb1,hT⟩:=hy;obtain⟨u,rfl⟩:∃u,bb=[u]:=by
   match bb,hb1 with
   |[u],_=>exact⟨u,rfl⟩
  refine⟨_,rfl,a,_,_,_,rfl,rfl,hT _,at_of (j:=0) rfl rfl,rfl,_,rfl,dR ?_⟩;refine rV rfl (rf hD.hR TR.cl TR.ng dn ⟨g,dg,_,rfl,hg,gC ↑1,_,rfl,a,_,rfl,.inr (hT _),λm hm=>?_⟩);have hD2:=hD.add (aC (o:=.lst (iv [u])) hm) hm ag;refine⟨g,bl,al,⟨f,l⟩,G,nT b,_,.ref m,.leaf [u],rfl,hD2.gr,.leaf ag,hl,λH' g4 kp4=>q H' _ (aC (hD.gr.sm.free hm)) ⟨hs,dx,ta,sa,d,cl,g,bl,al,vs,hD2.grown g4 kp4 (aF.refl _) hD2.self kZ⟩⟩
 ·obtain⟨a,rfl,hk,hT⟩:=hy;refine⟨_,rfl,a,_,_,_,rfl,rfl,hT _,at_of (j:=0) rfl rfl,rfl,_,rfl,fY ?_⟩;refine rV rfl (rf hD.hR TR.cl TR.ng dn ⟨g,dg,_,rfl,hg,gC ↑1,_,rfl,a,_,_,_,rfl,rfl,hT _,at_of (j:=1) rfl rfl,g,bl,al,⟨f,l⟩,G,nT b,F,k,rfl,hD.gr,hk,λH' g4 kp4=>q H' F (aF.refl F) ⟨hs,dx,ta,sa,d,cl,g,bl,al,vs,hD.grown g4 kp4 (aF.refl _) hD.self kZ⟩⟩)
end
def Jw(M n:Nat)(Ks:List MA.Sym)(G:List MA.Fr):Prop:=Ks.length+n<=M/\G.length+n<=M/\∀fr∈G,fr.parts.length+n<=M
def Kont(K:Frag)(c:Cs)(b:By)(R:Addr)(F:Hp)(o:MA.Out)(M n:Nat)(Q:VK)(E:XK):Prop:=
 (∀H' F' Ks' s' G' n',n'<n->aF F F'->lK K c b F' H' R Ks' s' G'->MA.Runs (eF b) (zF b) n' Ks' s' G' o->Jw M n' Ks' G'->Q .bH H')/\∀er H' x,o= .fault er->aF F H'->ny c.CF H' x er.1 er.2->E (.ref x) none H'
theorem qz{M n m:Nat}{y:MA.Sym}{Ks:List MA.Sym}{G:List MA.Fr}(h:Jw M n (y::Ks) G)(hm:m<=n):Jw M m Ks G:=by
 refine⟨?_,?_,λfr hf=>?_⟩
 ·have:=h.1;simp only[List.length_cons] at this;omega
 ·have:=h.2.1;omega
 ·have:=h.2.2 fr hf;omega
theorem BD{M n m:Nat}{Ks:List MA.Sym}{fr:MA.Fr}{G:List MA.Fr}{f:MA.Fm}{ps:List MA.Pt}(h:Jw M n Ks (fr::G))(hm:m+1<=n)(hp:ps.length<=fr.parts.length+1):Jw M m Ks (⟨f,ps⟩::G):=by
 refine⟨by have:=h.1;omega,by have:=h.2.1;simp only[List.length_cons] at this ⊢;omega,λx hx=>?_⟩;rcases List.mem_cons.mp hx with rfl|hx
 ·have:=h.2.2 fr (List.mem_cons_self ..);show ps.length+m<=M;omega
 ·have:=h.2.2 x (List.mem_cons_of_mem _ hx);omega
theorem Ql{b:By}{s:EwTree.St}(hs:JH b s):MA.lk (eF b) s∈VC:=by
 unfold MA.lk;split
 ·split
  ·exact MA.cx ↑0
  ·exact MA.cx ↑0
 ·rename_i t r e;have hd:=hs.2;rw[e] at hd;obtain⟨d1,d2,d3⟩:=drop_cons hd.symm;exact(MA.GX (tu b.length 0 b (Nat.le_refl _) t (List.mem_of_getElem? d1))).1
theorem T7:nm 299=Str.ofString "":=↑1
theorem Paired.app{α β:Type}{R:α->β->Prop}:∀{a c:List α}{b d:List β},Paired R a b->Paired R c d->Paired R (a++c) (b++d)
 |_,_,_,_,.nil,h=>h
 |_,_,_,_,.cons h r,q=>.cons h (Paired.app r q)
section
variable{c:Cs}{b:By}
def RI(e:Bool)(z:EwTree.Fault)(n:Nat)(s:EwTree.St)(G:List MA.Fr)(o:MA.Out):List MA.Sym->Prop
 |[]=>n=0/\o= .ok G
 | .bg f::K=>∃n',n=n'+1/\MA.Runs e z n' K s (⟨f.at s,[]⟩::G) o
 | .bW b::K=>∃n' f l G0,n=n'+1/\G=⟨f,l⟩::G0/\MA.Runs e z n' K s (⟨f,l++[.leaf b]⟩::G0) o
 | .turn k::K=>∃n' f l G0,n=n'+1/\G=⟨f,l⟩::G0/\MA.Runs e z n' K s (⟨f.turn k,l⟩::G0) o
 | .take::K=>∃n' p f h l r G0,n=n'+1/\G=⟨f,l⟩::⟨h,r++[p]⟩::G0/\MA.Runs e z n' K s (⟨f.tk p,l++[p]⟩::⟨h,r⟩::G0) o
 | .fin::K=>∃n' f h l r G0,n=n'+1/\G=⟨f,l⟩::⟨h,r⟩::G0/\(f.isSet=true->MA.iW l)/\MA.Runs e z n' K s (⟨h,r++[MA.done f s l]⟩::G0) o
 | .w x::K=>(∃n' t p ts f l G0,n=n'+1/\s=⟨p,t::ts⟩/\G=⟨f,l⟩::G0/\x=MA.lX t/\MA.Runs e z n' K ⟨t.halt_,ts⟩ (⟨f,l++MA.lf t⟩::G0) o)\/x≠MA.lk e s/\
  ((∃n' r,n=n'+(1+r.length)/\MA.row x (MA.lk e s)=some r/\MA.Runs e z n' (r++K) s G o)\/MA.row x (MA.lk e s)=none/\((∃n' r,n=n'+(1+r.length)/\MA.row x 299=some r/\MA.Runs e z n' (r++K) s G o)\/MA.row x 299=none/\o= .fault (EwTree.bad z s)))
theorem eU{e:Bool}{z:EwTree.Fault}{n:Nat}{K:List MA.Sym}{s:EwTree.St}{G:List MA.Fr}{o:MA.Out}(h:MA.Runs e z n K s G o):RI e z n s G o K:=by
 cases h with
 |halt=>exact⟨rfl,rfl⟩
 |bg h=>exact⟨_,rfl,h⟩
 |bW h=>exact⟨_,_,_,_,rfl,rfl,h⟩
 |take h=>exact⟨_,_,_,_,_,_,_,rfl,rfl,h⟩
 |turn h=>exact⟨_,_,_,_,rfl,rfl,h⟩
 |fin h1 h=>exact⟨_,_,_,_,_,_,rfl,rfl,h1,h⟩
 |pass h=>exact .inl ⟨_,_,_,_,_,_,_,rfl,rfl,rfl,rfl,h⟩
 |go h1 h2 h=>exact .inr ⟨h1,.inl ⟨_,_,rfl,h2,h⟩⟩
 |Tp h1 h2 h3 h=>exact .inr ⟨h1,.inr ⟨h2,.inl ⟨_,_,rfl,h3,h⟩⟩⟩
 |no h1 h2 h3=>exact .inr ⟨h1,.inr ⟨h2,.inr ⟨h3,rfl⟩⟩⟩
section
variable{e:Bool}{z:EwTree.Fault}{n x:Nat}{r K:List MA.Sym}{s:EwTree.St}{G:List MA.Fr}{o:MA.Out}
theorem K'(hne:x≠MA.lk e s)(hr:MA.row x (MA.lk e s)=some r)(h:MA.Runs e z n (.w x::K) s G o):∃n',n=n'+(1+r.length)/\MA.Runs e z n' (r++K) s G o:=by
 rcases eU h with⟨_,_,_,_,_,_,_,_,rfl,_,hx,_⟩|⟨_,⟨n',_,e1,e2,h⟩|⟨e2,_⟩⟩
 ·exact absurd hx hne
 ·rw[hr] at e2;cases e2;exact⟨n',e1,h⟩
 ·rw[hr] at e2;cases e2
theorem I_(hne:x≠MA.lk e s)(hr:MA.row x (MA.lk e s)=none)(h0:MA.row x 299=some r)(h:MA.Runs e z n (.w x::K) s G o):∃n',n=n'+(1+r.length)/\MA.Runs e z n' (r++K) s G o:=by
 rcases eU h with⟨_,_,_,_,_,_,_,_,rfl,_,hx,_⟩|⟨_,⟨n',_,e1,e2,h⟩|⟨e2,⟨n',_,e1,e2,h⟩|⟨e2,_⟩⟩⟩
 ·exact absurd hx hne
 ·rw[hr] at e2;cases e2
 ·rw[h0] at e2;cases e2;exact⟨n',e1,h⟩
 ·rw[h0] at e2;cases e2
theorem Ky(hne:x≠MA.lk e s)(hr:MA.row x (MA.lk e s)=none)(h0:MA.row x 299=none)(h:MA.Runs e z n (.w x::K) s G o):o= .fault (EwTree.bad z s):=by
 rcases eU h with⟨_,_,_,_,_,_,_,_,rfl,_,hx,_⟩|⟨_,⟨n',_,e1,e2,h⟩|⟨e2,⟨n',_,e1,e2,h⟩|⟨_,e⟩⟩⟩
 ·exact absurd hx hne
 ·rw[hr] at e2;cases e2
 ·rw[h0] at e2;cases e2
 ·exact e
theorem Fd(hx:x=MA.lk e s)(h:MA.Runs e z n (.w x::K) s G o):∃n' t p ts f l G0,n=n'+1/\s=⟨p,t::ts⟩/\G=⟨f,l⟩::G0/\x=MA.lX t/\MA.Runs e z n' K ⟨t.halt_,ts⟩ (⟨f,l++MA.lf t⟩::G0) o:=
 (eU h).elim id λh=>absurd hx h.1
end
inductive NS(K:Frag)(c:Cs)(b:By)(vs:List V)(H:Hp)(Q:VK)(E:XK):Prop
 |mk(R:Addr) (F:Hp) (Ks:List MA.Sym) (s:EwTree.St) (G:List MA.Fr) (x n M:Nat) (o:MA.Out) (_:vs=[.ref R,.str (nm x),.str (nm (MA.lk (eF b) s))]) (_:x∈VC) (_:lK K c b F H R Ks s G) (_:MA.Runs (eF b) (zF b) n (.w x::Ks) s G o) (_:Jw M n (.w x::Ks) G) (_:M<16000000) (_:Kont K c b R F o M n Q E)
theorem Qb:ax ["self","symbol","look"] ["self","symbol","look"] (aq (jD 5)):=↑3
theorem RA(d:dj K c.CR "meet" "Reader.meet" (jD 5) ["self","symbol","look"])(TR:JA K c.CR)(op:i5 P w K mg base 3 c.CR "pass_token" ["self"] (Nl K c b))(ore:jI P w K mg base 4 c.CR "refuse" ["self"] (Pc K c b)):jI P w K mg base 5 c.CR "meet" ["self","symbol","look"] (NS K c b):=d.um λf fd F=>by
 refine F.um Qb (by rintro vs H Q E ⟨R,F,Ks,s,G,x,n,M,o,rfl,_⟩;rfl) (λUQ A outer s H vs Q E hr h=>?_);obtain⟨R,F,Ks,s,G,x,n,M,o,rfl,hx,hA,hrun,hB,hM,k1,k2⟩:=h;have hA0:=hA;obtain⟨hs,dx,ta,sa,d,cl,g,bl,al,vs,hD⟩:=hA;have hu:=LC hr;have hl:=Ql hs;refine⟨_,ai (aR (aD cG (pv 1) (pv 2) (aJ _)) (ai (aS (i6 (P:=P) op TR.cl (hr.mono ↑0) (pv 0))))
  (ai (aR (F0 (HN hu (fW (aa (pv 1) (aa (pv 2) ao))) (ay (pv 0) rfl))) (ai (aS (fK PySem.F.plainAttrs_list PySem.F.slot_list_extend PySem.F.type_list_extend rp (ay (pv 0) rfl) (aa (DY hu (ay (pv 0) rfl) (fW (aa (pv 1) (aa (pv 2) ao))) (λ_ _=>rfl)) ao))))
  (ai (aR (F0 (HN hu (fW (aa (pv 1) (aa bO ao))) (ay (pv 0) rfl))) (ai (aS (fK PySem.F.plainAttrs_list PySem.F.slot_list_extend PySem.F.type_list_extend rp (ay (pv 0) rfl) (aa (DY hu (ay (pv 0) rfl) (fW (aa (pv 1) (aa bO ao))) (λ_ _=>rfl)) ao))))
  (ai (aS (Av ore TR.cl hr (pv 0))))))))),?_⟩
 have hsz:sizeLine=16777216:=sizeLine_eq;refine⟨_,rfl,_,rfl,rfl,_,rfl,aU (λz=>?_) λz=>?_⟩
 ·have z:nm x=nm (MA.lk (eF b) s):=by have:=of_decide_eq_true z;injection this
  have z:=MA.yj hx hl z;obtain⟨n',t,p,ts,f,l,G0,rfl,rfl,rfl,ex,hr'⟩:=Fd z hrun;refine⟨_,rfl,R,dx,_,rfl,hD.hR,(aO ↑1).trans ((aO ↑1).trans ((aO ↑1).trans ((aO ↑1).trans ((aO ↑1).trans ((aO ↑1).trans rfl))))),R,F,Ks,p,t,ts,f,l,G0,rfl,hA0,?_,λH' F' sF hA'=>?_⟩
  ·have:=hB.2.2 ⟨f,l⟩ (List.mem_cons_self ..);dsimp only at this;omega
  ·refine k1 H' F' Ks _ _ n' (Nat.lt_succ_self _) sF hA' hr' (BD (qz hB (Nat.le_refl _)) (Nat.le_refl _) ?_);rw[List.length_append,Of];split
   ·exact Nat.le_succ _
   ·exact Nat.le_refl _
 have hne:x≠MA.lk (eF b) s:=λy=>z (decide_eq_true (by rw[y]));obtain⟨kvs,hrw,hP⟩:=hD.ev.rw;obtain⟨v1,v2⟩:=xK hP C1 hx hl;obtain⟨v3,v4⟩:=xK hP C1 hx (show(299:Nat)∈VC from MA.cx ↑0);rw[MA.y0] at v1 v2 v3 v4;rw[T7] at v3 v4;refine⟨_,rfl,_,rfl,(by show 2<=sizeLine;decide),λt1 ht1=>?_⟩;have s1:=aC (o:=.tup [.str (nm x),.str (nm (MA.lk (eF b) s))]) ht1;have hD1:=hD.more s1;refine rV rfl (rf hD1.hR TR.cl TR.nr kH ⟨d,_,rfl,qO.t (k:=[.inr (nm x),.inr (nm (MA.lk (eF b) s))]) (hD1.gr.sm _ _ hrw) ag,_,rfl,?_⟩);have ext:∀(r:List MA.Sym)(b':Addr)(us:List V)(n':Nat)(H2:Hp),aF H H2->F b'=some (.tup us.reverse)->Paired (ud K) us r->n=n'+(1+r.length)->MA.Runs (eF b) (zF b) n' (r++Ks) s G o->
   ∃l b'' xs zs,V.ref cl= .ref l/\[V.ref b']=[.ref b'']/\H2 l=some (.lst xs)/\fN K H2 b'' zs/\xs.length+zs.length<=sizeLine/\Q .bH (upd H2 l (.lst (xs++zs))):=by
  intro r b' us n' H2 s2 hb' hus en hr';have hD2:=hD.more s2;have l1:us.length=r.length:=Paired.length hus;have l2:vs.length=Ks.length:=Paired.length hD.sy;have hb1:=hB.1;simp only[List.length_cons] at hb1;refine⟨cl,b',_,_,rfl,rfl,hD2.hc,fN.of (hD2.gr.sm _ _ hb'),(by rw[List.length_reverse,List.length_reverse,hsz];omega),?_⟩;have e1:vs.reverse++us.reverse=(us++vs).reverse:=(List.reverse_append ..).symm;rw[e1];refine k1 _ F (r++Ks) s G n' ↑2 (aF.refl F) ⟨hs,dx,ta,sa,d,cl,g,bl,al,us++vs,hD2.RF (Paired.app hus hD.sy)⟩ hr' ⟨?_,?_,λfr hf=>?_⟩
  ·rw[List.length_append];omega
  ·have:=hB.2.1;omega
  ·have:=hB.2.2 fr hf;omega
 cases hrow:MA.row x (MA.lk (eF b) s) with
 |some r=>
  obtain⟨b',us,e1,e2,e3⟩:=v2 r hrow;rw[e1];have hrr:∃n',n=n'+(1+r.length)/\MA.Runs (eF b) (zF b) n' (r++Ks) s G o:=K' hne hrow hrun;obtain⟨n',en,hr'⟩:=hrr;refine fY ⟨_,rfl,R,c.CR,dx,_,_,rfl,hD1.hR,TR.cl,TR.nc,gM,.inl ⟨rfl,_,bh.of hD1.hc⟩,_,rfl,R,c.CR,dx,_,_,rfl,hD1.hR,TR.cl,TR.nr,kH,_,rfl,_,rfl,(by show 2<=sizeLine;decide),λt2 ht2=>?_⟩;have s2:=s1.trans (aC (o:=.tup [.str (nm x),.str (nm (MA.lk (eF b) s))]) ht2);have hD2:=hD.more s2;refine⟨d,.ref b',rfl,?_,?_⟩
  ·rw[<-e1];exact qO.t (k:=[.inr (nm x),.inr (nm (MA.lk (eF b) s))]) (hD2.gr.sm _ _ hrw) ag
  ·exact ext r b' us n' _ s2 e2 e3 en hr'
 |none=>
  rw[v1 hrow];refine dR ?_;refine⟨_,rfl,(by show 2<=sizeLine;decide),λt2 ht2=>?_⟩;have s2:=s1.trans (aC (o:=.tup [.str (nm x),.str (Str.ofString "")]) ht2);have hD2:=hD.more s2;refine rV rfl (rf hD2.hR TR.cl TR.nr kH ⟨d,_,rfl,qO.t (k:=[.inr (nm x),.inr (Str.ofString "")]) (hD2.gr.sm _ _ hrw) ag,_,rfl,?_⟩);cases hrow0:MA.row x 299 with
  |some r=>
   obtain⟨b',us,e1,e2,e3⟩:=v4 r hrow0;rw[e1];have hrr:∃n',n=n'+(1+r.length)/\MA.Runs (eF b) (zF b) n' (r++Ks) s G o:=I_ hne hrow hrow0 hrun;obtain⟨n',en,hr'⟩:=hrr;refine fY ⟨_,rfl,R,c.CR,dx,_,_,rfl,hD2.hR,TR.cl,TR.nc,gM,.inl ⟨rfl,_,bh.of hD2.hc⟩,_,rfl,R,c.CR,dx,_,_,rfl,hD2.hR,TR.cl,TR.nr,kH,_,rfl,(by show 2<=sizeLine;decide),λt3 ht3=>?_⟩;have s3:=s2.trans (aC (o:=.tup [.str (nm x),.str (Str.ofString "")]) ht3);have hD3:=hD.more s3;refine⟨d,.ref b',rfl,?_,?_⟩
   ·rw[<-e1];exact qO.t (k:=[.inr (nm x),.inr (Str.ofString "")]) (hD3.gr.sm _ _ hrw) ag
   ·exact ext r b' us n' _ s3 e2 e3 en hr'
  |none=>
   rw[v3 hrow0];refine dR ?_;have ho:o= .fault (EwTree.bad (zF b) s):=Ky hne hrow hrow0 hrun;refine⟨_,rfl,R,dx,_,rfl,hD2.hR,(aO ↑1).trans ((aO ↑1).trans ((aO ↑1).trans ((aO ↑1).trans ((aO ↑1).trans ((aO ↑1).trans rfl))))),R,F,Ks,s,G,rfl,⟨hs,dx,ta,sa,d,cl,g,bl,al,vs,hD2⟩,λH' x s' h'=>⟨x,rfl,k2 _ H' x ho (hD2.gr.sm.trans s') h'⟩⟩
end
structure RX(K:Frag):Prop where
 si:PySem.W.kitOne K (.type "str") (.type "int")=some false
 ti:PySem.W.kitOne K (.type "tuple") (.type "int")=some false
 st:PySem.W.kitOne K (.type "str") (.type "tuple")=some false
theorem rn{K:Frag}{T:String}:PySem.W.kitOne K (.type T) (.type T)=some true:=by unfold PySem.W.kitOne;rw[if_pos (by simp)]
theorem K1:∀x∈VC,(nm x).cps.toList.head?≠some 64:=↑1
theorem zH{x:Nat}(hx:x∈VC){z:Str}(hz:z.cps.toList.head?=some 64)(e:nm x=z):False:=K1 x hx (by rw[e];exact hz)
theorem mz{t sc n d c g:V}{m:Str}(h1:m≠"text")(h2:m≠"scanned")(h3:m≠"passed")(h4:m≠"rows")(h5:m≠"coming")(h6:m≠"growth"):(FD t sc n d c g).lookup m=none:=
 (aO h1).trans ((aO h2).trans ((aO h3).trans ((aO h4).trans ((aO h5).trans ((aO h6).trans rfl)))))
section
variable{c:Cs}{b:By}
inductive Mj(K:Frag)(c:Cs)(b:By)(vs:List V)(H:Hp)(Q:VK)(E:XK):Prop
 |mk(R:Addr) (F:Hp) (Ks:List MA.Sym) (s:EwTree.St) (G:List MA.Fr) (v:V) (y:MA.Sym) (n M:Nat) (o:MA.Out) (_:vs=[.ref R,v]) (_:ud K v y) (_:lK K c b F H R Ks s G) (_:MA.Runs (eF b) (zF b) n (y::Ks) s G o) (_:Jw M n (y::Ks) G) (_:M<16000000) (_:Kont K c b R F o M n Q E)
theorem Pu:ax ["self","symbol"] ["self","symbol"] (aq (jD 3)):=↑3
theorem P4(d:dj K c.CR "step" "Reader.step" (jD 3) ["self","symbol"])(TR:JA K c.CR)(TG_:FH K c.CG)(kf:RX K)(isi:mg "isinstance"=none)(mi:mg "int"=none)(mt:mg "tuple"=none)(obg:i5 P w K mg base 3 c.CG "begin" ["self","form","passed"] (O3 c.CG c.CW))(ogw:i5 P w K mg base 2 c.CR "grow" ["self","symbol"] (OB K c b))(otk:i5 P w K mg base 1 c.CG "take" ["self"] (Ja c.CG c.CW))(ofi:i5 P w K mg base 2 c.CG "finish" ["self","passed"] (Qp c.CG c.CW))(oah:i5 P w K mg base 1 c.CR "ahead" ["self"] (OI K c b))(ome:jI P w K mg base 5 c.CR "meet" ["self","symbol","look"] (NS K c b)):jI P w K mg base 6 c.CR "step" ["self","symbol"] (Mj K c b):=d.um λf fd F=>by
 refine F.um Pu (by rintro vs H Q E ⟨R,F,Ks,s,G,v,y,n,M,o,rfl,_⟩;rfl) (λUQ A outer s H vs Q E hr h=>?_);obtain⟨R,F,Ks,s,G,v,y,n,M,o,rfl,hy,hA,hrun,hB,hM,k1,k2⟩:=h;have hA0:=hA;obtain⟨hs,dx,ta,sa,d,cl,g,bl,al,vs,hD⟩:=hA;obtain⟨dg,hg⟩:=hD.gr.hg;have hsz:sizeLine=16777216:=sizeLine_eq;refine⟨_,ai (aR (L7 (dr (eB lR (by rfl) isi PyProof.Rows.boot_isinstance (aa (pv 1) (aa (C4 (v:=.ty "int") (by rfl) mi ↑1 rfl) ao)))) (Ge (aD (AX hr.units) (pv 1) (fW (aa bO (aa bO (aa bO ao)))) (by with_unfolding_all rfl)))).pt
  (ai (aS (ib obg TG_.cl (hr.mono ↑0) (ay (pv 0) rfl) (aa (pv 1) (aa (ay (pv 0) rfl) ao)))))
  (ai (aR (dr (eB lR (by rfl) isi PyProof.Rows.boot_isinstance (aa (pv 1) (aa (C4 (v:=.ty "tuple") (by rfl) mt ↑1 rfl) ao)))) (ai (aS (ib ogw TR.cl (hr.mono ↑0) (pv 0) (aa (pv 1) ao))))
  (ai (aR (aD cG (pv 1) bO (aJ _)) (ai (aS (i6 (P:=P) otk TG_.cl (hr.mono ↑0) (ay (pv 0) rfl))))
  (ai (aR (aD cG (pv 1) bO (aJ _)) (ai (aS (ib ofi TG_.cl (hr.mono ↑0) (ay (pv 0) rfl) (aa (ay (pv 0) rfl) ao))))
  (ai (aS (CO ome TR.cl hr (pv 0) (aa (pv 1) (aa (i6 (P:=P) oah TR.cl (hr.mono ↑0) (pv 0)) ao)))))))))))),?_⟩
 have hgN:∀{m:Str},m≠"begun"->([(("begun":Str),V.ref bl)]:List (Str×V)).lookup m=none:=λh=>gC h;have beg:∀(fk:MA.Fk)(H2:Hp),aF H H2->y= .bg fk->v=yB (fk.at s)->ye (fk.at s)->
   zy c.CG "begin" (O3 c.CG c.CW) [] E0 (Bp K (df 0) "growth") (bT (df 1) (bT (Bp K (df 0) "passed") d4)) [some (.ref R),some v] H2 (λ_ H'=>Q .bH H'):=by
  intro fk H2 s2 ey ev ek;subst ey;have hD2:=hD.more s2;obtain⟨dg2,hg2⟩:=hD2.gr.hg;have hal:al.length=G.length:=by
   have:∀{al:List (Addr×Addr)}{G:List MA.Fr}{H:Hp},eJ c.CW (nT b) F H al G->al.length=G.length:=by
    intro al G H h;induction h with
    |nil=>rfl
    |cons _ _ ih=>simp only[List.length_cons,ih]
   exact this hD.gr.fs
  have hb2:=hB.2.1;refine rV rfl (rf hD2.hR TR.cl TR.ng dn ⟨g,dg2,_,rfl,hg2,hgN ↑1,_,rfl,rV rfl (rf hD2.hR TR.cl TR.np cX ⟨g,bl,al,G,nT b,F,fk,s,by rw[ev];rfl,hD2.gr,↑2,ek,λH' a l g4 na nl kp4=>?_⟩)⟩);obtain⟨n',rfl,hr'⟩:=eU hrun;refine k1 H' F Ks s _ n' (Nat.lt_succ_self _) (aF.refl F) ⟨hs,dx,ta,sa,d,cl,g,bl,_,vs,hD2.grown g4 kp4 (aF.refl F) hD2.self λx hx=>?_⟩ hr' ?_
  ·rcases hx with hx|hx|hx
   ·exact .inl (.inl hx)
   ·rcases List.mem_cons.mp hx with e|hx
    ·rw[e];exact .inr na
    ·exact .inl (.inr (.inl hx))
   ·rcases List.mem_cons.mp hx with e|hx
    ·rw[e];exact .inr nl
    ·exact .inl (.inr (.inr hx))
  ·have b1:=hB.1;simp only[List.length_cons] at b1;refine⟨↑2,by simp only[List.length_cons];omega,λfr hf=>?_⟩;rcases List.mem_cons.mp hf with rfl|hf
   ·show 0+n'<=M;omega
   ·have:=hB.2.2 fr hf;omega
 have pre:∀(z:Str)(H1:Hp)(C:Bool->Hp->Prop),v= .str z->(∀H2,aF H H2->C (decide (z∈([("@row":Str),"@count","@set"]:List Str))) H2)->
   SA (tB (LA (OJ K) (bT (df 1) (bT (tC (.ty "int")) d4))))
    (qV (AB (Pa K) (df 1) (Lb (bT (tC (.str "@row")) (bT (tC (.str "@count")) (bT (tC (.str "@set")) d4)))))) [some (.ref R),some v] H C:=by
  intro z _ C ez hC;subst ez;refine⟨_,rfl,_,_,_,_,rfl,.inl ⟨_,rfl⟩,.inl (.str z),kf.si,_,rfl,dR ?_⟩;refine⟨_,rfl,(by show 3<=sizeLine;decide),λt1 ht1=>⟨t1,[("@row":Str),"@count","@set"],rfl,fN.of ag,.inl ⟨z,rfl,_,rfl,hC _ (aC ht1)⟩⟩⟩
 have preT:∀(a:Addr)(us:List V)(C:Bool->Hp->Prop),v= .ref a->(∀H,fN K H a us)->(∀H2,aF H H2->C false H2)->
   SA (tB (LA (OJ K) (bT (df 1) (bT (tC (.ty "int")) d4))))
    (qV (AB (Pa K) (df 1) (Lb (bT (tC (.str "@row")) (bT (tC (.str "@count")) (bT (tC (.str "@set")) d4)))))) [some (.ref R),some v] H C:=by
  intro a us C ez hT hC;subst ez;refine⟨_,rfl,_,_,_,_,rfl,.inl ⟨_,rfl⟩,.inr ⟨a,us,rfl,hT _,rfl⟩,kf.ti,_,rfl,dR ?_⟩;refine⟨_,rfl,(by show 3<=sizeLine;decide),λt1 ht1=>⟨t1,[("@row":Str),"@count","@set"],rfl,fN.of ag,.inr ⟨a,us,rfl,hT _,_,rfl,hC _ (aC ht1)⟩⟩⟩
 cases y with
 |bg fk=>
  cases fk with
  |kind k=>
   obtain⟨ev,hk⟩:=hy;subst ev;exact⟨_,rfl,_,_,_,_,rfl,.inl ⟨_,rfl⟩,.inl (.int k),rn,_,rfl,fY (fY (beg (.kind k) H (aF.refl H) rfl rfl hk))⟩
  |row=>
   have ev:v= .str "@row":=hy;refine pre _ H _ ev λH2 s2=>?_;rw[decide_eq_true ↑1];exact fY (beg .row H2 s2 rfl ev trivial)
  |count=>
   have ev:v= .str "@count":=hy;refine pre _ H _ ev λH2 s2=>?_;rw[decide_eq_true ↑1];exact fY (beg .count H2 s2 rfl ev trivial)
  |set=>
   have ev:v= .str "@set":=hy;refine pre _ H _ ev λH2 s2=>?_;rw[decide_eq_true ↑1];exact fY (beg .set H2 s2 rfl ev trivial)
 |bW bb=>
  obtain⟨a,ev,hb1,hT⟩:=id hy;refine preT a _ _ ev hT λH2 s2=>dR ?_;have hD2:=hD.more s2;refine⟨_,rfl,_,_,_,_,rfl,.inl ⟨_,rfl⟩,.inr ⟨a,_,ev,hT _,rfl⟩,rn,_,rfl,fY ?_⟩;obtain⟨n',f,l,G0,rfl,rfl,hr'⟩:=eU hrun;refine⟨_,rfl,R,dx,_,rfl,hD2.hR,mz ↑1 ↑1 ↑1 ↑1 ↑1 ↑1,_,rfl,R,F,Ks,s,f,l,G0,v,.bW bb,rfl,⟨hs,dx,ta,sa,d,cl,g,bl,al,vs,hD2⟩,hy,?_,.inl ⟨bb,rfl,λH' F' sF hA'=>k1 H' F' Ks s _ n' (Nat.lt_succ_self _) sF hA' hr' (BD (qz hB (Nat.le_refl _)) (Nat.le_refl _) (by rw[List.length_append];exact Nat.le_refl _))⟩⟩;have:=hB.2.2 ⟨f,l⟩ (List.mem_cons_self ..);dsimp only at this;omega
 |turn k=>
  obtain⟨a,ev,hb1,hT⟩:=id hy;refine preT a _ _ ev hT λH2 s2=>dR ?_;have hD2:=hD.more s2;refine⟨_,rfl,_,_,_,_,rfl,.inl ⟨_,rfl⟩,.inr ⟨a,_,ev,hT _,rfl⟩,rn,_,rfl,fY ?_⟩;obtain⟨n',f,l,G0,rfl,rfl,hr'⟩:=eU hrun;refine⟨_,rfl,R,dx,_,rfl,hD2.hR,mz ↑1 ↑1 ↑1 ↑1 ↑1 ↑1,_,rfl,R,F,Ks,s,f,l,G0,v,.turn k,rfl,⟨hs,dx,ta,sa,d,cl,g,bl,al,vs,hD2⟩,hy,?_,.inr ⟨k,rfl,λH' F' sF hA'=>k1 H' F' Ks s _ n' (Nat.lt_succ_self _) sF hA' hr' (BD (qz hB (Nat.le_refl _)) (Nat.le_refl _) (Nat.le_succ _))⟩⟩;have:=hB.2.2 ⟨f,l⟩ (List.mem_cons_self ..);dsimp only at this;omega
 |take=>
  have ev:v= .str "@take":=hy;refine pre _ H _ ev λH2 s2=>?_;rw[decide_eq_false ↑1];have hD2:=hD.more s2;obtain⟨dg2,hg2⟩:=hD2.gr.hg;subst ev;refine dR ⟨_,rfl,_,_,_,_,rfl,.inl ⟨_,rfl⟩,.inl (.str _),kf.st,_,rfl,dR ⟨_,rfl,rfl,_,rfl,?_⟩⟩;rw[decide_eq_true rfl];obtain⟨n',p,f,h,l,r,G0,rfl,rfl,hr'⟩:=eU hrun;refine fY ⟨_,rfl,R,c.CR,dx,_,_,rfl,hD2.hR,TR.cl,TR.ng,dn,g,dg2,_,rfl,hg2,hgN ↑1,g,bl,al,f,h,l,r,p,G0,nT b,F,rfl,hD2.gr,?_,λH' g4 kp4=>?_⟩
  ·have:=hB.2.2 ⟨f,l⟩ (List.mem_cons_self ..);dsimp only at this;omega
  ·refine k1 H' F Ks s _ n' (Nat.lt_succ_self _) (aF.refl F) ⟨hs,dx,ta,sa,d,cl,g,bl,al,vs,hD2.grown g4 kp4 (aF.refl F) hD2.self kZ⟩ hr' ?_;have hB':=qz hB (Nat.le_refl _);refine⟨by have:=hB'.1;omega,by have:=hB'.2.1;simp only[List.length_cons] at this ⊢;omega,λfr hf=>?_⟩;rcases List.mem_cons.mp hf with rfl|hf
   ·have:=hB'.2.2 ⟨f,l⟩ (List.mem_cons_self ..);dsimp only at this ⊢;rw[List.length_append];simp only[List.length_singleton];omega
   ·rcases List.mem_cons.mp hf with rfl|hf
    ·have:=hB'.2.2 ⟨h,r++[p]⟩ (List.mem_cons_of_mem _ (List.mem_cons_self ..));dsimp only at this ⊢;rw[List.length_append] at this;omega
    ·have:=hB'.2.2 fr (List.mem_cons_of_mem _ (List.mem_cons_of_mem _ hf));omega
 |fin=>
  have ev:v= .str "@end":=hy;refine pre _ H _ ev λH2 s2=>?_;rw[decide_eq_false ↑1];have hD2:=hD.more s2;obtain⟨dg2,hg2⟩:=hD2.gr.hg;subst ev;refine dR ⟨_,rfl,_,_,_,_,rfl,.inl ⟨_,rfl⟩,.inl (.str _),kf.st,_,rfl,dR ⟨_,rfl,rfl,_,rfl,?_⟩⟩;rw[decide_eq_false ↑1];refine dR ⟨_,rfl,rfl,_,rfl,?_⟩;rw[decide_eq_true rfl];obtain⟨n',f,h,l,r,G0,rfl,rfl,hset,hr'⟩:=eU hrun;obtain⟨x,al,rfl⟩:∃x al',al=x::al':=by cases hD.gr.fs;exact⟨_,_,rfl⟩
  refine fY ⟨_,rfl,R,c.CR,dx,_,_,rfl,hD2.hR,TR.cl,TR.ng,dn,g,dg2,_,rfl,hg2,hgN ↑1,_,rfl,R,c.CR,dx,_,_,rfl,hD2.hR,TR.cl,TR.np,cX,g,bl,x,al,f,h,l,r,G0,nT b,F,s,rfl,hD2.gr,hset,?_,λH' F' sF kF g4 kp4=>?_⟩
  ·have:=hB.2.2 ⟨h,r⟩ (List.mem_cons_of_mem _ (List.mem_cons_self ..));dsimp only at this;omega
  ·refine k1 H' F' Ks s _ n' (Nat.lt_succ_self _) sF ⟨hs,dx,ta,sa,d,cl,g,bl,al,vs,hD2.grown g4 kp4 sF kF λz hz=>?_⟩ hr' ?_
   ·exact .inl (hz.elim .inl λhz=>.inr (hz.elim (λz=>.inl (List.mem_cons_of_mem _ z)) λz=>.inr (List.mem_cons_of_mem _ z)))
   ·have hB':=qz hB (Nat.le_refl _);refine⟨by have:=hB'.1;omega,by have:=hB'.2.1;simp only[List.length_cons] at this ⊢;omega,λfr hf=>?_⟩;rcases List.mem_cons.mp hf with rfl|hf
    ·have:=hB'.2.2 ⟨h,r⟩ (List.mem_cons_of_mem _ (List.mem_cons_self ..));dsimp only at this ⊢;rw[List.length_append];simp only[List.length_singleton];omega
    ·have:=hB'.2.2 fr (List.mem_cons_of_mem _ (List.mem_cons_of_mem _ hf));omega
 |w x=>
  obtain⟨ev,hx⟩:=id hy;refine pre _ H _ ev λH2 s2=>?_;have hD2:=hD.more s2;rw[decide_eq_false (λz=>by
   rcases List.mem_cons.mp z with e|z
   ·exact zH hx ↑1 e
   rcases List.mem_cons.mp z with e|z
   ·exact zH hx ↑1 e
   rcases List.mem_cons.mp z with e|z
   ·exact zH hx ↑1 e
   cases z)]
  subst ev;refine dR ⟨_,rfl,_,_,_,_,rfl,.inl ⟨_,rfl⟩,.inl (.str _),kf.st,_,rfl,dR ⟨_,rfl,rfl,_,rfl,?_⟩⟩;rw[decide_eq_false (λz=>zH hx ↑1 (by injection z:nm x=Str.ofString "@take"))];refine dR ⟨_,rfl,rfl,_,rfl,?_⟩;rw[decide_eq_false (λz=>zH hx ↑1 (by injection z:nm x=Str.ofString "@end"))];have hA2:lK K c b F H2 R Ks s G:=⟨hs,dx,ta,sa,d,cl,g,bl,al,vs,hD2⟩
  refine dR ⟨_,rfl,R,dx,_,rfl,hD2.hR,mz ↑1 ↑1 ↑1 ↑1 ↑1 ↑1,_,rfl,_,rfl,R,dx,_,rfl,hD2.hR,mz ↑1 ↑1 ↑1 ↑1 ↑1 ↑1,R,F,Ks,s,G,rfl,hA2,R,F,Ks,s,G,x,n,M,o,rfl,hx,hA2,hrun,hB,hM,k1,λer H' x h1 h2 h3=>⟨x,rfl,k2 er H' x h1 h2 h3⟩⟩
end
section
variable{c:Cs}{b:By}
inductive MN(K:Frag)(c:Cs)(b:By)(vs:List V)(H:Hp)(Q:VK)(E:XK):Prop
 |mk(R:Addr) (F:Hp) (Ks:List MA.Sym) (s:EwTree.St) (G:List MA.Fr) (n M:Nat) (o:MA.Out) (_:vs=[.ref R]) (_:lK K c b F H R Ks s G) (_:MA.Runs (eF b) (zF b) n Ks s G o) (_:Jw M n Ks G) (_:M<16000000) (_:((∃er,o= .fault er)\/∃st0 ps,o= .ok [⟨.row st0,ps⟩])) (_:(∀st0 ps,o= .ok [⟨.row st0,ps⟩]->∀H' v,aF F H'->k_ c.CW (nT b) H' v (.bo (.row st0) st0 ps)->Q v H')) (_:∀er,o= .fault er->∀H' x,aF F H'->ny c.CF H' x er.1 er.2->E (.ref x) none H')
theorem QB:ax ["self"] ["self"] (aq (jD 2)):=↑3
theorem Qa(d:dj K c.CR "run" "Reader.run" (jD 2) ["self"])(TR:JA K c.CR)(TG_:FH K c.CG)(ln:mg "len"=none)(ost:jI P w K mg base 6 c.CR "step" ["self","symbol"] (Mj K c b))(ogn:i5 P w K mg base 1 c.CG "grown" ["self"] (OQ c.CG c.CW)):jI P w K mg base 7 c.CR "run" ["self"] (MN K c b):=d.um λf fd F=>by
 refine F.um QB (by rintro vs H Q E ⟨R,F,Ks,s,G,n,M,o,rfl,_⟩;rfl) (λUQ A outer s H vs Q E hr h=>?_);obtain⟨R,F,Ks,s,G,n,M,o,rfl,hA,hrun,hB,hM,ho,k1,k2⟩:=h;refine⟨_,aj (fj (vL ⟨rfl,rfl,rfl⟩) (aD oV (bB ln (ay (pv 0) rfl)) aw (aJ _))
   (ai (aS (CO ost TR.cl hr (pv 0) (aa (qQ PySem.F.plainAttrs_list PySem.F.slot_list_pop PySem.F.type_list_pop rF (ay (pv 0) rfl)) ao)))))
  (ai (aB (i6 (P:=P) ogn TG_.cl (hr.mono ↑0) (ay (pv 0) rfl)))),?_⟩
 refine⟨λm σ H'=>∃F' Ks s G,σ=[some (.ref R)]/\lK K c b F' H' R Ks s G/\MA.Runs (eF b) (zF b) m Ks s G o/\Jw M m Ks G/\aF F F',⟨n,F,Ks,s,G,rfl,hA,hrun,hB,aF.refl F⟩,?_⟩;rintro m σ H1 ⟨F',Ks,s,G,rfl,⟨hs,dx,ta,sa,d,cl,g,bl,al,vs,hD⟩,hrun,hB,sF⟩;refine rV rfl (rf hD.hR TR.cl TR.nc gM ⟨cl,_,rfl,.inl (bh.of hD.hc),_,_,rfl,rfl,_,rfl,aU (λz=>?_) λz=>?_⟩)
 ·have z:=of_decide_eq_true z;rw[List.length_reverse] at z;have hsy:=hD.sy;cases hsy with
  |nil=>exact absurd z (by show ¬((0:Int)<0);decide)
  |@cons v y vs Ks hy hr2=>
   have hc:=hD.hc;rw[List.reverse_cons] at hc;refine⟨_,λ_ _ z=>z,_,rfl,R,dx,_,rfl,hD.hR,mz ↑1 ↑1 ↑1 ↑1 ↑1 ↑1,rV rfl (rf hD.hR TR.cl TR.nc gM ⟨.inl ⟨rfl,_,bh.of hc⟩,cl,_,v,rfl,rfl,hc,(by rw[List.length_append,List.getElem?_append_right (by simp)];simp),?_⟩)⟩;rw[List.dropLast_concat];exact⟨R,F',Ks,s,G,v,y,m,M,o,rfl,hy,⟨hs,dx,ta,sa,d,cl,g,bl,al,vs,hD.RF hr2⟩,hrun,hB,hM,λH' F2 Ks' s' G' n' hn sF2 hA' hr' hB'=>⟨n',hn,F2,Ks',s',G',rfl,hA',hr',hB',sF.trans sF2⟩,λer H' x h1 h2 h3=>⟨x,rfl,k2 er h1 H' x (sF.trans h2) h3⟩⟩
 ·have hnil:Ks=[]:=by
   have hsy:=hD.sy;cases hsy with
   |nil=>rfl
   |cons _ _=>exact absurd (decide_eq_true (by rw[List.length_reverse,List.length_cons];omega)) z
  subst hnil;cases hrun with
  |halt=>
   rcases ho with⟨er,ho⟩|⟨st0,ps,ho⟩
   ·cases ho
   ·have eG:G=[⟨.row st0,ps⟩]:=by injection ho
    subst eG;obtain⟨dg,hg⟩:=hD.gr.hg;obtain⟨x,rfl⟩:∃x,al=[x]:=by
     cases hD.gr.fs with
     |cons _ r=>cases r;exact⟨_,rfl⟩
    refine rV rfl (rf hD.hR TR.cl TR.ng dn ⟨g,dg,_,rfl,hg,gC ↑1,g,bl,x,_,nT b,F',rfl,hD.gr,k1 st0 ps rfl H1 _ (sF.trans hD.gr.sm) ?_⟩);cases hD.gr.fs with
    |cons hf _=>
     obtain⟨ex,ed,us,h1,h2,h3,h4,h5,h6⟩:=hf;exact .bo h1 h2 rfl trivial trivial (h3.same hD.gr.sm)
theorem K4{X:Cx}{k:Nat}{C:Addr}{ps:List Str}{sp:Sp}{x:Str}{p pos:Pos}(o:uL X.prog X.w X.K X.mg X.base k x C ps sp)(hr:bC (k+1) X.A)(hg:Gl X x:=by rfl)(hdb:(x==("__debug__":Str))=false:=by decide):
  PE X (.Call (.Name x p) [] [] pos) (uH C sp [] E0 d4):=by
 obtain⟨f,fd,M,F,b,m⟩:=o.ex;exact Iy M F hr hg m b .nil hJ hdb
inductive OD(K:Frag)(c:Cs)(b:By)(vs:List V)(H:Hp)(Q:VK)(E:XK):Prop
 |mk(p dx ta sa:Addr) (H0:Hp) (_:vs=[.ref p,.ref ta,.ref sa]) (_:H p=some (.ins c.CR dx [])) (_:aF H0 H) (_:H0 p=none) (_:bh K H0 ta (iv b)) (_:iw c.CS c.CT H0 sa (Tn 0 b).1 (Tn 0 b).2) (_:b.length<=65536) (_:∀H' F,aF H0 F->lK K c b F H' p [.w MA.dv] ⟨0,(Tn 0 b).1⟩ [⟨.row ⟨0,(Tn 0 b).1⟩,[]⟩]->Q .bH H')
theorem QL:ax ["self","text","scanned"] ["self","text","scanned"] (aq (jD 0)):=↑3
abbrev UH(K:Frag)(mg:Str->Option Value)(C:Addr):Prop:=yf K mg "Reader" "Reader.__init__" (jD 0) C ["self","text","scanned"]
theorem MP{X:Cx}{k:Nat}{ps:List Str}{sp:Sp}{x:Str}{p pos:Pos}(o:Ok X.prog X.w X.K X.mg X.base bf k x ps sp)(hr:bC k X.A)(hg:Gl X x:=by rfl)(hdb:(x==("__debug__":Str))=false:=by decide):PE X (.Call (.Name x p) [] [] pos) (iT sp [] E0 d4):=by obtain⟨f,fd,F,b,m,kp⟩:=o.ex;exact HF F hr hg m kp b .nil hJ hdb
theorem Ll:nm MA.dv=Str.ofString "<program>":=↑1
theorem Pb(d:UH K mg c.CR)(TR:JA K c.CR)(orb:Ok P w K mg base bf 1 "rows_by_token" [] (Oj K))(nG:uL P w K mg base 3 "Growth" c.CG ["self"] (O0 c.CG c.CW)):uL P w K mg base 5 "Reader" c.CR ["self","text","scanned"] (OD K c b):=d.new λf fd F=>by
 refine F.ok QL (by rintro vs H Q E ⟨p,dx,ta,sa,H0,rfl,_⟩;rfl) (λUQ A outer s H vs Q E hr h=>?_);obtain⟨p,dx,ta,sa,H0,rfl,h1,s0,hp0,hS,hA,hbl,q⟩:=h;refine⟨_,aj (bE (pv 0) (pv 1) rfl) (aj (bE (pv 0) (pv 2) rfl) (aj (bE (pv 0) aw rfl) (aj (bE (pv 0) (MP orb (hr.mono ↑0)) rfl) (aj (bE (pv 0) (bx (aa bO ao)) rfl) (ai (bE (pv 0) (K4 nG hr) rfl)))))),?_⟩;refine⟨_,rfl,_,rfl,p,c.CR,dx,[],rfl,h1,TR.cl,TR.nt,(by show 0<1000;decide),_,rfl,_,rfl,p,c.CR,dx,_,rfl,ag,TR.cl,TR.ns,Nat.lt_of_le_of_lt (aG _ _ _) (by show 1<1000;decide),_,rfl,p,c.CR,dx,_,rfl,ag,TR.cl,TR.np,Nat.lt_of_le_of_lt (aG _ _ _) (Nat.lt_of_le_of_lt (Nat.succ_le_succ (aG _ _ _)) (by show 2<1000;decide)),rfl,λH1 dd s1 hdd hrows=>?_⟩;generalize hfs3:aW "passed" (V.int 0) (aW "scanned" (V.ref sa) (aW "text" (V.ref ta) []))=fs3 at s1 hdd;have hl3:fs3.length<=3:=by
  rw[<-hfs3];exact Nat.le_trans (aG _ _ _) (Nat.succ_le_succ (Nat.le_trans (aG _ _ _) (Nat.succ_le_succ (aG _ _ _))))
 have hp1:H1 p=some (.ins c.CR dx fs3):=s1 _ _ ag;refine⟨_,rfl,p,c.CR,dx,_,rfl,hp1,TR.cl,TR.nr,↑2,?_⟩;have hl4:(aW "rows" (V.ref dd) fs3).length<=4:=Nat.le_trans (aG _ _ _) (Nat.succ_le_succ hl3);refine⟨(by show 1<=sizeLine;decide),λcl hcl=>?_⟩;have ncp:cl≠p:=λz=>by rw[z,ag] at hcl;cases hcl
 have hcl1:H1 cl=none:=by rw[ah ncp] at hcl;exact hcl
 refine⟨_,rfl,p,c.CR,dx,_,rfl,(by rw[ah (Ne.symm ncp),ag]),TR.cl,TR.nc,↑2,?_⟩;have hl5:(aW "coming" (V.ref cl) (aW "rows" (V.ref dd) fs3)).length<=5:=Nat.le_trans (aG _ _ _) (Nat.succ_le_succ hl4);generalize hH2:upd (upd (upd H1 p (.ins c.CR dx (aW "rows" (V.ref dd) fs3))) cl (.lst [.str "<program>"])) p (.ins c.CR dx (aW "coming" (V.ref cl) (aW "rows" (V.ref dd) fs3)))=H2;intro g dgx ng ndg neg;refine⟨g,dgx,rfl,ag,λH3 bl a l dxa nbl na nl nbll e1 e2 e3 e4 fr=>⟨rfl,?_⟩⟩;have s3:aF H2 H3:=aF.made ng ndg fr;have hp2:H2 p=some (.ins c.CR dx (aW "coming" (V.ref cl) (aW "rows" (V.ref dd) fs3))):=by rw[<-hH2,ag]
 have hc2:H2 cl=some (.lst [.str "<program>"]):=by rw[<-hH2,ah ncp,ag]
 have k2:∀x o,H1 x=some o->x≠p->H2 x=some o:=λx o e n=>by rw[<-hH2,ah n,ah (au e hcl1),ah n];exact e
 have fr2:∀x,(upd (upd H2 dgx (.own g)) g (.ins c.CG dgx [])) x=none->H2 x=none/\x≠g:=λx e=>by
  have n1:x≠g:=λz=>by rw[z,ag] at e;cases e
  have n2:x≠dgx:=λz=>by rw[z,ah neg,ag] at e;cases e
  rw[ah n1,ah n2] at e;exact⟨e,n1⟩
 obtain⟨nbl2,nblg⟩:=fr2 bl nbl;obtain⟨na2,nag⟩:=fr2 a na;obtain⟨nl2,nlg⟩:=fr2 l nl;refine⟨_,rfl,p,c.CR,dx,_,rfl,s3 _ _ hp2,TR.cl,TR.ng,↑2,?_⟩;rw[<-hfs3,J2];have npg:p≠g:=au hp2 ng;have npa:p≠a:=au hp2 na2;have npl:p≠l:=au hp2 nl2;have npb:p≠bl:=au hp2 nbl2;have ncg:cl≠g:=au hc2 ng;have nca:cl≠a:=au hc2 na2;have ncl:cl≠l:=au hc2 nl2;have ncb:cl≠bl:=au hc2 nbl2;have s0F:aF H0 (λx=>if x=p then none else H1 x):=λx o e=>by
  have n:x≠p:=au e hp0;show(if x=p then none else H1 x)=some o;rw[if_neg n];exact s1 _ _ (by rw[ah n,ah n,ah n];exact s0 _ _ e)
 have fnone:∀x,H2 x=none->(if x=p then none else H1 x)=none:=λx e=>by
  split
  ·rfl
  ·rename_i n;cases e1:H1 x with
   |none=>rfl
   |some o=>rw[k2 x o e1 n] at e;cases e
 have hnT:MA.len ⟨0,(Tn 0 b).1⟩=nT b:=rfl;refine q _ (λx=>if x=p then none else H1 x) s0F ⟨⟨Nat.le_of_eq hnT,by rw[hnT,Nat.sub_self];rfl⟩,dx,ta,sa,dd,cl,g,bl,[(a,l)],[.str "<program>"],?_⟩;have hgz:(nT b:Int) - MA.len ⟨0,(Tn 0 b).1⟩=0:=by rw[hnT];omega
 rw[hgz];refine⟨ag,by rw[ah ncp];exact s3 _ _ hc2,.cons ⟨by rw[Ll],MA.cx ↑0⟩ .nil,⟨λx o e=>?_,⟨dgx,by rw[ah (Ne.symm npg)];exact e1⟩,by rw[ah (Ne.symm npb)];exact e2,.cons ⟨dxa,.int 0,[],?_,by show upd H3 p _ l=_;rw[ah (Ne.symm npl)];exact e4,.nil,fnone _ na2,fnone _ nl2,trivial⟩ .nil,List.nodup_cons.mpr ⟨(by intro z;cases z),List.nodup_nil⟩,List.nodup_cons.mpr ⟨(by intro z;cases z),List.nodup_nil⟩,λz=>nbll (List.mem_singleton.mp z),fnone _ nbl2,λz=>nag (List.mem_singleton.mp z).symm⟩,⟨s0F.seq hS,hA.same s0F,?_,hbl⟩,if_pos rfl,?_,?_,?_,npg⟩
 ·have e:(if x=p then none else H1 x)=some o:=e;by_cases n:x=p
  ·rw[if_pos n] at e;cases e
  ·rw[if_neg n] at e;rw[ah n];exact s3 _ _ (k2 x o e n)
 ·show upd H3 p _ a=some (.ins c.CW dxa (rG (.str "@row") (.ref l) (.int ((nT b:Int) - MA.len ⟨0,(Tn 0 b).1⟩)) (.int 0)));rw[ah (Ne.symm npa),hgz];exact e3
 ·obtain⟨kvs,r1,r2⟩:=hrows;refine⟨kvs,?_,L2.Paired.imp' (λ_ _ z=>Jx.same (λb' xs hb'=>?_) z) r2⟩
  ·show(if dd=p then none else H1 dd)=_;rw[if_neg (dA r1 hp1 (by intro z;cases z))];exact r1
  ·show(if b'=p then none else H1 b')=_;rw[if_neg (dA hb' hp1 (by intro z;cases z))];exact hb'
 ·show(if cl=p then none else H1 cl)=none;rw[if_neg ncp];exact hcl1
 ·rintro(z|z|z)
  ·exact npb z
  ·exact npa (List.mem_singleton.mp z)
  ·exact npl (List.mem_singleton.mp z)
 ·rintro(z|z|z)
  ·exact ncb z
  ·exact nca (List.mem_singleton.mp z)
  ·exact ncl (List.mem_singleton.mp z)
end
mutual
theorem Ma:∀p:MA.Pt,wt p=MA.Jy p
 | .leaf b=>rfl
 | .bo f s l=>by show 5+lY l=5+MA.d6 l;rw[G8 l]
theorem G8:∀l:List MA.Pt,lY l=MA.d6 l
 |[]=>rfl
 |p::r=>by show wt p+lY r=MA.Jy p+MA.d6 r;rw[Ma p,G8 r]
end
section
variable{c:Cs}
inductive RU(K:Frag)(c:Cs)(vs:List V)(H:Hp)(Q:VK)(E:XK):Prop
 |mk(ta sa:Addr) (b:By) (_:vs=[.ref ta,.ref sa]) (_:bh K H ta (iv b)) (_:iw c.CS c.CT H sa (Tn 0 b).1 (Tn 0 b).2) (_:b.length<=65536) (_:(∀er,EwTree.read b= .error er->∀H' x,aF H H'->ny c.CF H' x er.1 er.2->E (.ref x) none H')) (_:∀a,EwTree.read b= .ok a->∀H' v p st0,aF H H'->k_ c.CW (nT b) H' v (.bo (.row st0) st0 [p])->MA.yb p=a.1.bytes->MA.yk p=a.2.map MA.yt->MA.Jy p<=15900000->Q v H')
theorem RH:ax ["text","scanned"] ["text","scanned"] (aq (top 91)):=↑3
theorem Q1(d:Def K mg "parse" (top 91) ["text","scanned"])(TR:JA K c.CR)(nR:∀b,uL P w K mg base 5 "Reader" c.CR ["self","text","scanned"] (OD K c b))(orn:∀b,jI P w K mg base 7 c.CR "run" ["self"] (MN K c b)):Ok P w K mg base (g9 P w) 8 "parse" ["text","scanned"] (RU K c):=d.ok λf fd F=>by
 refine F.um RH (by rintro vs H Q E ⟨ta,sa,b,rfl,_⟩;rfl) (λUQ A outer s H vs Q E hr h=>?_);obtain⟨ta,sa,b,rfl,hS,hA,hl,k1,k2⟩:=h;refine⟨_,ai (aB (Av (orn b) TR.cl hr (eK (nR b) (hr.mono ↑0) (aa (pv 0) (aa (pv 1) ao))))),?_⟩;have hln:=Hr b.length 0 b (Nat.le_refl _);have hsw:=MA.QQ b.length 0 b (Nat.le_refl _);obtain⟨m1,m2⟩:=MA.machine (b:=b) ↑2 ↑2;refine⟨_,rfl,_,rfl,λx dx nx nd ne=>⟨x,dx,ta,sa,H,rfl,ag,λy o e=>?_,nx,hS,hA,hl,λH1 F sF hR=>⟨rfl,?_⟩⟩⟩
 ·rw[ah (au e nx),ah (au e nd)];exact e
 obtain⟨hs,dx1,ta1,sa1,d1,cl,g,bl,al,vs,hD⟩:=id hR;have bnd:∀n,n<=2400000->Jw 2400010 n [.w MA.dv] [⟨.row ⟨0,(Tn 0 b).1⟩,[]⟩]:=λn hn=>⟨by show 1+n<=_;omega,by show 1+n<=_;omega,λfr hf=>by rw[List.mem_singleton.mp hf];show 0+n<=_;omega⟩
 refine⟨x,dx1,_,rfl,hD.hR,mz ↑1 ↑1 ↑1 ↑1 ↑1 ↑1,?_⟩;cases e:EwTree.read b with
 |error er=>
  obtain⟨n,hn,hr'⟩:=m1 er e;refine⟨x,F,_,_,_,n,2400010,_,rfl,hR,hr',bnd n hn,↑0,.inl ⟨er,rfl⟩,λ_ _ z=>(by cases z),λer' z H' x s' h'=>?_⟩;cases z;exact⟨x,rfl,k1 er e H' x (sF.trans s') h'⟩
 |ok a=>
  obtain⟨n,p,hn,hr',y1,y2,y3⟩:=m2 a e;refine⟨x,F,_,_,_,n,2400010,_,rfl,hR,hr',bnd n hn,↑0,.inr ⟨_,_,rfl⟩,λst0 ps z H' v s' h'=>?_,λer z=>(by cases z)⟩;have z:[(⟨.row ⟨0,(Tn 0 b).1⟩,[p]⟩:MA.Fr)]=[⟨.row st0,ps⟩]:=by injection z
  injection z with z1 z2;injection z1 with z3 z4;subst z4;exact k2 a e H' v p st0 (sF.trans s') h' y1 y2 y3
inductive FZ(K:Frag)(c:Cs)(CR:Addr)(vs:List V)(H:Hp)(Q:VK)(E:XK):Prop
 |mk(a:Addr) (b:By) (_:vs=[.ref a]) (_:bh K H a (iv b)) (_:(65536<b.length->∀H' e,aF H H'->xx K CR H' e [-1]->E (.ref e) none H')) (_:(b.length<=65536->100<EwTree.depth b->∀H' e,aF H H'->xx K CR H' e [-6]->E (.ref e) none H')) (_:(b.length<=65536->¬100<EwTree.depth b->(∀er,EwTree.read b= .error er->∀H' x,aF H H'->ny c.CF H' x er.1 er.2->E (.ref x) none H')/\∀a,EwTree.read b= .ok a->∀H' v p st0,aF H H'->k_ c.CW (nT b) H' v (.bo (.row st0) st0 [p])->MA.yb p=a.1.bytes->MA.yk p=a.2.map MA.yt->MA.Jy p<=15900000->Q v H'))
theorem MZ:ax ["text"] ["text"] (aq (top 96)):=↑3
theorem Mw{CR:Addr}(d:Def K mg "parse_allowed" (top 96) ["text"])(osa:Ok P w K mg base (g9 P w) 11 "scan_allowed" ["text"] (Ln K c.CS c.CT CR))(opa:Ok P w K mg base (g9 P w) 8 "parse" ["text","scanned"] (RU K c)):Ok P w K mg base (g9 P w) 12 "parse_allowed" ["text"] (FZ K c CR):=d.ok λf fd F=>by
 refine F.um MZ (by rintro vs H Q E ⟨a,b,rfl,_⟩;rfl) (λUQ A outer s H vs Q E hr h=>?_);obtain⟨a,b,rfl,hS,k1,k2,k3⟩:=h;refine⟨_,ai (aB (m7 opa (hr.mono ↑0) (aa (pv 0) (aa (m7 osa hr (aa (pv 0) ao)) ao)))),?_⟩;refine⟨_,rfl,_,rfl,a,b,rfl,hS,λz H' e s' h'=>⟨e,rfl,k1 z H' e s' h'⟩,λz y H' e s' h'=>⟨e,rfl,k2 z y H' e s' h'⟩,λz y H1 r s1 hA=>?_⟩;obtain⟨k4,k5⟩:=k3 z y;exact⟨a,r,b,rfl,s1.seq hS,hA,z,λer e H' x s' h'=>⟨x,rfl,k4 er e H' x (s1.trans s') h'⟩,λa' e H' v p st0 s' h'=>k5 a' e H' v p st0 (s1.trans s') h'⟩
inductive ym(K:Frag)(vs:List V)(H:Hp)(Q:VK)(E:XK):Prop
 |mk(a:Addr) (b:By) (_:vs=[.ref a]) (_:bh K H a (iv b)) (_:∀H' r,aF H H'->H' r=some (.lst ((MA.wI b).map V.int))->Q (.ref r) H')
theorem yc:ax ["text","told","e"] ["text"] (aq (top 95)):=↑3
def UJ(K:Frag)(CR:Addr)(ns:List Int)(a:Addr)(H0:Hp)(n:Nat):L2.St->Addr->Hp->Prop:=λσ e H'=>σ=some (.ref a)::List.replicate n none/\xx K CR H' e ns/\aF H0 H'
theorem ny.Rj{CF CR:Addr}{H:Hp}{e:Addr}{r p:Int}(TF:BL K CF)(is:PySem.W.exmOne K (.ref CF) (.ref CR)=some true)(h:ny CF H e r p):xx K CR H e [-2,r,p]:=by obtain⟨d,l,h1,h2,h3⟩:=h;exact⟨CF,d,l,_,TF.x,TF.nn,is,h1,h2,AY _ _ _,h3⟩
theorem KZ{CR f:Addr}{fd:FuncData}(F:js K "read" "read" (top 95) f fd)(TF:BL K c.CF)(opl:Ok P w K mg base (g9 P w) 12 "parse_allowed" ["text"] (FZ K c CR))(otb:Ok P w K mg base bf 3 "tree_bytes" ["twig"] (Mr c.CW))(ln:mg "len"=none)(mr:mg "Refused"=some (.ref CR))(is:PySem.W.exmOne K (.ref c.CF) (.ref CR)=some true):
  bY P w K mg base bf 13 f fd ["text"] (ym K):=by
 refine F.Uh yc (by rintro vs H Q E ⟨a,b,rfl,_⟩;rfl) (λUQ A outer s H vs Q E hr h=>?_);obtain⟨a,b,rfl,hS,k⟩:=h;have hs:∀e,rT (sx (iQ bf P w K mg base ["text","told","e"] "read" (aq (top 95)) f UQ A outer s H E).LL e) (zc ((bX (top 95)).getD 0 (.Pass ⟨0,0,0,0⟩)))
   (pD (Dl K (df 2) "numbers")):=λe=>ai (aB (xQ (pv 2) rfl))
 refine⟨_,nY (DS (i:=2) (R:=UJ K CR (MA.wI b) a H 2) ⟨rfl,rfl,rfl⟩
   (ai (aN (i:=1) yc.nd rfl (Or.inl rfl) (aM otb (hr.mono ↑0) (aa (m7 opl hr (aa (pv 0) ao)) ao))))
   hs yc.nd rfl rfl rfl mr)
  (rT.Sk (ai (aB (bz Cd (bx (aa aw (aa (bB ln (pv 1)) ao))) (pv 1))))),?_⟩
 have hsz:sizeLine=16777216:=sizeLine_eq;refine⟨?_,?_⟩
 ·refine⟨_,rfl,a,b,rfl,hS,λh1 H1 e s1 hR=>⟨e,rfl,rfl,?_,s1⟩,λh1 h2 H1 e s1 hR=>⟨e,rfl,rfl,?_,s1⟩,λh1 h2=>⟨λer e H1 x s1 hF=>⟨x,rfl,rfl,?_,s1⟩,λa' e H1 v p st0 s1 hP y1 y2 y3=>?_⟩⟩
  ·unfold MA.wI;rw[if_pos h1];exact hR
  ·unfold MA.wI;rw[if_neg ↑2,if_pos h2];exact hR
  ·unfold MA.wI;rw[if_neg ↑2,if_neg h2,e];exact ny.Rj TF is hF
  ·have hy:MA.yb (.bo (.row st0) st0 [p])=a'.1.bytes:=by
    show[]++(MA.yb p++[])=_;rw[List.append_nil,y1];rfl
   have hwt:wt (.bo (.row st0) st0 [p])<=16000000:=by
    rw[Ma];show 5+(MA.Jy p+0)<=_;omega
   refine⟨v,_,nT b,rfl,hP,hwt,λH2 r s2 h2'=>?_⟩;rw[hy] at h2';have hbl:a'.1.bytes.length<=16000000:=by
    have:=Iu (.bo (.row st0) st0 [p]);rw[hy] at this;omega
   refine⟨_,rfl,r,_,rfl,.inl (bh.of h2'),(by show 2<=sizeLine;decide),λm hm=>?_⟩;have s3:=aC (o:=.lst [V.int 0,.int ((iv a'.1.bytes).length:Nat)]) hm;refine⟨_,rfl,m,r,_,_,rfl,rfl,ag,s3 _ _ h2',(by rw[aT,hsz];show 2+_<=_;omega),λq hq=>k _ q (s1.trans (s2.trans (s3.trans (aC hq)))) ?_⟩;rw[ag];unfold MA.wI;rw[if_neg ↑2,if_neg h2,e,aT];show _=some (HO.lst (V.int 0::V.int (a'.1.bytes.length:Int)::(a'.1.bytes.map λc=>(c.toNat:Int)).map V.int));rw[<-eR];rfl
 ·rintro e σ' H' he ⟨rfl,⟨C,dF,l,fs,x1,x2,x3,x4,x5,x6,x7⟩,s2⟩;exact⟨⟨C,some dF,x4,x3⟩,_,rfl,e,C,dF,_,_,rfl,x4,x5,x1,x2,x6,k H' l s2 x7⟩
end
end
section
open MA (nm VC FT flat c_)
noncomputable def Uu:List String:=["account","and","as","away","both","break","catch","clear","cut","decimal","double","down","else","error","extended","false","fibre","finally","five","flags"]
noncomputable def Ti:List String:=["flush","fn","for","fraction","from","giving","half","if","in","inexact","interval","into","invalid","is","leave","let","list","make","match","module"]
noncomputable def TC:List String:=["near","nearaway","nearcut","next","not","of","only","or","out","overflow","packed","picture","post","precision","raise","record","resume","return","rounding","say"]
noncomputable def SG:List String:=["single","small","spawn","stack","text","then","to","trap","true","truth","try","underflow","up","use","value","while","whole","with","yield","zero"]
noncomputable def sK:List String:=Uu++(Ti++(TC++(SG)))
noncomputable def Um:List String:=["->","==","!=","<=",">=","//","..","(",")","[","]","{","}",",",":",".","=","<",">","+"]
noncomputable def Ts:List String:=["-","*","/","percent","^"]
noncomputable def sS:List String:=Um++(Ts)
noncomputable def UE:List String:=["<program>","<uses>","<declarations>","<declaration>","<let>","<told sort>","<sort names>","<more names>","<fields>","<more fields>","<field>","<result>","<sort>","<of sort>","<sorts>","<more sorts>","<of a module>","<block>","<statements>","<statement>"]
noncomputable def TB:List String:=["<chain>","<called chain>","<more branches>","<behind else>","<branch>","<to>","<cases>","<else>","<behind try>","<finally>","<into>","<posted text>","<more modes>","<mode>","<direction>","<trapped>","<flushed>","<flag>","<expressions>","<more expressions>"]
noncomputable def SW:List String:=["<expression>","<more or>","<both>","<more and>","<negated>","<compared>","<cast>","<more as>","<digits>","<rounding>","<sum>","<more sum>","<product>","<more product>","<signed>","<giving>","<power>","<post>","<more post>","<call>"]
noncomputable def S4:List String:=["<index>","<member>","<name>","<first>","<flags>","<more flags>","<listed>","<more listed>","<made>","<settings>","<more settings>","<setting>"]
noncomputable def sP:List String:=UE++(TB++(SW++(S4)))
noncomputable def sO:List String:=["NAME","CODE","NUMBER","TEXT","END","FAULT"]
def nS(n:Nat):String:=bif Nat.blt n 100 then sK.getD n "" else bif Nat.blt n 200 then sS.getD (n - 100) "" else bif Nat.blt n 1000 then sO.getD (n - 200) "" else sP.getD (n - 1000) ""
theorem OP:(VC.all λn=>decide ((Str.ofString (nS n)).cps.toList=(nm n).cps.toList))=true:=↑1
theorem GP{n:Nat}(h:n∈VC):Str.ofString (nS n)=nm n:=by have h1:=of_decide_eq_true (List.all_eq_true.mp OP n h);have h2:(Str.ofString (nS n)).cps=(nm n).cps:=Array.toList_inj.mp h1;cases hx:Str.ofString (nS n);cases hy:nm n;rw[hx,hy] at h2;exact congrArg Str.mk h2
inductive SV where
 |i(n:Int)
 |s(x:Str)
 |t1(c:Value) (n:Int)
 |t2(c:Value) (x:Str) (n:Int)
 |no
def o8(K:Frag):Value->Option (Value×List Value)
 | .ref a=>match K.lookup a with
  |some ⟨c,_,.seq its _,_⟩=>some (c,its.toList)
  |_=>none
 |_=>none
def Ii(K:Frag):Value->SV
 | .int n _=>.i n
 | .str x _=>.s x
 |v=>match o8 K v with
  |some (c,[.int n _])=>.t1 c n
  |some (c,[.str x _,.int n _])=>.t2 c x n
  |_=>.no
abbrev PV:=Option (Value×Str×Value×List SV)
def pairOf(K:Frag)(v:Value):PV:=match o8 K v with
 |some (c,[.str x _,w])=>(match o8 K w with
  |some (c',l)=>some (c,x,c',l.map (Ii K))
  |none=>none)
 |_=>none
abbrev RV:=Option (Value×List PV)
def AG(K:Frag)(v:Value):RV:=match o8 K v with
 |some (c,l)=>some (c,l.map (pairOf K))
 |none=>none
def Cy(K:Frag)(e:DictEntry):Option (Int×Str×RV):=match e.key with
 | .str x _=>some (e.hash,x,AG K e.val)
 |_=>none
abbrev tt:Value:=.type "tuple"
def Og:MA.Sym->SV
 | .bg (.kind k)=>.i k
 | .bg .row=>.s "@row"
 | .bg .count=>.s "@count"
 | .bg .set=>.s "@set"
 | .bW b=>match b with
  |[c]=>.t1 tt c.toNat
  |_=>.no
 | .turn k=>.t2 tt "@turn" k
 | .take=>.s "@take"
 | .fin=>.s "@end"
 | .w x=>.s (Str.ofString (nS x))
def Kp(y:Nat×List MA.Sym):PV:=some (tt,Str.ofString (nS y.1),tt,y.2.map Og)
def Oc(g:List (Nat×List MA.Sym)):RV:=some (tt,g.map Kp)
def CY(P:Params):Nat->List (List (Nat×List MA.Sym))->List (Option (Int×Str×RV))
 |_,[]=>[]
 |i,g::G=>some (PyData.keyHash P (Str.ofString (nS i)),Str.ofString (nS i),Oc g)::CY P (i+1) G
def JK(K:Frag)(P:Params):Prop:=∃a es n,PySem.W.nsIn K mainGlobals "RULES"=some (some (.ref a))/\K.lookup a=some ⟨.type "dict",none,.dict es n,#[]⟩/\es.toList.map (Cy K)=CY P 1000 MA.cN/\(a==sysModules)=false
theorem TQ{K:Frag}{P:Params}{a:Addr}{es:Array DictEntry}{n:Nat}(b:PySem.W.nsIn K mainGlobals "RULES"=some (some (.ref a)))(e:K.lookup a=some ⟨.type "dict",none,.dict es n,#[]⟩)(k:es.toList.map (Cy K)=CY P 1000 MA.cN)(s:(a==sysModules)=false):JK K P:=⟨a,es,n,b,e,k,s⟩
def Ml:MA.Sym->Bool
 | .bg (.kind k)=>Nat.blt k 256
 | .turn k=>Nat.blt k 256
 | .bW b=>Nat.beq b.length 1
 | .w x=>MA.lD x
 |_=>true
theorem JJ:(MA.cN.all λg=>Nat.blt g.length 1000&&g.all λy=>MA.lD y.1&&Nat.blt y.2.length 1000&&y.2.all Ml)=true:=↑1
section
variable{K:Frag}
theorem jA{v:Value}{c:Value}{l:List Value}(h:o8 K v=some (c,l)):∃(a:Addr)(o:Obj)(its:Array Value)(n:Nat),v= .ref a/\K.lookup a=some o/\o.cls=c/\o.data= .seq its n/\its.toList=l:=by
 unfold o8 at h;split at h
 ·rename_i a;split at h
  ·rename_i c0 d its n sl q;injection h with h;injection h with h1 h2;exact⟨a,_,its,n,rfl,q,h1,rfl,h2⟩
  ·cases h
 ·cases h
theorem sq{a:Addr}{o:Obj}{its:Array Value}{n:Nat}{xs:List V}(h1:K.lookup a=some o)(h2:o.cls=tt)(h3:o.data= .seq its n)(h4:Vals xs its.toList)(h5:xs.length<1000):∀H,fN K H a xs:=λH=>.inr ⟨o,its,n,h1,h2,h3,by
 have e:=h4.length;have hs:sizeLine=16777216:=sizeLine_eq;have:its.size=its.toList.length:=rfl;omega,h4⟩
theorem RC{v:Value}{y:MA.Sym}(hb:Ml y=true)(h:Ii K v=Og y):∃u,RelV u v/\ud K u y:=by
 have key:∀(v:Value)(w:SV),Ii K v=w->(∀n,w= .i n->RelV (.int n) v)/\(∀x,w= .s x->RelV (.str x) v)/\(∀c n,w= .t1 c n->∃a t,v= .ref a/\o8 K v=some (c,[.int n t]))/\(∀c x n,w= .t2 c x n->∃a t t',v= .ref a/\o8 K v=some (c,[.str x t,.int n t'])):=by
  intro v w h;unfold Ii at h;split at h
  ·subst h;exact⟨λn e=>(by cases e;exact⟨_,rfl⟩),λ_ e=>(by cases e),λ_ _ e=>(by cases e),λ_ _ _ e=>by cases e⟩
  ·subst h;exact⟨λ_ e=>(by cases e),λn e=>(by cases e;exact⟨_,rfl⟩),λ_ _ e=>(by cases e),λ_ _ _ e=>by cases e⟩
  ·split at h
   ·rename_i c n t q;subst h;refine⟨λ_ e=>(by cases e),λ_ e=>(by cases e),λ_ _ e=>?_,λ_ _ _ e=>by cases e⟩;cases e;obtain⟨a,_,_,_,e,_⟩:=jA q;exact⟨a,t,e,q⟩
   ·rename_i c x t n t' q;subst h;refine⟨λ_ e=>(by cases e),λ_ e=>(by cases e),λ_ _ e=>(by cases e),λ_ _ _ e=>?_⟩;cases e;obtain⟨a,_,_,_,e,_⟩:=jA q;exact⟨a,t,t',e,q⟩
   ·subst h;exact⟨λ_ e=>(by cases e),λ_ e=>(by cases e),λ_ _ e=>(by cases e),λ_ _ _ e=>by cases e⟩
 obtain⟨k1,k2,k3,k4⟩:=key v _ h
 match y,hb,k1,k2,k3,k4 with
 | .bg (.kind k),hb,k1,_,_,_=>exact⟨_,k1 _ rfl,rfl,Nat.lt_of_lt_of_le (Nat.le_of_ble_eq_true hb) (Nat.le_refl _)⟩
 | .bg .row,_,_,k2,_,_=>exact⟨_,k2 _ rfl,rfl⟩
 | .bg .count,_,_,k2,_,_=>exact⟨_,k2 _ rfl,rfl⟩
 | .bg .set,_,_,k2,_,_=>exact⟨_,k2 _ rfl,rfl⟩
 | .take,_,_,k2,_,_=>exact⟨_,k2 _ rfl,rfl⟩
 | .fin,_,_,k2,_,_=>exact⟨_,k2 _ rfl,rfl⟩
 | .w x,hb,_,k2,_,_=>
  have hv:=MA.cx hb;refine⟨.str (nm x),?_,rfl,hv⟩;rw[<-GP hv];exact k2 _ rfl
 | .turn k,hb,_,_,_,k4=>
  obtain⟨a,t,t',e,q⟩:=k4 _ _ _ rfl;obtain⟨a',o,its,n,e',h1,h2,h3,h4⟩:=jA q;rw[e] at e';cases e';refine⟨.ref a,e,a,rfl,Nat.lt_of_lt_of_le (Nat.le_of_ble_eq_true hb) (Nat.le_refl _),sq h1 h2 h3 ?_ (by show 2<1000;decide)⟩;rw[h4];exact .cons ⟨_,rfl⟩ (.cons ⟨_,rfl⟩ .nil)
 | .bW [c],hb,_,_,k3,_=>
  obtain⟨a,t,e,q⟩:=k3 _ _ rfl;obtain⟨a',o,its,n,e',h1,h2,h3,h4⟩:=jA q;rw[e] at e';cases e';refine⟨.ref a,e,a,rfl,rfl,sq h1 h2 h3 ?_ (by show 1<1000;decide)⟩;rw[h4];exact .cons ⟨_,rfl⟩ .nil
 | .bW [],hb,_,_,_,_=>exact absurd hb ↑0
 | .bW (_::_::_),hb,_,_,_,_=>exact absurd (Nat.eq_of_beq_eq_true hb) (by simp)
theorem FY:∀{vs:List Value}{ys:List MA.Sym},(ys.all Ml)=true->vs.map (Ii K)=ys.map Og->∃us,Vals us vs/\Paired (ud K) us ys
 |[],[],_,_=>⟨[],.nil,.nil⟩
 |[],_::_,_,h=>by cases h
 |_::_,[],_,h=>by cases h
 |v::vs,y::ys,hb,h=>by
  rw[List.all_cons,Bool.and_eq_true] at hb;injection h with h1 h2;obtain⟨u,a1,a2⟩:=RC hb.1 h1;obtain⟨us,b1,b2⟩:=FY hb.2 h2;exact⟨u::us,.cons a1 b1,.cons a2 b2⟩
theorem Ra{v:Value}{y:Nat×List MA.Sym}(h0:MA.lD y.1=true)(h1:y.2.length<1000)(h2:(y.2.all Ml)=true)(h:pairOf K v=Kp y):∃u,RelV u v/\Il K u y:=by
 unfold pairOf at h;split at h
 ·rename_i c x t w q;split at h
  ·rename_i c' l q';unfold Kp at h;injection h with h;injection h with e1 h;injection h with e2 h;injection h with e3 e4;obtain⟨a,o,its,n,rfl,a1,a2,a3,a4⟩:=jA q;obtain⟨b,o',its',n',rfl,b1,b2,b3,b4⟩:=jA q';obtain⟨us,c1,c2⟩:=FY h2 e4;refine⟨.ref a,rfl,a,b,us,rfl,sq a1 (a2.trans e1) a3 ?_ (by show 2<1000;decide),sq b1 (b2.trans e3) b3 (by rw[b4];exact c1) (by rw[c2.length];exact h1),c2⟩;rw[a4,e2,GP (MA.cx h0)];exact .cons ⟨_,rfl⟩ (.cons rfl .nil)
  ·cases h
 ·cases h
theorem FQ:∀{vs:List Value}{g:List (Nat×List MA.Sym)},(g.all λy=>MA.lD y.1&&Nat.blt y.2.length 1000&&y.2.all Ml)=true->vs.map (pairOf K)=g.map Kp->∃us,Vals us vs/\Paired (Il K) us g
 |[],[],_,_=>⟨[],.nil,.nil⟩
 |[],_::_,_,h=>by cases h
 |_::_,[],_,h=>by cases h
 |v::vs,y::ys,hb,h=>by
  rw[List.all_cons,Bool.and_eq_true,Bool.and_eq_true,Bool.and_eq_true] at hb;injection h with h1 h2;obtain⟨u,a1,a2⟩:=Ra hb.1.1.1 (Nat.lt_of_lt_of_le (Nat.le_of_ble_eq_true hb.1.1.2) (Nat.le_refl _)) hb.1.2 h1;obtain⟨us,b1,b2⟩:=FQ hb.2 h2;exact⟨u::us,.cons a1 b1,.cons a2 b2⟩
theorem RR{v:Value}{g:List (Nat×List MA.Sym)}(h0:g.length<1000)(h1:(g.all λy=>MA.lD y.1&&Nat.blt y.2.length 1000&&y.2.all Ml)=true)(h:AG K v=Oc g):∃u,RelV u v/\Jb K u g:=by
 unfold AG at h;split at h
 ·rename_i c l q;unfold Oc at h;injection h with h;injection h with e1 e2;obtain⟨a,o,its,n,rfl,a1,a2,a3,a4⟩:=jA q;obtain⟨us,c1,c2⟩:=FQ h1 e2;exact⟨.ref a,rfl,a,us,rfl,sq a1 (a2.trans e1) a3 (by rw[a4];exact c1) (by rw[c2.length];exact h0),c2⟩
 ·cases h
theorem Dz{P:Params}:∀{es:List DictEntry}{i:Nat}{G:List (List (Nat×List MA.Sym))},(∀m,i<=m->m<i+G.length->m∈VC)->(G.all λg=>Nat.blt g.length 1000&&g.all λy=>MA.lD y.1&&Nat.blt y.2.length 1000&&y.2.all Ml)=true->es.map (Cy K)=CY P i G->∃l,p7 P es l/\xE K i l G
 |[],_,[],_,_,_=>⟨[],trivial,trivial⟩
 |[],_,_::_,_,_,h=>by cases h
 |_::_,_,[],_,_,h=>by cases h
 |e::es,i,g::G,hv,hb,h=>by
  rw[List.all_cons,Bool.and_eq_true,Bool.and_eq_true] at hb;injection h with h1 h2;obtain⟨l,b1,b2⟩:=Dz (λm a b=>hv m ↑2 (by simp only[List.length_cons];omega)) hb.2 h2;have hi:=GP (hv i (Nat.le_refl _) (by simp only[List.length_cons];omega));unfold Cy at h1;split at h1
  ·rename_i x t q;injection h1 with h1;injection h1 with e1 h1;injection h1 with e2 e3;obtain⟨u,a1,a2⟩:=RR (Nat.lt_of_lt_of_le (Nat.le_of_ble_eq_true hb.1.1) (Nat.le_refl _)) hb.1.2 e3;rw[hi] at e1 e2;exact⟨(nm i,u)::l,⟨⟨t,by rw[q,e2]⟩,e1,a1,b1⟩,rfl,a2,b2⟩
  ·cases h1
theorem JK.rules{P:Params}{h:Heap}{mg:Str->Option Value}(T:JK K P)(X:K.In h)(G:h.Ns mainGlobals mg):F1 K P mg:=by obtain⟨a,es,n,b,e,k,s⟩:=T;obtain⟨l,h1,h2⟩:=Dz Dm JJ k;exact⟨a,l,PySem.W.mg_of X G b,⟨es,n,e,h1,s⟩,h2⟩
end
end
section
variable{K:Frag}{h:Heap}{mg:Str->Option Value}{nm qual m:Str}{st:Stmt}{f C a:Addr}{oc kV doc pm UQ ct:Value}{od an:Option Addr}{osl:Array (Option Value)}{i:Int}{x:Str}{t:PySem.Tok}
def bN(K:Frag)(nm:Str)(st:Stmt):Prop:=∃f fd,PySem.W.nsIn K mainGlobals nm=some (some (.ref f))/\js K nm nm st f fd
theorem Tw(b:PySem.W.nsIn K mainGlobals nm=some (some (.ref f)))(l:K.lookup f=some ⟨oc,od,.func (PySem.W.fnOf nm nm (el st) (bX st) (aq st) .none kV doc pm an UQ ct),osl⟩)(c:PySem.W.codeIn K UQ nm=true)(k:PySem.W.keepIn K (.ref f)=true):bN K nm st:=⟨f,_,b,tL (st:=st) l c k⟩
def OV(st:Stmt)(nm qual:Str)(ps:List Str):Prop:=∀(kV doc pm:Value)(an:Option Addr)(UQ ct:Value)(us:List Value),us.length=ps.length->bindArgs (PySem.W.fnOf nm qual (el st) (bX st) (aq st) .none kV doc pm an UQ ct) ⟨us,[]⟩=pure (ps.zip us)
theorem bN.def{ps:List Str}(d:bN K nm st)(X:K.In h)(G:h.Ns mainGlobals mg)(p:OV st nm nm ps):Def K mg nm st ps:=by obtain⟨f,fd,b,F⟩:=d;exact⟨f,fd,F,F.binds p,PySem.W.mg_of X G b⟩
def dC(K:Frag)(nm:Str)(i:Int):Prop:=∃t,PySem.W.nsIn K mainGlobals nm=some (some (.int i t))
theorem TH(b:PySem.W.nsIn K mainGlobals nm=some (some (.int i t))):dC K nm i:=⟨t,b⟩
theorem dC.gi(d:dC K nm i)(X:K.In h)(G:h.Ns mainGlobals mg):GI mg nm i:=by obtain⟨t,b⟩:=d;exact⟨t,PySem.W.mg_of X G b⟩
def J3(K:Frag)(nm:Str)(x:Str):Prop:=∃t,PySem.W.nsIn K mainGlobals nm=some (some (.str x t))
theorem TX(b:PySem.W.nsIn K mainGlobals nm=some (some (.str x t))):J3 K nm x:=⟨t,b⟩
theorem J3.gs(d:J3 K nm x)(X:K.In h)(G:h.Ns mainGlobals mg):GS mg nm x:=by obtain⟨t,b⟩:=d;exact⟨t,PySem.W.mg_of X G b⟩
def Fb(K:Frag)(nm:Str)(l:List V):Prop:=∃a,PySem.W.nsIn K mainGlobals nm=some (some (.ref a))/\∀H,fN K H a l
theorem M'{l:List V}{its:Array Value}{n:Nat}{sl:Array (Option Value)}{dd:Option Addr}(b:PySem.W.nsIn K mainGlobals nm=some (some (.ref a)))(e:K.lookup a=some ⟨.type "tuple",dd,.seq its n,sl⟩)(z:its.size<=sizeLine)(v:Vals l its.toList):Fb K nm l:=
 ⟨a,b,λH=>.inr ⟨_,its,n,e,rfl,rfl,z,v⟩⟩
theorem Fb.gt{l:List V}(d:Fb K nm l)(X:K.In h)(G:h.Ns mainGlobals mg):GT K mg nm l:=by obtain⟨a,b,q⟩:=d;exact⟨a,PySem.W.mg_of X G b,q⟩
def Eh(K:Frag)(P:Params)(nm:Str)(l:List Str):Prop:=∃a,PySem.W.nsIn K mainGlobals nm=some (some (.ref a))/\Sh K P a l
theorem OR{P:Params}{l:List Str}{es:Array DictEntry}{n:Nat}(b:PySem.W.nsIn K mainGlobals nm=some (some (.ref a)))(e:K.lookup a=some ⟨.type "dict",none,.dict es n,#[]⟩)(k:oN P es.toList l)(s:(a==sysModules)=false):Eh K P nm l:=⟨a,b,es,n,e,k,s⟩
theorem Eh.gd{P:Params}{l:List Str}(d:Eh K P nm l)(X:K.In h)(G:h.Ns mainGlobals mg):GD K P mg nm l:=by obtain⟨a,b,q⟩:=d;exact⟨a,PySem.W.mg_of X G b,q⟩
def F8(K:Frag)(nm:Str)(l:List (Int×Str)):Prop:=∃a,PySem.W.nsIn K mainGlobals nm=some (some (.ref a))/\Sd K a l
theorem P5{l:List (Int×Str)}{es:Array DictEntry}{n:Nat}(b:PySem.W.nsIn K mainGlobals nm=some (some (.ref a)))(e:K.lookup a=some ⟨.type "dict",none,.dict es n,#[]⟩)(k:oW es.toList l)(s:(a==sysModules)=false):F8 K nm l:=⟨a,b,es,n,e,k,s⟩
theorem F8.gd{l:List (Int×Str)}(d:F8 K nm l)(X:K.In h)(G:h.Ns mainGlobals mg):T6 K mg nm l:=by obtain⟨a,b,q⟩:=d;exact⟨a,PySem.W.mg_of X G b,q⟩
def wZ(K:Frag)(nm qual:Str)(st:Stmt)(C:Addr):Prop:=PySem.W.nsIn K mainGlobals nm=some (some (.ref C))/\tV K C/\∃f fd,Mk K C f/\js K "__init__" qual st f fd
theorem T9(b:PySem.W.nsIn K mainGlobals nm=some (some (.ref C)))(pg:PySem.W.plainGet K C Str.empty=true)(hd:PySem.W.hasDictIn K C=true)(po:PySem.W.plainOver K C=true)(sa:PySem.W.findIn K (.ref C) "__setattr__"=some (some (.builtin "object.__setattr__")))(mk:PySem.W.makesIn K C=true)(kc:PySem.W.keepIn K (.ref C)=true)(b1:PySem.W.findIn K (.ref C) "__init__"=some (some (.ref f)))(i1:PySem.W.isFn K (.ref f)=true)(l:K.lookup f=some ⟨oc,od,.func (PySem.W.fnOf "__init__" qual (el st) (bX st) (aq st) .none kV doc pm an UQ ct),osl⟩)(c:PySem.W.codeIn K UQ qual=true)(k:PySem.W.keepIn K (.ref f)=true):wZ K nm qual st C:=
 ⟨b,⟨pg,hd,po,sa⟩,f,_,⟨mk,b1,i1,kc⟩,tL (st:=st) l c k⟩
theorem wZ.Fe{ps:List Str}(d:wZ K nm qual st C)(X:K.In h)(G:h.Ns mainGlobals mg)(p:OV st "__init__" qual ps):yf K mg nm qual st C ps:=by obtain⟨b,_,f,fd,M,F⟩:=d;exact⟨f,fd,M,F,F.binds p,PySem.W.mg_of X G b⟩
theorem RM(b1:PySem.W.findIn K (.ref C) m=some (some (.ref f)))(i1:PySem.W.isFn K (.ref f)=true)(l:K.lookup f=some ⟨oc,od,.func (PySem.W.fnOf m qual (el st) (bX st) (aq st) .none kV doc pm an UQ ct),osl⟩)(c:PySem.W.codeIn K UQ qual=true)(k:PySem.W.keepIn K (.ref f)=true):∃f fd,Meth K C m f/\js K m qual st f fd:=
 ⟨f,_,⟨b1,i1,k⟩,tL (st:=st) l c k⟩
def J6(K:Frag)(nm qual:Str)(st:Stmt)(C:Addr):Prop:=PySem.W.nsIn K mainGlobals nm=some (some (.ref C))/\sj K C/\∃f fd,Ir K C f/\js K "__init__" qual st f fd
theorem TZ{nm' q:Str}{N:Addr}{bs bm:List Value}{hdct:Bool}{sn:List Str}{sub:List Value}{ab:Bool}{col:Option Bool}{dd:Option Addr}{k0 k1 k2 k3 k5:Option Value}(b:PySem.W.nsIn K mainGlobals nm=some (some (.ref C)))(sa:PySem.W.findIn K (.ref C) "__setattr__"=some (some (.builtin "object.__setattr__"))){cd0:ClassData}(po:PySem.W.clsIn K C=some cd0)(po2:XM.dN cd0.mro=true)(hd:PySem.W.hasDictIn K C=true)(ga:PySem.W.findIn K (.ref C) "__getattribute__"=some (some (.builtin "BaseException.__getattribute__")))(gt:PySem.W.findIn K (.ref C) "__getattr__"=some none)(su:PySem.W.mroIn K C (.type "BaseException")=some true)(lc:K.lookup C=some (excClassObj nm' q C N bs bm hdct sn sub ab col dd k0 k1 k2 k3 k5 "Exception.__new__"))(ln:XM.Line "Exception" bm)(b1:PySem.W.findIn K (.ref C) "__init__"=some (some (.ref f)))(i1:PySem.W.isFn K (.ref f)=true)(kc:PySem.W.keepIn K (.ref C)=true)(l:K.lookup f=some ⟨oc,od,.func (PySem.W.fnOf "__init__" qual (el st) (bX st) (aq st) .none kV doc pm an UQ ct),osl⟩)(c:PySem.W.codeIn K UQ qual=true)(k:PySem.W.keepIn K (.ref f)=true):J6 K nm qual st C:=
 ⟨b,⟨sa,⟨cd0,po,po2⟩,hd,ga,gt,su⟩,f,_,⟨⟨_,_,_,_,_,_,_,_,_,_,_,_,_,_,_,_,lc,ln⟩,b1,i1,kc⟩,tL (st:=st) l c k⟩
def Rb(K:Frag)(C:Addr):Prop:=PySem.W.nsIn K mainGlobals "Refused"=some (some (.ref C))/\∃f fd,Gd K C "__init__" f/\js K "__init__" "Refused.__init__" o_ f fd
theorem Tr(b:PySem.W.nsIn K mainGlobals "Refused"=some (some (.ref C)))(sp:PySem.W.specialIn K (.ref C) "__getattribute__"=some (some (.builtin "type.__getattribute__")))(rd:PySem.W.readsIn K C (.type "type")=true)(at_:PySem.W.findCls K (.ref C) (.type "type") "__init__"=some (.val (.ref f)))(l:K.lookup f=some ⟨oc,od,.func (PySem.W.fnOf "__init__" "Refused.__init__" (el o_) (bX o_) (aq o_) .none kV doc pm an UQ ct),osl⟩)(c:PySem.W.codeIn K UQ "Refused.__init__"=true)(k:PySem.W.keepIn K (.ref f)=true):Rb K C:=⟨b,f,_,⟨sp,rd,at_,k⟩,tL (st:=o_) l c k⟩
end
end TG
namespace TG
open PySem TW
abbrev W0:List Str:=["account","and","as","away","both","break","catch","clear","cut","decimal","double","down","else","error","extended","false","fibre","finally","five","flags"]
abbrev W1:List Str:=["flush","fn","for","fraction","from","giving","half","if","in","inexact","interval","into","invalid","is","leave","let","list","make","match","module"]
abbrev W2:List Str:=["near","nearaway","nearcut","next","not","of","only","or","out","overflow","packed","picture","post","precision","raise","record","resume","return","rounding","say"]
abbrev W3:List Str:=["single","small","spawn","stack","text","then","to","trap","true","truth","try","underflow","up","use","value","while","whole","with","yield","zero"]
theorem N5:W0++(W1++(W2++(W3)))=Kk:=↑1
end TG
namespace TG
open PySem PySem.Spec PyProof.Rows L2 TW
variable{P:Program}{w:World}{K:Frag}{mg:Str->Option Value}{base:Heap}
def je(K:Frag)(C:Addr)(m qual:Str)(st:Stmt):Prop:=∃f fd,Meth K C m f/\js K m qual st f fd
theorem je.kz{K:Frag}{C:Addr}{m qual:Str}{st:Stmt}{ps:List Str}(h:je K C m qual st)(p:OV st m qual ps):dj K C m qual st ps:=by obtain⟨f,fd,M,F⟩:=h;exact⟨f,fd,M,F,F.binds p⟩
structure jH(K:Frag)(P:Params)(CT CN CS CR CL CD CF:Addr):Prop where
 jM:bN K "is_small" (top 10)
 gE:bN K "is_capital" (top 11)
 j0:bN K "is_digit" (top 12)
 fE:bN K "is_printable" (top 13)
 m9:bN K "in_word" (top 14)
 nX:bN K "in_code" (top 15)
 nJ:bN K "in_mark" (top 16)
 nI:bN K "byte_at" (top 17)
 ni:bN K "run_end" (top 18)
 cW:bN K "growth_by_clearing" (top 8)
 di:bN K "growth_by_closing" (top 7)
 sY:bN K "growth" (top 6)
 wk:bN K "depth" (top 5)
 dJ:bN K "end_of_fraction" (top 31)
 dG:bN K "end_of_exponent" (top 32)
 gF:bN K "numeral_at" (top 30)
 eN:bN K "mark_is_right" (top 34)
 dQ:bN K "packed_is_right" (top 35)
 da:bN K "exponent_is_right" (top 36)
 jN:bN K "is_right" (top 33)
 mR:bN K "spelled" (top 70)
 mK:bN K "word_at" (top 69)
 nQ:bN K "code_at" (top 71)
 iO:bN K "number_at" (top 72)
 jy:bN K "item_end" (top 74)
 mG:bN K "text_at" (top 73)
 mZ:bN K "sign_at" (top 75)
 jY:bN K "token_at" (top 68)
 fT:bN K "token_place" (top 67)
 AR:bN K "scan" (top 66)
 fA:bN K "scan_allowed" (top 97)
 fV:bN K "refuse_long" (top 98)
 ft:bN K "scan_shallow" (top 99)
 xJ:dC K "POINT" 46
 mL:dC K "SMALL_E" 101
 qm:dC K "MINUS" 45
 yw:dC K "ZERO" 48
 cU:dC K "MOST_PACKED_DIGITS" 31
 cE:dC K "MOST_EXPONENT_DIGITS" 5
 cJ:dC K "MOST_BYTES_numerals" 255
 sh:dC K "PACKED" 112
 fg:dC K "KEYWORD" 0
 BI:dC K "NAME" 1
 Ck:dC K "CODE" 2
 r_:dC K "NUMBER" 3
 nL:dC K "TEXT" 4
 mH:dC K "SIGN" 5
 dO:dC K "MOST_NAME_BYTES" 31
 dm:dC K "LEAST_CODE_BYTES" 2
 dP:dC K "MOST_CODE_BYTES" 8
 gU:dC K "MOST_ITEMS" 1024
 ef:dC K "LINE_END" 10
 yi:dC K "BLANK" 32
 kM:dC K "QUOTE" 34
 B':dC K "HASH" 35
 iA:dC K "SEMICOLON" 59
 dB:dC K "BACKSLASH" 92
 e_:dC K "SMALL_N" 110
 du:dC K "MOST_BYTES_calls" 65536
 gJ:dC K "MOST_DEPTH" 100
 cO:PySem.W.nsIn K mainGlobals "len"=some none
 uG:PySem.W.nsIn K mainGlobals "max"=some none
 zV:PySem.W.nsIn K mainGlobals "all"=some none
 vO:PySem.W.nsIn K mainGlobals "range"=some none
 dX:PySem.W.nsIn K mainGlobals "isinstance"=some none
 B_:PySem.W.nsIn K mainGlobals "list"=some none
 Ga:PySem.W.nsIn K mainGlobals "int"=some none
 vQ:PySem.W.nsIn K mainGlobals "tuple"=some none
 Fn:J3 K "LETTERS" Si
 EG:Fb K "OPENING" (jm.map V.str)
 EM:Fb K "CLOSING" (gD.map V.str)
 Ld:Fb K "MARKS" (P7.map V.int)
 FL:Eh K P "RISING" oF
 B8:Eh K P "CLEARING" jS
 B0:Eh K P "KEYWORDS" Kk
 P6:F8 K "SIGNS_OF_ONE" Jv
 Rm:F8 K "SIGNS_OF_TWO" Jt
 xR:wZ K "Token" "Token.__init__" IH CT
 uJ:wZ K "Numeral" "Numeral.__init__" IL CN
 nA:wZ K "Scanned" "Scanned.__init__" Lm CS
 MJ:je K CN "size" "Numeral.size" Jg
 u0:Rb K CR
 Fv:J6 K "TooLong" "TooLong.__init__" OZ CL
 Et:J6 K "TooDeep" "TooDeep.__init__" OK CD
 i':J6 K "Fault" "Fault.__init__" Io CF
 Ad:aE K CT "kind"
 Aw:aE K CT "look"
 uU:aE K CT "start"
 CC:aE K CT "end"
 BA:aE K CN "digits"
 yu:aE K CN "fraction"
 xg:aE K CN "exponent"
 Jk:aE K CN "mark"
 uR:aE K CS "found"
 vn:aE K CS "fault"
 zk:aE K CL "numbers"
 zN:aE K CD "numbers"
 oO:aE K CF "numbers"
 yL:aE K CF "rule"
 vx:aE K CF "place"
 UB:PySem.W.exmOne K (.ref CL) (.ref CR)=some true
 UG:PySem.W.exmOne K (.ref CD) (.ref CR)=some true
 UC:PySem.W.exmOne K (.ref CF) (.ref CR)=some true
 SY:PySem.W.exmOne K (.ref CF) (.ref CF)=some true
structure BC(K:Frag)(P:Params)(CRd CG CW:Addr):Prop where
 iy:bN K "low_first" (top 82)
 gG:bN K "head_bytes" (top 81)
 gR:bN K "tree_bytes" (top 80)
 ju:bN K "set_byte" (top 79)
 g5:bN K "item_bytes" (top 85)
 gZ:bN K "leaf_bytes" (top 84)
 eL:bN K "rows_by_token" (top 88)
 wR:bN K "parse" (top 91)
 eO:bN K "parse_allowed" (top 96)
 AW:wZ K "Twig" "Twig.__init__" MO CW
 Af:wZ K "Growth" "Growth.__init__" (mQ 0) CG
 yW:wZ K "Reader" "Reader.__init__" (jD 0) CRd
 we:je K CG "begin" "Growth.begin" (mQ 1)
 BP:je K CG "turn" "Growth.turn" (mQ 2)
 Jp:je K CG "put" "Growth.put" (mQ 3)
 Bf:je K CG "take" "Growth.take" (mQ 4)
 rM:je K CG "finish" "Growth.finish" (mQ 5)
 vY:je K CG "grown" "Growth.grown" (mQ 6)
 yl:je K CRd "ahead" "Reader.ahead" (jD 1)
 GR:je K CRd "run" "Reader.run" (jD 2)
 Cq:je K CRd "step" "Reader.step" (jD 3)
 Cb:je K CRd "grow" "Reader.grow" (jD 4)
 AO:je K CRd "meet" "Reader.meet" (jD 5)
 gW:je K CRd "pass_token" "Reader.pass_token" (jD 6)
 so:je K CRd "refuse" "Reader.refuse" (jD 7)
 Ic:aE K CW "form"
 Eo:aE K CW "parts"
 Ff:aE K CW "first"
 Bq:aE K CW "behind"
 EO:aE K CG "begun"
 FJ:aE K CRd "text"
 Aq:aE K CRd "scanned"
 Bi:aE K CRd "passed"
 Hx:aE K CRd "rows"
 Ca:aE K CRd "coming"
 AH:aE K CRd "growth"
 ha:PySem.W.findIn K (.ref CW) "__class__"=some (some (.builtin "object.__class__"))
 hn:PySem.W.specialIn K (.builtin "object.__class__") "__get__"=some (some (.builtin "getset_descriptor.__get__"))
 ht:PySem.W.takesIn K (.builtin "object.__class__")=some true
 hm:PySem.W.mroIn K CW (.type "object")=some true
 kl:PySem.W.kitOne K (.type "list") (.ref CW)=some false
 si:PySem.W.kitOne K (.type "str") (.type "int")=some false
 ti:PySem.W.kitOne K (.type "tuple") (.type "int")=some false
 st:PySem.W.kitOne K (.type "str") (.type "tuple")=some false
 tab:JK K P
section
variable{P:Program}{w:World}{K:Frag}{mg:Str->Option Value}{base h:Heap}{CN CR CL CD:Addr}{c:Cs}
theorem HG(T:jH K w.params c.CT CN c.CS CR CL CD c.CF)(X:K.In h)(G:h.Ns mainGlobals mg):Ok P w K mg base (g9 P w) 11 "scan_allowed" ["text"] (Ln K c.CS c.CT CR):=by
 have jM:Def K mg "is_small" (top 10) ["byte"]:=T.jM.def X G ↑4;have gE:Def K mg "is_capital" (top 11) ["byte"]:=T.gE.def X G ↑4;have j0:Def K mg "is_digit" (top 12) ["byte"]:=T.j0.def X G ↑4;have fE:Def K mg "is_printable" (top 13) ["byte"]:=T.fE.def X G ↑4;have m9:Def K mg "in_word" (top 14) ["byte"]:=T.m9.def X G ↑4;have nX:Def K mg "in_code" (top 15) ["byte"]:=T.nX.def X G ↑4;have nJ:Def K mg "in_mark" (top 16) ["byte"]:=T.nJ.def X G ↑4;have nI:Def K mg "byte_at" (top 17) ["text","place"]:=T.nI.def X G ↑5;have ni:Def K mg "run_end" (top 18) ["text","place","fits"]:=T.ni.def X G ↑6;have cW:Def K mg "growth_by_clearing" (top 8) ["numbers"]:=T.cW.def X G ↑4;have di:Def K mg "growth_by_closing" (top 7) ["numbers","look"]:=T.di.def X G ↑5;have sY:Def K mg "growth" (top 6) ["numbers","look"]:=T.sY.def X G ↑5;have wk:Def K mg "depth" (top 5) ["found"]:=T.wk.def X G ↑4;have dJ:Def K mg "end_of_fraction" (top 31) ["text","place"]:=T.dJ.def X G ↑5;have dG:Def K mg "end_of_exponent" (top 32) ["text","place"]:=T.dG.def X G ↑5;have gF:Def K mg "numeral_at" (top 30) ["text","place"]:=T.gF.def X G ↑5;have eN:Def K mg "mark_is_right" (top 34) ["mark"]:=T.eN.def X G ↑4;have dQ:Def K mg "packed_is_right" (top 35) ["numeral"]:=T.dQ.def X G ↑4;have da:Def K mg "exponent_is_right" (top 36) ["exponent"]:=T.da.def X G ↑4;have jN:Def K mg "is_right" (top 33) ["numeral"]:=T.jN.def X G ↑4;have mR:Def K mg "spelled" (top 70) ["word"]:=T.mR.def X G ↑4;have mK:Def K mg "word_at" (top 69) ["text","place"]:=T.mK.def X G ↑5;have nQ:Def K mg "code_at" (top 71) ["text","place"]:=T.nQ.def X G ↑5;have iO:Def K mg "number_at" (top 72) ["text","place"]:=T.iO.def X G ↑5;have jy:Def K mg "item_end" (top 74) ["text","place"]:=T.jy.def X G ↑5;have mG:Def K mg "text_at" (top 73) ["text","place"]:=T.mG.def X G ↑5;have mZ:Def K mg "sign_at" (top 75) ["text","place"]:=T.mZ.def X G ↑5;have jY:Def K mg "token_at" (top 68) ["text","place"]:=T.jY.def X G ↑5;have fT:Def K mg "token_place" (top 67) ["text","place"]:=T.fT.def X G ↑5;have AR:Def K mg "scan" (top 66) ["text"]:=T.AR.def X G ↑4;have fA:Def K mg "scan_allowed" (top 97) ["text"]:=T.fA.def X G ↑4;have fV:Def K mg "refuse_long" (top 98) ["text"]:=T.fV.def X G ↑4;have ft:Def K mg "scan_shallow" (top 99) ["text"]:=T.ft.def X G ↑4;have xJ:=T.xJ.gi X G;have mL:=T.mL.gi X G;have qm:=T.qm.gi X G;have yw:=T.yw.gi X G;have cU:=T.cU.gi X G;have cE:=T.cE.gi X G;have cJ:=T.cJ.gi X G;have sh:=T.sh.gi X G;have fg:=T.fg.gi X G;have BI:=T.BI.gi X G;have Ck:=T.Ck.gi X G;have r_:=T.r_.gi X G;have nL:=T.nL.gi X G;have mH:=T.mH.gi X G;have dO:=T.dO.gi X G;have dm:=T.dm.gi X G;have dP:=T.dP.gi X G;have gU:=T.gU.gi X G;have ef:=T.ef.gi X G;have yi:=T.yi.gi X G;have kM:=T.kM.gi X G;have B':=T.B'.gi X G;have iA:=T.iA.gi X G;have dB:=T.dB.gi X G;have e_:=T.e_.gi X G;have du:=T.du.gi X G;have gJ:=T.gJ.gi X G;have cO:=PySem.W.mg_none_of X G T.cO;have uG:=PySem.W.mg_none_of X G T.uG;have zV:=PySem.W.mg_none_of X G T.zV;have gL:=T.Fn.gs X G;have tO:=T.EG.gt X G;have tC:=T.EM.gt X G;have tM:=T.Ld.gt X G;have kR:=T.FL.gd X G;have kC:=T.B8.gd X G;have kW:=T.B0.gd X G;have k1:=T.P6.gd X G;have k2:=T.Rm.gd X G;have TT:wM K c.CT:=⟨T.xR.2.1,T.Ad,T.Aw,T.uU,T.CC⟩
 have TN:E4 K CN:=⟨T.uJ.2.1,T.BA,T.yu,T.xg,T.Jk⟩
 have TS:w6 K c.CS:=⟨T.nA.2.1,T.uR,T.vn⟩
 have nT:Ee P w K mg base c.CT:=Ls (T.xR.Fe X G ↑7) TT;have nN:uL P w K mg base 1 "Numeral" CN ["self","digits","fraction","exponent","mark"] (A0 CN):=Lx (T.uJ.Fe X G ↑7) TN;have dS:MY K mg c.CS:=T.nA.Fe X G ↑6;have mS:i5 P w K mg base 1 CN "size" ["self"] (xC CN):=by
  exact J1 (T.MJ.kz ↑4) TN cO
 have rC:Gq K mg CR:=by
  obtain⟨b,f,fd,M,F⟩:=T.u0;exact⟨PySem.W.mg_of X G b,f,fd,M,F,F.binds ↑5⟩
 have TF:BL K c.CF:=⟨T.i'.2.1,T.oO,T.yL,T.vx⟩
 have mf:mg "Fault"=some (.ref c.CF):=PySem.W.mg_of X G T.i'.1;have nF:wN P w K mg base c.CF:=by
  obtain⟨b,_,f,fd,M,F⟩:=T.i';exact⟨f,fd,M,HC F rC TF,F.binds ↑6,mf⟩
 have tl:PU P w K mg base "TooLong" CL CR [-1]:=by
  obtain⟨b,x,f,fd,M,F⟩:=T.Fv;exact⟨⟨f,fd,M,QY F rC,F.binds ↑4,PySem.W.mg_of X G b⟩,x,T.zk,T.UB⟩
 have td:PU P w K mg base "TooDeep" CD CR [-6]:=by
  obtain⟨b,x,f,fd,M,F⟩:=T.Et;exact⟨⟨f,fd,M,Qo F rC,F.binds ↑4,PySem.W.mg_of X G b⟩,x,T.zN,T.UG⟩
 have o1:Ok P w K mg base bf 1 "is_small" ["byte"] (jc ic):=HZ jM;have o2:Ok P w K mg base bf 1 "is_capital" ["byte"] (jc uB):=Pd gE;have o3:Ok P w K mg base bf 1 "is_digit" ["byte"] (jc bZ):=GG j0;have o4:Ok P w K mg base bf 1 "is_printable" ["byte"] (jc g7):=Ke fE;have o5:=JZ m9 o1 o3;have o6:=KO nX o2 o3;have o7:=KQ nJ o5 o2;have ob:Ok P w K mg base bf 1 "byte_at" ["text","place"] (ik K):=J4 nI cO;have orn:Ok P w K mg base bf 4 "run_end" ["text","place","fits"] (kL P w K mg base):=Ol ni cO;have oc1:Ok P w K mg base bf 1 "growth_by_clearing" ["numbers"] zh:=NL cW;have oc2:=OH di oc1;have og:=O7 sY tO tC kR kC oc2 oc1;have od:=Mh wk TT uG og;have ofr:=Li dJ xJ ob o3 orn;have oex:=MT dG mL qm ob o3 orn;have onu:=N1 gF o3 o7 orn ofr oex nN;have omk:Ok P w K mg base bf 1 "mark_is_right" ["mark"] (BE K):=NR eN tM cO;have opk:Ok P w K mg base bf 1 "packed_is_right" ["numeral"] (AE CN λd f e _=>i4 d f e):=Mx dQ TN cU cO;have oer:Ok P w K mg base bf 1 "exponent_is_right" ["exponent"] (xF K):=Mn da qm yw cE cO;have yJ:=Na jN TN cJ sh yw cO mS omk opk oer;have osp:=O2 mR gL zV o1;have owd:=Qc mK o5 orn osp nT nF kW fg BI dO;have ocd:=Qw nQ o6 orn nT nF Ck dm dP;have onr:=Ru iO TN onu yJ mS nT nF r_;have oit:=Py jy ob o4 nF cO dB kM e_;have otx:=Qh mG ob oit nT nF cO nL kM gU;have osg:=Q0 mZ ob nT nF uG mH k1 k2;have ota:=PX jY o1 o2 o3 owd ocd onr otx osg kM;have otp:=Qi fT o4 orn cO B' yi ef iA;have osc:=KY AR dS TS TT TF otp ota cO mf T.SY;have orl:=P1 fV tl cO du;have oss:=Q7 ft TS osc od td gJ;exact RL fA orl oss
theorem jH.JB(T:jH K w.params c.CT CN c.CS CR CL CD c.CF)(X:K.In h)(G:h.Ns mainGlobals mg):BL K c.CF/\wN P w K mg base c.CF/\mg "Refused"=some (.ref CR):=by
 have rC:Gq K mg CR:=by
  obtain⟨b,f,fd,M,F⟩:=T.u0;exact⟨PySem.W.mg_of X G b,f,fd,M,F,F.binds ↑5⟩
 have TF:BL K c.CF:=⟨T.i'.2.1,T.oO,T.yL,T.vx⟩
 have mf:mg "Fault"=some (.ref c.CF):=PySem.W.mg_of X G T.i'.1;refine⟨TF,?_,rC.mg⟩;obtain⟨b,_,f,fd,M,F⟩:=T.i';exact⟨f,fd,M,HC F rC TF,F.binds ↑6,mf⟩
theorem E3(T:jH K w.params c.CT CN c.CS CR CL CD c.CF)(R:BC K w.params c.CR c.CG c.CW)(X:K.In h)(G:h.Ns mainGlobals mg):Ok P w K mg base (g9 P w) 12 "parse_allowed" ["text"] (FZ K c CR)/\Ok P w K mg base bf 3 "tree_bytes" ["twig"] (Mr c.CW):=by
 have osa:Ok P w K mg base (g9 P w) 11 "scan_allowed" ["text"] (Ln K c.CS c.CT CR):=HG T X G;obtain⟨TF,nF,mr⟩:=T.JB (P:=P) (base:=base) X G;have iy:Def K mg "low_first" (top 82) ["number","size"]:=R.iy.def X G ↑5;have gG:Def K mg "head_bytes" (top 81) ["twig"]:=R.gG.def X G ↑4;have gR:Def K mg "tree_bytes" (top 80) ["twig"]:=R.gR.def X G ↑4;have ju:Def K mg "set_byte" (top 79) ["bits"]:=R.ju.def X G ↑4;have g5:Def K mg "item_bytes" (top 85) ["items"]:=R.g5.def X G ↑4;have gZ:Def K mg "leaf_bytes" (top 84) ["text","token"]:=R.gZ.def X G ↑5;have eL:Def K mg "rows_by_token" (top 88) []:=R.eL.def X G (λ_ _ _ _ _ _ us hl=>match us,hl with|[],_=>rfl);have wR:Def K mg "parse" (top 91) ["text","scanned"]:=R.wR.def X G ↑5;have eO:Def K mg "parse_allowed" (top 96) ["text"]:=R.eO.def X G ↑4;have fg:=T.fg.gi X G;have mH:=T.mH.gi X G;have nL:=T.nL.gi X G;have dB:=T.dB.gi X G;have ef:=T.ef.gi X G;have e_:=T.e_.gi X G;have cO:=PySem.W.mg_none_of X G T.cO;have uG:=PySem.W.mg_none_of X G T.uG;have zV:=PySem.W.mg_none_of X G T.zV;have vO:=PySem.W.mg_none_of X G T.vO;have dX:=PySem.W.mg_none_of X G T.dX;have B_:=PySem.W.mg_none_of X G T.B_;have Ga:=PySem.W.mg_none_of X G T.Ga;have vQ:=PySem.W.mg_none_of X G T.vQ;have we:dj K c.CG "begin" "Growth.begin" (mQ 1) ["self","form","passed"]:=R.we.kz ↑6;have BP:dj K c.CG "turn" "Growth.turn" (mQ 2) ["self","kind"]:=R.BP.kz ↑5;have Jp:dj K c.CG "put" "Growth.put" (mQ 3) ["self","part"]:=R.Jp.kz ↑5;have Bf:dj K c.CG "take" "Growth.take" (mQ 4) ["self"]:=R.Bf.kz ↑4;have rM:dj K c.CG "finish" "Growth.finish" (mQ 5) ["self","passed"]:=R.rM.kz ↑5;have vY:dj K c.CG "grown" "Growth.grown" (mQ 6) ["self"]:=R.vY.kz ↑4;have yl:dj K c.CR "ahead" "Reader.ahead" (jD 1) ["self"]:=R.yl.kz ↑4;have GR:dj K c.CR "run" "Reader.run" (jD 2) ["self"]:=R.GR.kz ↑4;have Cq:dj K c.CR "step" "Reader.step" (jD 3) ["self","symbol"]:=R.Cq.kz ↑5;have Cb:dj K c.CR "grow" "Reader.grow" (jD 4) ["self","symbol"]:=R.Cb.kz ↑5;have AO:dj K c.CR "meet" "Reader.meet" (jD 5) ["self","symbol","look"]:=R.AO.kz ↑6;have gW:dj K c.CR "pass_token" "Reader.pass_token" (jD 6) ["self"]:=R.gW.kz ↑4;have so:dj K c.CR "refuse" "Reader.refuse" (jD 7) ["self"]:=R.so.kz ↑4;have TT:wM K c.CT:=⟨T.xR.2.1,T.Ad,T.Aw,T.uU,T.CC⟩
 have TS:w6 K c.CS:=⟨T.nA.2.1,T.uR,T.vn⟩
 have TW:Jz K c.CW:=⟨R.AW.2.1,R.Ic,R.Eo,R.Ff,R.Bq,R.ha,R.hn,R.ht,R.hm,R.kl⟩
 have TG_:FH K c.CG:=⟨R.Af.2.1,R.EO⟩
 have TR:JA K c.CR:=⟨R.yW.2.1,R.FJ,R.Aq,R.Bi,R.Hx,R.Ca,R.AH⟩
 have kf:RX K:=⟨R.si,R.ti,R.st⟩
 have mT:mg "Twig"=some (.ref c.CW):=PySem.W.mg_of X G R.AW.1;have nT:uL P w K mg base 1 "Twig" c.CW ["self","form","first"] (DE c.CW):=NI (R.AW.Fe X G ↑6) TW;have nG:uL P w K mg base 3 "Growth" c.CG ["self"] (O0 c.CG c.CW):=Nr (R.Af.Fe X G ↑4) TG_ nT;have olo:Ok P w K mg base bf 1 "low_first" ["number","size"] DP:=Mg iy vO;have ohd:=J8 gG TW cO olo;have otb:=Qn gR TW mT cO dX ohd;have osb:Ok P w K mg base bf 1 "set_byte" ["bits"] (Oz c.CW):=QJ ju;have oib:Ok P w K mg base bf 1 "item_bytes" ["items"] (Gp K):=Nb g5 cO dB ef e_;have olf:=Qm gZ TT cO fg mH nL oib olo;have orb:Ok P w K mg base bf 1 "rows_by_token" [] (Oj K):=QN eL (R.tab.rules X G);have obg:=PH we TG_ nT;have otu:i5 P w K mg base 1 c.CG "turn" ["self","kind"] (N7 c.CG c.CW):=Ri BP TG_ TW;have opu:i5 P w K mg base 1 c.CG "put" ["self","part"] (GV c.CG c.CW):=Qk Jp TG_ TW;have otk:i5 P w K mg base 1 c.CG "take" ["self"] (Ja c.CG c.CW):=NT Bf TG_ TW mT dX;have ofi:=Rw rM TG_ TW opu osb;have ogn:i5 P w K mg base 1 c.CG "grown" ["self"] (OQ c.CG c.CW):=QI vY TG_;have orn:∀b,jI P w K mg base 7 c.CR "run" ["self"] (MN K c b):=λb=>by
  have oah:i5 P w K mg base 1 c.CR "ahead" ["self"] (OI K c b):=Qv yl TR TS TT cO;have opt:i5 P w K mg base 3 c.CR "pass_token" ["self"] (Nl K c b):=QC gW TR TS TT TG_ olf opu;have ore:jI P w K mg base 4 c.CR "refuse" ["self"] (Pc K c b):=PJ so TR TS TT nF cO;have ogw:i5 P w K mg base 2 c.CR "grow" ["self","symbol"] (OB K c b):=QG Cb TR TG_ B_ otu opu;have ome:jI P w K mg base 5 c.CR "meet" ["self","symbol","look"] (NS K c b):=RA AO TR opt ore;have ost:jI P w K mg base 6 c.CR "step" ["self","symbol"] (Mj K c b):=P4 Cq TR TG_ kf dX Ga vQ obg ogw otk ofi oah ome;exact Qa GR TR TG_ cO ost ogn
 have nR:∀b,uL P w K mg base 5 "Reader" c.CR ["self","text","scanned"] (OD K c b):=λb=>Pb (R.yW.Fe X G ↑6) TR orb nG;exact⟨Mw eO osa (Q1 wR TR nR orn),otb⟩
end
section
open PySem.W (WData Codec OpenSpec)
section
variable{P:Program}{w:World}{K:Frag}{mg:Str->Option Value}{h:Heap}{CN CR CL CD CRd CG CW CS CT CF:Addr}
theorem IA{fa:Addr}(X:K.In h)(G:h.Ns mainGlobals mg)(hmg:mg "read"=some (.ref fa))(T:jH K w.params CT CN CS CR CL CD CF)(R:BC K w.params CRd CG CW)(d:bN K "read" (top 95)):
  ∃fd:FuncData,(∀(s:Shared)(us:List Value),us.length=(["text"]:List Str).length->BindsTo s fd ⟨us,[]⟩ ((["text"]:List Str).zip us))/\∀base:Heap,K.In base->base.Ns mainGlobals mg->bY P w K mg base bf 13 fa fd ["text"] (ym K):=by
 obtain⟨f,fd,b,F⟩:=d;have e:=hmg.symm.trans (PySem.W.mg_of X G b);cases e;refine⟨fd,?_,λbase X' G'=>?_⟩
 ·obtain⟨oc,od,kV,doc,pm,an,UQ,ct,osl,rfl,lk,hcd⟩:=F.ex;exact λs us hu=>match us,hu with|[_],_=>.of_eq rfl
 ·obtain⟨TF,nF,mr⟩:=jH.JB (P:=P) (base:=base) (c:=⟨CRd,CG,CW,CS,CT,CF⟩) T X' G';obtain⟨o1,o2⟩:=E3 (P:=P) (base:=base) (c:=⟨CRd,CG,CW,CS,CT,CF⟩) T R X' G';exact KZ F TF o1 o2 (PySem.W.mg_none_of X' G' T.cO) mr T.UC
end
theorem A8(K:Frag)(H:Hp)(xs:List V)(a:Codec.denoteAll PySem.Challenge.rw_twigtext_s02_read.args)(hO:vk H)(hwi:Codec.withinAll PySem.Challenge.rw_twigtext_s02_read.args a=true)(hask:Codec.app PySem.Challenge.rw_twigtext_s02_read.args PySem.Challenge.rw_twigtext_s02_read.asked a=true)(hx:gc K H xs (Codec.encAll PySem.Challenge.rw_twigtext_s02_read.args a)):
  ym K xs H (λv H'=>Dw K H' v (PySem.Challenge.rw_twigtext_s02_read.ret.enc (Codec.app PySem.Challenge.rw_twigtext_s02_read.args PySem.Challenge.rw_twigtext_s02_read.f a))) λ_ _ _=>False:=by
 cases hx with
 |cons h1 h2=>
  cases h2;cases h1 with
  |lst hs ha=>
   have e:=L2.DI a.1 _ ha;subst e;have q:((Codec.inLen 0 66000 a.1&&a.1.all (Codec.inInt 0 255))&&true)=true:=hwi;rw[Bool.and_eq_true,Bool.and_eq_true] at q;have hb:∀n∈a.1,0<=n/\n<=255:=λn hn=>by
    have:=List.all_eq_true.mp q.1.2 n hn;exact Codec.inInt_iff.mp this
   refine⟨_,WrxthhNeutral.text a.1,rfl,?_,λH' p s' hp=>?_⟩
   ·rw[eR,<-uN a.1 hb];exact hs
   ·have g:Dw K H' (.ref p) (.list ((MA.wI (WrxthhNeutral.text a.1)).map WData.int)):=.lst (L2.bh.of hp) (L2.D1 _);rw[<-MA.Kf] at g;exact g
end
end TG
namespace TL
open PySem
section
def t(i:Nat):Stmt:=PySem.Challenge.pw_twigtext_s02_read.main.body.getD i (.Pass ⟨0,0,0,0⟩)
set_option compiler.extract_closed false
def l0:Stmt:=t 0
def l1:Stmt:=t 1
def l2:Stmt:=t 2
def l3:Stmt:=t 3
def l4:Stmt:=t 4
def l5:Stmt:=t 5
def l6:Stmt:=t 6
def l7:Stmt:=t 7
def l8:Stmt:=t 8
def l9:Stmt:=t 9
def l10:Stmt:=t 10
def l11:Stmt:=t 11
def l12:Stmt:=t 12
def l13:Stmt:=t 13
def l14:Stmt:=t 14
def l15:Stmt:=t 15
def l16:Stmt:=t 16
def l17:Stmt:=t 17
def l18:Stmt:=t 18
def l19:Stmt:=t 19
def l20:Stmt:=t 20
def l21:Stmt:=t 21
def l22:Stmt:=t 22
def l23:Stmt:=t 23
def l24:Stmt:=t 24
def l25:Stmt:=t 25
def l26:Stmt:=t 26
def l27:Stmt:=t 27
def l28:Stmt:=t 28
def l29:Stmt:=t 29
def l30:Stmt:=t 30
def l31:Stmt:=t 31
def l32:Stmt:=t 32
def l33:Stmt:=t 33
def l34:Stmt:=t 34
def l35:Stmt:=t 35
def l36:Stmt:=t 36
def l37:Stmt:=t 37
def l38:Stmt:=t 38
def l39:Stmt:=t 39
def l40:Stmt:=t 40
def l41:Stmt:=t 41
def l42:Stmt:=t 42
def l43:Stmt:=t 43
def l44:Stmt:=t 44
def l45:Stmt:=t 45
def l46:Stmt:=t 46
def l47:Stmt:=t 47
def l48:Stmt:=t 48
def l49:Stmt:=t 49
def l50:Stmt:=t 50
def l51:Stmt:=t 51
def l52:Stmt:=t 52
def l53:Stmt:=t 53
def l54:Stmt:=t 54
def l55:Stmt:=t 55
def l56:Stmt:=t 56
def l57:Stmt:=t 57
def l58:Stmt:=t 58
def l59:Stmt:=t 59
def l60:Stmt:=t 60
def l61:Stmt:=t 61
def l62:Stmt:=t 62
def l63:Stmt:=t 63
def l64:Stmt:=t 64
def l65:Stmt:=t 65
def l66:Stmt:=t 66
def l67:Stmt:=t 67
def l68:Stmt:=t 68
def l69:Stmt:=t 69
def l70:Stmt:=t 70
def l71:Stmt:=t 71
def l72:Stmt:=t 72
def l73:Stmt:=t 73
def l74:Stmt:=t 74
def l75:Stmt:=t 75
def l76:Stmt:=t 76
def l77:Stmt:=t 77
def l78:Stmt:=t 78
def l79:Stmt:=t 79
def l80:Stmt:=t 80
def l81:Stmt:=t 81
def l82:Stmt:=t 82
def l83:Stmt:=t 83
def l84:Stmt:=t 84
def l85:Stmt:=t 85
def l86:Stmt:=t 86
def l87:Stmt:=t 87
def l88:Stmt:=t 88
def l89:Stmt:=t 89
def l90:Stmt:=t 90
def l91:Stmt:=t 91
def l92:Stmt:=t 92
def l93:Stmt:=t 93
def l94:Stmt:=t 94
def l95:Stmt:=t 95
def l96:Stmt:=t 96
def l97:Stmt:=t 97
def l98:Stmt:=t 98
def l99:Stmt:=t 99
def lS:Scope:=PySem.Challenge.pw_twigtext_s02_read.main.scope
def lG:Given:=PySem.Challenge.pw_twigtext_s02_read.given
def prog:Program:={main:={body:=[l0,l1,l2,l3,l4,l5,l6,l7,l8,l9,l10,l11,l12,l13,l14,l15,l16,l17,l18,l19,l20,l21,l22,l23,l24,l25,l26,l27,l28,l29,l30,l31,l32,l33,l34,l35,l36,l37,l38,l39,l40,l41,l42,l43,l44,l45,l46,l47,l48,l49,l50,l51,l52,l53,l54,l55,l56,l57,l58,l59,l60,l61,l62,l63,l64,l65,l66,l67,l68,l69,l70,l71,l72,l73,l74,l75,l76,l77,l78,l79,l80,l81,l82,l83,l84,l85,l86,l87,l88,l89,l90,l91,l92,l93,l94,l95,l96,l97,l98,l99],scope:=lS,futureAnnotations:=false,file:="/claim/cut.py",more:=[]},modules:=[],parses:=[],absent:=[],harvested:=[],given:=lG}
theorem prog_eq:PySem.Challenge.pw_twigtext_s02_read=prog:=rfl
def row:PySem.W.OpenSpec:=PySem.W.OpenSpec.mk prog PySem.Challenge.nm_twigtext_s02_read PySem.Challenge.fa_twigtext_s02_read PySem.Challenge.fr_twigtext_s02_read PySem.Challenge.as_twigtext_s02_read PyWrxthh.read
theorem row_eq:PySem.Challenge.rw_twigtext_s02_read=row:=rfl
end
end TL
open Lean in
local macro_rules|`(#check 0)=>return mkNullNode (←(`PySem.Challenge.pw_twigtext_s02_read::`TL.t::("heap_1"::(List.range 1799).map λi=>s!"o_{i+1}").map (Name.str `PySem.Challenge.cw_twigtext_s02_read_holds)).toArray.mapM λs=>let i:=mkIdent (.str `PySem.W.Fast s!"te{s.hash}");`(theorem $i:ident:True:=trivial))
#check 0
open PySem PySem.W PyProof.Rows
local macro_rules
 |`(tactic|sleep 1)=>`(tactic|as_aux_lemma=>(refine' TG.Tw ?a ?l ?c ?k;(case a=>k_is);(case l=>k_is);(case c=>k_is);(case k=>k_is)))
 |`(tactic|sleep 2)=>`(tactic|as_aux_lemma=>(refine' TG.TH ?a;(case a=>k_is)))
 |`(tactic|sleep 3)=>`(tactic|as_aux_lemma=>(refine' TG.TX ?a;(case a=>k_is)))
 |`(tactic|sleep 4)=>`(tactic|(refine' TG.T9 ?b ?pg ?hd ?po ?sa ?mk ?kc ?b1 ?i1 ?l ?c ?k;(case b=>k_is);(case pg=>k_is);(case hd=>k_is);(case po=>k_is);(case sa=>k_is);(case mk=>k_is);(case kc=>k_is);(case b1=>k_is);(case i1=>k_is);(case l=>k_is);(case c=>k_is);(case k=>k_is)))
 |`(tactic|sleep 5)=>`(tactic|(refine' TG.TZ ?b ?sa ?po ?po2 ?hd ?ga ?gt ?su ?lc ?ln ?b1 ?i1 ?kc ?l ?c ?k;(case b=>k_is);(case sa=>k_is);(case po=>k_is);(case po2=>decide +kernel);(case hd=>k_is);(case ga=>k_is);(case gt=>k_is);(case su=>k_is);(case lc=>k_is);(case ln=>exact ⟨by decide +kernel,by decide +kernel,by decide +kernel,by decide +kernel⟩);(case b1=>k_is);(case i1=>k_is);(case kc=>k_is);(case l=>k_is);(case c=>k_is);(case k=>k_is)))
 |`(tactic|sleep 6)=>`(tactic|(refine' TG.Tr ?b ?sp ?rd ?z ?l ?c ?k;(case b=>k_is);(case sp=>k_is);(case rd=>k_is);(case z=>k_is);(case l=>k_is);(case c=>k_is);(case k=>k_is)))
 |`(tactic|sleep 7)=>`(tactic|as_aux_lemma=>(refine' TG.RM ?b1 ?i1 ?l ?c ?k;(case b1=>k_is);(case i1=>k_is);(case l=>k_is);(case c=>k_is);(case k=>k_is)))
 |`(tactic|sleep 8)=>`(tactic|as_aux_lemma=>(show PySem.W.findIn _ _ _=_;k_is))
 |`(tactic|o_headS ($f $K $a $e))=>`(tactic|o_headS (HK.hk $K ⟨$a,$e,by kernel_rfl⟩))
set_option maxRecDepth 100000 in
set_option maxHeartbeats 0 in
theorem PySem.Challenge.cw_twigtext_s02_read_holds : PySem.Challenge.rw_twigtext_s02_read.Holds := by
  rw [TL.row_eq]; w_on; k_headS; (case hw => exact ⟨[.list []], by decide +kernel, by decide +kernel⟩)
  k_fillS
  refine L2.Bt (r := TL.row) (k := 13) (CX := L2.bf) (ps := ["text"]) (sp := TG.ym) (by decide +kernel) rfl rfl ⟨rfl, by decide, by decide⟩ (fun w h Y => HK.hk_in Y) ?F ?S (fun _ _ _ _ z => z)
  case F =>
    intro w mg fa h Y KX G hmg
    refine' TG.IA KX G hmg ?t ?r ?d
    case t =>
      refine' TG.jH.mk ..
      rotate_left 7
      iterate 33 sleep 1
      iterate 27 sleep 2
      iterate 8 (as_aux_lemma=>k_is)
      sleep 3
      (as_aux_lemma=>(refine' TG.M' ?a1 ?e1 ?z1 ?v1;(case a1=>k_is);(case e1=>k_is);(case z1=>decide);(case v1=>exact (.cons ⟨_,rfl⟩ (.cons ⟨_,rfl⟩ (.cons ⟨_,rfl⟩ .nil))))))
      (as_aux_lemma=>(refine' TG.M' ?a2 ?e2 ?z2 ?v2;(case a2=>k_is);(case e2=>k_is);(case z2=>decide);(case v2=>exact (.cons ⟨_,rfl⟩ (.cons ⟨_,rfl⟩ (.cons ⟨_,rfl⟩ .nil))))))
      (as_aux_lemma=>(refine' TG.M' ?a3 ?e3 ?z3 ?v3;(case a3=>k_is);(case e3=>k_is);(case z3=>decide);(case v3=>exact (.cons ⟨_,rfl⟩ (.cons ⟨_,rfl⟩ (.cons ⟨_,rfl⟩ (.cons ⟨_,rfl⟩ (.cons ⟨_,rfl⟩ (.cons ⟨_,rfl⟩ (.cons ⟨_,rfl⟩ .nil))))))))))
      (as_aux_lemma=>(refine' TG.OR ?a4 ?e4 ?kk4 ?ss4;(case a4=>k_is);(case e4=>k_is);(case ss4=>decide);(case kk4=>exact ⟨⟨_,rfl⟩,rfl,⟨⟨_,rfl⟩,rfl,⟨⟨_,rfl⟩,rfl,⟨⟨_,rfl⟩,rfl,⟨⟨_,rfl⟩,rfl,⟨⟨_,rfl⟩,rfl,⟨⟨_,rfl⟩,rfl,⟨⟨_,rfl⟩,rfl,⟨⟨_,rfl⟩,rfl,⟨⟨_,rfl⟩,rfl,⟨⟨_,rfl⟩,rfl,⟨⟨_,rfl⟩,rfl,⟨⟨_,rfl⟩,rfl,⟨⟨_,rfl⟩,rfl,⟨⟨_,rfl⟩,rfl,⟨⟨_,rfl⟩,rfl,⟨⟨_,rfl⟩,rfl,⟨⟨_,rfl⟩,rfl,⟨⟨_,rfl⟩,rfl,⟨⟨_,rfl⟩,rfl,⟨⟨_,rfl⟩,rfl,⟨⟨_,rfl⟩,rfl,⟨⟨_,rfl⟩,rfl,⟨⟨_,rfl⟩,rfl,⟨⟨_,rfl⟩,rfl,trivial⟩⟩⟩⟩⟩⟩⟩⟩⟩⟩⟩⟩⟩⟩⟩⟩⟩⟩⟩⟩⟩⟩⟩⟩⟩)))
      (as_aux_lemma=>(refine' TG.OR ?a5 ?e5 ?kk5 ?ss5;(case a5=>k_is);(case e5=>k_is);(case ss5=>decide);(case kk5=>exact ⟨⟨_,rfl⟩,rfl,⟨⟨_,rfl⟩,rfl,⟨⟨_,rfl⟩,rfl,⟨⟨_,rfl⟩,rfl,⟨⟨_,rfl⟩,rfl,⟨⟨_,rfl⟩,rfl,⟨⟨_,rfl⟩,rfl,⟨⟨_,rfl⟩,rfl,⟨⟨_,rfl⟩,rfl,⟨⟨_,rfl⟩,rfl,⟨⟨_,rfl⟩,rfl,⟨⟨_,rfl⟩,rfl,⟨⟨_,rfl⟩,rfl,⟨⟨_,rfl⟩,rfl,⟨⟨_,rfl⟩,rfl,⟨⟨_,rfl⟩,rfl,⟨⟨_,rfl⟩,rfl,⟨⟨_,rfl⟩,rfl,⟨⟨_,rfl⟩,rfl,⟨⟨_,rfl⟩,rfl,⟨⟨_,rfl⟩,rfl,⟨⟨_,rfl⟩,rfl,⟨⟨_,rfl⟩,rfl,trivial⟩⟩⟩⟩⟩⟩⟩⟩⟩⟩⟩⟩⟩⟩⟩⟩⟩⟩⟩⟩⟩⟩⟩)))
      (as_aux_lemma=>(refine' TG.OR ?a6 ?e6 ?kk6 ?ss6;(case a6=>k_is);(case e6=>k_is);(case ss6=>decide);(case kk6=>(rw [← TG.N5];exact ⟨⟨_,rfl⟩,rfl,⟨⟨_,rfl⟩,rfl,⟨⟨_,rfl⟩,rfl,⟨⟨_,rfl⟩,rfl,⟨⟨_,rfl⟩,rfl,⟨⟨_,rfl⟩,rfl,⟨⟨_,rfl⟩,rfl,⟨⟨_,rfl⟩,rfl,⟨⟨_,rfl⟩,rfl,⟨⟨_,rfl⟩,rfl,⟨⟨_,rfl⟩,rfl,⟨⟨_,rfl⟩,rfl,⟨⟨_,rfl⟩,rfl,⟨⟨_,rfl⟩,rfl,⟨⟨_,rfl⟩,rfl,⟨⟨_,rfl⟩,rfl,⟨⟨_,rfl⟩,rfl,⟨⟨_,rfl⟩,rfl,⟨⟨_,rfl⟩,rfl,⟨⟨_,rfl⟩,rfl,⟨⟨_,rfl⟩,rfl,⟨⟨_,rfl⟩,rfl,⟨⟨_,rfl⟩,rfl,⟨⟨_,rfl⟩,rfl,⟨⟨_,rfl⟩,rfl,⟨⟨_,rfl⟩,rfl,⟨⟨_,rfl⟩,rfl,⟨⟨_,rfl⟩,rfl,⟨⟨_,rfl⟩,rfl,⟨⟨_,rfl⟩,rfl,⟨⟨_,rfl⟩,rfl,⟨⟨_,rfl⟩,rfl,⟨⟨_,rfl⟩,rfl,⟨⟨_,rfl⟩,rfl,⟨⟨_,rfl⟩,rfl,⟨⟨_,rfl⟩,rfl,⟨⟨_,rfl⟩,rfl,⟨⟨_,rfl⟩,rfl,⟨⟨_,rfl⟩,rfl,⟨⟨_,rfl⟩,rfl,⟨⟨_,rfl⟩,rfl,⟨⟨_,rfl⟩,rfl,⟨⟨_,rfl⟩,rfl,⟨⟨_,rfl⟩,rfl,⟨⟨_,rfl⟩,rfl,⟨⟨_,rfl⟩,rfl,⟨⟨_,rfl⟩,rfl,⟨⟨_,rfl⟩,rfl,⟨⟨_,rfl⟩,rfl,⟨⟨_,rfl⟩,rfl,⟨⟨_,rfl⟩,rfl,⟨⟨_,rfl⟩,rfl,⟨⟨_,rfl⟩,rfl,⟨⟨_,rfl⟩,rfl,⟨⟨_,rfl⟩,rfl,⟨⟨_,rfl⟩,rfl,⟨⟨_,rfl⟩,rfl,⟨⟨_,rfl⟩,rfl,⟨⟨_,rfl⟩,rfl,⟨⟨_,rfl⟩,rfl,⟨⟨_,rfl⟩,rfl,⟨⟨_,rfl⟩,rfl,⟨⟨_,rfl⟩,rfl,⟨⟨_,rfl⟩,rfl,⟨⟨_,rfl⟩,rfl,⟨⟨_,rfl⟩,rfl,⟨⟨_,rfl⟩,rfl,⟨⟨_,rfl⟩,rfl,⟨⟨_,rfl⟩,rfl,⟨⟨_,rfl⟩,rfl,⟨⟨_,rfl⟩,rfl,⟨⟨_,rfl⟩,rfl,⟨⟨_,rfl⟩,rfl,⟨⟨_,rfl⟩,rfl,⟨⟨_,rfl⟩,rfl,⟨⟨_,rfl⟩,rfl,⟨⟨_,rfl⟩,rfl,⟨⟨_,rfl⟩,rfl,⟨⟨_,rfl⟩,rfl,⟨⟨_,rfl⟩,rfl,trivial⟩⟩⟩⟩⟩⟩⟩⟩⟩⟩⟩⟩⟩⟩⟩⟩⟩⟩⟩⟩⟩⟩⟩⟩⟩⟩⟩⟩⟩⟩⟩⟩⟩⟩⟩⟩⟩⟩⟩⟩⟩⟩⟩⟩⟩⟩⟩⟩⟩⟩⟩⟩⟩⟩⟩⟩⟩⟩⟩⟩⟩⟩⟩⟩⟩⟩⟩⟩⟩⟩⟩⟩⟩⟩⟩⟩⟩⟩⟩⟩))))
      (as_aux_lemma=>(refine' TG.P5 ?a7 ?e7 ?kk7 ?ss7;(case a7=>k_is);(case e7=>k_is);(case ss7=>decide);(case kk7=>exact ⟨⟨_,rfl⟩,rfl,⟨_,rfl⟩,⟨⟨_,rfl⟩,rfl,⟨_,rfl⟩,⟨⟨_,rfl⟩,rfl,⟨_,rfl⟩,⟨⟨_,rfl⟩,rfl,⟨_,rfl⟩,⟨⟨_,rfl⟩,rfl,⟨_,rfl⟩,⟨⟨_,rfl⟩,rfl,⟨_,rfl⟩,⟨⟨_,rfl⟩,rfl,⟨_,rfl⟩,⟨⟨_,rfl⟩,rfl,⟨_,rfl⟩,⟨⟨_,rfl⟩,rfl,⟨_,rfl⟩,⟨⟨_,rfl⟩,rfl,⟨_,rfl⟩,⟨⟨_,rfl⟩,rfl,⟨_,rfl⟩,⟨⟨_,rfl⟩,rfl,⟨_,rfl⟩,⟨⟨_,rfl⟩,rfl,⟨_,rfl⟩,⟨⟨_,rfl⟩,rfl,⟨_,rfl⟩,⟨⟨_,rfl⟩,rfl,⟨_,rfl⟩,⟨⟨_,rfl⟩,rfl,⟨_,rfl⟩,⟨⟨_,rfl⟩,rfl,⟨_,rfl⟩,⟨⟨_,rfl⟩,rfl,⟨_,rfl⟩,trivial⟩⟩⟩⟩⟩⟩⟩⟩⟩⟩⟩⟩⟩⟩⟩⟩⟩⟩)))
      (as_aux_lemma=>(refine' TG.P5 ?a8 ?e8 ?kk8 ?ss8;(case a8=>k_is);(case e8=>k_is);(case ss8=>decide);(case kk8=>exact ⟨⟨_,rfl⟩,rfl,⟨_,rfl⟩,⟨⟨_,rfl⟩,rfl,⟨_,rfl⟩,⟨⟨_,rfl⟩,rfl,⟨_,rfl⟩,⟨⟨_,rfl⟩,rfl,⟨_,rfl⟩,⟨⟨_,rfl⟩,rfl,⟨_,rfl⟩,⟨⟨_,rfl⟩,rfl,⟨_,rfl⟩,⟨⟨_,rfl⟩,rfl,⟨_,rfl⟩,trivial⟩⟩⟩⟩⟩⟩⟩)))
      iterate 3 sleep 4
      sleep 7
      sleep 6
      iterate 3 sleep 5
      iterate 15 sleep 8
      iterate 4 (as_aux_lemma=>kts_exm)
    case r =>
      refine' TG.BC.mk ..
      rotate_left 3
      iterate 9 sleep 1
      iterate 3 sleep 4
      iterate 13 sleep 7
      iterate 11 sleep 8
      iterate 4 (as_aux_lemma=>k_is)
      iterate 4 (as_aux_lemma=>kit_is)
      (as_aux_lemma=>(refine' TG.TQ ?a9 ?e9 ?k9 ?s9;(case a9=>k_is);(case e9=>k_is);(case k9=>kernel_rfl);(case s9=>decide)))
    case d => sleep 1
  case S => exact fun K H xs a h1 h2 h3 h4 => TG.A8 K H xs a h1 h2 h3 h4
end
