import PyProof.Rows.All
import OpenK.KWalk
import Wide.All
import OpenK.AllK
import Wide.FinOn
import PyProof.EqAt
import PyProof.EqKinds
import PyProof.TupleCall
import KE.BitLaws
import Open.SpecLaws
import KE.OsHead
import KE.OsGo
import KE.SpHead
import KE.OsShapes
import PyWrxthh
import PySem.Str
import OpenK.KMake
import OpenK.KCls
import PyProof.ExcBaseAll.Exception
import PyProof.RulesAs
import PyProof.ExcArgsOwn
import PyProof.InstStoreFacts
import KE.KTryMore
import KE.RegKTryMore
import KE.RegKIsAll
import PySem.Challenge.RW_twigtext_s04_nodes
set_option Elab.async false
set_option linter.all false
set_option maxRecDepth 100000
set_option maxHeartbeats 0
set_option compiler.extract_closed false
set_option bootstrap.genMatcherCode false
set_option genSizeOf false
noncomputable section
open PySem.W (Frag)
theorem ln0{C:List PySem.Value->Prop}(h:C []):∀us:List PySem.Value,us.length=0->C us
 |[],_=>h
theorem lnS{n:Nat}{C:List PySem.Value->Prop}(h:∀a,∀us:List PySem.Value,us.length=n->C (a::us)):∀us:List PySem.Value,us.length=n+1->C us
 |a::l,e=>h a l (Nat.succ.inj e)
local macro_rules
 |`(↑0)=>`(by decide)
 |`(↑1)=>`(by decide +kernel)
 |`(↑2)=>`(by omega)
 |`(↑3)=>`(⟨rfl,rfl,rfl,↑1,rfl,↑1,↑1⟩)
 |`(↑4)=>`(fun _ _ _ _ _ _=>lnS fun _=>ln0 rfl)
 |`(↑5)=>`(fun _ _ _ _ _ _=>lnS fun _=>lnS fun _=>ln0 rfl)
 |`(↑6)=>`(fun _ _ _ _ _ _=>lnS fun _=>lnS fun _=>lnS fun _=>ln0 rfl)
 |`(↑7)=>`(fun _ _ _ _ _ _=>lnS fun _=>lnS fun _=>lnS fun _=>lnS fun _=>lnS fun _=>ln0 rfl)
namespace HK
open PySem PySem.W
def lv:Option Obj->Option Obj
 |some ⟨_,_,.freed,_⟩=>none
 |o=>o
def pk:List Obj->Nat->List Nat->List (Option Obj)
 |[],_,as=>as.map λ_=>none
 |o::l,i,as=>match as with
  |[]=>[]
  |a::as'=>bif Nat.beq a i then lv (some o)::pk l (Nat.succ i) as' else pk l (Nat.succ i) as
def up:Nat->List Nat->Bool
 |_,[]=>true
 |i,a::as=>Nat.ble i a&&up (Nat.succ a) as
theorem up_le:∀{i j:Nat}{as:List Nat},up i as=true->j<=i->up j as=true
 |_,_,[],_,_=>rfl
 |i,j,a::as,h,hj=>by
  have h:(Nat.ble i a&&up (Nat.succ a) as)=true:=h;rw[Bool.and_eq_true] at h;show(Nat.ble j a&&up (Nat.succ a) as)=true;rw[h.2,Bool.and_true];exact Nat.ble_eq_true_of_le (Nat.le_trans hj (Nat.le_of_ble_eq_true h.1))
theorem pk_eq:∀(l:List Obj)(i:Nat)(as:List Nat),up i as=true->pk l i as=as.map λa=>lv l[a - i]?
 |[],i,as,_=>by
  show(as.map λ_=>none)=_;refine List.map_congr_left λa _=>?_;rw[List.getElem?_nil];rfl
 |o::l,i,[],_=>rfl
 |o::l,i,a::as,h=>by
  have h:(Nat.ble i a&&up (Nat.succ a) as)=true:=h;rw[Bool.and_eq_true] at h;have hi:=Nat.le_of_ble_eq_true h.1;have tl:∀as':List Nat,up (Nat.succ i) as'=true->(as'.map λa=>lv l[a - Nat.succ i]?)=as'.map λa=>lv (o::l)[a - i]?:=λas' hu=>by
   refine List.map_congr_left λb hb=>?_;have hb':Nat.succ i<=b:=by
    clear h;induction as' with
    |nil=>cases hb
    |cons c r ih=>
     have hu:(Nat.ble (Nat.succ i) c&&up (Nat.succ c) r)=true:=hu;rw[Bool.and_eq_true] at hu;have hc:=Nat.le_of_ble_eq_true hu.1;rcases List.mem_cons.mp hb with rfl|hb
     ·exact hc
     ·exact ih (up_le hu.2 ↑2) hb
   rw[show b - i=(b - Nat.succ i)+1 by omega];rfl
  show(bif Nat.beq a i then lv (some o)::pk l (Nat.succ i) as else pk l (Nat.succ i) (a::as))=_;cases e:Nat.beq a i with
  |true=>
   have e:=Nat.eq_of_beq_eq_true e;subst e;rw[cond_true,pk_eq l _ as h.2,tl as h.2,List.map_cons,Nat.sub_self];rfl
  |false=>
   have e:=Nat.ne_of_beq_eq_false e;have hu:up (Nat.succ i) (a::as)=true:=by
    show(Nat.ble (Nat.succ i) a&&up (Nat.succ a) as)=true;rw[h.2,Bool.and_true];exact Nat.ble_eq_true_of_le ↑2
   rw[cond_false,pk_eq l _ (a::as) hu,tl (a::as) hu]
theorem pk_get(h:Heap)(as:List Nat)(hu:up 0 as=true):pk h.objs.toList 0 as=as.map h.get?:=by rw[pk_eq _ _ _ hu];refine List.map_congr_left λa _=>?_;rw[Nat.sub_zero];rw[Array.getElem?_toList];rfl
structure Ats(K:Params->Frag) where
 as:List Addr
 e:∀P,as=(K P).map (·.1)
 u:up 0 as=true
def hk(K:Params->Frag)(A:Ats K):Hook:=
 ⟨List (Option Obj),λs=>pk s.heap.objs.toList 0 A.as,λw=>(K w.params).map λp=>some p.2,InK K,λw s h=>InK.of A.e w s ((pk_get s.heap A.as A.u).symm.trans h),InK.keeps⟩
theorem hk_in{K:Params->Frag}{A:Ats K}{w:World}{h:Heap}(Y:(hk K A).says w h):(K w.params).In h:=Y
end HK
namespace L2
open PySem PySem.Spec PyProof.Rows
variable{us:List Value}{x:Str}{u:Value}{H:Hp}{a:Addr}{b:Addr}{P:Program}{w:World}{A:Around}{E:Value->Shared->Prop}{Q:Value->Shared->Prop}{s:Shared}{US:List (Addr×Obj)}{σ:St}{K:Frag}
abbrev Key:=Sum Int Str
def u6:Key->Value->Bool
 | .inl k,v=>Value.isInt k v
 | .inr x,v=>Value.isStrOf x v
def S4(w:World):Key->Int
 | .inl k=>hashInt k
 | .inr x=>hashStr w x
theorem bP:∀{k:Key}{v:Value},u6 k v=true->(∃i t,k=Sum.inl i/\v=Value.int i t)\/(∃x t,k=Sum.inr x/\v=Value.str x t)
 | .inl i,v,h=>by
  obtain⟨t,e⟩:=Value.isInt_shape (k:=i) (v:=v) h;exact .inl ⟨i,t,rfl,e⟩
 | .inr x,v,h=>by
  obtain⟨t,e⟩:=Value.isStrOf_shape (x:=x) (v:=v) h;exact .inr ⟨x,t,rfl,e⟩
theorem Ep(i:Int)(t:Tok):u6 (.inl i) (.int i t)=true:=by simp[u6,Value.isInt]
theorem Fh(x:Str)(t:Tok):u6 (.inr x) (.str x t)=true:=by simp[u6,Value.isStrOf]
theorem NY(a b:Int):decide ((Sum.inl a:Key)=Sum.inl b)=(a==b):=by
 by_cases e:a=b
 ·subst e;simp
 ·have h:¬(Sum.inl a:Key)=Sum.inl b:=λq=>e (Sum.inl.inj q);rw[decide_eq_false h];exact(beq_eq_false_iff_ne.mpr e).symm
theorem N6(a b:Str):decide ((Sum.inr a:Key)=Sum.inr b)=decide (a=b):=by
 by_cases e:a=b
 ·subst e;simp
 ·have h:¬(Sum.inr a:Key)=Sum.inr b:=λq=>e (Sum.inr.inj q);rw[decide_eq_false h,decide_eq_false e]
theorem OF(a:Int)(b:Str):decide ((Sum.inl a:Key)=Sum.inr b)=false:=decide_eq_false (λq=>nomatch q)
theorem Mq(a:Str)(b:Int):decide ((Sum.inr a:Key)=Sum.inl b)=false:=decide_eq_false (λq=>nomatch q)
def cY(prog:Program)(w:World):PySem.KeyKind prog w Key where
 is:=u6
 hash:=S4 w
 inj:=λv a b ha hb=>by
  rcases bP ha with⟨i,t,rfl,rfl⟩|⟨x,t,rfl,rfl⟩
  ·rcases bP hb with⟨j,u,rfl,e⟩|⟨y,u,rfl,e⟩
   ·injection e with e1 _;rw[e1]
   ·exact nomatch e
  ·rcases bP hb with⟨j,u,rfl,e⟩|⟨y,u,rfl,e⟩
   ·exact nomatch e
   ·injection e with e1 _;rw[e1]
 byValue:=λk v h=>by
  rcases bP h with⟨i,t,rfl,rfl⟩|⟨x,t,rfl,rfl⟩ <;> rfl
 pyHash:=λhv h=>by
  rcases bP hv with⟨i,t,rfl,rfl⟩|⟨x,t,rfl,rfl⟩
  ·exact wpAny_pyHash_int h
  ·exact wpAny_pyHash_str h
 eqBool:=λhu hv h=>by
  rcases bP hu with⟨i,t,rfl,rfl⟩|⟨x,t,rfl,rfl⟩
  ·rcases bP hv with⟨j,u,rfl,rfl⟩|⟨y,u,rfl,rfl⟩
   ·rw[NY] at h;exact wpAny_eqBool_int h
   ·rw[OF] at h;exact SeqAt.EqAt.int_str i t y u _ _ _ _ h
  ·rcases bP hv with⟨j,u,rfl,rfl⟩|⟨y,u,rfl,rfl⟩
   ·rw[Mq] at h;exact SeqAt.EqAt.str_int x t j u _ _ _ _ h
   ·rw[N6] at h;exact wpAny_eqBool_str h
 «strs»:=λk x t v h=>by
  rcases bP h with⟨i,u,rfl,e⟩|⟨y,u,rfl,e⟩
  ·exact nomatch e
  ·injection e with e1 _;subst e1;cases v <;> rfl
theorem zu(prog:Program)(w:World)(i:Int)(t:Tok):(cY prog w).is (.inl i) (.int i t)=true:=Ep i t
theorem za(prog:Program)(w:World)(x:Str)(t:Tok):(cY prog w).is (.inr x) (.str x t)=true:=Fh x t
inductive V where
 |bF|bl (b:Bool)|int (i:Int)|str (x:Str)|bW (b:Array UInt8)|JA (b:UInt64)|ref (a:Addr)|ty (n:String)
 deriving DecidableEq
def RelV:V->Value->Prop
 | .bF,u=>u=Value.none
 | .bl b,u=>u=Value.bool b
 | .int i,u=>∃t,u=Value.int i t
 | .str x,u=>∃t,u=Value.str x t
 | .bW b,u=>∃t,u=Value.bytes b t
 | .JA b,u=>∃t,u=Value.float b t
 | .ref a,u=>u=Value.ref a
 | .ty n,u=>u=Value.type n
abbrev Vals:List V->List Value->Prop:=Paired RelV
theorem Vals.length{xs:List V}(r:Vals xs us):xs.length=us.length:=Paired.length r
theorem Vals.get:∀{xs:List V}{us:List Value}{i:Nat}{x:V},Vals xs us->xs[i]?=some x->∃u,us[i]?=some u/\RelV x u
 |_,_,_,_,.nil,e=>by simp at e
 |_,_,0,_,.cons r _,e=>by simp at e;subst e;exact⟨_,rfl,r⟩
 |_,_,i+1,x,.cons _ t,e=>by
  obtain⟨u,h1,h2⟩:=Vals.get (i:=i) (x:=x) t (by simpa using e);exact⟨u,by simpa using h1,h2⟩
theorem Vals.set{x:V}(r:RelV x u):∀{xs:List V}{us:List Value}(i:Nat),Vals xs us->Vals (xs.set i x) (us.set i u)
 |_,_,_,.nil=>.nil
 |_,_,0,.cons _ t=>.cons r t
 |_,_,i+1,.cons q t=>.cons q (Vals.set r i t)
theorem Vals.append:∀{xs ys:List V}{us ws:List Value},Vals xs us->Vals ys ws->Vals (xs++ys) (us++ws)
 |_,_,_,_,.nil,s=>s
 |_,_,_,_,.cons r t,s=>.cons r (Vals.append t s)
theorem Vals.take:∀{xs:List V}{us:List Value}(n:Nat),Vals xs us->Vals (xs.take n) (us.take n)
 |_,_,0,_=>.nil
 |_,_,_+1,.nil=>.nil
 |_,_,n+1,.cons r t=>.cons r (Vals.take n t)
theorem Vals.drop:∀{xs:List V}{us:List Value}(n:Nat),Vals xs us->Vals (xs.drop n) (us.drop n)
 |_,_,0,r=>r
 |_,_,_+1,.nil=>.nil
 |_,_,n+1,.cons _ t=>Vals.drop n t
def d7:Option V->Option Value->Prop
 |some v,some u=>RelV v u
 |none,none=>True
 |_,_=>False
def KV{κ:Type}:List (κ×V)->List (κ×Value)->Prop:=Paired λ(p:κ×V)(q:κ×Value)=>p.1=q.1/\RelV p.2 q.2
def kV:Key->V
 | .inl i=>.int i
 | .inr x=>.str x
inductive HO where
 |lst(xs:List V)
 |tup(xs:List V)
 |dK(kvs:List (Key×V))|dT (kvs:List (List Key×V))
 |set(S:Int->Bool) (n:Nat)
 |ins(C dx:Addr) (fs:List (Str×V))
 |own(x:Addr)
 |xd(fs:List (Str×V))
 |met(f x:Addr)
 |Tz(lo hi:Int)
 |sQ(o:Obj) (u:HO)
 |Og(ps:Array Value)
 |ext(φ:Heap->Prop)
abbrev Hp:=Addr->Option HO
def upd(H:Hp)(a:Addr)(o:HO):Hp:=λb=>if b=a then some o else H b
theorem ag{o:HO}:upd H a o a=some o:=by unfold upd;rw[if_pos rfl]
theorem ah{o:HO}(h:b≠a):upd H a o b=H b:=by unfold upd;rw[if_neg h]
theorem dB{o u:HO}(h:H a=some o)(h':H b=some u)(d:o≠u):a≠b:=by intro e;subst e;rw[h] at h';exact d (Option.some.inj h')
theorem au{o:HO}(h:H a=some o)(h':H b=none):a≠b:=by intro e;subst e;rw[h] at h';cases h'
section
variable(P:Program)(w:World)
def bL(H:Hp)(h:Heap)(a:Addr):HO->Prop
 | .lst xs=>xs.length<=sizeLine/\∃(its:List Value)(n:Nat),Vals xs its/\h.get? a=some {cls:=.type "list",data:=.seq its.toArray n}
 | .tup xs=>xs.length<=sizeLine/\∃its:List Value,Vals xs its/\IsTup h a its.toArray
 | .dK kvs=>kvs.length<=sizeLine/\(a==sysModules)=false/\∃vs,KV kvs vs/\h.DictOf (cY P w) a vs
 | .dT kvs=>kvs.length<=sizeLine/\(a==sysModules)=false/\∃xs:List (List Key×Addr×Value),
   Paired (λ(p:List Key×V)(q:List Key×Addr×Value)=>p.1=q.1/\H q.2.1=some (.tup (p.1.map kV))/\RelV p.2 q.2.2) kvs xs/\
   ∃o es ep,h.get? a=some o/\o.ExactDict/\o.data= .dict es ep/\es.toList=xs.map (entryOfKey (tupleKind (cY P w)))/\(xs.map (·.1)).Nodup
 | .set S n=>h.SetOf (intKind P w) a S n
 | .ins C dx fs=>H dx=some (.own a)/\fs.length<=1000/\dx≠a/\h.get? a=some (PySem.W.instObj C dx)/\
   ∃mA,h.Ns1 dx mA/\(∀f,d7 (fs.lookup f) (mA f))/\PySem.Within mA (fs.map (·.1))
 | .own _=>∃o,h.get? a=some o
 | .xd fs=>∃mA,h.Ns1 a mA/\∀f,d7 (fs.lookup f) (mA f)
 | .Tz lo hi=>∃t u v,h.get? a=some {cls:=.type "range",data:=.fields #[.int lo t,.int hi u,.int 1 v]}
 | .sQ o u=>h.get? a=some o/\bL H h a u
 | .Og ps=>h.get? a=some {cls:=.none,data:=.fields ps}
 | .met f x=>h.get? a=some (PySem.W.methodObj (.ref f) (.ref x))
 | .ext φ=>φ h/\(∃o,h.get? a=some o)/\∀h1 h2:Heap,φ h1->(∀o,h1.get? a=some o->h2.get? a=some o)->φ h2
def gy(H:Hp)(h:Heap):Prop:=∀a o,H a=some o->bL P w H h a o
end
section
variable{P:Program}{w:World}{H H':Hp}{h h':Heap}{a:Addr}{o:HO}
theorem bL.lt(x:bL P w H h a o):a<h.objs.size:=by
 cases o with
 |lst xs=>obtain⟨_,_,_,_,e⟩:=x;exact Heap.lt_size e
 |tup xs=>obtain⟨_,_,_,p⟩:=x;exact p.lt
 |dK kvs=>obtain⟨_,_,_,_,o,_,_,e,_⟩:=x;exact Heap.lt_size e
 |dT kvs=>obtain⟨_,_,_,_,o,_,_,e,_⟩:=x;exact Heap.lt_size e
 |set S n=>obtain⟨o,_,_,_,e,_⟩:=x;exact Heap.lt_size e
 |ins C dx fs=>obtain⟨_,_,_,e,_⟩:=x;exact Heap.lt_size e
 |own y=>obtain⟨_,e⟩:=x;exact Heap.lt_size e
 |xd fs=>obtain⟨_,⟨_,_,_,e,_⟩,_⟩:=x;exact Heap.lt_size e
 |Tz lo hi=>obtain⟨_,_,_,e⟩:=x;exact Heap.lt_size e
 |sQ ob u=>obtain⟨e,_⟩:=x;exact Heap.lt_size e
 |Og ps=>exact Heap.lt_size (show h.get? a=some _ from x)
 |met f y=>exact Heap.lt_size (show h.get? a=some _ from x)
 |ext φ=>obtain⟨_,⟨_,e⟩,_⟩:=x;exact Heap.lt_size e
theorem Paired.K5{α β:Type}{F G:α->β->Prop}:∀{l₁:List α}{l₂:List β},Paired F l₁ l₂->(∀a b,F a b->G a b)->Paired G l₁ l₂
 |_,_,.nil,_=>.nil
 |_,_,.cons r t,f=>.cons (f _ _ r) (Paired.K5 t f)
theorem Paired.imp'{α β:Type}{F G:α->β->Prop}(f:∀a b,F a b->G a b){l₁:List α}{l₂:List β}(r:Paired F l₁ l₂):Paired G l₁ l₂:=Paired.K5 r f
theorem bL.Af(x:bL P w H h a o)(k:∀b u,(b=a\/H b=some (.own a))->h.get? b=some u->h'.get? b=some u)(ho:∀b,H b=some (.own a)->H' b=some (.own a))(ht:∀b xs,H b=some (.tup xs)->H' b=some (.tup xs)):bL P w H' h' a o:=by
 induction o with
 |lst xs=>obtain⟨z,its,n,r,e⟩:=x;exact⟨z,its,n,r,k _ _ (.inl rfl) e⟩
 |tup xs=>obtain⟨z,its,r,ob,e,c⟩:=x;exact⟨z,its,r,ob,k _ _ (.inl rfl) e,c⟩
 |dK kvs=>obtain⟨z,y,vs,r,ob,es,ep,e,c⟩:=x;exact⟨z,y,vs,r,ob,es,ep,k _ _ (.inl rfl) e,c⟩
 |dT kvs=>
  obtain⟨z,y,xs,r,ob,es,ep,e,c⟩:=x;exact⟨z,y,xs,Paired.K5 r λp q z=>⟨z.1,ht _ _ z.2.1,z.2.2⟩,ob,es,ep,k _ _ (.inl rfl) e,c⟩
 |set S n=>obtain⟨ob,es,ep,t,e,c⟩:=x;exact⟨ob,es,ep,t,k _ _ (.inl rfl) e,c⟩
 |ins C dx fs=>
  obtain⟨d,z,ne,e,mA,⟨od,es,ep,e2,c⟩,r⟩:=x;exact⟨ho _ d,z,ne,k _ _ (.inl rfl) e,mA,⟨od,es,ep,k _ _ (.inr d) e2,c⟩,r⟩
 |own y=>obtain⟨ob,e⟩:=x;exact⟨ob,k _ _ (.inl rfl) e⟩
 |xd fs=>obtain⟨mA,⟨od,es,ep,e,c⟩,r⟩:=x;exact⟨mA,⟨od,es,ep,k _ _ (.inl rfl) e,c⟩,r⟩
 |Tz lo hi=>obtain⟨t,u,v,e⟩:=x;exact⟨t,u,v,k _ _ (.inl rfl) e⟩
 |sQ ob u ih=>obtain⟨e,q⟩:=x;exact⟨k _ _ (.inl rfl) e,ih q⟩
 |Og ps=>
  have e:h.get? a=some {cls:=.none,data:=.fields ps}:=x;show h'.get? a=some {cls:=.none,data:=.fields ps};exact k a _ (.inl rfl) e
 |met f y=>
  have e:h.get? a=some (PySem.W.methodObj (.ref f) (.ref y)):=x;show h'.get? a=some (PySem.W.methodObj (.ref f) (.ref y));exact k a _ (.inl rfl) e
 |ext φ=>obtain⟨p,⟨o,e⟩,st⟩:=x;exact⟨st _ _ p λo q=>k _ _ (.inl rfl) q,⟨o,k _ _ (.inl rfl) e⟩,st⟩
theorem gy.lt(x:gy P w H h)(e:H a=some o):a<h.objs.size:=(x a o e).lt
theorem gy.fresh(x:gy P w H h)(e:h.objs.size<=a):H a=none:=by
 cases q:H a with
 |none=>rfl
 |some u=>exact absurd (Nat.lt_of_lt_of_le (x.lt q) e) (Nat.lt_irrefl _)
theorem gy.kept(x:gy P w H h)(k:∀b u,h.get? b=some u->h'.get? b=some u):gy P w H h':=λa o e=>
 (x a o e).Af (λb u _ q=>k b u q) (λ_ q=>q) λ_ _ q=>q
theorem gy.laid(x:gy P w H h)(k:∀b u,h.get? b=some u->h'.get? b=some u)(hp:h.objs.size<=a)(new:bL P w (upd H a o) h' a o):gy P w (upd H a o) h':=λb u e=>by
 have hn:=x.fresh hp;by_cases hb:b=a
 ·subst hb;rw[ag] at e;cases e;exact new
 ·rw[ah hb] at e;exact(x b u e).Af (λc v _ q=>k c v q) (λc q=>by rw[ah (au q hn)];exact q) λc xs q=>by rw[ah (au q hn)];exact q
end
def Rd(H:Hp)(a:Addr)(u:HO):Prop:=H a=some u\/∃o,H a=some (.sQ o u)
theorem Rd.ok{h:Heap}{u:HO}(r:Rd H a u)(x:gy P w H h):bL P w H h a u:=by
 rcases r with r|⟨o,r⟩
 ·exact x a u r
 ·obtain⟨_,q⟩:=x a _ r;exact q
def Pw:Option HO->Prop
 |some (.lst _)=>True
 |some (.dK _)=>True
 |some (.dT _)=>True
 |some (.set _ _)=>True
 |some (.ins _ _ _)=>True
 |some (.ext _)=>True
 |_=>False
section
variable{P:Program}{w:World}{H:Hp}{h h':Heap}{x e:Addr}{o':HO}
theorem gy.write(ok:gy P w H h)(mu:Pw (H x))(he:e=x\/H e=some (.own x))(k:∀b u,b≠e->h.get? b=some u->h'.get? b=some u)(heo:∃u,h'.get? e=some u)(new:bL P w (upd H x o') h' x o'):gy P w (upd H x o') h':=λb u q=>by
 have nown:∀c y,H c=some (.own y)->c≠x:=λc y r z=>by subst z;rw[r] at mu;exact mu
 have ntup:∀c xs,H c=some (.tup xs)->c≠x:=λc xs r z=>by subst z;rw[r] at mu;exact mu
 by_cases hb:b=x
 ·subst hb;rw[ag] at q;cases q;exact new
 ·rw[ah hb] at q;by_cases hbe:b=e
  ·have q':H b=some (.own x):=by
    rcases he with z|z
    ·exact absurd (hbe.trans z) hb
    ·rw[hbe];exact z
   rw[q] at q';cases q';obtain⟨v,hv⟩:=heo;exact⟨v,by rw[hbe];exact hv⟩
  ·refine(ok b u q).Af (λc v hc r=>k c v ?_ r) (λc r=>by rw[ah (nown c b r)];exact r) λc xs r=>by rw[ah (ntup c xs r)];exact r
   rcases hc with rfl|hc
   ·exact hbe
   ·rintro rfl;rcases he with z|z
    ·exact nown c b hc z
    ·rw[hc] at z;cases z;exact hb rfl
end
structure Un(fs ex:List Addr)(H H':Hp)(h h':Heap):Prop where
 keep:∀b o,h.get? b=some o->H b=none->b∉fs->b∉ex->h'.get? b=some o
 slot:∀b o,h.get? b=some o->H b=none->b∈fs->b∉ex->∃sl,h'.get? b=some {o with slots:=sl}
 free:∀b o,h.get? b=some o->H b=none->b∉ex->H' b=none
 there:∀b o,h.get? b=some o->b∉ex->∃o',h'.get? b=some o'
 p6:∀b xs,H b=some (.tup xs)->H' b=some (.tup xs)
 mR:∀b o u,H b=some (.sQ o u)->H' b=some (.sQ o u)
 pF:∀b ps,H b=some (.Og ps)->∃more,H' b=some (.Og (ps++more))
section
variable{fs fs' ex ex':List Addr}{H H1 H2:Hp}{h h1 h2 h':Heap}{a x e:Addr}{o:HO}
theorem Un.any(u:Un fs ex H H1 h h1){ob:Obj}(q:h.get? b=some ob)(n:H b=none)(hx:b∉ex):∃sl,h1.get? b=some {ob with slots:=sl}:=by
 by_cases hb:b∈fs
 ·exact u.slot b ob q n hb hx
 ·exact⟨ob.slots,u.keep b ob q n hb hx⟩
theorem Un.trans(a:Un fs ex H H1 h h1)(b:Un fs ex H1 H2 h1 h2):Un fs ex H H2 h h2 where
 keep:=λc ob q n hc hx=>b.keep c ob (a.keep c ob q n hc hx) (a.free c ob q n hx) hc hx
 slot:=λc ob q n hc hx=>by
  obtain⟨sl,e1⟩:=a.slot c ob q n hc hx;obtain⟨sl',e2⟩:=b.slot c _ e1 (a.free c ob q n hx) hc hx;exact⟨sl',e2⟩
 free:=λc ob q n hx=>by
  obtain⟨o',e1⟩:=a.there c ob q hx;exact b.free c o' e1 (a.free c ob q n hx) hx
 there:=λc ob q hx=>by
  obtain⟨o',e1⟩:=a.there c ob q hx;exact b.there c o' e1 hx
 p6:=λc xs q=>b.p6 c xs (a.p6 c xs q)
 mR:=λc ob xs q=>b.mR c ob xs (a.mR c ob xs q)
 pF:=λc ps q=>by
  obtain⟨m1,e1⟩:=a.pF c ps q;obtain⟨m2,e2⟩:=b.pF c _ e1;exact⟨m1++m2,by rw[e2,Array.append_assoc]⟩
theorem Un.kept(k:∀b u,h.get? b=some u->h'.get? b=some u):Un fs ex H H h h':=
 ⟨λb ob q _ _ _=>k b ob q,λb ob q _ _ _=>⟨ob.slots,k b ob q⟩,λ_ _ _ n _=>n,λb ob q _=>⟨ob,k b ob q⟩,λ_ _ q=>q,λ_ _ _ q=>q,λ_ ps q=>⟨#[],by rw[q];simp⟩⟩
theorem Un.refl:Un fs ex H H h h:=Un.kept λ_ _ q=>q
theorem Un.laid(k:∀b u,h.get? b=some u->h'.get? b=some u)(hp:h.objs.size<=a)(hn:H a=none):Un fs ex H (upd H a o) h h' where
 keep:=λb u q _ _ _=>k b u q
 slot:=λb u q _ _ _=>⟨u.slots,k b u q⟩
 free:=λb u q n _=>by rw[ah (Nat.ne_of_lt (Nat.lt_of_lt_of_le (Heap.lt_size q) hp))];exact n
 there:=λb u q _=>⟨u,k b u q⟩
 p6:=λb xs q=>by rw[ah (au q hn)];exact q
 mR:=λb u xs q=>by rw[ah (au q hn)];exact q
 pF:=λb ps q=>⟨#[],by rw[ah (au q hn),q];simp⟩
theorem Un.write(mu:Pw (H x))(he:e=x\/H e=some (.own x))(k:∀b u,b≠e->h.get? b=some u->h'.get? b=some u)(heo:∃u,h'.get? e=some u):Un fs ex H (upd H x o) h h':=by
 have hx:∀b,H b=none->b≠x:=λb n z=>by subst z;rw[n] at mu;exact mu
 have hb:∀b,H b=none->b≠e:=λb n z=>by
  subst z;rcases he with r|r
  ·exact hx b n r
  ·rw[n] at r;cases r
 have hm:∀b u,H b=some u->¬Pw (some u)->b≠x:=λb u q nm z=>by subst z;rw[q] at mu;exact nm mu
 refine⟨λb u q n _ _=>k b u (hb b n) q,λb u q n _ _=>⟨u.slots,k b u (hb b n) q⟩,λb u q n _=>by rw[ah (hx b n)];exact n,λb u q _=>?_,
  λb xs q=>by rw[ah (hm b _ q λz=>z)];exact q,λb u xs q=>by rw[ah (hm b _ q λz=>z)];exact q,λb ps q=>⟨#[],by rw[ah (hm b _ q λz=>z),q];simp⟩⟩
 by_cases hbe:b=e
 ·subst hbe;exact heo
 ·exact⟨u,k b u hbe q⟩
end
def Sl(h:Heap)(H:Hp):List Addr:=(List.range h.objs.size).filter λa=>(H a).isSome
def wq(h:Heap)(H:Hp):Heap:=PySem.W.hideAll h (Sl h H)
theorem Fq(h:Heap)(H:Hp):(wq h H).objs.size=h.objs.size:=PySem.W.hideAll_size _ _
theorem Hj{h:Heap}{o:Obj}(e:h.get? b=some o)(n:H b=none):(wq h H).get? b=some o:=
 PySem.W.hideAll_get _ e λhm=>by
  have q:(H b).isSome=true:=(List.mem_filter.mp hm).2;rw[n] at q;simp at q
theorem Kf{h:Heap}{o:Obj}(e:(wq h H).get? b=some o):h.get? b=some o/\H b=none:=by
 have e':h.get? b=some o:=PySem.W.of_hideAll (Sl h H) e;refine⟨e',?_⟩;cases q:H b with
 |none=>rfl
 |some x=>
  have hm:b∈Sl h H:=List.mem_filter.mpr ⟨List.mem_range.mpr (Heap.lt_size e'),by simp[q]⟩;have z:(wq h H).get? b=none:=PySem.W.hideAll_none (Sl h H) hm;rw[z] at e;cases e
structure Mod(K:Frag)(mg:Str->Option Value)(base:Heap):Prop where
 D':K.In base
 glob:base.Ns mainGlobals mg
 blt:∃mb,base.Ns builtinsNs mb/\∀x:Str,x≠"__name__"->mb x=bootBuiltins x
 nolimit:base.NoLimit
structure Cx where
 prog:Program
 w:World
 K:Frag
 mg:Str->Option Value
 base:Heap
 A:Around
 N:List Str
 m8:Shared
 Qz:Hp
 env:Env
 outer:List Env
 stack:List Env
 ex:List Addr
 fn:Str->Bool
 calm:Bool
 pn:List (Addr×Obj)
 xe:Value->Shared->Prop
def lU(l:List Env):List Addr:=l.filterMap (·.frame)
abbrev Cx.fs(X:Cx):List Addr:=lU X.outer
def MJ(sc:Scope)(x:Str):Prop:=sc.names.lookup x=some .local\/sc.names.lookup x=some .cell\/sc.names.lookup x=some .free
def Loc(sc:Scope)(x:Str):Prop:=sc.names.lookup x=some .local\/sc.names.lookup x=some .cell
def Look(env:Env)(h:Heap)(m:Str->Option Value)(x:Str)(u:Value):Prop:=
 (env.kindOf x=some .local/\m x=some u)\/((env.kindOf x=some .cell\/env.kindOf x=some .free)/\∃c,env.cells.lookup x=some c/\h.IsCell c (some u))
structure Cx.Ok(X:Cx):Prop where
 mod:Mod X.K X.mg X.base
 kind:X.env.scope.kind= .function
 glob:X.env.globals=mainGlobals
 blt:X.env.builtins=builtinsNs
 above:X.m8.heap.objs.size<=X.env.locals
 inj:∀x y c,X.env.cells.lookup x=some c->X.env.cells.lookup y=some c->x=y
 has:∀x,(X.env.kindOf x=some .cell\/X.env.kindOf x=some .free)->∃c,X.env.cells.lookup x=some c
 M':∀x c,X.fn x=true->X.env.cells.lookup x=some c->X.m8.heap.objs.size<=c
 hd:X.calm=true->X.A.handled=none
 frames:X.A.frames=some X.stack
 OT:X.stack=X.outer\/(X.stack=X.env::X.outer/\X.env.frame=some X.env.locals)
 Pn:∀b∈X.ex,b≠X.env.locals/\∀x c,X.env.cells.lookup x=some c->c≠b
 bs:∀b o,X.base.get? b=some o->X.m8.heap.get? b=some o/\X.Qz b=none
 Fz:X.base.objs.size<=X.m8.heap.objs.size
 Cg:∀b o,X.base.get? b=some o->b∉X.ex
 B6:∀b∈X.ex,b∉X.fs
 jY:X.m8.heap.FunFrames X.base X.outer
 Jx:∀b∈X.fs,X.Qz b=none
structure Inv(X:Cx)(US:List (Addr×Obj))(σ:List (Option V))(H:Hp)(s:Shared):Prop where
 ok:X.Ok
 os:s.os=X.m8.os
 bare:AllBare s.gens
 base:Un X.fs X.ex X.Qz H X.m8.heap s.heap
 loc:∃m,s.heap.Ns X.env.locals m/\∀(i:Nat)(x:Str)(v:V),X.N[i]?=some x->σ[i]?=some (some v)->MJ X.env.scope x->∃u,RelV v u/\Look X.env s.heap m x u
 cell:∀x c,X.env.cells.lookup x=some c->∃v,s.heap.IsCell c v
 free:H X.env.locals=none
 fj:∀x c,X.env.cells.lookup x=some c->H c=none
 pin:∀p∈X.pn++US,s.heap.get? p.1=some p.2/\H p.1=none/\p.1≠X.env.locals/\p.1∉X.fs/\∀v,p.2.data≠.cell v
 aZ:gy X.prog X.w H s.heap
 len:σ.length=X.N.length
section
variable{X:Cx}{US:List (Addr×Obj)}{σ:List (Option V)}{H H':Hp}{s:Shared}{h':Heap}
theorem Cx.Ok.TU(ok:X.Ok){o:Obj}(e:X.base.get? b=some o):b∉X.fs:=λhb=>by
 have:=(ok.jY.mem hb).1;rw[e] at this;cases this
theorem Inv.bs(I:Inv X US σ H s):∀b o,X.base.get? b=some o->s.heap.get? b=some o/\H b=none:=λb o e=>
 ⟨I.base.keep b o (I.ok.bs b o e).1 (I.ok.bs b o e).2 (I.ok.TU e) (I.ok.Cg b o e),I.base.free b o (I.ok.bs b o e).1 (I.ok.bs b o e).2 (I.ok.Cg b o e)⟩
theorem Inv.bk(I:Inv X US σ H s):∀b o,X.base.get? b=some o->s.heap.get? b=some o:=λb o e=>(I.bs b o e).1
theorem Inv.mod(I:Inv X US σ H s):Mod X.K X.mg X.base:=I.ok.mod
theorem Inv.d5(I:Inv X US σ H s):X.K.In s.heap:=I.ok.mod.D'.keeps I.bk
theorem Inv.lt(I:Inv X US σ H s):X.env.locals<s.heap.objs.size:=let⟨_,hn,_⟩:=I.loc;hn.lt
theorem Inv.sz(I:Inv X US σ H s):X.m8.heap.objs.size<=s.heap.objs.size:=Nat.le_trans I.ok.above (Nat.le_of_lt I.lt)
theorem Inv.SN(I:Inv X US σ H s)(h:s.heap.objs.size<=a):a∉X.fs:=λhb=>by
 obtain⟨_,o,ho,_⟩:=I.ok.jY.mem hb;exact absurd (Nat.lt_of_lt_of_le (Heap.lt_size ho) (Nat.le_trans I.sz h)) (Nat.lt_irrefl _)
theorem Inv.Me(I:Inv X US σ H s):∀x c,X.env.cells.lookup x=some c->c≠X.env.locals:=λx c e z=>by
 obtain⟨v,o,ho,hd⟩:=I.cell x c e;obtain⟨m,⟨o',es,ep,ho',hd',_⟩,_⟩:=I.loc;rw[z,ho'] at ho;cases ho;rw[hd'] at hd;cases hd
theorem Inv.jY(I:Inv X US σ H s):s.heap.FunFrames X.base X.outer:=by
 have all:∀(l:List Env),(∀b∈lU l,b∈X.fs)->X.m8.heap.FunFrames X.base l->s.heap.FunFrames X.base l:=by
  intro l;induction l with
  |nil=>intro _ _;trivial
  |cons env r ih=>
   intro hs hl;obtain⟨hk,⟨L,o,hf,hn,ho,hd⟩,hr⟩:=hl;have hL:L∈X.fs:=hs L (by unfold lU;rw[List.filterMap_cons,hf];exact List.mem_cons_self);obtain⟨sl,e⟩:=I.base.slot L o ho (I.ok.Jx L hL) hL λz=>I.ok.B6 L z hL;exact⟨hk,⟨L,_,hf,hn,e,hd⟩,ih (λb hb=>hs b (by unfold lU;rw[List.filterMap_cons,hf];exact List.mem_cons_of_mem _ hb)) hr⟩
 exact all X.outer (λ_ hb=>hb) I.ok.jY
theorem Inv.stack(I:Inv X US σ H s):s.heap.FunFrames X.base X.stack:=by
 rcases I.ok.OT with e|⟨e,hf⟩
 ·rw[e];exact I.jY
 ·rw[e];obtain⟨m,hn,_⟩:=I.loc;refine .cons (by rw[I.ok.kind];decide) hf hn ?_ I.jY;exact Heap.get?_none_of_le (Nat.le_trans I.ok.Fz I.ok.above)
theorem Inv.wH(I:Inv X US σ H s):∀b∈lU X.stack,b∈X.env.locals::X.fs:=λb hb=>by
 rcases I.ok.OT with e|⟨e,hf⟩
 ·rw[e] at hb;exact List.mem_cons_of_mem _ hb
 ·rw[e] at hb;unfold lU at hb;rw[List.filterMap_cons,hf] at hb;exact hb
theorem Inv.xZ(I:Inv X US σ H s):∀b∈lU X.stack,H b=none:=λb hb=>by
 rcases List.mem_cons.mp (I.wH b hb) with e|hb
 ·rw[e];exact I.free
 ·obtain⟨_,o,ho,_⟩:=I.ok.jY.mem hb;exact I.base.free b o ho (I.ok.Jx b hb) λz=>I.ok.B6 b z hb
theorem Inv.step{g':Array GenState}{t':Nat}{d':Drawn}{ch:List Addr}(I:Inv X US σ H s)(hch:∀b∈ch,(b∈X.ex\/X.m8.heap.objs.size<=b)/\b≠X.env.locals/\(∀x c,X.env.cells.lookup x=some c->c≠b)/\∀p∈X.pn++US,p.1≠b)(keep:∀b o,b≠X.env.locals->b∉X.fs->b∉ch->s.heap.get? b=some o->H b=none->h'.get? b=some o)(slot:∀b o,b≠X.env.locals->b∈X.fs->b∉ch->s.heap.get? b=some o->H b=none->∃sl,h'.get? b=some {o with slots:=sl})(free:∀b o,b∉ch->s.heap.get? b=some o->H b=none->H' b=none)(there:∀b o,b∉ch->s.heap.get? b=some o->∃o',h'.get? b=some o')(p6:∀b xs,H b=some (.tup xs)->H' b=some (.tup xs))(mR:∀b o u,H b=some (.sQ o u)->H' b=some (.sQ o u))(pF:∀b ps,H b=some (.Og ps)->∃more,H' b=some (.Og (ps++more)))(ns:∀m,s.heap.Ns X.env.locals m->h'.Ns X.env.locals m)(aZ:gy X.prog X.w H' h')(hg:AllBare g'):
  Inv X US σ H' {s with heap:=h',gens:=g',drawn:=d',toks:=t'}:=by
 have neL:∀b o,X.m8.heap.get? b=some o->b≠X.env.locals:=λb o e=>Nat.ne_of_lt (Nat.lt_of_lt_of_le (Heap.lt_size e) I.ok.above);have neC:∀b o,X.m8.heap.get? b=some o->b∉X.ex->b∉ch:=λb o e hx hb=>by
  rcases(hch b hb).1 with z|z
  ·exact hx z
  ·exact absurd (Nat.lt_of_lt_of_le (Heap.lt_size e) z) (Nat.lt_irrefl _)
 have cellK:∀x c,X.env.cells.lookup x=some c->∀v,s.heap.IsCell c v->h'.IsCell c v:=λx c e v ⟨o,ho,hd⟩=>by
  have nch:c∉ch:=λz=>(hch c z).2.2.1 x c e rfl;by_cases hc:c∈X.fs
  ·obtain⟨sl,q⟩:=slot c o (I.Me x c e) hc nch ho (I.fj x c e);exact⟨_,q,hd⟩
  ·exact⟨o,keep c o (I.Me x c e) hc nch ho (I.fj x c e),hd⟩
 refine⟨I.ok,I.os,hg,⟨λb o e n hb hx=>?_,λb o e n hb hx=>?_,λb o e n hx=>?_,λb o e hx=>?_,λb xs e=>p6 b xs (I.base.p6 b xs e),λb o xs e=>mR b o xs (I.base.mR b o xs e),λb ps e=>?_⟩,?_,λx c e=>?_,?_,λx c e=>?_,λp hp=>?_,aZ,I.len⟩
 ·exact keep b o (neL b o e) hb (neC b o e hx) (I.base.keep b o e n hb hx) (I.base.free b o e n hx)
 ·obtain⟨sl,e1⟩:=I.base.slot b o e n hb hx;obtain⟨sl',e2⟩:=slot b _ (neL b o e) hb (neC b o e hx) e1 (I.base.free b o e n hx);exact⟨sl',e2⟩
 ·obtain⟨o',e1⟩:=I.base.there b o e hx;exact free b o' (neC b o e hx) e1 (I.base.free b o e n hx)
 ·obtain⟨o',e1⟩:=I.base.there b o e hx;exact there b o' (neC b o e hx) e1
 ·obtain⟨m1,e1⟩:=I.base.pF b ps e;obtain⟨m2,e2⟩:=pF b _ e1;exact⟨m1++m2,by rw[e2,Array.append_assoc]⟩
 ·obtain⟨m,hn,hl⟩:=I.loc;refine⟨m,ns m hn,λi x v e1 e2 e3=>?_⟩;obtain⟨u,r,l⟩:=hl i x v e1 e2 e3;refine⟨u,r,?_⟩;rcases l with l|⟨k,c,e,z⟩
  ·exact .inl l
  ·exact .inr ⟨k,c,e,cellK x c e _ z⟩
 ·obtain⟨v,z⟩:=I.cell x c e;exact⟨v,cellK x c e v z⟩
 ·obtain⟨m,⟨o,_,_,ho,_⟩,_⟩:=I.loc;exact free _ o (λz=>(hch _ z).2.1 rfl) ho I.free
 ·obtain⟨v,o,ho,hd⟩:=I.cell x c e;exact free c o (λz=>(hch c z).2.2.1 x c e rfl) ho (I.fj x c e)
 ·obtain⟨e,n,ne,nf,d⟩:=I.pin p hp;have nch:p.1∉ch:=λz=>(hch p.1 z).2.2.2 p hp rfl;exact⟨keep p.1 p.2 ne nf nch e n,free p.1 p.2 nch e n,ne,nf,d⟩
theorem Inv.un{t':Nat}(I:Inv X US σ H s)(u:Un X.fs [] H H' s.heap h')(aZ:gy X.prog X.w H' h'):Inv X US σ H' {s with heap:=h',toks:=t'}:=by
 obtain⟨m,⟨o,es,ep,ho,r⟩,_⟩:=id I.loc;obtain⟨sl,hL⟩:=u.any ho I.free (by simp);exact I.step (g':=s.gens) (d':=s.drawn) (ch:=[]) (λ_ z=>nomatch z) (λb o _ hb _ e n=>u.keep b o e n hb (by simp)) (λb o _ hb _ e n=>u.slot b o e n hb (by simp)) (λb o _ e n=>u.free b o e n (by simp)) (λb o _ e=>u.there b o e (by simp)) u.p6 u.mR u.pF (λm' hm=>by
  obtain⟨o',es',ep',ho',r'⟩:=hm;rw[ho] at ho';cases ho';exact⟨_,es',ep',hL,r'⟩) aZ I.bare
theorem Inv.call{g':Array GenState}{t':Nat}{d':Drawn}{ch:List Addr}(I:Inv X US σ H s)(u:Un (lU X.stack) ch H H' s.heap h')(aZ:gy X.prog X.w H' h')(hg:AllBare g')(hch:∀b∈ch,(b∈X.ex\/X.m8.heap.objs.size<=b)/\b≠X.env.locals/\(∀x c,X.env.cells.lookup x=some c->c≠b)/\∀p∈X.pn++US,p.1≠b):
  Inv X US σ H' {s with heap:=h',gens:=g',drawn:=d',toks:=t'}:=by
 obtain⟨m,⟨o,es,ep,ho,r⟩,_⟩:=id I.loc;obtain⟨sl,hL⟩:=u.any ho I.free λz=>(hch _ z).2.1 rfl;exact I.step (ch:=ch) hch (λb o hL hb hc e n=>u.keep b o e n (λz=>(List.mem_cons.mp (I.wH b z)).elim hL hb) hc) (λb o _ _ hc e n=>u.any e n hc) (λb o hc e n=>u.free b o e n hc) (λb o hc e=>u.there b o e hc) u.p6 u.mR u.pF (λm' hm=>by
  obtain⟨o',es',ep',ho',r'⟩:=hm;rw[ho] at ho';cases ho';exact⟨_,es',ep',hL,r'⟩) aZ hg
theorem Inv.turned{t':Nat}{it:Addr}(I:Inv X US σ H s)(k:∀b o,b≠it->s.heap.get? b=some o->h'.get? b=some o)(hn:H it=none)(hL:it≠X.env.locals)(h1:it∈X.ex\/X.m8.heap.objs.size<=it)(h2:∀x c,X.env.cells.lookup x=some c->c≠it)(h3:∀p∈X.pn++US,p.1≠it):Inv X US σ H {s with heap:=h',toks:=t'}:=by
 have nit:∀b u,H b=some u->b≠it:=λb u e z=>by rw[z,hn] at e;cases e
 refine I.step (g':=s.gens) (d':=s.drawn) (ch:=[it]) (λb hb=>?_) (λb o _ _ hc e _=>k b o (λz=>hc (by simp[z])) e) (λb o _ _ hc e _=>⟨o.slots,k b o (λz=>hc (by simp[z])) e⟩) (λ_ _ _ _ n=>n)
  (λb o hc e=>⟨o,k b o (λz=>hc (by simp[z])) e⟩) (λ_ _ e=>e) (λ_ _ _ e=>e) (λb ps e=>⟨#[],by rw[e];simp⟩) (λm hm=>?_) (λb u e=>?_) I.bare
 ·have e:b=it:=by simpa using hb
  subst e;exact⟨h1,hL,h2,h3⟩
 ·obtain⟨o,es,ep,ho,r⟩:=hm;exact⟨o,es,ep,k _ o (Ne.symm hL) ho,r⟩
 ·refine(I.aZ b u e).Af (λc v hc q=>k c v ?_ q) (λ_ q=>q) λ_ _ q=>q;rcases hc with z|z
  ·rw[z];exact nit b u e
  ·exact nit c _ z
theorem Inv.tok(I:Inv X US σ H s)(t:Nat):Inv X US σ H {s with toks:=t}:=I.un (h':=s.heap) (t':=t) Un.refl I.aZ
theorem Inv.kept{t':Nat}(I:Inv X US σ H s)(k:∀b u,s.heap.get? b=some u->h'.get? b=some u):Inv X US σ H {s with heap:=h',toks:=t'}:=I.un (Un.kept k) (I.aZ.kept k)
theorem Inv.laid{o:HO}{t':Nat}(I:Inv X US σ H s)(k:∀b u,s.heap.get? b=some u->h'.get? b=some u)(hp:s.heap.objs.size<=a)(new:bL X.prog X.w (upd H a o) h' a o):
  Inv X US σ (upd H a o) {s with heap:=h',toks:=t'}:=I.un (Un.laid k hp (I.aZ.fresh hp)) (I.aZ.laid k hp new)
theorem Inv.write{x e:Addr}{o:HO}{t':Nat}(I:Inv X US σ H s)(mu:Pw (H x))(he:e=x\/H e=some (.own x))(k:∀b u,b≠e->s.heap.get? b=some u->h'.get? b=some u)(heo:∃u,h'.get? e=some u)(new:bL X.prog X.w (upd H x o) h' x o):Inv X US σ (upd H x o) {s with heap:=h',toks:=t'}:=I.un (Un.write mu he k heo) (I.aZ.write mu he k heo new)
theorem Inv.weak{σ':List (Option V)}(I:Inv X US σ H s)(hl:σ'.length=σ.length)(w:∀(i:Nat) v,σ'[i]?=some (some v)->σ[i]?=some (some v)):Inv X US σ' H s:=
 ⟨I.ok,I.os,I.bare,I.base,let⟨m,hn,hl'⟩:=I.loc;⟨m,hn,λi x v e1 e2 e3=>hl' i x v e1 (w i v e2) e3⟩,I.cell,I.free,I.fj,I.pin,I.aZ,hl.trans I.len⟩
theorem Inv.qt{pins':List (Addr×Obj)}(I:Inv X US σ H s)(h:∀p∈pins',s.heap.get? p.1=some p.2/\H p.1=none/\p.1≠X.env.locals/\p.1∉X.fs/\∀v,p.2.data≠.cell v):Inv X pins' σ H s:=
 ⟨I.ok,I.os,I.bare,I.base,I.loc,I.cell,I.free,I.fj,λp hp=>(List.mem_append.mp hp).elim (λz=>I.pin p (List.mem_append_left _ z)) (h p),I.aZ,I.len⟩
theorem qK{N:List Str}(hN:N.Nodup){i j:Nat}(a:N[i]?=some x)(b:N[j]?=some x):i=j:=by obtain⟨h1,e1⟩:=List.getElem?_eq_some_iff.mp a;obtain⟨h2,e2⟩:=List.getElem?_eq_some_iff.mp b;exact(List.getElem_inj hN).mp (e1.trans e2.symm)
theorem Ej{M:Model}{i:Nat}{v:V}{Q:Unit->Shared->Prop}(I:Inv X US σ H s)(hN:X.N.Nodup)(hi:X.N[i]?=some x)(hx:Loc X.env.scope x)(r:RelV v u)(h:∀s',Inv X US (σ.set i (some v)) H s'->(∃a,Heap.SameBut a s.heap s'.heap/\(a=X.env.locals\/X.env.cells.lookup x=some a))->Q () s')(hf:X.fn x=true\/X.env.scope.names.lookup x=some .local:=by first|exact .inl rfl|exact .inr rfl|assumption):wpAny M A (storeName X.env x u) Q E s:=by
 obtain⟨m,hn,hl⟩:=id I.loc;have hcls:(X.env.scope.kind==.class||(X.env.scope.kind==.module&&X.env.locals != X.env.globals))=false:=by rw[I.ok.kind];rfl
 have hiσ:i<σ.length:=by rw[I.len];exact(List.getElem?_eq_some_iff.mp hi).1
 have Me:=I.Me;have tracked:∀{a:Addr}{h':Heap},(∃o,s.heap.get? a=some o/\H a=none)->Heap.SameBut a s.heap h'->gy X.prog X.w H h':=λ{a h'} ha hs b ob e=>by
  obtain⟨_,_,hfree⟩:=ha;refine(I.aZ b ob e).Af (λc w' hc q=>(hs.2 c ?_).trans q) (λ_ q=>q) λ_ _ q=>q;rintro rfl;rcases hc with rfl|hc
  ·rw[hfree] at e;cases e
  ·rw[hfree] at hc;cases hc
 rcases hx with hk|hk
 ·refine wpAny_storeName_local hk hn (λh' hn' hs=>?_) hcls;obtain⟨oL,_,_,hoL,_⟩:=id hn;refine h _ ⟨I.ok,I.os,I.bare,⟨λb o e n hb hx=>?_,λb o e n hb hx=>?_,I.base.free,λb o e hx=>?_,I.base.p6,I.base.mR,I.base.pF⟩,⟨_,hn',λj y v' e1 e2 e3=>?_⟩,λy c e=>?_,I.free,I.fj,λp hp=>?_,tracked ⟨oL,hoL,I.free⟩ hs,by simpa using I.len⟩ ⟨_,hs,.inl rfl⟩
  ·exact(hs.2 b (Nat.ne_of_lt (Nat.lt_of_lt_of_le (Heap.lt_size e) I.ok.above))).trans (I.base.keep b o e n hb hx)
  ·obtain⟨sl,e1⟩:=I.base.slot b o e n hb hx;exact⟨sl,(hs.2 b (Nat.ne_of_lt (Nat.lt_of_lt_of_le (Heap.lt_size e) I.ok.above))).trans e1⟩
  ·obtain⟨o',e1⟩:=I.base.there b o e hx;exact⟨o',(hs.2 b (Nat.ne_of_lt (Nat.lt_of_lt_of_le (Heap.lt_size e) I.ok.above))).trans e1⟩
  ·by_cases hj:j=i
   ·subst hj;rw[hi] at e1;cases e1;rw[List.getElem?_set_self hiσ] at e2;cases e2;exact⟨u,r,.inl ⟨hk,by simp⟩⟩
   ·rw[List.getElem?_set_ne (Ne.symm hj)] at e2;obtain⟨u',r',q⟩:=hl j y v' e1 e2 e3;refine⟨u',r',?_⟩;rcases q with⟨k,e⟩|⟨k,c,e,z⟩
    ·refine .inl ⟨k,?_⟩;have:y≠x:=λe=>hj (qK hN e1 (e▸hi));simp[this,e]
    ·exact .inr ⟨k,c,e,z.sameBut hs (Me y c e)⟩
  ·obtain⟨w',z⟩:=I.cell y c e;exact⟨w',z.sameBut hs (Me y c e)⟩
  ·obtain⟨e,n,ne,nf,d⟩:=I.pin p hp;exact⟨(hs.2 p.1 ne).trans e,n,ne,nf,d⟩
 ·have hfn:X.fn x=true:=by
   rcases hf with z|z
   ·exact z
   ·rw[z] at hk;cases hk
  obtain⟨c,hc⟩:=I.ok.has x (.inl hk);obtain⟨w',z⟩:=I.cell x c hc;refine wpAny_storeName_cell I.ok.kind hk hc z (λh' hc' hs=>?_);obtain⟨oc,hoc,hocd⟩:=id z;refine h {s with heap:=h'} ⟨I.ok,I.os,I.bare,⟨λb o e n hb hx=>?_,λb o e n hb hx=>?_,I.base.free,λb o e hx=>?_,I.base.p6,I.base.mR,I.base.pF⟩,⟨m,hn.sameBut hs (Ne.symm (Me x c hc)),λj y v' e1 e2 e3=>?_⟩,λy c' e=>?_,I.free,I.fj,λp hp=>?_,tracked ⟨oc,hoc,I.fj x c hc⟩ hs,by simpa using I.len⟩ ⟨c,hs,.inr hc⟩
  ·exact(hs.2 b (Nat.ne_of_lt (Nat.lt_of_lt_of_le (Heap.lt_size e) (I.ok.M' x c hfn hc)))).trans (I.base.keep b o e n hb hx)
  ·obtain⟨sl,e1⟩:=I.base.slot b o e n hb hx;exact⟨sl,(hs.2 b (Nat.ne_of_lt (Nat.lt_of_lt_of_le (Heap.lt_size e) (I.ok.M' x c hfn hc)))).trans e1⟩
  ·obtain⟨o',e1⟩:=I.base.there b o e hx;exact⟨o',(hs.2 b (Nat.ne_of_lt (Nat.lt_of_lt_of_le (Heap.lt_size e) (I.ok.M' x c hfn hc)))).trans e1⟩
  ·by_cases hj:j=i
   ·subst hj;rw[hi] at e1;cases e1;rw[List.getElem?_set_self hiσ] at e2;cases e2;exact⟨u,r,.inr ⟨.inl hk,c,hc,hc'⟩⟩
   ·rw[List.getElem?_set_ne (Ne.symm hj)] at e2;obtain⟨u',r',q⟩:=hl j y v' e1 e2 e3;refine⟨u',r',?_⟩;rcases q with q|⟨k,c',e,z'⟩
    ·exact .inl q
    ·refine .inr ⟨k,c',e,z'.sameBut hs ?_⟩;rintro rfl;exact hj (qK hN e1 (I.ok.inj _ _ _ e hc▸hi))
  ·by_cases hcc:c'=c
   ·subst hcc;exact⟨_,hc'⟩
   ·obtain⟨w2,z2⟩:=I.cell y c' e;exact⟨w2,z2.sameBut hs hcc⟩
  ·obtain⟨e,n,ne,nf,d⟩:=I.pin p hp;refine⟨(hs.2 p.1 ?_).trans e,n,ne,nf,d⟩;intro q;rw[q,hoc] at e;have q':oc=p.2:=Option.some.inj e;exact d w' (by rw[<-q'];exact hocd)
theorem lj{M:Model}{i:Nat}{v:V}{Q:Unit->Shared->Prop}(I:Inv X US σ H s)(hN:X.N.Nodup)(hi:X.N[i]?=some x)(hx:Loc X.env.scope x)(r:RelV v u)(h:∀s',Inv X US (σ.set i (some v)) H s'->Q () s')(hf:X.fn x=true\/X.env.scope.names.lookup x=some .local:=by first|exact .inl rfl|exact .inr rfl|assumption):wpAny M A (storeName X.env x u) Q E s:=
 Ej I hN hi hx r (λs' I' _=>h s' I') hf
theorem Inv.L6{s':Shared}{ch:List Addr}(I:Inv X US σ H s)(ho:s'.os=s.os)(u:Un (lU X.stack) ch H H' s.heap s'.heap)(aZ:gy X.prog X.w H' s'.heap)(hg:AllBare s'.gens)(hch:∀b∈ch,(b∈X.ex\/X.m8.heap.objs.size<=b)/\b≠X.env.locals/\(∀x c,X.env.cells.lookup x=some c->c≠b)/\∀p∈X.pn++US,p.1≠b):Inv X US σ H' s':=by obtain⟨h',g',d',t',o'⟩:=s';have e:o'=s.os:=ho;subst e;exact I.call (g':=g') (t':=t') (d':=d') u aZ hg hch
end
abbrev XK:=Value->Option Addr->Hp->Prop
abbrev St:=List (Option V)
abbrev VK:=V->Hp->Prop
abbrev TE:=St->Hp->VK->Prop
abbrev TT:=St->Hp->(Bool->Hp->Prop)->Prop
abbrev TA:=St->Hp->(List V->Hp->Prop)->Prop
structure Ends where
 nx:St->Hp->Prop
 rt:VK
 bk:St->Hp->Prop:=λ_ _=>False
 ct:St->Hp->Prop:=λ_ _=>False
abbrev TS:=Ends->St->Hp->Prop
inductive EP(X:Cx)(US:List (Addr×Obj))(σ:St)(Q:VK)(u:Value)(s':Shared):Prop
 |mk(v:_) (H':_) (_:Inv X US σ H' s') (_:RelV v u) (_:Q v H')
inductive TP(X:Cx)(US:List (Addr×Obj))(σ:St)(Q:Bool->Hp->Prop)(b:Bool)(s':Shared):Prop
 |mk(H':_) (_:Inv X US σ H' s') (_:Q b H')
inductive AP(X:Cx)(US:List (Addr×Obj))(σ:St)(Q:List V->Hp->Prop)(us:List Value)(s':Shared):Prop
 |mk(vs:_) (H':_) (_:Inv X US σ H' s') (_:Vals vs us) (_:Q vs H')
def SP(X:Cx)(US:List (Addr×Obj))(D:Ends)(f:Flow)(s':Shared):Prop:=
 match f with
 | .next=>∃σ' H',Inv X US σ' H' s'/\D.nx σ' H'
 | .brk=>∃σ' H',Inv X US σ' H' s'/\D.bk σ' H'
 | .cont=>∃σ' H',Inv X US σ' H' s'/\D.ct σ' H'
 | .ret u=>∃v σ' H',Inv X US σ' H' s'/\RelV v u/\D.rt v H'
def PE(X:Cx)(e:Expr)(t:TE):Prop:=
 ∀(US:List (Addr×Obj))(s:Shared)(σ:St)(H:Hp)(Q:VK),Inv X US σ H s->t σ H Q->wpAny (model X.prog X.w) X.A (eval e X.env) (EP X US σ Q) X.xe s
def PT(X:Cx)(e:Expr)(t:TT):Prop:=
 ∀(US:List (Addr×Obj))(s:Shared)(σ:St)(H:Hp)(Q:Bool->Hp->Prop),Inv X US σ H s->t σ H Q->wpAny (model X.prog X.w) X.A (isTrue e X.env (eval e X.env)) (TP X US σ Q) X.xe s
def PW(X:Cx)(e:Expr)(t:TT):Prop:=
 ∀(whole:Sem Value)(US:List (Addr×Obj))(s:Shared)(σ:St)(H:Hp)(Q:Bool->Hp->Prop),Inv X US σ H s->t σ H Q->wpAny (model X.prog X.w) X.A (isTrue e X.env whole) (TP X US σ Q) X.xe s
theorem PW.pt{X:Cx}{e:Expr}{t:TT}(h:PW X e t):PT X e t:=h _
def PA(X:Cx)(es:List Expr)(t:TA):Prop:=
 ∀(pos:Pos)(US:List (Addr×Obj))(s:Shared)(σ:St)(H:Hp)(Q:List V->Hp->Prop),Inv X US σ H s->t σ H Q->wpAny (model X.prog X.w) X.A (spliced (backTo pos (starEach es X.env))) (AP X US σ Q) X.xe s
def PS(X:Cx)(st:Stmt)(t:TS):Prop:=
 ∀(US:List (Addr×Obj))(s:Shared)(σ:St)(H:Hp)(D:Ends),Inv X US σ H s->t D σ H->wpAny (model X.prog X.w) X.A (exec st X.env) (SP X US D) X.xe s
def tN(X:Cx)(st:List Stmt)(t:TS):Prop:=
 ∀(US:List (Addr×Obj))(s:Shared)(σ:St)(H:Hp)(D:Ends),Inv X US σ H s->t D σ H->wpAny (model X.prog X.w) X.A (execs st X.env) (SP X US D) X.xe s
theorem br{α:Type}{t:Sem α}{Q Q':α->Shared->Prop}{M:Model}(h:wpAny M A t Q E s)(hQ:∀a s,Q a s->Q' a s):wpAny M A t Q' E s:=wpAny_mono h hQ λ_ _ x=>x
section
variable{X:Cx}
inductive QT(o:Option (Option V))(Q:VK)(H:Hp):Prop
 |mk(v:V) (_:o=some (some v)) (_:Q v H)
def df(i:Nat):TE:=λσ H Q=>QT σ[i]? Q H
def tC(v:V):TE:=λ_ H Q=>Q v H
theorem F1{i:Nat}{pos:Pos}(hN:X.N[i]?=some x)(hv:MJ X.env.scope x)(hd:(x==("__debug__":Str))=false:=by decide)(hcd:(x==("__classdict__":Str))=false:=by decide):PE X (.Name x pos) (df i):=by
 intro US s σ H Q I h;obtain⟨v,e,h⟩:=h;obtain⟨m,hn,hl⟩:=I.loc;obtain⟨u,r,l⟩:=hl i x v hN e hv;have fin:EP X US σ Q u s:=⟨v,H,I,r,h⟩
 rcases l with⟨hk,hm⟩|⟨hk,c,hc,hcell⟩
 ·exact wpAny_Name (wpAny_loadName_local I.ok.kind hk hn hm fin) hd
 ·rcases hk with hk|hk
  ·exact wpAny_Name (wpAny_loadName_cell I.ok.kind hk hc hcell fin) hd
  ·exact wpAny_Name (wpAny_loadName_free I.ok.kind hk hc hcell fin hcd) hd
theorem aw{i j pos}:PE X (.Constant (.int i) j pos) (tC (.int i)):=λ_ _ _ H _ I h=>wpAny_Constant_int ⟨.int i,H,I.tok _,⟨_,rfl⟩,h⟩
theorem Im{b j pos}:PE X (.Constant (.bool b) j pos) (tC (.bl b)):=λ_ _ _ H _ I h=>Constant_bool ⟨.bl b,H,I,rfl,h⟩
theorem AM{j pos}:PE X (.Constant .none j pos) (tC .bF):=λ_ _ _ H _ I h=>Constant_none ⟨.bF,H,I,rfl,h⟩
theorem bZ{x j pos}:PE X (.Constant (.str x) j pos) (tC (.str x)):=λ_ _ _ H _ I h=>Calls.Constant_str ⟨.str x,H,I.tok _,⟨_,rfl⟩,h⟩
def Gl(X:Cx)(x:Str):Prop:=X.env.kindOf x=some .globalImplicit
theorem dZ{pos:Pos}(I:Inv X US σ H s)(hg:Gl X x)(hm:X.mg x=some u)(h:Q u s)(hd:(x==("__debug__":Str))=false:=by decide):wpAny (model X.prog X.w) X.A (eval (.Name x pos) X.env) Q E s:=
 Calls.Name_function_global I.ok.kind hg (Calls.loadGlobal_global (by rw[I.ok.glob];exact I.mod.glob.keeps I.bk) hm h) hd
theorem xR{pos:Pos}(I:Inv X US σ H s)(hg:Gl X x)(hm:X.mg x=none)(hv:bootBuiltins x=some u)(h:Q u s)(hn:x≠"__name__":=by decide)(hd:(x==("__debug__":Str))=false:=by decide):wpAny (model X.prog X.w) X.A (eval (.Name x pos) X.env) Q E s:=by obtain⟨mb,h1,h2⟩:=I.mod.blt;exact Calls.Name_function_global I.ok.kind hg (Calls.loadGlobal_builtin (by rw[I.ok.glob];exact I.mod.glob.keeps I.bk) hm (by rw[I.ok.blt];exact h1.keeps I.bk) ((h2 x hn).trans hv) h) hd
theorem xY{v:V}{pos:Pos}(hg:Gl X x)(hm:X.mg x=some u)(r:RelV v u)(hd:(x==("__debug__":Str))=false:=by decide):PE X (.Name x pos) (tC v):=
 λ_ _ _ H _ I h=>dZ I hg hm ⟨v,H,I,r,h⟩ hd
theorem wZ{v:V}{pos:Pos}(hg:Gl X x)(hm:X.mg x=none)(hv:bootBuiltins x=some u)(r:RelV v u)(hn:x≠"__name__":=by decide)(hd:(x==("__debug__":Str))=false:=by decide):PE X (.Name x pos) (tC v):=
 λ_ _ _ H _ I h=>xR I hg hm hv ⟨v,H,I,r,h⟩ hn hd
variable{a b:Expr}{ta tb:TE}{pos:Pos}
def PC(X:Cx)(op:CmpOp)(a b:Expr)(t:TE):Prop:=
 ∀(US:List (Addr×Obj))(s:Shared)(σ:St)(H:Hp)(Q:VK),Inv X US σ H s->t σ H Q->
  wpAny (model X.prog X.w) X.A (eval a X.env) (λv s₁=>wpAny (model X.prog X.w) X.A (eval b X.env) (λu s₂=>wpAny (model X.prog X.w) X.A (compareOp op v u) (EP X US σ Q) X.xe s₂) X.xe s₁) X.xe s
def tB(t:TE):TT:=λσ H Q=>t σ H λx H1=>∃c,x= .bl c/\Q c H1
theorem Jm{op:CmpOp}{t:TE}(h:PC X op a b t)(h1:behindInMarks op b=false:=by first|exact Q3 _ ↑0 (↑0)|rfl):PT X (.Compare a [op] [b] pos) (tB t):=by intro US s σ H Q I hw;refine wpAny_isTrue_Compare1 (br (h US s σ H _ I hw) λv s1 h1=>br h1 λu s2 h2=>br h2 λc s3 ⟨x,H1,I1,r1,q1⟩=>?_) h1;obtain⟨d,rfl,q⟩:=q1;cases r1;exact wpAny_truthy_bool ⟨H1,I1,q⟩
theorem da{e:Expr}{t:TE}(h:PE X e t)(he:∀whole,isTrue e X.env whole=(do let v<-whole;standAt e.pos;holding [v] (truthy v)):=by intro _;rfl):PT X e (tB t):=by intro US s σ H Q I hw;refine isTrue_plain (br (h US s σ H _ I hw) λv s1 ⟨x,H1,I1,r1,q1⟩=>?_) (he _);obtain⟨d,rfl,q⟩:=q1;cases r1;exact wpAny_truthy_bool ⟨H1,I1,q⟩
variable{tA tB':TT}{rest:List Expr}
def T7(t u:TT):TT:=λσ H Q=>t σ H λc H1=>if c=true then u σ H1 Q else Q false H1
def S2(t u:TT):TT:=λσ H Q=>t σ H λc H1=>if c=true then Q true H1 else u σ H1 Q
def Td(t:TT):TT:=λσ H Q=>t σ H λc H1=>Q (!c) H1
theorem ja(ha:PT X a tA):PW X (.BoolOp .And [a] pos) tA:=by
 intro wh US s σ H Q I h;refine isTrue_and (br (ha US s σ H Q I h) λc s1 e=>?_);cases c with
 |true=>exact isTrue_and_nil e
 |false=>exact e
theorem IZ(ha:PT X a tA):PW X (.BoolOp .Or [a] pos) tA:=by
 intro wh US s σ H Q I h;refine isTrue_or (br (ha US s σ H Q I h) λc s1 e=>?_);cases c with
 |false=>exact isTrue_or_nil e
 |true=>exact e
theorem nI(ha:PT X a tA)(hb:PW X (.BoolOp .And (b::rest) pos) tB'):PW X (.BoolOp .And (a::b::rest) pos) (T7 tA tB'):=by
 intro wh US s σ H Q I h;refine isTrue_and (br (ha US s σ H _ I h) λc s1 ⟨H1,I1,q1⟩=>?_);cases c with
 |true=>exact hb wh US s1 σ H1 Q I1 q1
 |false=>exact⟨H1,I1,q1⟩
theorem LG(ha:PT X a tA)(hb:PW X (.BoolOp .Or (b::rest) pos) tB'):PW X (.BoolOp .Or (a::b::rest) pos) (S2 tA tB'):=by
 intro wh US s σ H Q I h;refine isTrue_or (br (ha US s σ H _ I h) λc s1 ⟨H1,I1,q1⟩=>?_);cases c with
 |true=>exact⟨H1,I1,q1⟩
 |false=>exact hb wh US s1 σ H1 Q I1 q1
theorem Gh(ha:PT X a tA):PT X (.UnaryOp .Not a pos) (Td tA):=by intro US s σ H Q I h;exact isTrue_not (br (ha US s σ H (λc H1=>Q (!c) H1) I h) λ_ _ ⟨H1,I1,q⟩=>⟨H1,I1,q⟩)
def Dx(ta tb:TE):TE:=λσ H Q=>ta σ H λx H1=>∃c,x= .bl c/\if c=true then tb σ H1 Q else Q (.bl false) H1
def TY(ta tb:TE):TE:=λσ H Q=>ta σ H λx H1=>∃c,x= .bl c/\if c=true then Q (.bl true) H1 else tb σ H1 Q
def LP(ta:TE):TE:=λσ H Q=>ta σ H λx H1=>∃c,x= .bl c/\Q (.bl (!c)) H1
theorem gU{op}{t:TE}(h:PE X a t):PE X (.BoolOp op [a] pos) t:=λUS s σ H Q I hw=>BoolOp_one (h US s σ H Q I hw)
theorem rp(ha:PE X a ta)(hb:PE X (.BoolOp .And (b::rest) pos) tb):PE X (.BoolOp .And (a::b::rest) pos) (Dx ta tb):=by
 intro US s σ H Q I h;refine BoolOp_and (br (ha US s σ H _ I h) λv s1 ⟨x,H1,I1,r1,q1⟩=>?_);obtain⟨c,rfl,q1⟩:=q1;cases r1;refine wpAny_truthy_bool ?_;cases c with
 |true=>exact hb US s1 σ H1 Q I1 q1
 |false=>exact⟨.bl false,H1,I1,rfl,q1⟩
theorem yE(ha:PE X a ta)(hb:PE X (.BoolOp .Or (b::rest) pos) tb):PE X (.BoolOp .Or (a::b::rest) pos) (TY ta tb):=by
 intro US s σ H Q I h;refine BoolOp_or (br (ha US s σ H _ I h) λv s1 ⟨x,H1,I1,r1,q1⟩=>?_);obtain⟨c,rfl,q1⟩:=q1;cases r1;refine wpAny_truthy_bool ?_;cases c with
 |false=>exact hb US s1 σ H1 Q I1 q1
 |true=>exact⟨.bl true,H1,I1,rfl,q1⟩
theorem Nw(ha:PE X a ta):PE X (.UnaryOp .Not a pos) (LP ta):=by intro US s σ H Q I h;refine UnaryOp_ (br (ha US s σ H _ I h) λv s1 ⟨x,H1,I1,r1,q1⟩=>?_);obtain⟨c,rfl,q1⟩:=q1;cases r1;exact not_of (wpAny_truthy_bool ⟨.bl (!c),H1,I1,rfl,q1⟩)
def Uy(t:TT)(ta tb:TE):TE:=λσ H Q=>t σ H λc H1=>if c=true then ta σ H1 Q else tb σ H1 Q
theorem rG{c:Expr}(hc:PT X c tA)(ha:PE X a ta)(hb:PE X b tb):PE X (.IfExp c a b pos) (Uy tA ta tb):=by
 intro US s σ H Q I h;refine wpAny_IfExp (br (hc US s σ H _ I h) λd s1 ⟨H1,I1,q1⟩=>?_);cases d with
 |true=>exact ha US s1 σ H1 Q I1 q1
 |false=>exact hb US s1 σ H1 Q I1 q1
end
def bh(K:Frag)(H:Hp)(a:Addr)(xs:List V):Prop:=
 Rd H a (.lst xs)\/
  ∃(o:Obj)(its:Array Value)(n:Nat),K.lookup a=some o/\o.cls= .type "list"/\o.dict=none/\o.data= .seq its n/\its.size<=sizeLine/\Vals xs its.toList
def fN(K:Frag)(H:Hp)(a:Addr)(xs:List V):Prop:=
 Rd H a (.tup xs)\/
  ∃(o:Obj)(its:Array Value)(n:Nat),K.lookup a=some o/\o.cls= .type "tuple"/\o.data= .seq its n/\its.size<=sizeLine/\Vals xs its.toList
def SA:Value->Option V
 | .none=>some .bF
 | .bool b=>some (.bl b)
 | .int i _=>some (.int i)
 | .str x _=>some (.str x)
 | .bytes b _=>some (.bW b)
 | .float b _=>some (.JA b)
 | .ref a=>some (.ref a)
 | .type n=>some (.ty n)
 |_=>none
theorem RelV.abs{x:V}(r:RelV x u):SA u=some x:=by
 cases x with
 |bF=>cases r;rfl
 |bl _=>cases r;rfl
 |int _=>obtain⟨t,rfl⟩:=r;rfl
 |str _=>obtain⟨t,rfl⟩:=r;rfl
 |bW _=>obtain⟨t,rfl⟩:=r;rfl
 |JA _=>obtain⟨t,rfl⟩:=r;rfl
 |ref _=>cases r;rfl
 |ty _=>cases r;rfl
theorem RelV.inj{x y:V}(r:RelV x u)(q:RelV y u):x=y:=Option.some.inj (r.abs.symm.trans q.abs)
theorem Vals.inj:∀{xs ys:List V}{us:List Value},Vals xs us->Vals ys us->xs=ys
 |_,_,_,.nil,.nil=>rfl
 |_,_,_,.cons r t,.cons r' t'=>by rw[r.inj r',Vals.inj t t']
section
variable{X:Cx}{US:List (Addr×Obj)}{σ:St}{H:Hp}{s:Shared}{a:Addr}{xs ys:List V}
theorem bh.of(h:H a=some (.lst xs)):bh K H a xs:=.inl (.inl h)
theorem fN.of(h:H a=some (.tup xs)):fN K H a xs:=.inl (.inl h)
theorem Inv.list(I:Inv X US σ H s)(h:bh X.K H a xs):∃its:List Value,Vals xs its/\PlainL s.heap a its.toArray/\xs.length<=sizeLine:=by
 rcases h with h|⟨o,its,n,hk,hc,hd,hs,hz,r⟩
 ·obtain⟨z,its,n,r,e⟩:=h.ok I.aZ;exact⟨its,r,⟨_,n,e,rfl,rfl,rfl⟩,z⟩
 ·refine⟨its.toList,r,⟨o,n,I.d5 a o hk,hc,hd,by simpa using hs⟩,?_⟩;have e:=r.length;simp only[Array.length_toList] at e;omega
theorem Inv.tuple(I:Inv X US σ H s)(h:fN X.K H a xs):∃its:List Value,Vals xs its/\IsTup s.heap a its.toArray/\xs.length<=sizeLine:=by
 rcases h with h|⟨o,its,n,hk,hc,hs,hz,r⟩
 ·obtain⟨z,its,r,p⟩:=h.ok I.aZ;exact⟨its,r,p,z⟩
 ·refine⟨its.toList,r,⟨o,I.d5 a o hk,hc,n,by simpa using hs⟩,?_⟩;have e:=r.length;simp only[Array.length_toList] at e;omega
theorem Inv.IT(I:Inv X US σ H s)(h:bh X.K H a xs)(h':bh X.K H a ys):xs=ys:=by
 obtain⟨its,r,⟨o,n,e,_,_,d⟩,_⟩:=I.list h;obtain⟨its',r',⟨o',n',e',_,_,d'⟩,_⟩:=I.list h';rw[e] at e';cases e';rw[d] at d';injection d' with d1 _
 have:its=its':=by simpa using congrArg Array.toList d1
 subst this;exact r.inj r'
theorem Inv.EJ(I:Inv X US σ H s)(h:fN X.K H a xs)(h':fN X.K H a ys):xs=ys:=by
 obtain⟨its,r,⟨o,e,_,n,d⟩,_⟩:=I.tuple h;obtain⟨its',r',⟨o',e',_,n',d'⟩,_⟩:=I.tuple h';rw[e] at e';cases e';rw[d] at d';injection d' with d1 _
 have:its=its':=by simpa using congrArg Array.toList d1
 subst this;exact r.inj r'
end
abbrev Cx.lg(X:Cx)(E:Value->Shared->Prop):Cx:={X with xe:=E}
abbrev Cx.LF(X:Cx):Cx:=X.lg λ_ _=>False
theorem Cx.Ok.lg{X:Cx}(ok:X.Ok)(E:Value->Shared->Prop):(X.lg E).Ok:=
 ⟨ok.mod,ok.kind,ok.glob,ok.blt,ok.above,ok.inj,ok.has,ok.M',ok.hd,ok.frames,ok.OT,ok.Pn,ok.bs,ok.Fz,ok.Cg,ok.B6,ok.jY,ok.Jx⟩
theorem Cx.Ok.dY{X:Cx}(ok:(X.lg E).Ok):X.Ok:=
 ⟨ok.mod,ok.kind,ok.glob,ok.blt,ok.above,ok.inj,ok.has,ok.M',ok.hd,ok.frames,ok.OT,ok.Pn,ok.bs,ok.Fz,ok.Cg,ok.B6,ok.jY,ok.Jx⟩
section
variable{X:Cx}{US:List (Addr×Obj)}{σ:St}{H:Hp}{s:Shared}{E:Value->Shared->Prop}
theorem Inv.lg(I:Inv X US σ H s)(E:Value->Shared->Prop):Inv (X.lg E) US σ H s:=⟨I.ok.lg E,I.os,I.bare,I.base,I.loc,I.cell,I.free,I.fj,I.pin,I.aZ,I.len⟩
theorem Inv.dY(I:Inv (X.lg E) US σ H s):Inv X US σ H s:=⟨I.ok.dY,I.os,I.bare,I.base,I.loc,I.cell,I.free,I.fj,I.pin,I.aZ,I.len⟩
theorem SP.dY{D:Ends}{f:Flow}{s':Shared}(h:SP (X.lg E) US D f s'):SP X US D f s':=by
 cases f with
 |next=>obtain⟨σ',H',I,q⟩:=h;exact⟨σ',H',I.dY,q⟩
 |brk=>obtain⟨σ',H',I,q⟩:=h;exact⟨σ',H',I.dY,q⟩
 |cont=>obtain⟨σ',H',I,q⟩:=h;exact⟨σ',H',I.dY,q⟩
 |ret u=>obtain⟨v,σ',H',I,r,q⟩:=h;exact⟨v,σ',H',I.dY,r,q⟩
theorem tN.LF{st:List Stmt}{t:TS}(h:tN X.LF st t):tN X st t:=λUS s σ H D I hw=>
 wpAny_mono (h US s σ H D (I.lg _) hw) (λ_ _ q=>q.dY) λ_ _ z=>False.elim z
end
section
variable{X:Cx}{st:Stmt}{rest:List Stmt}{t u:TS}{e:Expr}{te:TE}{pos:Pos}
def zG:TS:=λD σ H=>D.nx σ H
def BU(t u:TS):TS:=λD σ H=>t {D with nx:=u D} σ H
theorem aL:tN X [] zG:=λ_ _ σ H _ I h=>wpAny_execs_nil ⟨σ,H,I,h⟩
theorem aj(h1:PS X st t)(h2:tN X rest u):tN X (st::rest) (BU t u):=by
 intro US s σ H D I h;refine wpAny_execs_cons (br (h1 US s σ H {D with nx:=u D} I h) λf s1 q=>?_);cases f with
 |next=>
  obtain⟨σ',H',I',q⟩:=q;exact h2 US s1 σ' H' D I' q
 |ret v=>exact q
 |brk=>exact q
 |cont=>exact q
theorem ai(h1:PS X st t):tN X [st] t:=by
 intro US s σ H D I h;refine wpAny_execs_cons (br (h1 US s σ H D I h) λf s1 q=>?_);cases f with
 |next=>exact wpAny_execs_nil q
 |ret v=>exact q
 |brk=>exact q
 |cont=>exact q
theorem Inv.quiet(I:Inv X US σ H s):interactive X.env=false:=by simp[interactive,I.ok.kind]
def P8(te:TE):TS:=λD σ H=>te σ H λ_ H1=>D.nx σ H1
theorem aS(he:PE X e te)(hs:swapsWith e none pos.line X.env=pure false:=by rfl):PS X (.Expr e pos) (P8 te):=by intro US s σ H D I h;exact wpAny_Expr_any (br (he US s σ H _ I h) λv s1 ⟨x,H1,I1,r1,q1⟩=>⟨σ,H1,I1,q1⟩) I.quiet hs
def p8(te:TE):TS:=λD σ H=>te σ H D.rt
theorem aB(he:PE X e te):PS X (.Return (some e) pos) (p8 te):=by intro US s σ H D I h;exact wpAny_Return_some (br (he US s σ H _ I h) λv s1 ⟨x,H1,I1,r1,q1⟩=>⟨x,σ,H1,I1,r1,q1⟩)
def Hk(c:TT)(t u:TS):TS:=λD σ H=>c σ H λb H1=>if b=true then t D σ H1 else u D σ H1
theorem aR{c:Expr}{a b:List Stmt}{tc:TT}(hc:PT X c tc)(ha:tN X a t)(hb:tN X b u):PS X (.If c a b pos) (Hk tc t u):=by
 intro US s σ H D I h;refine wpAny_If (br (hc US s σ H _ I h) λd s1 ⟨H1,I1,q1⟩=>?_);cases d with
 |true=>exact ha US s1 σ H1 D I1 q1
 |false=>exact hb US s1 σ H1 D I1 q1
end
abbrev TG:=V->St->Hp->(St->Hp->Prop)->Prop
abbrev ND:=List V->St->Hp->(St->Hp->Prop)->Prop
def PG(X:Cx)(target:Expr)(t:TG):Prop:=
 ∀(US:List (Addr×Obj))(s:Shared)(σ:St)(H:Hp)(v:V)(u:Value)(Q:St->Hp->Prop),Inv X US σ H s->RelV v u->t v σ H Q->
  wpAny (model X.prog X.w) X.A (assign target X.env u) (λ_ s'=>∃σ' H',Inv X US σ' H' s'/\Q σ' H') X.xe s
def Sg(X:Cx)(ts:List Expr)(t:ND):Prop:=
 ∀(US:List (Addr×Obj))(s:Shared)(σ:St)(H:Hp)(vs:List V)(us:List Value)(Q:St->Hp->Prop),Inv X US σ H s->Vals vs us->t vs σ H Q->
  wpAny (model X.prog X.w) X.A (assignInOrder ((assignEach ts X.env).map (·.2)) us) (λ_ s'=>∃σ' H',Inv X US σ' H' s'/\Q σ' H') X.xe s
abbrev HF:=V->V->V->Hp->(Hp->Prop)->Prop
def O0(X:Cx)(t:HF):Prop:=
 ∀(US:List (Addr×Obj))(s:Shared)(σ:St)(H:Hp)(o i v:V)(ov iv u:Value)(Q:Hp->Prop),Inv X US σ H s->RelV o ov->RelV i iv->RelV v u->t o i v H Q->
  wpAny (model X.prog X.w) X.A (setItem ov iv u) (λ_ s'=>∃H',Inv X US σ H' s'/\Q H') X.xe s
abbrev Pl:=V->V->Hp->VK->Prop
def Sd(X:Cx)(op:Operator)(t:Pl):Prop:=
 ∀(US:List (Addr×Obj))(s:Shared)(σ:St)(H:Hp)(x y:V)(v u:Value)(Q:VK),Inv X US σ H s->RelV x v->RelV y u->t x y H Q->
  wpAny (model X.prog X.w) X.A (inplaceOp op v u) (EP X US σ Q) X.xe s
section
variable{X:Cx}{pos:Pos}
def Mb(i:Nat):TG:=λv σ H Q=>Q (σ.set i (some v)) H
theorem fK{i:Nat}(hN:X.N.Nodup)(hi:X.N[i]?=some x)(hx:Loc X.env.scope x)(hf:X.fn x=true\/X.env.scope.names.lookup x=some .local:=by first|exact .inl rfl|exact .inr rfl|assumption):PG X (.Name x pos) (Mb i):=by intro US s σ H v u Q I r h;exact wpAny_assign_Name (lj I hN hi hx r (λs' I'=>⟨_,H,I',h⟩) hf)
def S6:ND:=λvs σ H Q=>vs=[]/\Q σ H
def Qx(t:TG)(u:ND):ND:=λvs σ H Q=>∃v r,vs=v::r/\t v σ H λσ' H'=>u r σ' H' Q
theorem Lo:Sg X [] S6:=by intro US s σ H vs us Q I r h;obtain⟨e,h⟩:=h;subst e;cases r;exact assignInOrder_nil ⟨σ,H,I,h⟩
theorem Ar{e:Expr}{es:List Expr}{t:TG}{u:ND}(h1:PG X e t)(h2:Sg X es u)(hs:(assignEach (e::es) X.env).map (·.2)=assign e X.env::(assignEach es X.env).map (·.2):=by rfl):Sg X (e::es) (Qx t u):=by
 intro US s σ H vs us Q I r h;obtain⟨v,vr,e1,h⟩:=h;subst e1;cases r with
 |cons r rr=>
  rw[hs];refine assignInOrder_cons (br (h1 US s σ H _ _ _ I r h) λ_ s1 ⟨σ1,H1,I1,q1⟩=>?_);exact h2 US s1 σ1 H1 _ _ Q I1 rr q1
def Ta(K:Frag)(n:Nat)(t:ND):TG:=λv σ H Q=>∃a xs,v= .ref a/\fN K H a xs/\xs.length=n/\t xs σ H Q
theorem Ov{es:List Expr}{k:Nat}{t:ND}{n:Nat}(hc:X.calm=true)(h:Sg X es t)(hn:(assignEach es X.env).length=n:=by rfl)(hst:(assignEach es X.env).findIdx? (·.1)=none:=by rfl):PG X (.Tuple es k pos) (Ta X.K n t):=by intro US s σ H v u Q I r hw;obtain⟨a,xs,e1,hq,hl,hw⟩:=hw;subst e1;cases r;obtain⟨its,rv,ht,hz⟩:=I.tuple hq;refine assign_Tuple_tuple (I.ok.hd hc) ht (by simp[hn,<-hl,rv.length]) hst λh' hx=>?_;have I1:Inv X US σ H {s with heap:=h'}:=I.kept (t':=s.toks) λb o e=>hx b o (Nat.ne_of_lt (Heap.lt_size e)) e;exact h US _ σ H xs _ Q I1 (by simpa using rv) hw
def Ti(to ti:TE)(t:HF):TG:=λv σ H Q=>to σ H λo H1=>ti σ H1 λi H2=>t o i v H2 λH3=>Q σ H3
theorem NM{o i:Expr}{to ti:TE}{t:HF}(ho:PE X o to)(hi:PE X i ti)(hs:O0 X t)(ha:∀v,assign (.Subscript o i pos) X.env v=(do
   let ov<-holding [v] (eval o X.env)
   let iv<-holding [v,ov] (eval i X.env)
   standAt pos
   holding [v,ov,iv] (setItem ov iv v)
   release [v,ov,iv] []):=by intro _;rfl):PG X (.Subscript o i pos) (Ti to ti t):=by
 intro US s σ H v u Q I r h;rw[ha];refine wpAny_bind (wpAny_holding (br (ho US s σ H _ I h) λov s1 ⟨x,H1,I1,r1,q1⟩=>?_));refine wpAny_bind (wpAny_holding (br (hi US s1 σ H1 _ I1 q1) λiv s2 ⟨y,H2,I2,r2,q2⟩=>?_));refine wpAny_bind (wpAny_standAt (wpAny_bind (wpAny_holding (br (hs US s2 σ H2 x y v ov iv u _ I2 r1 r2 r q2) λ_ s3 ⟨H3,I3,q3⟩=>?_))));exact wpAny_release ⟨σ,H3,I3,q3⟩
def Qk(te:TE)(g:TG):TS:=λD σ H=>te σ H λx H1=>g x σ H1 D.nx
theorem Ox{tg e:Expr}{te:TE}{g:TG}(he:PE X e te)(hg:PG X tg g)(hs:swapsWithSole [tg] e pos.line X.env=pure false:=by rfl)(hw:swappedStores [tg] e X.env=pure none:=by rfl)(h1:(assignEach [tg] X.env).map (·.2)=[assign tg X.env]:=by rfl):PS X (.Assign [tg] e pos) (Qk te g):=by intro US s σ H D I h;refine wpAny_Assign_stores (br (he US s σ H _ I h) λv s1 ⟨x,H1,I1,r1,q1⟩=>?_) hs hw;rw[h1];exact br (hg US s1 σ H1 x v _ I1 r1 q1) λ_ s2 q=>q
theorem aN{i:Nat}{e:Expr}{te:TE}{pos':Pos}(hN:X.N.Nodup)(hi:X.N[i]?=some x)(hx:Loc X.env.scope x)(he:PE X e te)(hs:swapsWith e (some (.Name x pos')) pos.line X.env=pure false:=by rfl)(hf:X.fn x=true\/X.env.scope.names.lookup x=some .local:=by first|exact .inl rfl|exact .inr rfl|assumption):
  PS X (.Assign [.Name x pos'] e pos) (Qk te (Mb i)):=by
 intro US s σ H D I h;refine wpAny_Assign_Name (br (he US s σ H _ I h) λv s1 ⟨y,H1,I1,r1,q1⟩=>?_) hs;exact lj I1 hN hi hx r1 (λs2 I2=>⟨_,H1,I2,q1⟩) hf
def TX(i:Nat)(te:TE)(ti:Pl):TS:=λD σ H=>∃x,σ[i]?=some (some x)/\te σ H λy H1=>ti x y H1 λz H2=>D.nx (σ.set i (some z)) H2
theorem iu{i:Nat}{e:Expr}{te:TE}{op:Operator}{ti:Pl}{pos':Pos}(hN:X.N.Nodup)(hi:X.N[i]?=some x)(hx:Loc X.env.scope x)(he:PE X e te)(ho:Sd X op ti)(hf:X.fn x=true\/X.env.scope.names.lookup x=some .local:=by first|exact .inl rfl|exact .inr rfl|assumption):
  PS X (.AugAssign (.Name x pos') op e pos) (TX i te ti):=by
 intro US s σ H D I h;obtain⟨v,e1,h⟩:=h;obtain⟨m,hn,hl⟩:=I.loc;have vis:MJ X.env.scope x:=by rcases hx with k|k;exact .inl k;exact .inr (.inl k)
 obtain⟨u,r,l⟩:=hl i x v hi e1 vis;refine wpAny_AugAssign_Name ?_;have go:wpAny (model X.prog X.w) X.A (eval e X.env) (λw s₂=>wpAny (model X.prog X.w) X.A (inplaceOp op u w) (λr s₃=>wpAny (model X.prog X.w) X.A (storeName X.env x r) (λ_=>SP X US D .next) X.xe s₃) X.xe s₂) X.xe s:=by
  refine br (he US s σ H _ I h) λw s1 ⟨y,H1,I1,r1,q1⟩=>?_;refine br (ho US s1 σ H1 v y u w _ I1 r r1 q1) λz s2 ⟨zv,H2,I2,r2,q2⟩=>?_;exact lj I2 hN hi hx r2 (λs3 I3=>⟨_,H2,I3,q2⟩) hf
 rcases l with⟨hk,hm⟩|⟨hk,c,hc,hcell⟩
 ·exact wpAny_loadName_local I.ok.kind hk hn hm go
 ·rcases hk with hk|hk
  ·exact wpAny_loadName_cell I.ok.kind hk hc hcell go
  ·rcases hx with k|k
   ·have:X.env.scope.names.lookup x=some .free:=hk;rw[k] at this;cases this
   ·have:X.env.scope.names.lookup x=some .free:=hk;rw[k] at this;cases this
def LZ(to ti te:TE)(tget:V->V->Hp->VK->Prop)(tip:Pl)(tset:HF):TS:=λD σ H=>to σ H λo H1=>ti σ H1 λi H2=>tget o i H2 λx H3=>te σ H3 λy H4=>tip x y H4 λz H5=>tset o i z H5 λH6=>D.nx σ H6
def QA(X:Cx)(t:V->V->Hp->VK->Prop):Prop:=
 ∀(US:List (Addr×Obj))(s:Shared)(σ:St)(H:Hp)(o i:V)(ov iv:Value)(Q:VK),Inv X US σ H s->RelV o ov->RelV i iv->t o i H Q->
  wpAny (model X.prog X.w) X.A (getItem ov iv) (EP X US σ Q) X.xe s
theorem DB{o i e:Expr}{to ti te:TE}{tget:V->V->Hp->VK->Prop}{tip:Pl}{tset:HF}{op:Operator}{tpos:Pos}(ho:PE X o to)(hi:PE X i ti)(hg:QA X tget)(he:PE X e te)(hp:Sd X op tip)(hs:O0 X tset)(ha:∀ov iv new,augStore i ov iv new=(do holding [new,ov,iv] (setItem ov iv new);release [new,ov,iv] [];pure .next):=by intros;rfl):PS X (.AugAssign (.Subscript o i tpos) op e pos) (LZ to ti te tget tip tset):=by intro US s σ H D I h;refine wpAny_AugAssign_SubscriptAny (br (ho US s σ H _ I h) λov s1 ⟨x1,H1,I1,r1,q1⟩=>?_) ha;refine br (hi US s1 σ H1 _ I1 q1) λiv s2 ⟨x2,H2,I2,r2,q2⟩=>?_;refine br (hg US s2 σ H2 x1 x2 ov iv _ I2 r1 r2 q2) λold s3 ⟨x3,H3,I3,r3,q3⟩=>?_;refine br (he US s3 σ H3 _ I3 q3) λv s4 ⟨x4,H4,I4,r4,q4⟩=>?_;refine br (hp US s4 σ H4 x3 x4 old v _ I4 r3 r4 q4) λnew s5 ⟨x5,H5,I5,r5,q5⟩=>?_;exact br (hs US s5 σ H5 x1 x2 x5 ov iv new _ I5 r1 r2 r5 q5) λ_ s6 ⟨H6,I6,q6⟩=>⟨σ,H6,I6,q6⟩
def SD(f:Int->Int->Int):Pl:=λx y H Q=>∃i j,x= .int i/\y= .int j/\Q (.int (f i j)) H
theorem gA:Sd X .Add (SD λi j=>i+j):=by intro US s σ H x y v u Q I r1 r2 h;obtain⟨i,j,e1,e2,q⟩:=h;subst e1;subst e2;obtain⟨t,rfl⟩:=r1;obtain⟨t',rfl⟩:=r2;exact iadd_int ⟨.int _,H,I.tok _,⟨_,rfl⟩,q⟩
theorem Mp:Sd X .Sub (SD λi j=>i - j):=by intro US s σ H x y v u Q I r1 r2 h;obtain⟨i,j,e1,e2,q⟩:=h;subst e1;subst e2;obtain⟨t,rfl⟩:=r1;obtain⟨t',rfl⟩:=r2;exact isub_int ⟨.int _,H,I.tok _,⟨_,rfl⟩,q⟩
end
section
variable{X:Cx}{pos:Pos}
def OP(c:TT)(tb:TS):TS:=λD σ H=>∃W:Nat->St->Hp->Prop,(∃m,W m σ H)/\∀m σ H,W m σ H->
 c σ H λb H1=>if b=true then ∃N:St->Hp->Prop,(∀σ' H',N σ' H'->∃m',m'<m/\W m' σ' H')/\tb {D with nx:=N,ct:=N,bk:=D.nx} σ H1 else D.nx σ H1
theorem fz{c:Expr}{body:List Stmt}{tc:TT}{tb:TS}(hp:PassesOwn (model X.prog X.w) X.A X.env X.xe)(hc:PT X c tc)(hb:tN X body tb):PS X (.While c body [] pos) (OP tc tb):=by
 intro US s σ H D I h;obtain⟨W,⟨m0,w0⟩,turn⟩:=h;refine wpAny_While (codeAny_whileLoop (λn s'=>∃σ' H',Inv X US σ' H' s'/\W n σ' H') ?_ m0 ⟨σ,H,I,w0⟩);rintro n s1 ⟨σ1,H1,I1,w1⟩;refine wpAny_passesOwn hp (br (hc US s1 σ1 H1 _ I1 (turn n σ1 H1 w1)) λb s2 ⟨H2,I2,q2⟩=>?_);cases b with
 |true=>
  obtain⟨N,hN,q2⟩:=q2;rw[if_pos rfl];refine wpAny_passesOwn hp (br (hb US s2 σ1 H2 _ I2 q2) λf s3 q3=>?_);cases f with
  |next=>
   obtain⟨σ3,H3,I3,n3⟩:=q3;obtain⟨m',hm,w3⟩:=hN σ3 H3 n3;exact⟨m',hm,σ3,H3,I3,w3⟩
  |cont=>
   obtain⟨σ3,H3,I3,n3⟩:=q3;obtain⟨m',hm,w3⟩:=hN σ3 H3 n3;exact⟨m',hm,σ3,H3,I3,w3⟩
  |brk=>exact q3
  |ret v=>exact q3
 |false=>
  rw[if_neg Bool.false_ne_true];exact wpAny_execs_nil ⟨σ1,H2,I2,q2⟩
end
structure It where
 go:Nat->Hp->Prop
 Ly:Nat->Hp->V->Hp->Prop
 stop:Nat->Hp->Prop
def uj(X:Cx)(US:List (Addr×Obj))(H:Hp)(b:Addr):Prop:=
 H b=none/\b≠X.env.locals/\b∉X.fs/\(b∈X.ex\/X.m8.heap.objs.size<=b)/\(∀x c,X.env.cells.lookup x=some c->c≠b)/\∀p∈X.pn++US,p.1≠b
theorem Inv.Hl{X:Cx}{H':Hp}(I:Inv X US σ H s)(hb:s.heap.objs.size<=b)(hn:H' b=none):uj X US H' b:=by
 refine⟨hn,Nat.ne_of_gt (Nat.lt_of_lt_of_le I.lt hb),I.SN hb,.inr (Nat.le_trans I.sz hb),λx c e z=>?_,λp hp z=>?_⟩
 ·obtain⟨v,q⟩:=I.cell x c e;exact absurd (Nat.lt_of_lt_of_le q.lt (by rw[z];exact hb)) (Nat.lt_irrefl _)
 ·exact absurd (Nat.lt_of_lt_of_le (Heap.lt_size (I.pin p hp).1) (by rw[z];exact hb)) (Nat.lt_irrefl _)
structure Turn(P:Program)(w:World)(K:Frag)(tg:Expr)(J:It)(fp:List Addr)(it:Addr)(tn:Nat->Heap->Prop):Prop where
 mem:it∈fp
 obj:∀i h,tn i h->∀b∈fp,∃o,h.get? b=some o/\∀v,o.data≠.cell v
 keep:∀i h h',tn i h->(∀b∈fp,∀o,h.get? b=some o->h'.get? b=some o)->tn i h'
 item:∀(X:Cx),X.prog=P->X.w=w->X.K=K->X.calm=true->∀(i:Nat)(US:List (Addr×Obj))(s:Shared)(σ:St)(H:Hp)(E:Value->Shared->Prop),Inv X US σ H s->(∀b∈fp,uj X US H b)->tn i s.heap->J.go i H->
  wpAny (model P w) X.A (pyNext (.ref it)) (λr s1=>∃u,r=some u/\
   wpAny (model P w) X.A (letOwnedTupleGo tg (.ref it) u) (λ_ s2=>∃x H',Inv X US σ H' s2/\RelV x u/\J.Ly i H x H'/\tn (i+1) s2.heap/\∀b∈fp,H' b=none) E s1) E s
 done:∀(X:Cx),X.prog=P->X.w=w->X.K=K->X.calm=true->∀(i:Nat)(US:List (Addr×Obj))(s:Shared)(σ:St)(H:Hp)(E:Value->Shared->Prop),Inv X US σ H s->(∀b∈fp,uj X US H b)->tn i s.heap->J.stop i H->
  wpAny (model P w) X.A (pyNext (.ref it)) (λr s1=>r=none/\Inv X US σ H s1) E s
 self:∀(A:Around)(i:Nat)(s:Shared)(Q:Value->Shared->Prop)(E:Value->Shared->Prop),tn i s.heap->Q (.ref it) s->wpAny (model P w) A (pyIter (.ref it)) Q E s
abbrev TI:=St->Hp->(It->Hp->Prop)->Prop
def SJ(X:Cx)(US:List (Addr×Obj))(σ:St)(tg:Expr)(R:It->Hp->Prop)(itv:Value)(s2:Shared):Prop:=
 ∃(it:Addr)(fp:List Addr)(tn:Nat->Heap->Prop)(J:It)(H':Hp),itv= .ref it/\Inv X US σ H' s2/\Turn X.prog X.w X.K tg J fp it tn/\tn 0 s2.heap/\(∀b∈fp,uj X US H' b)/\R J H'
def PI(X:Cx)(tg iter:Expr)(wi:TI):Prop:=
 ∀(US:List (Addr×Obj))(s:Shared)(σ:St)(H:Hp)(R:It->Hp->Prop),Inv X US σ H s->wi σ H R->
  wpAny (model X.prog X.w) X.A (eval iter X.env) (λv s1=>wpAny (model X.prog X.w) X.A (pyIter v) (SJ X US σ tg R) X.xe s1) X.xe s
theorem C9{M:Model}{tg:Expr}{it:Addr}{o:Obj}{n:String}{vs:Array Value}{Q:Unit->Shared->Prop}(ho:s.heap.get? it=some o)(hc:o.cls= .type n)(hd:o.data= .fields vs)(hn:["enumerate","zip","dict_itemiterator","dict_reverseitemiterator","odict_iterator","itertools.zip_longest","itertools.pairwise"].contains n=false)(hQ:Q () s):wpAny M A (letOwnedTupleGo tg (.ref it) u) Q E s:=by
  unfold letOwnedTupleGo;cases tg <;> first
    |exact wpAny_pure hQ
    |(cases u <;> first
        |exact wpAny_pure hQ
        | (refine wpAny_bind (wpAny_load ho ?_)
           rw[hc,hd];show wpAny M A (if(["enumerate","zip","dict_itemiterator","dict_reverseitemiterator","odict_iterator","itertools.zip_longest","itertools.pairwise"].contains n&&vs[0]?==some (rawInt _))=true then _ else _) Q E s;rw[if_neg (by intro h;rw[hn,Bool.false_and] at h;cases h)];exact wpAny_pure hQ))
def LL(K:Frag)(a:Addr):It:=
 ⟨λi H=>∃xs x,bh K H a xs/\xs[i]?=some x,λi H x H'=>H'=H/\∀xs,bh K H a xs->xs[i]?=some x,λi H=>∃xs,bh K H a xs/\xs.length<=i⟩
def Rm(K:Frag)(a:Addr):It:=
 ⟨λi H=>∃xs x,fN K H a xs/\xs[i]?=some x,λi H x H'=>H'=H/\∀xs,fN K H a xs->xs[i]?=some x,λi H=>∃xs,fN K H a xs/\xs.length<=i⟩
def Pk(lo:Int)(n:Nat):It:=⟨λi _=>i<n,λi H x H'=>H'=H/\x= .int (lo+i),λi _=>n<=i⟩
theorem Ex{tg:Expr}(a it:Addr):Turn P w K tg (LL K a) [it] it (λi h=>h.IsListIter it a i) where
 mem:=by simp
 obj:=λi h st b hb=>by
  have e:b=it:=by simpa using hb
  subst e;obtain⟨o,e,c,d⟩:=st;exact⟨o,e,λv z=>by rw[d] at z;cases z⟩
 keep:=λi h h' st k=>st.at λo e=>k it (by simp) o e
 item:=by
  intro X hP hw hK hc i US s σ H E I hf st hg;subst hP hw hK;obtain⟨xs,x,hq,hx⟩:=hg;obtain⟨its,rv,p,hz⟩:=I.list hq;obtain⟨u,hu,ru⟩:=rv.get hx;obtain⟨f0,f1,f2,f3,f4,f5⟩:=hf it (by simp);refine wpAny_pyNext_list_item st p.isList (x:=u) (by simpa using hu) λh' st' sb=>?_;have I1:Inv X US σ H {s with heap:=h'}:=I.turned (t':=s.toks) (λb o hb e=>(sb.2 b hb).trans e) f0 f1 f3 f4 f5;obtain⟨o,e,c,d⟩:=id st';exact⟨u,rfl,C9 (s:={s with heap:=h'}) e c d ↑0 ⟨x,H,I1,ru,⟨rfl,λys hy=>by rw[I.IT hy hq];exact hx⟩,st',λb hb=>(hf b hb).1⟩⟩
 done:=by
  intro X hP hw hK hc i US s σ H E I hf st hg;subst hP hw hK;obtain⟨xs,hq,hx⟩:=hg;obtain⟨its,rv,p,hz⟩:=I.list hq;obtain⟨f0,f1,f2,f3,f4,f5⟩:=hf it (by simp);have hl:=rv.length;exact wpAny_pyNext_list_end (I.ok.hd hc) st p.isList (by simp;omega) λh' eb=>⟨rfl,I.turned (t':=s.toks) (λb o hb e=>eb b o hb e) f0 f1 f3 f4 f5⟩
 self:=λ_ _ _ _ _ st h=>wpAny_pyIter_listiter st h
theorem B2{tg:Expr}(a it:Addr):Turn P w K tg (Rm K a) [it] it (λi h=>h.IsTupleIter it a i) where
 mem:=by simp
 obj:=λi h st b hb=>by
  have e:b=it:=by simpa using hb
  subst e;obtain⟨o,e,c,d⟩:=st;exact⟨o,e,λv z=>by rw[d] at z;cases z⟩
 keep:=λi h h' st k=>st.at λo e=>k it (by simp) o e
 item:=by
  intro X hP hw hK hc i US s σ H E I hf st hg;subst hP hw hK;obtain⟨xs,x,hq,hx⟩:=hg;obtain⟨its,rv,p,hz⟩:=I.tuple hq;obtain⟨u,hu,ru⟩:=rv.get hx;obtain⟨f0,f1,f2,f3,f4,f5⟩:=hf it (by simp);refine wpAny_pyNext_tuple_item st (show s.heap.IsTuple a its.toArray from p) (x:=u) (by simpa using hu) λh' st' sb=>?_;have I1:Inv X US σ H {s with heap:=h'}:=I.turned (t':=s.toks) (λb o hb e=>(sb.2 b hb).trans e) f0 f1 f3 f4 f5;obtain⟨o,e,c,d⟩:=id st';exact⟨u,rfl,C9 (s:={s with heap:=h'}) e c d ↑0 ⟨x,H,I1,ru,⟨rfl,λys hy=>by rw[I.EJ hy hq];exact hx⟩,st',λb hb=>(hf b hb).1⟩⟩
 done:=by
  intro X hP hw hK hc i US s σ H E I hf st hg;subst hP hw hK;obtain⟨xs,hq,hx⟩:=hg;obtain⟨its,rv,p,hz⟩:=I.tuple hq;obtain⟨f0,f1,f2,f3,f4,f5⟩:=hf it (by simp);have hl:=rv.length;exact wpAny_pyNext_tuple_end (I.ok.hd hc) st (show s.heap.IsTuple a its.toArray from p) (by simp;omega) λh' eb=>⟨rfl,I.turned (t':=s.toks) (λb o hb e=>eb b o hb e) f0 f1 f3 f4 f5⟩
 self:=λ_ _ _ _ _ st h=>wpAny_pyIter_tupleiter st h
theorem Bh{tg:Expr}(it:Addr)(lo:Int)(n:Nat):Turn P w K tg (Pk lo n) [it] it (λi h=>IsRangeIter h it (lo+(i:Nat)*1) ((n:Int) - (i:Nat)) 1) where
 mem:=by simp
 obj:=λi h st b hb=>by
  have e:b=it:=by simpa using hb
  subst e;exact⟨_,st,λv z=>by
   have z':Data.fields _=Data.cell v:=z;cases z'⟩
 keep:=λi h h' st k=>k it (by simp) _ st
 item:=by
  intro X hP hw hK hc i US s σ H E I hf st hg;subst hP hw hK;obtain⟨f0,f1,f2,f3,f4,f5⟩:=hf it (by simp);have W:=Walks.range (prog:=X.prog) (w:=X.w) (I.ok.hd hc) it lo 1 n;refine W.item i s _ _ hg st λv h' tk hv st' kk=>?_;obtain⟨t,rfl⟩:=hv;have I1:Inv X US σ H {s with heap:=h',toks:=tk}:=I.turned (λb o hb e=>kk b o (by simpa using hb) e) f0 f1 f3 f4 f5;refine⟨_,rfl,C9 (s:={s with heap:=h',toks:=tk}) (n:="range_iterator") st' rfl rfl ↑0 ⟨.int (lo+i),H,I1,⟨t,?_⟩,⟨rfl,rfl⟩,st',λb hb=>(hf b hb).1⟩⟩;rw[Int.mul_one]
 done:=by
  intro X hP hw hK hc i US s σ H E I hf st hg;subst hP hw hK;obtain⟨f0,f1,f2,f3,f4,f5⟩:=hf it (by simp);exact wpAny_pyNext_range_end (I.ok.hd hc) st (by have:n<=i:=hg;omega) λh' eb=>⟨rfl,I.turned (t':=s.toks) (λb o hb e=>eb b o hb e) f0 f1 f3 f4 f5⟩
 self:=λ_ _ _ _ _ st h=>wpAny_pyIter_rangeiter st h
section
variable{X:Cx}{tg:Expr}
def Sb(K:Frag)(tl:TE):TI:=λσ H R=>tl σ H λx H1=>∃a,x= .ref a/\(∃xs,bh K H1 a xs)/\R (LL K a) H1
def S1(K:Frag)(tl:TE):TI:=λσ H R=>tl σ H λx H1=>∃a,x= .ref a/\(∃xs,fN K H1 a xs)/\R (Rm K a) H1
theorem qr{l:Expr}{tl:TE}(hl:PE X l tl):PI X tg l (Sb X.K tl):=by
 intro US s σ H R I h;refine br (hl US s σ H _ I h) λv s1 ⟨x,H1,I1,r1,q1⟩=>?_;obtain⟨a,e,⟨xs,hq⟩,q⟩:=q1;subst e;cases r1;obtain⟨its,rv,p,hz⟩:=I1.list hq;refine wpAny_pyIter_list p.isList ?_;refine⟨s1.heap.objs.size,[s1.heap.objs.size],_,_,H1,rfl,I1.kept (t':=s1.toks) λb o e=>Heap.get?_push_of_some _ e,Ex a _,⟨_,Heap.get?_push_size _ rfl,rfl,rfl⟩,λb hb=>?_,q⟩;have e:b=s1.heap.objs.size:=by simpa using hb
 subst e;exact I1.Hl (Nat.le_refl _) (I1.aZ.fresh (Nat.le_refl _))
theorem Ml{l:Expr}{tl:TE}(hl:PE X l tl):PI X tg l (S1 X.K tl):=by
 intro US s σ H R I h;refine br (hl US s σ H _ I h) λv s1 ⟨x,H1,I1,r1,q1⟩=>?_;obtain⟨a,e,⟨xs,hq⟩,q⟩:=q1;subst e;cases r1;obtain⟨its,rv,p,hz⟩:=I1.tuple hq;refine wpAny_pyIter_tuple (show s1.heap.IsTuple a its.toArray from p) ?_;refine⟨s1.heap.objs.size,[s1.heap.objs.size],_,_,H1,rfl,I1.kept (t':=s1.toks) λb o e=>Heap.get?_push_of_some _ e,B2 a _,⟨_,Heap.get?_push_size _ rfl,rfl,rfl⟩,λb hb=>?_,q⟩;have e:b=s1.heap.objs.size:=by simpa using hb
 subst e;exact I1.Hl (Nat.le_refl _) (I1.aZ.fresh (Nat.le_refl _))
theorem Hs{R:It->Hp->Prop}{lo hi:Int}{t u v:Tok}{tk:Nat}(I:Inv X US σ H s)(h1: -(2 ^ 62)<=lo)(h2:lo<2 ^ 62)(h3: -(2 ^ 62)<=hi)(h4:hi<2 ^ 62)(q:R (Pk lo (hi - lo).toNat) H):wpAny (model X.prog X.w) X.A (pyIter (.ref s.heap.objs.size)) (SJ X US σ tg R) E {s with heap:=s.heap.push {cls:=.type "range",data:=.fields #[.int lo t,.int hi u,.int 1 v]},toks:=tk}:=by
 refine wpAny_pyIter_range (IsRange.new ..) (small_one h1 h2 h3 h4) ?_;have I1:Inv X US σ H {s with heap:=s.heap.push {cls:=.type "range",data:=.fields #[.int lo t,.int hi u,.int 1 v]},toks:=tk}:=I.kept λb o e=>Heap.get?_push_of_some _ e;refine⟨(s.heap.push {cls:=.type "range",data:=.fields #[.int lo t,.int hi u,.int 1 v]}).objs.size,[(s.heap.push {cls:=.type "range",data:=.fields #[.int lo t,.int hi u,.int 1 v]}).objs.size],_,_,H,rfl,
  I1.kept (t':=tk) λb o e=>Heap.get?_push_of_some _ e,Bh _ lo (hi - lo).toNat,?_,λb hb=>?_,q⟩
 ·have e1:lo+((0:Nat):Int)*1=lo:=by simp
  have e2:(((hi - lo).toNat:Nat):Int) - ((0:Nat):Int)=Builtin.Range.rangeSize lo hi 1:=by rw[rangeSize_one];split <;> omega
  show IsRangeIter _ _ (lo+((0:Nat):Int)*1) ((((hi - lo).toNat:Nat):Int) - ((0:Nat):Int)) 1;rw[e1,e2];exact Heap.get?_push_size _ rfl
 ·have e:b=(s.heap.push {cls:=.type "range",data:=.fields #[.int lo t,.int hi u,.int 1 v]}).objs.size:=by simpa using hb
  subst e;exact I1.Hl (Nat.le_refl _) (I1.aZ.fresh (Nat.le_refl _))
def PZ(ta:TA):TI:=λσ H R=>ta σ H λvs H1=>∃j:Int,vs=[.int j]/\ -(2 ^ 62)<=j/\j<2 ^ 62/\R (Pk 0 j.toNat) H1
theorem EA{a:Expr}{ta:TA}{p pos:Pos}(hg:Gl X "range")(hm:X.mg "range"=none)(ha:PA X [a] ta)(hs:starEach [a] X.env=[(false,eval a X.env)]:=by rfl):PI X tg (.Call (.Name "range" p) [a] [] pos) (PZ ta):=by
 intro US s σ H R I h;refine Call_ (xR I hg hm boot_range (PyProof.Rows.callWith_type1 (br (ha pos US s σ H _ I h) λus s1 ⟨vs,H1,I1,r1,q1⟩=>?_) hs rfl));obtain⟨j,e,q1,q2,q⟩:=q1;subst e;cases r1 with
 |cons r rr=>
  cases rr;obtain⟨t,rfl⟩:=r;exact call_range_1 (Hs I1 ↑2 ↑2 q1 q2 (by simpa using q))
def SI(wi:TI)(g:TG)(tb:TS):TS:=λD σ H=>wi σ H λJ H1=>∃W:Nat->Nat->St->Hp->Prop,(∃m,W 0 m σ H1)/\∀i m σ H,W i m σ H->
 (J.stop i H/\D.nx σ H)\/(J.go i H/\∃N:St->Hp->Prop,(∀σ' H',N σ' H'->∃m',m'<m/\W (i+1) m' σ' H')/\∀x H',J.Ly i H x H'->g x σ H' λσ2 H2=>tb {D with nx:=N,ct:=N,bk:=D.nx} σ2 H2)
def rA(fp:List Addr)(h:Heap):List (Addr×Obj):=fp.filterMap λb=>(h.get? b).map λo=>(b,o)
theorem jV{fp:List Addr}{h:Heap}{o:Obj}(hb:b∈fp)(e:h.get? b=some o):(b,o)∈rA fp h:=List.mem_filterMap.mpr ⟨b,hb,by rw[e];rfl⟩
theorem Eu{fp:List Addr}{h:Heap}{p:Addr×Obj}(hp:p∈rA fp h):p.1∈fp/\h.get? p.1=some p.2:=by
 obtain⟨b,hb,e⟩:=List.mem_filterMap.mp hp;cases q:h.get? b with
 |none=>rw[q] at e;cases e
 |some o=>
  rw[q] at e;have e':(b,o)=p:=Option.some.inj e;subst e';exact⟨hb,q⟩
theorem Inv.pinned{fp:List Addr}(I:Inv X US σ H s)(hf:∀b∈fp,uj X US H b)(ho:∀b∈fp,∃o,s.heap.get? b=some o/\∀v,o.data≠.cell v):Inv X (US++rA fp s.heap) σ H s:=
 I.qt λp hp=>(List.mem_append.mp hp).elim (λz=>I.pin p (List.mem_append_right _ z)) λz=>by
  obtain⟨hb,e⟩:=Eu z;obtain⟨f0,f1,f2,_⟩:=hf p.1 hb;obtain⟨o,e',d⟩:=ho p.1 hb;rw[e] at e';cases e';exact⟨e,f0,f1,f2,d⟩
theorem Inv.kI{pl:List (Addr×Obj)}(I:Inv X (US++pl) σ H s):Inv X US σ H s:=I.qt λp hp=>I.pin p (List.mem_append_right _ (List.mem_append_left _ hp))
theorem rM{iter:Expr}{body:List Stmt}{wi:TI}{g:TG}{tb:TS}{pos:Pos}(hp:PassesOwn (model X.prog X.w) X.A X.env X.xe)(hc:X.calm=true)(hi:PI X tg iter wi)(hg:PG X tg g)(hb:tN X body tb)(hs:∀x,foldedSetIterable iter X.env x=pure x:=by intro _;rfl):PS X (.For tg iter body [] pos) (SI wi g tb):=by
 intro US s σ H D I h;refine wpAny_For (br (hi US s σ H _ I h) λv s1 h1=>br h1 λitv s2 h2=>?_) hs;obtain⟨it,fp,tn,J,H2,e,I2,T,st2,f2,W,⟨m0,w0⟩,turn⟩:=h2;subst e;have stat:∀{H':Hp},(∀b∈fp,H' b=none)->∀b∈fp,uj X US H' b:=λhn b hb=>⟨hn b hb,(f2 b hb).2⟩
 refine codeAny_forLoop_any (λn s'=>∃i σ' H',Inv X US σ' H' s'/\tn i s'.heap/\(∀b∈fp,H' b=none)/\W i n σ' H') ?_ m0 ⟨0,σ,H2,I2,st2,λb hb=>(f2 b hb).1,w0⟩;rintro n s3 ⟨i,σ3,H3,I3,st3,fr3,w3⟩;rcases turn i n σ3 H3 w3 with⟨stop,qn⟩|⟨go,N,hN,step⟩
 ·refine wpAny_passesOwn hp (br (T.done X rfl rfl rfl hc i US s3 σ3 H3 X.xe I3 (stat fr3) st3 stop) λr s4 ⟨hr,I4⟩=>?_);subst hr;exact wpAny_execs_nil ⟨σ3,H3,I4,qn⟩
 ·refine wpAny_passesOwn hp (br (T.item X rfl rfl rfl hc i US s3 σ3 H3 X.xe I3 (stat fr3) st3 go) λr s4 ⟨u,hr,h4⟩=>?_);subst hr;refine wpAny_passesOwn hp (br h4 λ_ s5 ⟨x,H5,I5,r5,y5,st5,fr5⟩=>?_);have I5':=I5.pinned (stat fr5) (T.obj _ _ st5);refine wpAny_passesOwn hp (br (hg _ s5 σ3 H5 x u _ I5' r5 (step x H5 y5)) λ_ s6 ⟨σ6,H6,I6,q6⟩=>?_);refine wpAny_passesOwn hp (br (hb _ s6 σ6 H6 _ I6 q6) λf s7 q7=>?_);have again:∀{σ7:St}{H7:Hp},Inv X (US++rA fp s5.heap) σ7 H7 s7->N σ7 H7->∃m,m<n/\∃i σ' H',Inv X US σ' H' s7/\tn i s7.heap/\(∀b∈fp,H' b=none)/\W i m σ' H':=λ{σ7 H7} I7 n7=>by
   obtain⟨m',hm,w7⟩:=hN σ7 H7 n7;refine⟨m',hm,i+1,σ7,H7,I7.kI,T.keep _ _ _ st5 λb hb o e=>(I7.pin (b,o) (List.mem_append_right _ (List.mem_append_right _ (jV hb e)))).1,λb hb=>?_,w7⟩;obtain⟨o,e,d⟩:=T.obj _ _ st5 b hb;exact(I7.pin (b,o) (List.mem_append_right _ (List.mem_append_right _ (jV hb e)))).2.1
  cases f with
  |next=>obtain⟨σ7,H7,I7,n7⟩:=q7;exact again I7 n7
  |cont=>obtain⟨σ7,H7,I7,n7⟩:=q7;exact again I7 n7
  |brk=>obtain⟨σ7,H7,I7,q7⟩:=q7;exact⟨σ7,H7,I7.kI,q7⟩
  |ret v=>obtain⟨x7,σ7,H7,I7,r7,q7⟩:=q7;exact⟨x7,σ7,H7,I7.kI,r7,q7⟩
end
theorem yX{xs:List V}{g:TG}{tb:TS}{D:Ends}(Pv:Nat->St->Hp->Prop)(h0:Pv 0 σ H)(hl:∀i σ H,i<=xs.length->Pv i σ H->bh K H a xs)(hs:∀i x σ H,xs[i]?=some x->Pv i σ H->g x σ H λσ2 H2=>tb {D with nx:=Pv (i+1),ct:=Pv (i+1),bk:=D.nx} σ2 H2)(hd:∀σ H,Pv xs.length σ H->D.nx σ H):
  ∃W:Nat->Nat->St->Hp->Prop,(∃m,W 0 m σ H)/\∀i m σ H,W i m σ H->
   ((LL K a).stop i H/\D.nx σ H)\/((LL K a).go i H/\∃N:St->Hp->Prop,(∀σ' H',N σ' H'->∃m',m'<m/\W (i+1) m' σ' H')/\∀x H',(LL K a).Ly i H x H'->g x σ H' λσ2 H2=>tb {D with nx:=N,ct:=N,bk:=D.nx} σ2 H2):=by
 refine⟨λi m σ H=>m=xs.length - i/\i<=xs.length/\Pv i σ H,⟨xs.length,by simp,Nat.zero_le _,h0⟩,?_⟩;rintro i m σ H ⟨rfl,hi,p⟩;have q:=hl i σ H hi p;by_cases hlt:i<xs.length
 ·refine .inr ⟨⟨xs,xs[i],q,by simp[hlt]⟩,Pv (i+1),λσ' H' p'=>⟨xs.length - (i+1),↑2,rfl,hlt,p'⟩,λx H' y=>?_⟩;obtain⟨e,y⟩:=y;subst e;exact hs i x σ _ (y xs q) p
 ·have e:i=xs.length:=↑2
  subst e;exact .inl ⟨⟨xs,q,Nat.le_refl _⟩,hd σ H p⟩
theorem Lf{xs:List V}{g:TG}{tb:TS}{D:Ends}(Pv:Nat->St->Hp->Prop)(h0:Pv 0 σ H)(hl:∀i σ H,i<=xs.length->Pv i σ H->fN K H a xs)(hs:∀i x σ H,xs[i]?=some x->Pv i σ H->g x σ H λσ2 H2=>tb {D with nx:=Pv (i+1),ct:=Pv (i+1),bk:=D.nx} σ2 H2)(hd:∀σ H,Pv xs.length σ H->D.nx σ H):
  ∃W:Nat->Nat->St->Hp->Prop,(∃m,W 0 m σ H)/\∀i m σ H,W i m σ H->
   ((Rm K a).stop i H/\D.nx σ H)\/((Rm K a).go i H/\∃N:St->Hp->Prop,(∀σ' H',N σ' H'->∃m',m'<m/\W (i+1) m' σ' H')/\∀x H',(Rm K a).Ly i H x H'->g x σ H' λσ2 H2=>tb {D with nx:=N,ct:=N,bk:=D.nx} σ2 H2):=by
 refine⟨λi m σ H=>m=xs.length - i/\i<=xs.length/\Pv i σ H,⟨xs.length,by simp,Nat.zero_le _,h0⟩,?_⟩;rintro i m σ H ⟨rfl,hi,p⟩;have q:=hl i σ H hi p;by_cases hlt:i<xs.length
 ·refine .inr ⟨⟨xs,xs[i],q,by simp[hlt]⟩,Pv (i+1),λσ' H' p'=>⟨xs.length - (i+1),↑2,rfl,hlt,p'⟩,λx H' y=>?_⟩;obtain⟨e,y⟩:=y;subst e;exact hs i x σ _ (y xs q) p
 ·have e:i=xs.length:=↑2
  subst e;exact .inl ⟨⟨xs,q,Nat.le_refl _⟩,hd σ H p⟩
theorem Er{lo:Int}{n:Nat}{g:TG}{tb:TS}{D:Ends}(Pv:Nat->St->Hp->Prop)(h0:Pv 0 σ H)(hs:∀i σ H,i<n->Pv i σ H->g (.int (lo+i)) σ H λσ2 H2=>tb {D with nx:=Pv (i+1),ct:=Pv (i+1),bk:=D.nx} σ2 H2)(hd:∀σ H,Pv n σ H->D.nx σ H):
  ∃W:Nat->Nat->St->Hp->Prop,(∃m,W 0 m σ H)/\∀i m σ H,W i m σ H->
   ((Pk lo n).stop i H/\D.nx σ H)\/((Pk lo n).go i H/\∃N:St->Hp->Prop,(∀σ' H',N σ' H'->∃m',m'<m/\W (i+1) m' σ' H')/\∀x H',(Pk lo n).Ly i H x H'->g x σ H' λσ2 H2=>tb {D with nx:=N,ct:=N,bk:=D.nx} σ2 H2):=by
 refine⟨λi m σ H=>m=n - i/\i<=n/\Pv i σ H,⟨n,by simp,Nat.zero_le _,h0⟩,?_⟩;rintro i m σ H ⟨rfl,hi,p⟩;by_cases hlt:i<n
 ·refine .inr ⟨hlt,Pv (i+1),λσ' H' p'=>⟨n - (i+1),↑2,rfl,hlt,p'⟩,λx H' y=>?_⟩;obtain⟨e,y⟩:=y;subst e y;exact hs i σ _ hlt p
 ·have e:i=n:=↑2
  subst e;exact .inl ⟨Nat.le_refl _,hd σ H p⟩
abbrev R2:=V->V->Hp->VK->Prop
def jg(X:Cx)(f:Value->Value->Sem Value)(r:R2):Prop:=
 ∀(US:List (Addr×Obj))(s:Shared)(σ:St)(H:Hp)(x y:V)(v u:Value)(Q:VK),Inv X US σ H s->RelV x v->RelV y u->r x y H Q->
  wpAny (model X.prog X.w) X.A (f v u) (EP X US σ Q) X.xe s
def SE(X:Cx)(f:Value->Sem Value)(r:V->Hp->VK->Prop):Prop:=
 ∀(US:List (Addr×Obj))(s:Shared)(σ:St)(H:Hp)(x:V)(v:Value)(Q:VK),Inv X US σ H s->RelV x v->r x H Q->
  wpAny (model X.prog X.w) X.A (f v) (EP X US σ Q) X.xe s
def tK(X:Cx)(f:Value)(r:List V->Hp->VK->Prop):Prop:=
 ∀(US:List (Addr×Obj))(s:Shared)(σ:St)(H:Hp)(xs:List V)(us:List Value)(Q:VK),Inv X US σ H s->Vals xs us->r xs H Q->
  wpAny (model X.prog X.w) X.A (call f us) (EP X US σ Q) X.xe s
def AD(r:R2)(ta tb:TE):TE:=λσ H Q=>ta σ H λx H1=>tb σ H1 λy H2=>r x y H2 Q
def Um(r:V->Hp->VK->Prop)(ta:TE):TE:=λσ H Q=>ta σ H λx H1=>r x H1 Q
inductive rI(C:Int->Int->Prop)(g:Int->Int->V)(x:V)(y:V)(H:Hp)(Q:VK):Prop
 |mk(i:_) (j:_) (_:x= .int i) (_:y= .int j) (_:C i j) (_:Q (g i j) H)
inductive DP(g:Int->Int->V)(x:V)(y:V)(H:Hp)(Q:VK):Prop
 |mk(i:_) (j:_) (_:x= .int i) (_:y= .int j) (_:Q (g i j) H)
inductive rU(g:Int->V)(x:V)(H:Hp)(Q:VK):Prop
 |mk(i:_) (_:x= .int i) (_:Q (g i) H)
section
variable{X:Cx}{a b c:Expr}{ta tb tc:TE}{pos:Pos}
theorem Oz(ha:PE X a ta)(hb:PE X b tb){R:V->V->Hp->Prop}(I:Inv X US σ H s)(h:ta σ H λx H1=>tb σ H1 λy H2=>R x y H2){f:Value->Value->Sem Value}(hf:∀v u s2 x y H2,Inv X US σ H2 s2->RelV x v->RelV y u->R x y H2->wpAny (model X.prog X.w) X.A (f v u) Q X.xe s2):
  wpAny (model X.prog X.w) X.A (eval a X.env) (λv s₁=>wpAny (model X.prog X.w) X.A (eval b X.env) (λu s₂=>wpAny (model X.prog X.w) X.A (f v u) Q X.xe s₂) X.xe s₁) X.xe s:=by
 refine br (ha US s σ H _ I h) λv s1 ⟨x,H1,I1,r1,q1⟩=>?_;refine br (hb US s1 σ H1 _ I1 q1) λu s2 ⟨y,H2,I2,r2,q2⟩=>?_;exact hf v u s2 x y H2 I2 r1 r2 q2
theorem bz{op:Operator}{r:R2}(ho:jg X (binaryOp op) r)(ha:PE X a ta)(hb:PE X b tb):PE X (.BinOp a op b pos) (AD r ta tb):=by intro US s σ H Q I h;exact wpAny_BinOp (Oz ha hb I h λv u s2 x y H2 I2 rx ry q=>ho US s2 σ H2 x y v u Q I2 rx ry q)
theorem gv{op:UnaryOp}{r:V->Hp->VK->Prop}(ho:SE X (unaryOp op) r)(ha:PE X a ta):PE X (.UnaryOp op a pos) (Um r ta):=by intro US s σ H Q I h;exact UnaryOp_ (br (ha US s σ H _ I h) λv s1 ⟨x,H1,I1,r1,q1⟩=>ho US s1 σ H1 x v Q I1 r1 q1)
theorem SK{f:Value->Value->Sem Value}{C:Int->Int->Prop}{g:Int->Int->Int}(rule:∀(i j:Int)(t u:Tok)(s:Shared)(Q:Value->Shared->Prop)(E:Value->Shared->Prop),C i j->Q (.int (g i j) s.toks) {s with toks:=s.toks+1}->wpAny (model X.prog X.w) X.A (f (.int i t) (.int j u)) Q E s):
  jg X f (rI C λi j=>.int (g i j)):=by
 intro US s σ H x y v u Q I rx ry h;obtain⟨i,j,rfl,rfl,hc,q⟩:=h;obtain⟨t,rfl⟩:=rx;obtain⟨t',rfl⟩:=ry;exact rule i j t t' s _ _ hc ⟨.int (g i j),H,I.tok _,⟨_,rfl⟩,q⟩
theorem Kl{f:Value->Value->Sem Value}{g:Int->Int->Int}(rule:∀(i j:Int)(t u:Tok)(s:Shared)(Q:Value->Shared->Prop)(E:Value->Shared->Prop),Q (.int (g i j) s.toks) {s with toks:=s.toks+1}->wpAny (model X.prog X.w) X.A (f (.int i t) (.int j u)) Q E s):
  jg X f (DP λi j=>.int (g i j)):=by
 intro US s σ H x y v u Q I rx ry h;obtain⟨i,j,rfl,rfl,q⟩:=h;obtain⟨t,rfl⟩:=rx;obtain⟨t',rfl⟩:=ry;exact rule i j t t' s _ _ ⟨.int (g i j),H,I.tok _,⟨_,rfl⟩,q⟩
theorem N4{f:Value->Value->Sem Value}{g:Int->Int->Bool}(rule:∀(i j:Int)(t u:Tok)(s:Shared)(Q:Value->Shared->Prop)(E:Value->Shared->Prop),Q (.bool (g i j)) s->wpAny (model X.prog X.w) X.A (f (.int i t) (.int j u)) Q E s):
  jg X f (DP λi j=>.bl (g i j)):=by
 intro US s σ H x y v u Q I rx ry h;obtain⟨i,j,rfl,rfl,q⟩:=h;obtain⟨t,rfl⟩:=rx;obtain⟨t',rfl⟩:=ry;exact rule i j t t' s _ _ ⟨.bl (g i j),H,I,rfl,q⟩
def SY(i j:Int):Prop:=0<=j/\j<=1000000/\i.natAbs<2 ^ 64
def M6(i j:Int):Prop:=(-(2 ^ 64)<i/\i<2 ^ 64)\/(-(2 ^ 64)<j/\j<2 ^ 64)
theorem M6.ok{i j:Int}(h:M6 i j):IntMulOk i j:=by
 rcases h with⟨h1,h2⟩|⟨h1,h2⟩
 ·exact .of_left (intBits_le_64 h1 h2)
 ·exact .of_right (intBits_le_64 h1 h2)
theorem BP(k:Nat):(0:Int)<=2 ^ k:=by rw[two_pow_cast];exact Int.natCast_nonneg _
theorem cD:jg X (binaryOp .Add) (DP λi j=>.int (i+j)):=Kl λ_ _ _ _ _ _ _ q=>add_int q
theorem jC:jg X (binaryOp .Sub) (DP λi j=>.int (i - j)):=Kl λ_ _ _ _ _ _ _ q=>sub_int q
theorem Iz:jg X (binaryOp .Mult) (rI M6 λi j=>.int (i*j)):=SK λ_ _ _ _ _ _ _ hc q=>mul_int q hc.ok
theorem Oq:jg X (binaryOp .LShift) (rI SY λi j=>.int (i*2 ^ j.toNat)):=SK λ_ _ _ _ _ _ _ hc q=>lshift_int_small hc.1 hc.2.1 hc.2.2 q
theorem Pc:jg X (binaryOp .RShift) (rI (λ_ j=>0<=j) λi j=>.int (i / 2 ^ j.toNat)):=SK λi j _ _ _ _ _ hc q=>
 rshift_int hc (by rw[Int.fdiv_eq_ediv_of_nonneg i (BP _)];exact q)
theorem Nq:jg X (binaryOp .BitAnd) (DP λi j=>.int (Builtin.bitAnd i j)):=Kl λ_ _ _ _ _ _ _ q=>and_int q
theorem QH:jg X (binaryOp .BitOr) (DP λi j=>.int (Builtin.bitOr i j)):=Kl λ_ _ _ _ _ _ _ q=>or_int q
theorem UI{f:Value->Sem Value}{g:Int->Int}(rule:∀(i:Int)(t:Tok)(s:Shared)(Q:Value->Shared->Prop)(E:Value->Shared->Prop),Q (.int (g i) s.toks) {s with toks:=s.toks+1}->wpAny (model X.prog X.w) X.A (f (.int i t)) Q E s):
  SE X f (rU λi=>.int (g i)):=by
 intro US s σ H x v Q I rx h;obtain⟨i,rfl,q⟩:=h;obtain⟨t,rfl⟩:=rx;exact rule i t s _ _ ⟨.int (g i),H,I.tok _,⟨_,rfl⟩,q⟩
theorem ef:SE X (unaryOp .USub) (rU λi=>.int (-i)):=UI λ_ _ _ _ _ q=>neg_int q
end
def Na:V->V->Bool
 | .bF,.bF=>true| .bF,.int _=>true| .int _,.bF=>true| .bF,.bl _=>true| .bl _,.bF=>true| .bF,.str _=>true| .str _,.bF=>true
 | .int _,.int _=>true| .bl _,.bl _=>true| .str _,.str _=>true| .bW _,.bW _=>true
 | .int _,.str _=>true| .str _,.int _=>true| .bl _,.str _=>true| .str _,.bl _=>true
 |_,_=>false
def Sq:R2:=λx y H Q=>Na x y=true/\Q (.bl (decide (x=y))) H
def UQ:R2:=λx y H Q=>Na x y=true/\Q (.bl (!decide (x=y))) H
theorem C6{i j:Int}:decide (V.int i=V.int j)=(i==j):=by rw[Bool.eq_iff_iff];simp
theorem IY{i j:Bool}:decide (V.bl i=V.bl j)=(i==j):=by rw[Bool.eq_iff_iff];simp
theorem C_{i j:Str}:decide (V.str i=V.str j)=(i==j):=by rw[Bool.eq_iff_iff];simp
theorem Dd{i j:Array UInt8}:decide (V.bW i=V.bW j)=(i.toList==j.toList):=by rw[Bool.eq_iff_iff];cases i;cases j;simp
section
variable{X:Cx}{a b c:Expr}{ta tb tc:TE}{pos:Pos}
theorem bf{Q:VK}{k k':Bool}(I:Inv X US σ H s)(q:Q (.bl k) H)(e:k=k'):EP X US σ Q (.bool k') s:=by subst e;exact⟨.bl k,H,I,rfl,q⟩
theorem cU:jg X (compareOp .Eq) Sq:=by
 intro US s σ H x y v u Q I rx ry h;obtain⟨hs,q⟩:=h;cases x with
 |bF=>
  cases rx;cases y with
  |bF=>cases ry;exact PySem.EqNone.eq_none_none (bf I q (by simp))
  |bl j=>cases ry;exact PySem.EqNone.eq_none_bool (bf I q (by simp))
  |int j=>obtain⟨t',rfl⟩:=ry;exact PySem.EqNone.eq_none_int (bf I q (by simp))
  |str j=>obtain⟨t',rfl⟩:=ry;exact PySem.EqNone.eq_none_str (bf I q (by simp))
  |_=>exact absurd (show false=true from hs) Bool.false_ne_true
 |bl i=>
  cases rx;cases y with
  |bF=>cases ry;exact PySem.EqNone.eq_bool_none (bf I q (by simp))
  |bl j=>cases ry;exact eq_bool (bf I q IY)
  |str j=>obtain⟨t',rfl⟩:=ry;exact PySem.EqMixed.eq_bool_str (bf I q (by simp))
  |_=>exact absurd (show false=true from hs) Bool.false_ne_true
 |int i=>
  obtain⟨t,rfl⟩:=rx;cases y with
  |bF=>cases ry;exact PySem.EqNone.eq_int_none (bf I q (by simp))
  |int j=>obtain⟨t',rfl⟩:=ry;exact eq_int (bf I q C6)
  |str j=>obtain⟨t',rfl⟩:=ry;exact PySem.EqMixed.eq_int_str (bf I q (by simp))
  |_=>exact absurd (show false=true from hs) Bool.false_ne_true
 |str i=>
  obtain⟨t,rfl⟩:=rx;cases y with
  |bF=>cases ry;exact PySem.EqNone.eq_str_none (bf I q (by simp))
  |bl j=>cases ry;exact PySem.EqMixed.eq_str_bool (bf I q (by simp))
  |int j=>obtain⟨t',rfl⟩:=ry;exact PySem.EqMixed.eq_str_int (bf I q (by simp))
  |str j=>obtain⟨t',rfl⟩:=ry;exact eq_str (bf I q C_)
  |_=>exact absurd (show false=true from hs) Bool.false_ne_true
 |bW i=>
  obtain⟨t,rfl⟩:=rx;cases y with
  |bW j=>obtain⟨t',rfl⟩:=ry;exact PySem.W.eq_bytes (bf I q Dd)
  |_=>exact absurd (show false=true from hs) Bool.false_ne_true
 |_=>cases y <;> exact absurd (show false=true from hs) Bool.false_ne_true
theorem Lw:jg X (compareOp .NotEq) UQ:=by
 intro US s σ H x y v u Q I rx ry h;obtain⟨hs,q⟩:=h;cases x with
 |bF=>
  cases rx;cases y with
  |bF=>cases ry;exact PySem.EqNone.ne_none_none (bf I q (by simp))
  |bl j=>cases ry;exact PySem.EqNone.ne_none_bool (bf I q (by simp))
  |int j=>obtain⟨t',rfl⟩:=ry;exact PySem.EqNone.ne_none_int (bf I q (by simp))
  |str j=>obtain⟨t',rfl⟩:=ry;exact PySem.EqNone.ne_none_str (bf I q (by simp))
  |_=>exact absurd (show false=true from hs) Bool.false_ne_true
 |bl i=>
  cases rx;cases y with
  |bF=>cases ry;exact PySem.EqNone.ne_bool_none (bf I q (by simp))
  |bl j=>cases ry;exact ne_bool (bf I q (congrArg not IY))
  |str j=>obtain⟨t',rfl⟩:=ry;exact PySem.EqMixed.ne_bool_str (bf I q (by simp))
  |_=>exact absurd (show false=true from hs) Bool.false_ne_true
 |int i=>
  obtain⟨t,rfl⟩:=rx;cases y with
  |bF=>cases ry;exact PySem.EqNone.ne_int_none (bf I q (by simp))
  |int j=>obtain⟨t',rfl⟩:=ry;exact ne_int (bf I q (congrArg not C6))
  |str j=>obtain⟨t',rfl⟩:=ry;exact PySem.EqMixed.ne_int_str (bf I q (by simp))
  |_=>exact absurd (show false=true from hs) Bool.false_ne_true
 |str i=>
  obtain⟨t,rfl⟩:=rx;cases y with
  |bF=>cases ry;exact PySem.EqNone.ne_str_none (bf I q (by simp))
  |bl j=>cases ry;exact PySem.EqMixed.ne_str_bool (bf I q (by simp))
  |int j=>obtain⟨t',rfl⟩:=ry;exact PySem.EqMixed.ne_str_int (bf I q (by simp))
  |str j=>obtain⟨t',rfl⟩:=ry;exact ne_str (bf I q (congrArg not C_))
  |_=>exact absurd (show false=true from hs) Bool.false_ne_true
 |bW i=>
  obtain⟨t,rfl⟩:=rx;cases y with
  |bW j=>obtain⟨t',rfl⟩:=ry;exact PySem.W.ne_bytes (bf I q (congrArg not Dd))
  |_=>exact absurd (show false=true from hs) Bool.false_ne_true
 |_=>cases y <;> exact absurd (show false=true from hs) Bool.false_ne_true
theorem oG:jg X (compareOp .Lt) (DP λi j=>.bl (decide (i<j))):=N4 λ_ _ _ _ _ _ _ q=>lt_int q
theorem gZ:jg X (compareOp .LtE) (DP λi j=>.bl (decide (i<=j))):=N4 λ_ _ _ _ _ _ _ q=>le_int q
theorem o9:jg X (compareOp .Gt) (DP λi j=>.bl (decide (j<i))):=N4 λ_ _ _ _ _ _ _ q=>gt_int q
theorem Il:jg X (compareOp .Is) (λx y H Q=>y= .bF/\Q (.bl (decide (x= .bF))) H):=by
 intro US s σ H x y v u Q I rx ry h;obtain⟨rfl,q⟩:=h;cases ry;refine is_none_gen (bf I q ?_);cases x <;> first
  |(cases rx;rfl)
  |(obtain⟨t,rfl⟩:=rx;rfl)
theorem aK(b:Expr){op:CmpOp}(h:op≠.In:=by decide)(h2:op≠.NotIn:=by decide):behindInMarks op b=false:=by
 have e1:(op==CmpOp.In)=false:=by cases op <;> first|rfl|exact absurd rfl h
 have e2:(op==CmpOp.NotIn)=false:=by cases op <;> first|rfl|exact absurd rfl h2
 cases b <;> simp[behindInMarks,e1,e2]
theorem dU{op:CmpOp}{r:R2}(ho:jg X (compareOp op) r)(ha:PE X a ta)(hb:PE X b tb)(hm:behindInMarks op b=false):PE X (.Compare a [op] [b] pos) (AD r ta tb):=by intro US s σ H Q I h;exact wpAny_Compare1 (Oz ha hb I h λv u s2 x y H2 I2 rx ry q=>ho US s2 σ H2 x y v u Q I2 rx ry q) hm
inductive Ur(Q:Bool->Hp->Prop)(x:V)(H:Hp):Prop
 |mk(k:Bool) (_:x= .bl k) (_:Q k H)
def rK(t:TE):TT:=λσ H Q=>t σ H λx H'=>Ur Q x H'
theorem aD{op:CmpOp}{r:R2}(ho:jg X (compareOp op) r)(ha:PE X a ta)(hb:PE X b tb)(hm:behindInMarks op b=false):PT X (.Compare a [op] [b] pos) (rK (AD r ta tb)):=by
 intro US s σ H Q I h;refine wpAny_isTrue_Compare1 (br (ha US s σ H _ I h) λv s1 ⟨x,H1,I1,r1,q1⟩=>br (hb US s1 σ H1 _ I1 q1) λu s2 ⟨y,H2,I2,r2,q2⟩=>
  br (ho US s2 σ H2 x y v u _ I2 r1 r2 q2) λc s3 ⟨z,H3,I3,r3,k,e,q3⟩=>?_) hm
 subst e;cases r3;exact wpAny_truthy_bool ⟨H3,I3,q3⟩
def F0(r r':R2)(ta tb tc:TE):TE:=λσ H Q=>ta σ H λx H1=>tb σ H1 λy H2=>r x y H2 λz H3=>∃k,z= .bl k/\
 (if k=true then tc σ H3 λw' H4=>r' y w' H4 Q else Q (.bl false) H3)
theorem kQ{op op':CmpOp}{r r':R2}(ho:jg X (compareOp op) r)(ho':jg X (compareOp op') r')(ha:PE X a ta)(hb:PE X b tb)(hc:PE X c tc)(hm:lastMarks [op,op'] [b,c]=false:=by with_unfolding_all rfl):PE X (.Compare a [op,op'] [b,c] pos) (F0 r r' ta tb tc):=by
 intro US s σ H Q I h;refine Compare_chain (br (ha US s σ H _ I h) λv s1 ⟨x,H1,I1,r1,q1⟩=>chain_link (br (hb US s1 σ H1 _ I1 q1) λu s2 ⟨y,H2,I2,r2,q2⟩=>
  br (ho US s2 σ H2 x y v u _ I2 r1 r2 q2) λd s3 ⟨z,H3,I3,r3,k,e,q3⟩=>?_)) hm
 subst e;cases r3;refine wpAny_truthy_bool ?_;cases k with
 |false=>exact ite_ff ⟨.bl false,H3,I3,rfl,q3⟩
 |true=>exact ite_tt (chain_last (br (hc US s3 σ H3 _ I3 q3) λw' s4 ⟨z',H4,I4,r4,q4⟩=>ho' US s4 σ H4 y z' u w' Q I4 r2 r4 q4))
theorem Jc{op op':CmpOp}{r r':R2}(ho:jg X (compareOp op) r)(ho':jg X (compareOp op') r')(ha:PE X a ta)(hb:PE X b tb)(hc:PE X c tc)(hm:lastMarks [op,op'] [b,c]=false:=by with_unfolding_all rfl):PT X (.Compare a [op,op'] [b,c] pos) (rK (F0 r r' ta tb tc)):=by
 intro US s σ H Q I h;refine isTrue_chain (br (ha US s σ H _ I h) λv s1 ⟨x,H1,I1,r1,q1⟩=>test_link (br (hb US s1 σ H1 _ I1 q1) λu s2 ⟨y,H2,I2,r2,q2⟩=>
  br (ho US s2 σ H2 x y v u _ I2 r1 r2 q2) λd s3 ⟨z,H3,I3,r3,k,e,q3⟩=>?_)) hm
 subst e;cases r3;refine wpAny_truthy_bool ?_;cases k with
 |false=>
  obtain⟨k',e',q'⟩:=q3;cases e';exact ite_ff ⟨H3,I3,q'⟩
 |true=>
  refine ite_tt (test_last (br (hc US s3 σ H3 _ I3 q3) λw' s4 ⟨z',H4,I4,r4,q4⟩=>br (ho' US s4 σ H4 y z' u w' _ I4 r2 r4 q4) λd' s5 ⟨z2,H5,I5,r5,k2,e2,q5⟩=>?_));subst e2;cases r5;exact wpAny_truthy_bool ⟨H5,I5,q5⟩
theorem n8:(sizeLine:Nat)<2 ^ 63:=by rw[sizeLine_eq];decide
theorem vals1{x:V}(r:Vals [x] us):∃u,us=[u]/\RelV x u:=by
 cases r with
 |cons r1 r2=>cases r2;exact⟨_,rfl,r1⟩
theorem vals2{x y:V}(r:Vals [x,y] us):∃u w',us=[u,w']/\RelV x u/\RelV y w':=by
 cases r with
 |cons r1 r2=>
  cases r2 with
  |cons r3 r4=>cases r4;exact⟨_,_,rfl,r1,r3⟩
theorem vp(hc:X.calm=true):tK X (.builtin "max") (λxs H Q=>∃i j,xs=[.int i,.int j]/\Q (.int (if j>i then j else i)) H):=by
 intro US s σ H xs us Q I r h;obtain⟨i,j,rfl,q⟩:=h;obtain⟨u,w',rfl,⟨t,rfl⟩,⟨t',rfl⟩⟩:=vals2 r;refine max_two_ints (I.ok.hd hc) λh' tk k=>⟨_,H,I.kept k,?_,q⟩
 by_cases hj:j>i
 ·rw[if_pos hj,if_pos hj];exact⟨_,rfl⟩
 ·rw[if_neg hj,if_neg hj];exact⟨_,rfl⟩
end
structure Bb(h:Heap)(x dx C:Addr)(mA:Str->Option Value):Prop where
 obj:h.get? x=some (PySem.W.instObj C dx)
 ns:h.Ns1 dx mA
 ne:dx≠x
theorem vq{h:Heap}{dx:Addr}{mA:Str->Option Value}(n:h.Ns1 dx mA):∃od,h.get? dx=some od/\∀name,PySem.W.lookIn name od=some (mA name):=by
 obtain⟨o,es,ep,ho,hd,hk,_,hm⟩:=n;refine⟨o,ho,λname=>?_⟩;have e:=hm name;unfold nsFind findBy at e;rw[<-Array.find?_toList] at e;unfold PySem.W.lookIn;rw[hd];dsimp only;split
 ·rename_i y q;rw[q] at e;exact congrArg some e
 ·rename_i q;rw[q] at e;have a:es.toList.any (·.refKey)=false:=by
   rw[List.any_eq_false];intro y hy;obtain⟨z,t,hkey⟩:=hk y (Array.mem_toList_iff.mp hy);simp[DictEntry.refKey,hkey]
  have a':¬es.toList.any (·.refKey)=true:=by rw[a];exact Bool.false_ne_true
  rw[if_neg a'];exact congrArg some e
theorem Bb.look{h:Heap}{x dx C:Addr}{mA:Str->Option Value}(I:Bb h x dx C mA):∃od,PySem.W.InstAt h x (PySem.W.instObj C dx) C (some od)/\∀name,PySem.W.lookIn name od=some (mA name):=
 let⟨od,ho,hl⟩:=vq I.ns
 ⟨od,⟨I.obj,rfl,rfl,ho⟩,hl⟩
section
variable{prog:Program}{w:World}{A:Around}{E:Value->Shared->Prop}{s:Shared}{K:Frag}{x dx C f:Addr}{mA:Str->Option Value}{name:Str}{v:Value}
theorem get_map{expr:Bool}(X:K.In s.heap)(I:Bb s.heap x dx C mA)(hg:PySem.W.plainGet K C name=true)(hh:PySem.W.hasDictIn K C=true)(ha:PySem.W.findIn K (.ref C) name=some none)(hv:mA name=some v)(hv':PySem.W.handedIn v=true)(h:Q v {s with toks:=s.toks+1}):
  wpAny (model prog w) A (getAttr (.ref x) name expr) Q E s:=by
 obtain⟨od,J,hl⟩:=I.look;exact PySem.W.get_value X J (PySem.W.plainGet_of hg).1 (PySem.W.findObj_own hh ha rfl (by rw[hl,hv])) hv' h
theorem Iv{pl:Sem Bool}{Q:Value×List Value->Shared->Prop}(X:K.In s.heap)(I:Bb s.heap x dx C mA)(hg:PySem.W.plainGet K C name=true)(hf:PySem.W.findIn K (.ref C) name=some (some (.ref f)))(ht:PySem.W.isFn K (.ref f)=true)(hv:mA name=none)(h:Q (.ref f,[.ref x]) s):
  wpAny (model prog w) A (getMethod (.ref x) name pl) Q E s:=by
 obtain⟨od,J,hl⟩:=I.look;exact PySem.W.method_fn X J (PySem.W.plainGet_of hg).1 (PySem.W.plainGet_of hg).2 hf (beq_iff_eq.mp ht) (by show(PySem.W.lookIn name od).map (·.isSome)=some false;rw[hl,hv];rfl) h
theorem JO{ns:List Str}{Q:Unit->Shared->Prop}(X:K.In s.heap)(I:Bb s.heap x dx C mA)(hs:PySem.W.findIn K (.ref C) "__setattr__"=some (some (.builtin "object.__setattr__")))(hp:PySem.W.plainOver K C=true)(ht:PySem.W.takerIn K C name=some none)(hh:PySem.W.hasDictIn K C=true)(hw:PySem.Within mA ns)(hsz:ns.length<=sizeLine)(h:∀h',Bb h' x dx C (λy=>if y=name then some v else mA y)->Heap.SameBut dx s.heap h'->Q () {s with heap:=h',toks:=s.toks+2}):
  wpAny (model prog w) A (setAttr (.ref x) name v) Q E s:=by
 obtain⟨od,J,hl⟩:=I.look;refine PySem.W.set_plain X J hs (PySem.W.osa_open (s:={s with toks:=s.toks+1}) (r:=none) X J hp ht λb=>?_);obtain⟨cd,hc,hd'⟩:=PySem.W.any_some hh;have hx:s.heap.get? x=some ⟨.ref C,some dx,.plain,#[]⟩:=I.obj;refine wpAny_bind (wpAny_pure (wpAny_bind (wpAny_bind (wpAny_loadPart hx (wpAny_bind (PySem.W.Looks.here (s:={s with toks:=s.toks+1}) (PySem.W.looks_clsIn X hc) ?_))))));rw[hd'];refine wpAny_pure (a:=some dx) (wpAny_bind (wpAny_pure (wpAny_bind ?_)));refine wpAny_nsSet1 (s:={s with toks:=s.toks+1}) I.ns λh' hn2 hs2=>?_;obtain⟨oD,esD,epD,hoD,hdD,hcD⟩:=hn2.count (PySem.Within.cons name v hw);refine wpAny_bind (wpAny_lookBehind hoD (by rw[hdD];exact pastItsLine_dict (Nat.le_trans hcD (by rw[List.length_cons];omega))) ?_);exact wpAny_pure (h _ ⟨(hs2.2 _ (Ne.symm I.ne)).trans I.obj,hn2,I.ne⟩ hs2)
theorem zz{R:Result->Shared->Prop}{vs:List Value}{kw:List (Str×Value)}(X:K.In s.heap)(hm:PySem.W.makesIn K C=true)(hi:PySem.W.findIn K (.ref C) "__init__"=some (some (.ref f)))(hf:PySem.W.typeIn K (.ref f)=some (.type "function"))(h:codeAny (model prog w) (A.under (.builtin "type.__call__" ⟨.ref C::vs,kw⟩)) (.call (.ref f) ⟨.ref (s.heap.objs.size+1)::vs,kw⟩) (PySem.W.InitBack (s.heap.objs.size+1) R)
   {s with heap:=(s.heap.push PySem.W.emptyDict).push (PySem.W.instObj C s.heap.objs.size)}):
  codeAny (model prog w) A (.call (.ref C) ⟨vs,kw⟩) R s:=by
 obtain⟨hh,g,d,t,os⟩:=s;exact PySem.W.make_core (PySem.W.makes_of X hm) (PySem.W.looks_findIn X hi) (λself=>PySem.W.bind_fn X self hf) (.inl rfl) h
end
def aV(f:Str)(v:V):List (Str×V)->List (Str×V)
 |[]=>[(f,v)]
 |(g,x)::r=>if g=f then(g,v)::r else(g,x)::aV f v r
theorem az(f g:Str)(v:V):∀fs:List (Str×V),(aV f v fs).lookup g=if g=f then some v else fs.lookup g
 |[]=>by
  show List.lookup g [(f,v)]=_;by_cases h:g=f
  ·have hb:(g==f)=true:=beq_iff_eq.mpr h;simp only[List.lookup,hb,if_pos h]
  ·have hb:(g==f)=false:=beq_eq_false_iff_ne.mpr h;simp only[List.lookup,hb,if_neg h]
 |(k,x)::r=>by
  have ih:=az f g v r;rw[show aV f v ((k,x)::r)=(if k=f then(k,v)::r else(k,x)::aV f v r) from rfl];by_cases hk:k=f
  ·rw[if_pos hk];by_cases h:g=k
   ·have hb:(g==k)=true:=beq_iff_eq.mpr h;simp only[List.lookup,hb,if_pos (h.trans hk)]
   ·have hb:(g==k)=false:=beq_eq_false_iff_ne.mpr h;simp only[List.lookup,hb,if_neg (λe:g=f=>h (e.trans hk.symm))]
  ·rw[if_neg hk];by_cases h:g=k
   ·have hb:(g==k)=true:=beq_iff_eq.mpr h;simp only[List.lookup,hb,if_neg (λe:g=f=>hk (h.symm.trans e))]
   ·have hb:(g==k)=false:=beq_eq_false_iff_ne.mpr h;simp only[List.lookup,hb];exact ih
theorem gj(f:Str)(v:V):∀fs:List (Str×V),f∈(aV f v fs).map (·.1)/\∀g,g∈fs.map (·.1)->g∈(aV f v fs).map (·.1)
 |[]=>⟨by simp[aV],λg h=>by simp at h⟩
 |(k,x)::r=>by
  obtain⟨i1,i2⟩:=gj f v r;rw[show aV f v ((k,x)::r)=(if k=f then(k,v)::r else(k,x)::aV f v r) from rfl];by_cases hk:k=f
  ·rw[if_pos hk];subst hk;exact⟨by simp,λg h=>by simpa using h⟩
  ·rw[if_neg hk];refine⟨?_,λg h=>?_⟩
   ·rw[List.map_cons];exact List.mem_cons_of_mem _ i1
   ·rw[List.map_cons] at h ⊢;rcases List.mem_cons.mp h with e|e
    ·exact List.mem_cons.mpr (.inl e)
    ·exact List.mem_cons_of_mem _ (i2 g e)
theorem aG(f:Str)(v:V):∀fs:List (Str×V),(aV f v fs).length<=fs.length+1
 |[]=>by simp[aV]
 |(k,x)::r=>by
  have ih:=aG f v r;rw[show aV f v ((k,x)::r)=(if k=f then(k,v)::r else(k,x)::aV f v r) from rfl];by_cases hk:k=f
  ·rw[if_pos hk,List.length_cons,List.length_cons];omega
  ·rw[if_neg hk,List.length_cons,List.length_cons];omega
theorem d7.some_of{v:V}{o:Option Value}(r:d7 (some v) o):∃u,o=some u/\RelV v u:=by
 cases o with
 |none=>exact(show False from r).elim
 |some u=>exact⟨u,rfl,r⟩
theorem d7.none_of{o:Option Value}(r:d7 none o):o=none:=by
 cases o with
 |none=>rfl
 |some u=>exact(show False from r).elim
theorem u_{v:V}(r:RelV v u):PySem.W.handedIn u=true:=by
 cases v with
 |bF=>cases(show u=Value.none from r);rfl
 |bl b=>cases(show u=Value.bool b from r);rfl
 |int i=>obtain⟨t,e⟩:=(show ∃t,u=Value.int i t from r);cases e;rfl
 |str x=>obtain⟨t,e⟩:=(show ∃t,u=Value.str x t from r);cases e;rfl
 |bW b=>obtain⟨t,e⟩:=(show ∃t,u=Value.bytes b t from r);cases e;rfl
 |JA b=>obtain⟨t,e⟩:=(show ∃t,u=Value.float b t from r);cases e;rfl
 |ref a=>cases(show u=Value.ref a from r);rfl
 |ty n=>cases(show u=Value.type n from r);rfl
section
variable{P:Program}{w:World}{H H':Hp}{h h':Heap}{a C dx:Addr}{fs fs':List (Str×V)}
theorem qi(aZ:gy P w H h)(e:H a=some (.ins C dx fs)):∃mA,Bb h a dx C mA/\(∀f,d7 (fs.lookup f) (mA f))/\PySem.Within mA (fs.map (·.1))/\fs.length<=1000/\H dx=some (.own a):=by
 obtain⟨d,z,ne,ob,mA,n,r,q⟩:=(show bL P w H h a (.ins C dx fs) from aZ a _ e)
 exact⟨mA,⟨ob,n,ne⟩,r,q,z,d⟩
end
structure rY(K:Frag)(C:Addr):Prop where
 pg:PySem.W.plainGet K C Str.empty=true
 hd:PySem.W.hasDictIn K C=true
 po:PySem.W.plainOver K C=true
 sa:PySem.W.findIn K (.ref C) "__setattr__"=some (some (.builtin "object.__setattr__"))
theorem rY.get{C:Addr}(c:rY K C)(f:Str):PySem.W.plainGet K C f=true:=c.pg
def aE(K:Frag)(C:Addr)(f:Str):Prop:=PySem.W.findIn K (.ref C) f=some none
theorem aE.IH{C:Addr}{f:Str}(n:aE K C f):PySem.W.takerIn K C f=some none:=by unfold PySem.W.takerIn;rw[show PySem.W.findIn K (.ref C) f=some none from n];rfl
structure Meth(K:Frag)(C:Addr)(m:Str)(f:Addr):Prop where
 at_:PySem.W.findIn K (.ref C) m=some (some (.ref f))
 fn:PySem.W.isFn K (.ref f)=true
 kp:PySem.W.keepIn K (.ref f)=true
section
variable{X:Cx}{US:List (Addr×Obj)}{σ:St}{H:Hp}{s:Shared}{a C dx:Addr}{fs:List (Str×V)}{f:Str}{v:V}{A:Around}{E:Value->Shared->Prop}
theorem tD{b:Bool}(I:Inv X US σ H s)(e:H a=some (.ins C dx fs))(c:rY X.K C)(n:aE X.K C f)(l:fs.lookup f=some v)(h:∀u s',Inv X US σ H s'->RelV v u->Q u s'):wpAny (model X.prog X.w) A (getAttr (.ref a) f b) Q E s:=by obtain⟨mA,O,r,_,_,_⟩:=qi I.aZ e;obtain⟨u,hu,ru⟩:=d7.some_of (v:=v) (o:=mA f) (by rw[<-l];exact r f);exact get_map I.d5 O (c.get f) c.hd n hu (u_ ru) (h u _ (I.tok _) ru)
theorem gB{m:Str}{g:Addr}{pl:Sem Bool}{Q:Value×List Value->Shared->Prop}(I:Inv X US σ H s)(e:H a=some (.ins C dx fs))(c:rY X.K C)(k:Meth X.K C m g)(l:fs.lookup m=none)(h:Q (.ref g,[.ref a]) s):wpAny (model X.prog X.w) A (getMethod (.ref a) m pl) Q E s:=by obtain⟨mA,O,r,_,_,_⟩:=qi I.aZ e;have hn:mA m=none:=d7.none_of (by rw[<-l];exact r m);exact Iv I.d5 O (c.get m) k.at_ k.fn hn h
theorem tp{y:V}{Q:Unit->Shared->Prop}(I:Inv X US σ H s)(e:H a=some (.ins C dx fs))(c:rY X.K C)(n:aE X.K C f)(hl:fs.length<1000)(ry:RelV y u)(h:∀s',Inv X US σ (upd H a (.ins C dx (aV f y fs))) s'->Q () s'):wpAny (model X.prog X.w) A (setAttr (.ref a) f u) Q E s:=by
 obtain⟨mA,O,r,wi,_,ho⟩:=qi I.aZ e;have hz:(fs.map (·.1)).length<=sizeLine:=by rw[List.length_map,sizeLine_eq];omega
 refine JO I.d5 O c.sa c.po n.IH c.hd wi hz λh' O' sb=>h _ ?_;have hd:∃o,h'.get? dx=some o:=let⟨o,_,_,e',_⟩:=O'.ns;⟨o,e'⟩;refine I.write (x:=a) (e:=dx) (by rw[e];exact True.intro) (.inr ho) (λb q hb z=>(sb.2 b hb).trans z) hd ?_;refine⟨by rw[ah O.ne];exact ho,?_,O.ne,O'.obj,_,O'.ns,λg=>?_,λg hg=>?_⟩
 ·have:=aG f y fs;omega
 ·show d7 ((aV f y fs).lookup g) (if g=f then some u else mA g);rw[az];by_cases q:g=f
  ·rw[if_pos q,if_pos q];exact ry
  ·rw[if_neg q,if_neg q];exact r g
 ·by_cases q:g=f
  ·rw[q];exact(gj f y fs).1
  ·refine(gj f y fs).2 g (wi g λz=>hg ?_);show(if g=f then some u else mA g)=none;rw[if_neg q];exact z
theorem Inv.made(I:Inv X US σ H s):Inv X US σ (upd (upd H s.heap.objs.size (.own (s.heap.objs.size+1))) (s.heap.objs.size+1) (.ins C s.heap.objs.size []))
  {s with heap:=(s.heap.push PySem.W.emptyDict).push (PySem.W.instObj C s.heap.objs.size)}:=by
 have e1:(s.heap.push PySem.W.emptyDict).get? s.heap.objs.size=some PySem.W.emptyDict:=Heap.get?_push_size s.heap rfl;have e2:((s.heap.push PySem.W.emptyDict).push (PySem.W.instObj C s.heap.objs.size)).get? (s.heap.objs.size+1)=some (PySem.W.instObj C s.heap.objs.size):=by
  have:=Heap.get?_push_size (s.heap.push PySem.W.emptyDict) (o:=PySem.W.instObj C s.heap.objs.size) rfl
  rwa [Heap.size_push] at this
 have e3:(s.heap.push PySem.W.emptyDict).Ns s.heap.objs.size (λ_=>none):=⟨PySem.W.emptyDict,#[],_,e1,rfl,(λe he=>absurd he (by simp)),λ_=>rfl⟩
 have I1:=I.laid (a:=s.heap.objs.size) (o:=.own (s.heap.objs.size+1)) (h':=s.heap.push PySem.W.emptyDict) (t':=s.toks) (λb u q=>Heap.get?_push_of_some _ q) (Nat.le_refl _) ⟨_,e1⟩;refine I1.laid (a:=s.heap.objs.size+1) (o:=.ins C s.heap.objs.size []) (t':=s.toks) (λb u q=>Heap.get?_push_of_some _ q) (Nat.le_of_eq (Heap.size_push _ _)) ?_;have ne:s.heap.objs.size≠s.heap.objs.size+1:=Nat.ne_of_lt (Nat.lt_succ_self _);refine⟨by rw[ah ne,ag],Nat.zero_le _,ne,e2,λ_=>none,(Heap.Ns1.of_empty e3).at λo q=>Heap.get?_push_of_some _ q,λ_=>True.intro,λy hy=>absurd rfl hy⟩
theorem DU{prog:Program}{env:Env}{e:Expr}{f:Str}{pos:Pos}{s:Shared}(hb:attributeBase e f env (eval e env)=eval e env)(h:wpAny (model prog w) A (eval e env) (λo s₁=>wpAny (model prog w) A (getAttr o f true) Q E s₁) E s):wpAny (model prog w) A (eval (.Attribute e f pos) env) Q E s:=
 Attribute_any_ h (by rw[arm_eval_Attribute,hb])
end
inductive QV(K:Frag)(f:Str)(Q:VK)(x:V)(H:Hp):Prop
 |mk(a C dx:Addr) (fs:List (Str×V)) (v:V) (_:x= .ref a) (_:H a=some (.ins C dx fs)) (_:rY K C) (_:aE K C f) (_:fs.lookup f=some v) (_:Q v H)
def A0(K:Frag)(ta:TE)(f:Str):TE:=λσ H Q=>ta σ H λx H1=>QV K f Q x H1
inductive Qt(K:Frag)(f:Str)(R:Hp->Prop)(y x:V)(H:Hp):Prop
 |mk(a C dx:Addr) (fs:List (Str×V)) (_:x= .ref a) (_:H a=some (.ins C dx fs)) (_:rY K C) (_:aE K C f) (_:fs.length<1000) (_:R (upd H a (.ins C dx (aV f y fs))))
def Te(K:Frag)(ta tv:TE)(f:Str):TS:=λD σ H=>tv σ H λy H1=>ta σ H1 λx H2=>Qt K f (λH=>D.nx σ H) y x H2
def P5(X:Cx)(op:Operator)(rd:V->V->Hp->VK->Prop):Prop:=
 ∀(US:List (Addr×Obj))(s:Shared)(σ:St)(H:Hp)(x y:V)(u v:Value)(Q:VK),Inv X US σ H s->RelV x u->RelV y v->rd x y H Q->wpAny (model X.prog X.w) X.A (inplaceOp op u v) (EP X US σ Q) X.xe s
def DC(K:Frag)(ta tv:TE)(rd:V->V->Hp->VK->Prop)(f:Str):TS:=λD σ H=>ta σ H λx H1=>∃a C dx fs v,x= .ref a/\H1 a=some (.ins C dx fs)/\rY K C/\aE K C f/\fs.lookup f=some v/\
 tv σ H1 λy H2=>rd v y H2 λz H3=>∃dx' fs',H3 a=some (.ins C dx' fs')/\fs'.length<1000/\D.nx σ (upd H3 a (.ins C dx' (aV f z fs')))
section
variable{X:Cx}{o e value:Expr}{f:Str}{pos pos' tpos:Pos}{ta tv:TE}
theorem ay(he:PE X e ta)(hb:attributeBase e f X.env (eval e X.env)=eval e X.env):PE X (.Attribute e f pos) (A0 X.K ta f):=by intro US s σ H Q I h;refine DU hb (br (he US s σ H _ I h) λu s1 ⟨x,H1,I1,rx,a,C,dx,fs,v,ex,ea,c,n,l,q⟩=>?_);subst ex;obtain rfl:u=Value.ref a:=rx;exact tD I1 ea c n l λu' s2 I2 ru=>⟨v,H1,I2,ru,q⟩
theorem bD(ha:PE X o ta)(hv:PE X value tv)(hs:swapsWith value (some (.Attribute o f pos')) pos.line X.env=pure false):PS X (.Assign [.Attribute o f pos'] value pos) (Te X.K ta tv f):=by intro US s σ H D I h;refine plainObj_wpAny_Assign_Attribute (br (hv US s σ H _ I h) λu s1 ⟨y,H1,I1,ry,q⟩=>br (ha US s1 σ H1 _ I1 q) λov s2 ⟨x,H2,I2,rx,a,C,dx,fs,ex,ea,c,n,l,q2⟩=>?_) hs;subst ex;obtain rfl:ov=Value.ref a:=rx;exact tp I2 ea c n l ry λs3 I3=>⟨σ,_,I3,q2⟩
theorem EI{op:Operator}{rd:V->V->Hp->VK->Prop}(ha:PE X o ta)(hv:PE X value tv)(hop:P5 X op rd):PS X (.AugAssign (.Attribute o f tpos) op value pos) (DC X.K ta tv rd f):=by intro US s σ H D I h;refine wpAny_AugAssign_AttributeAny (br (ha US s σ H _ I h) λov s1 ⟨x,H1,I1,rx,a,C,dx,fs,v,ex,ea,c,n,l,q⟩=>?_);subst ex;obtain rfl:ov=Value.ref a:=rx;refine tD I1 ea c n l λu s2 I2 ru=>br (hv US s2 σ H1 _ I2 q) λw3 s3 ⟨y,H2,I3,ry,q3⟩=>br (hop US s3 σ H2 v y u w3 _ I3 ru ry q3) λw4 s4 ⟨z,H3,I4,rz,dx',fs',ea',l',q4⟩=>?_;exact tp I4 ea' c n l' rz λs5 I5=>⟨σ,_,I5,q4⟩
inductive Rh(x:V)(y:V)(H:Hp)(Q:VK):Prop
 |mk(i:_) (j:_) (_:x= .int i) (_:y= .int j) (_:Q (.int (i+j)) H)
theorem O8:P5 X .Add Rh:=by
 rintro US s σ H x y u v Q I rx ry ⟨i,j,rfl,rfl,q⟩;obtain⟨t,rfl⟩:=(show ∃t,u=Value.int i t from rx)
 obtain⟨t',rfl⟩:=(show ∃t',v=Value.int j t' from ry)
 exact PyProof.Rows.iadd_int ⟨.int (i+j),H,I.tok _,⟨_,rfl⟩,q⟩
end
section
variable{X:Cx}{US:List (Addr×Obj)}{σ:St}{H:Hp}{s:Shared}{A:Around}{E:Value->Shared->Prop}{Q:Value->Shared->Prop}{c:Value}{b:Bool}
inductive m_(K:Frag)(H:Hp):V->Value->Prop where
 |bF:m_ K H .bF (.type "NoneType")
 |bl(x:Bool):m_ K H (.bl x) (.type "bool")
 |int(i:Int):m_ K H (.int i) (.type "int")
 |str(x:Str):m_ K H (.str x) (.type "str")
 |JA(x:UInt64):m_ K H (.JA x) (.type "float")
 |lst{a:Addr} {xs:List V} (e:H a=some (.lst xs)):m_ K H (.ref a) (.type "list")
 |sQ{a:Addr} {o:Obj} {xs:List V} (e:H a=some (.sQ o (.lst xs))):m_ K H (.ref a) (.type "list")
 |tup{a:Addr} {xs:List V} (e:H a=some (.tup xs)):m_ K H (.ref a) (.type "tuple")
 |dK{a:Addr} {kvs:List (Key×V)} (e:H a=some (.dK kvs)):m_ K H (.ref a) (.type "dict")
 |dT{a:Addr} {kvs:List (List Key×V)} (e:H a=some (.dT kvs)):m_ K H (.ref a) (.type "dict")
 |ins{a C dx:Addr} {fs:List (Str×V)} (e:H a=some (.ins C dx fs)) (cl:rY K C) (ha:PySem.W.findIn K (.ref C) "__class__"=some (some (.builtin "object.__class__")))
   (hn:PySem.W.specialIn K (.builtin "object.__class__") "__get__"=some (some (.builtin "getset_descriptor.__get__"))) (htk:PySem.W.takesIn K (.builtin "object.__class__")=some true)
   (hm:PySem.W.mroIn K C (.type "object")=some true):m_ K H (.ref a) (.ref C)
theorem E_{x:V}{t:Value}(I:Inv X US σ H s)(rx:RelV x u)(ty:m_ X.K H x t)(e:PySem.W.kitOne X.K t c=some b)(h:∀tk,Q (.bool b) {s with toks:=tk}):
  wpAny (model X.prog X.w) A (call (.builtin "isinstance") [u,c]) Q E s:=by
 cases ty with
 |bF=>cases(show u=Value.none from rx);exact PySem.W.kia_one PySem.W.kitx_none I.d5 True.intro e (λz=>nomatch z) h
 |bl y=>cases(show u=Value.bool y from rx);exact PySem.W.kia_one PySem.W.kitx_bool I.d5 True.intro e (λz=>nomatch z) h
 |int i=>obtain⟨t,q⟩:=(show ∃t,u=Value.int i t from rx);cases q;exact PySem.W.kia_one PySem.W.kitx_int I.d5 True.intro e (λz=>nomatch z) h
 |str y=>obtain⟨t,q⟩:=(show ∃t,u=Value.str y t from rx);cases q;exact PySem.W.kia_one PySem.W.kitx_str I.d5 True.intro e (λz=>nomatch z) h
 |JA y=>obtain⟨t,q⟩:=(show ∃t,u=Value.float y t from rx);cases q;exact PySem.W.kia_one PySem.W.kitx_float I.d5 True.intro e (λz=>nomatch z) h
 |@lst a xs ea=>
  cases(show u=Value.ref a from rx);obtain⟨_,_,n,_,h1⟩:=(show bL X.prog X.w H s.heap a (.lst xs) from I.aZ a _ ea)
  exact PySem.W.kia_one PySem.W.kitx_list I.d5 ⟨_,h1,rfl⟩ e (λz=>nomatch z) h
 |@sQ a ob xs ea=>
  cases(show u=Value.ref a from rx);obtain⟨_,_,_,n,_,h1⟩:=(show bL X.prog X.w H s.heap a (.sQ ob (.lst xs)) from I.aZ a _ ea)
  exact PySem.W.kia_one PySem.W.kitx_list I.d5 ⟨_,h1,rfl⟩ e (λz=>nomatch z) h
 |@tup a xs ea=>
  cases(show u=Value.ref a from rx);obtain⟨_,_,_,p⟩:=(show bL X.prog X.w H s.heap a (.tup xs) from I.aZ a _ ea)
  obtain⟨o,h1,h2,_⟩:=p;exact PySem.W.kia_one PySem.W.kitx_tuple I.d5 ⟨o,h1,h2⟩ e (λz=>nomatch z) h
 |@dK a kvs ea=>
  cases(show u=Value.ref a from rx);obtain⟨_,_,vs,_,p⟩:=(show bL X.prog X.w H s.heap a (.dK kvs) from I.aZ a _ ea)
  obtain⟨o,es,ep,h1,h2,_⟩:=p;exact PySem.W.kia_one PySem.W.kitx_dict I.d5 ⟨o,h1,h2.1⟩ e (λz=>nomatch z) h
 |@dT a kvs ea=>
  cases(show u=Value.ref a from rx);obtain⟨_,_,xs,_,o,es,ep,h1,h2,_⟩:=(show bL X.prog X.w H s.heap a (.dT kvs) from I.aZ a _ ea)
  exact PySem.W.kia_one PySem.W.kitx_dict I.d5 ⟨o,h1,h2.1⟩ e (λz=>nomatch z) h
 |@ins a C dx fs ea cl ha hn htk hm=>
  cases(show u=Value.ref a from rx);obtain⟨mA,O,_⟩:=qi I.aZ ea;obtain⟨od,J,_⟩:=O.look;exact PySem.W.kia_one (PySem.W.kitx_own (cl.get _) cl.hd ha hn htk hm) I.d5 J e (λz=>nomatch z) h
end
structure bB(k:Nat)(A:Around):Prop where
 hd:A.handled=none
 dp:A.depth+3*k+5<recursionLimit
 un:A.units+16*k+200<cLine
theorem bB.mono{j k:Nat}(r:bB k A)(h:j<=k):bB j A:=⟨r.hd,by have:=r.dp;omega,by have:=r.un;omega⟩
theorem bB.deeper{k:Nat}(r:bB (k+1) A)(env:Env):bB k (A.deeper env):=
 ⟨r.hd,by have:=r.dp;show A.depth+1+3*k+5<_;omega,by have:=r.un;show A.units+3+16*k+200<_;omega⟩
theorem tG{C:Addr}{kw:List (Str×Value)}:(A.under (.builtin "type.__call__" ⟨.ref C::us,kw⟩)).depth=A.depth+1:=by first|rfl|simp[Around.under,Code.weight,Code.isCreation,Code.isGuard,Code.isCaller,Code.frames,Code.isFrame,guardIds]
theorem tJ{C:Addr}{kw:List (Str×Value)}:(A.under (.builtin "type.__call__" ⟨.ref C::us,kw⟩)).units=A.units+1:=by first|rfl|simp[Around.under,Code.cUnits,Code.frames,Code.isFrame]
theorem bB.make{k:Nat}(r:bB (k+1) A)(C:Addr)(us:List Value)(kw:List (Str×Value)):bB k (A.under (.builtin "type.__call__" ⟨.ref C::us,kw⟩)):=
 ⟨r.hd,by have:=r.dp;rw[tG];omega,by have:=r.un;rw[tJ];omega⟩
theorem bB.depth{k:Nat}(r:bB k A):A.depth<recursionLimit:=by have:=r.dp;omega
theorem bB.units{k:Nat}(r:bB k A):A.units+64<cLine:=by have:=r.un;omega
def d8:TA:=λ_ H Q=>Q [] H
def bQ(ta:TE)(tr:TA):TA:=λσ H Q=>ta σ H λx H1=>tr σ H1 λxs H2=>Q (x::xs) H2
section
variable{X:Cx}{e:Expr}{es:List Expr}{te:TE}{t:TA}{pos:Pos}
theorem ao:PA X [] d8:=λ_ _ _ _ H Q I h=>Calls.spliced_nil ⟨[],H,I,.nil,h⟩
theorem aa(ha:PE X e te)(hr:PA X es t)(hs:starEach (e::es) X.env=(false,eval e X.env)::starEach es X.env:=by rfl):PA X (e::es) (bQ te t):=by intro pos US s σ H Q I h;rw[hs];show wpAny _ _ (spliced ((false,eval e X.env)::backTo pos (starEach es X.env))) _ _ s;refine Calls.spliced_cons (br (ha US s σ H _ I h) λu s1 ⟨x,H1,I1,r1,q1⟩=>?_);exact br (hr pos US s1 σ H1 _ I1 q1) λus s2 ⟨xs,H2,I2,r2,q2⟩=>⟨x::xs,H2,I2,.cons r1 r2,q2⟩
def JW(t:TA):TE:=λσ H Q=>t σ H λxs H1=>xs.length<=sizeLine/\∀p,H1 p=none->Q (.ref p) (upd H1 p (.tup xs))
def O3(t:TA):TE:=λσ H Q=>t σ H λxs H1=>xs.length<=sizeLine/\∀p,H1 p=none->Q (.ref p) (upd H1 p (.lst xs))
theorem fT{x1}(h:PA X es t):PE X (.Tuple es x1 pos) (JW t):=by intro US s σ H Q I hq;refine wpAny_Tuple_spliced (br (h pos US s σ H _ I hq) λus s1 ⟨xs,H1,I1,r,z,q⟩=>⟨by rw[<-r.length];exact z,?_⟩);have hf:H1 s1.heap.objs.size=none:=I1.aZ.fresh (Nat.le_refl _);refine⟨.ref s1.heap.objs.size,upd H1 s1.heap.objs.size (.tup xs),I1.laid (t':=s1.toks) (λb u e=>Heap.get?_push_of_some _ e) (Nat.le_refl _) ?_,rfl,q _ hf⟩;exact⟨z,us,r,⟨_,Heap.get?_push_size _ rfl,rfl,_,rfl⟩⟩
theorem bE(h:PA X es t):PE X (.List es pos) (O3 t):=by intro US s σ H Q I hq;refine wpAny_List_spliced (br (h pos US s σ H _ I hq) λus s1 ⟨xs,H1,I1,r,z,q⟩=>⟨by rw[<-r.length];exact z,?_⟩);have hf:H1 s1.heap.objs.size=none:=I1.aZ.fresh (Nat.le_refl _);refine⟨.ref s1.heap.objs.size,upd H1 s1.heap.objs.size (.lst xs),I1.laid (t':=s1.toks) (λb u e=>Heap.get?_push_of_some _ e) (Nat.le_refl _) ?_,rfl,q _ hf⟩;exact⟨z,us,0,r,Heap.get?_push_size _ rfl⟩
end
abbrev Sp:=List V->Hp->VK->XK->Prop
abbrev yz:=List Env->Hp->Shared->XK->Value->Shared->Prop
structure xi(P:Program)(w:World)(K:Frag)(mg:Str->Option Value)(base:Heap)(A:Around)(outer:List Env)(s:Shared)(H:Hp):Prop where
 frames:A.frames=some outer
 mod:Mod K mg base
 bs:∀b o,base.get? b=some o->s.heap.get? b=some o/\H b=none
 Fz:base.objs.size<=s.heap.objs.size
 jY:s.heap.FunFrames base outer
 Jx:∀b∈lU outer,H b=none
 aZ:gy P w H s.heap
 bare:AllBare s.gens
def CE(outer:List Env)(P:Program)(w:World)(H:Hp)(s:Shared)(Q:VK)(u:Value)(s':Shared):Prop:=
 ∃v H',s'.os=s.os/\AllBare s'.gens/\Un (lU outer) [] H H' s.heap s'.heap/\gy P w H' s'.heap/\RelV v u/\Q v H'
def CR(CX:yz)(outer:List Env)(P:Program)(w:World)(H:Hp)(s:Shared)(Q:VK)(E:XK)(r:Result)(s':Shared):Prop:=
 match r with
 | .ok (.ret u)=>CE outer P w H s Q u s'
 | .ok _=>False
 | .error e=>CX outer H s E e s'
structure bY(P:Program)(w:World)(K:Frag)(mg:Str->Option Value)(base:Heap)(CX:yz)(k:Nat)(f:Addr)(fd:FuncData)(ps:List Str)(sp:Sp):Prop where
 len:∀vs H Q E,sp vs H Q E->vs.length=ps.length
 run:∀(A:Around)(outer:List Env)(s:Shared)(H:Hp)(args:Args)(us:List Value)(vs:List V)(Q:VK)(E:XK),bB k A->xi P w K mg base A outer s H->BindsTo s fd args (ps.zip us)->Vals vs us->sp vs H Q E->
  codeAny (model P w) A (.call (.ref f) args) (CR CX outer P w H s Q E) s
theorem bY.mono{mg:Str->Option Value}{base:Heap}{CX:yz}{j k:Nat}{f:Addr}{fd:FuncData}{ps:List Str}{sp:Sp}(F:bY P w K mg base CX j f fd ps sp)(h:j<=k):
  bY P w K mg base CX k f fd ps sp:=⟨F.len,λA outer s H args us vs Q E hr=>F.run A outer s H args us vs Q E (hr.mono h)⟩
theorem xi.make{mg:Str->Option Value}{base:Heap}{outer:List Env}(e:xi P w K mg base A outer s H)(C:Addr)(us:List Value)(kw:List (Str×Value)):
  xi P w K mg base (A.under (.builtin "type.__call__" ⟨.ref C::us,kw⟩)) outer s H:=⟨by first|exact e.frames|(simpa[Around.under,Code.envs,Code.isFrame,pushEnvs] using e.frames),e.mod,e.bs,e.Fz,e.jY,e.Jx,e.aZ,e.bare⟩
section
variable{X:Cx}{US:List (Addr×Obj)}{σ:St}{H:Hp}{s s':Shared}
theorem Inv.Fi(I:Inv X US σ H s):xi X.prog X.w X.K X.mg X.base X.A X.stack s H:=
 ⟨I.ok.frames,I.ok.mod,I.bs,Nat.le_trans I.ok.Fz I.sz,I.stack,I.xZ,I.aZ,I.bare⟩
theorem Inv.after{Q:VK}(I:Inv X US σ H s)(h:CE X.stack X.prog X.w H s Q u s'):EP X US σ Q u s':=by obtain⟨v,H',os,bare,un,aZ,r,q⟩:=h;obtain⟨hh,g,d,t,os'⟩:=s';obtain rfl:os'=s.os:=os;exact⟨v,H',I.call (h':=hh) (g':=g) (d':=d) (t':=t) (ch:=[]) un aZ bare (λb z=>absurd z (by simp)),r,q⟩
end
def ik(sp:Sp)(dvs:List V)(E:XK)(t:TA):TE:=λσ H Q=>t σ H λvs H1=>sp (vs++dvs) H1 Q E
inductive RW(C:Addr)(m:Str)(R:Hp->Prop)(x:V)(H:Hp):Prop
 |mk(a dx:Addr) (fs:List (Str×V)) (_:x= .ref a) (_:H a=some (.ins C dx fs)) (_:fs.lookup m=none) (_:R H)
def Ai(C:Addr)(m:Str)(sp:Sp)(dvs:List V)(E:XK)(ta:TE)(t:TA):TE:=λσ H Q=>ta σ H λx H1=>RW C m (λH1=>t σ H1 λvs H2=>sp (x::(vs++dvs)) H2 Q E) x H1
def uL(C:Addr)(sp:Sp)(dvs:List V)(E:XK)(t:TA):TE:=λσ H Q=>t σ H λvs H1=>∀x dx,H1 x=none->H1 dx=none->dx≠x->
 sp (.ref x::(vs++dvs)) (upd (upd H1 dx (.own x)) x (.ins C dx [])) (λv H2=>v= .bF/\Q (.ref x) H2) E
def Binds(K:Frag)(fd:FuncData)(ps:List Str)(ds:List Value):Prop:=
 ∀(s:Shared)(us:List Value),K.In s.heap->(us++ds).length=ps.length->BindsTo s fd ⟨us,[]⟩ (ps.zip (us++ds))
theorem Binds.all{fd:FuncData}{ps:List Str}(h:∀us:List Value,us.length=ps.length->bindArgs fd ⟨us,[]⟩=pure (ps.zip us)):Binds K fd ps []:=λs us _ hl=>by
 rw[List.append_nil] at hl ⊢;exact .of_eq (h us hl)
def Passes(CX:yz)(X:Cx)(E:XK):Prop:=∀(US:List (Addr×Obj))(σ:St)(H:Hp)(s:Shared)(e:Value)(s':Shared),Inv X US σ H s->CX X.stack H s E e s'->X.xe e s'
section
variable{X:Cx}{CX:yz}{k:Nat}{f C:Addr}{fd:FuncData}{ps:List Str}{sp:Sp}{dvs:List V}{ds:List Value}{E:XK}{x m:Str}{p pos apos:Pos}{e o:Expr}{es:List Expr}{ta:TE}{t:TA}
theorem mY{Q:VK}{vs:List V}(F:bY X.prog X.w X.K X.mg X.base CX k f fd ps sp)(hr:bB k X.A)(hb:Binds X.K fd ps ds)(hd:Vals dvs ds)(hx:Passes CX X E)(I:Inv X US σ H s)(r:Vals vs us)(h:sp (vs++dvs) H Q E):wpAny (model X.prog X.w) X.A (call (.ref f) us) (EP X US σ Q) X.xe s:=by
 have r2:Vals (vs++dvs) (us++ds):=r.append hd;have hl:(us++ds).length=ps.length:=by rw[<-r2.length];exact F.len _ _ _ _ h
 refine wpAny_call (codeAny_mono (F.run X.A X.stack s H ⟨us,[]⟩ (us++ds) (vs++dvs) Q E hr I.Fi (hb s us I.d5 hl) r2 h) λr s' hq=>?_);cases r with
 |error e=>exact hx US σ H s e s' I hq
 |ok fl=>
  cases fl with
  |ret u=>exact I.after hq
  |next=>exact False.elim hq
  |brk=>exact False.elim hq
  |cont=>exact False.elim hq
theorem Lq(F:bY X.prog X.w X.K X.mg X.base CX k f fd ps sp)(hr:bB k X.A)(hg:Gl X x)(hm:X.mg x=some (.ref f))(hk:PySem.W.keepIn X.K (.ref f)=true)(hb:Binds X.K fd ps ds)(hd:Vals dvs ds)(hx:Passes CX X E)(ha:PA X (e::es) t)(hdb:(x==("__debug__":Str))=false:=by decide)(he:starEach (e::es) X.env=(false,eval e X.env)::starEach es X.env:=by rfl)(hpl:(backTo pos (starEach es X.env)).any (·.1)=false:=by rfl):
  PE X (.Call (.Name x p) (e::es) [] pos) (ik sp dvs E t):=by
 intro US s σ H Q I h;refine wpAny_Call_Name_kw (dZ I hg hm ?_ hdb);refine PySem.W.callWith_K (h₀:=X.base) I.ok.mod.D' hk (br (ha pos US s σ H _ I h) λus s1 ⟨vs,H1,I1,r,q⟩=>⟨I1.d5,?_⟩) he hpl;exact mY F hr hb hd hx I1 r q
theorem Jf(F:bY X.prog X.w X.K X.mg X.base CX k f fd ps sp)(hr:bB k X.A)(hg:Gl X x)(hm:X.mg x=some (.ref f))(hk:PySem.W.keepIn X.K (.ref f)=true)(hb:Binds X.K fd ps ds)(hd:Vals dvs ds)(hx:Passes CX X E)(hdb:(x==("__debug__":Str))=false:=by decide):PE X (.Call (.Name x p) [] [] pos) (ik sp dvs E d8):=by intro US s σ H Q I h;refine wpAny_Call_Name_kw (dZ I hg hm ?_ hdb);exact PySem.W.callWith_K0 I.d5 hk (mY (us:=[]) F hr hb hd hx I .nil h)
theorem J8{pl:Sem Bool}(he:PE X o ta)(c:rY X.K C)(hm:Meth X.K C m f)(F:bY X.prog X.w X.K X.mg X.base CX k f fd ps sp)(hr:bB k X.A)(hb:Binds X.K fd ps ds)(hd:Vals dvs ds)(hx:Passes CX X E)(ha:PA X (e::es) t)(hst:starEach (e::es) X.env=(false,eval e X.env)::starEach es X.env:=by rfl)(hpl:(backTo pos (starEach es X.env)).any (·.1)=false:=by rfl)(ht:eval (.Call (.Attribute o m apos) (e::es) [] pos) X.env=(do
   let ov<-eval o X.env
   standAt apos.atName
   let(f,first)<-holding [ov] (getMethod ov m pl)
   callWith pos f first (backTo pos (starEach (e::es) X.env)) (backToKw pos (keywordEach [] X.env))):=by rfl):
  PE X (.Call (.Attribute o m apos) (e::es) [] pos) (Ai C m sp dvs E ta t):=by
 intro US s σ H Q I h;refine PySem.W.methodCall_KW (pl:=pl) (br (he US s σ H _ I h) λu s1 ⟨x,H1,I1,rx,a,dx,fs,ex,ea,l,q⟩=>?_) ht;subst ex;obtain rfl:u=Value.ref a:=rx;refine gB I1 ea c hm l ?_;refine PySem.W.callWith_K (first:=[.ref a]) (h₀:=X.base) I.ok.mod.D' hm.kp (br (ha pos US s1 σ H1 _ I1 q) λus s2 ⟨vs,H2,I2,r,q2⟩=>⟨I2.d5,?_⟩) hst hpl;exact mY (us:=.ref a::us) (vs:=.ref a::vs) F hr hb hd hx I2 (.cons rfl r) q2
theorem FW{pl:Sem Bool}(he:PE X o ta)(c:rY X.K C)(hm:Meth X.K C m f)(F:bY X.prog X.w X.K X.mg X.base CX k f fd ps sp)(hr:bB k X.A)(hb:Binds X.K fd ps ds)(hd:Vals dvs ds)(hx:Passes CX X E)(ht:eval (.Call (.Attribute o m apos) [] [] pos) X.env=(do
   let ov<-eval o X.env
   standAt apos.atName
   let(f,first)<-holding [ov] (getMethod ov m pl)
   callWith pos f first (backTo pos (starEach [] X.env)) (backToKw pos (keywordEach [] X.env))):=by rfl):
  PE X (.Call (.Attribute o m apos) [] [] pos) (Ai C m sp dvs E ta d8):=by
 intro US s σ H Q I h;refine PySem.W.methodCall_KW (pl:=pl) (br (he US s σ H _ I h) λu s1 ⟨x,H1,I1,rx,a,dx,fs,ex,ea,l,q⟩=>?_) ht;subst ex;obtain rfl:u=Value.ref a:=rx;refine gB I1 ea c hm l ?_;exact PySem.W.callWith_K0 (first:=[.ref a]) I1.d5 hm.kp (mY (us:=[.ref a]) (vs:=[.ref a]) F hr hb hd hx I1 (.cons rfl .nil) q)
structure Mk(K:Frag)(C f:Addr):Prop where
 makes:PySem.W.makesIn K C=true
 init:PySem.W.findIn K (.ref C) "__init__"=some (some (.ref f))
 fn:PySem.W.isFn K (.ref f)=true
 kp:PySem.W.keepIn K (.ref C)=true
theorem zK{Q:VK}{vs:List V}(M:Mk X.K C f)(F:bY X.prog X.w X.K X.mg X.base CX k f fd ps sp)(hr:bB (k+1) X.A)(hb:Binds X.K fd ps ds)(hd:Vals dvs ds)(hx:Passes CX X E)(I:Inv X US σ H s)(r:Vals vs us)(h:∀x dx,H x=none->H dx=none->dx≠x->sp (.ref x::(vs++dvs)) (upd (upd H dx (.own x)) x (.ins C dx [])) (λv H2=>v= .bF/\Q (.ref x) H2) E):
  wpAny (model X.prog X.w) X.A (call (.ref C) us) (EP X US σ Q) X.xe s:=by
 have hq:=h (s.heap.objs.size+1) s.heap.objs.size (I.aZ.fresh (Nat.le_succ _)) (I.aZ.fresh (Nat.le_refl _)) (Nat.ne_of_lt (Nat.lt_succ_self _));have I2:=Inv.made (C:=C) I;have r2:Vals (V.ref (s.heap.objs.size+1)::(vs++dvs)) (Value.ref (s.heap.objs.size+1)::(us++ds)):=.cons rfl (r.append hd);have hl:(Value.ref (s.heap.objs.size+1)::us++ds).length=ps.length:=by
  have e:=r2.length;rw[F.len _ _ _ _ hq] at e;exact e.symm
 refine wpAny_call (zz (f:=f) I.d5 M.makes M.init (beq_iff_eq.mp M.fn) (codeAny_mono (F.run _ X.stack _ _ ⟨Value.ref (s.heap.objs.size+1)::us,[]⟩ (Value.ref (s.heap.objs.size+1)::(us++ds)) _ _ E (hr.make C us [])
  (I2.Fi.make C us []) (hb _ (Value.ref (s.heap.objs.size+1)::us) I2.d5 hl) r2 hq) λr s' hq'=>?_))
 cases r with
 |error e=>exact hx US σ _ _ e s' I2 hq'
 |ok fl=>
  cases fl with
  |ret u=>
   obtain⟨v,H',I3,rv,ev,q3⟩:=I2.after hq';subst ev;exact⟨rv,⟨V.ref (s.heap.objs.size+1),H',I3,rfl,q3⟩⟩
  |next=>exact False.elim hq'
  |brk=>exact False.elim hq'
  |cont=>exact False.elim hq'
theorem La(M:Mk X.K C f)(F:bY X.prog X.w X.K X.mg X.base CX k f fd ps sp)(hr:bB (k+1) X.A)(hg:Gl X x)(hm:X.mg x=some (.ref C))(hb:Binds X.K fd ps ds)(hd:Vals dvs ds)(hx:Passes CX X E)(ha:PA X (e::es) t)(hdb:(x==("__debug__":Str))=false:=by decide)(he:starEach (e::es) X.env=(false,eval e X.env)::starEach es X.env:=by rfl)(hpl:(backTo pos (starEach es X.env)).any (·.1)=false:=by rfl):
  PE X (.Call (.Name x p) (e::es) [] pos) (uL C sp dvs E t):=by
 intro US s σ H Q I h;refine wpAny_Call_Name_kw (dZ I hg hm ?_ hdb);refine PySem.W.callWith_K (h₀:=X.base) I.ok.mod.D' M.kp (br (ha pos US s σ H _ I h) λus s1 ⟨vs,H1,I1,r,q⟩=>⟨I1.d5,?_⟩) he hpl;exact zK M F hr hb hd hx I1 r q
theorem Ha(M:Mk X.K C f)(F:bY X.prog X.w X.K X.mg X.base CX k f fd ps sp)(hr:bB (k+1) X.A)(hg:Gl X x)(hm:X.mg x=some (.ref C))(hb:Binds X.K fd ps ds)(hd:Vals dvs ds)(hx:Passes CX X E)(hdb:(x==("__debug__":Str))=false:=by decide):PE X (.Call (.Name x p) [] [] pos) (uL C sp dvs E d8):=by intro US s σ H Q I h;refine wpAny_Call_Name_kw (dZ I hg hm ?_ hdb);exact PySem.W.callWith_K0 I.d5 M.kp (zK (us:=[]) M F hr hb hd hx I .nil h)
end
section
variable{X:Cx}{CX:yz}{k:Nat}{f C:Addr}{fd:FuncData}{ps ks:List Str}{sp:Sp}{E:XK}{x m:Str}{p pos apos kpos:Pos}{e o:Expr}{es:List Expr}{kws:List Keyword}{te ta:TE}{t tk:TA}{nm:Option Str}
variable{g:List Value->List Value->List Value}{gV:List V->List V->List V}
end
structure ax(N P:List Str)(sc:Scope):Prop where
 kind:sc.kind= .function
 co:sc.isCoroutine=false
 gen:sc.isGenerator=false
 nd:N.Nodup
 pre:N.take P.length=P
 par:∀x∈P,sc.names.lookup x=some .local\/sc.names.lookup x=some .cell
 Pa:∀y∈sc.names,y.2≠.free
theorem uN{kindOf:Str->Option NameKind}:∀{binds:List (Str×Value)}{m:Str->Option Value},(∀v,(x,v)∉binds)->bindL kindOf binds m x=m x
 |[],_,_=>rfl
 |(n,v)::r,m,h=>by
  unfold bindL;rw[uN λw hw=>h w (List.mem_cons_of_mem _ hw)];split
  ·have:x≠n:=by rintro rfl;exact h v List.mem_cons_self
   simp[this]
  ·rfl
theorem vD{kindOf:Str->Option NameKind}:∀{binds:List (Str×Value)}{m:Str->Option Value},(∀v,(x,v)∉binds)->bindC kindOf binds m x=m x
 |[],_,_=>rfl
 |(n,v)::r,m,h=>by
  unfold bindC;rw[vD λw hw=>h w (List.mem_cons_of_mem _ hw)];split
  ·rfl
  ·have:x≠n:=by rintro rfl;exact h v List.mem_cons_self
   simp[this]
theorem uR{kindOf:Str->Option NameKind}{v:Value}:∀{P:List Str}{vs:List Value}{i:Nat}{m:Str->Option Value},P.Nodup->P[i]?=some x->vs[i]?=some v->kindOf x=some .local->
  bindL kindOf (P.zip vs) m x=some v
 |[],_,_,_,_,h,_,_=>by simp at h
 |_::_,[],_,_,_,_,h,_=>by simp at h
 |p::P,w::vs,0,m,nd,h1,h2,hk=>by
  simp at h1 h2;subst h1;subst h2;show bindL kindOf ((p,w)::P.zip vs) m p=_;unfold bindL;rw[uN λv hv=>(List.nodup_cons.mp nd).1 (List.of_mem_zip hv).1,if_pos hk];simp
 |p::P,w::vs,i+1,m,nd,h1,h2,hk=>by
  show bindL kindOf ((p,w)::P.zip vs) m x=_;unfold bindL;exact uR (i:=i) (List.nodup_cons.mp nd).2 (by simpa using h1) (by simpa using h2) hk
theorem vh{kindOf:Str->Option NameKind}{v:Value}:∀{P:List Str}{vs:List Value}{i:Nat}{m:Str->Option Value},P.Nodup->P[i]?=some x->vs[i]?=some v->kindOf x≠some .local->
  bindC kindOf (P.zip vs) m x=some v
 |[],_,_,_,_,h,_,_=>by simp at h
 |_::_,[],_,_,_,_,h,_=>by simp at h
 |p::P,w::vs,0,m,nd,h1,h2,hk=>by
  simp at h1 h2;subst h1;subst h2;show bindC kindOf ((p,w)::P.zip vs) m p=_;unfold bindC;rw[vD λv hv=>(List.nodup_cons.mp nd).1 (List.of_mem_zip hv).1,if_neg hk];simp
 |p::P,w::vs,i+1,m,nd,h1,h2,hk=>by
  show bindC kindOf ((p,w)::P.zip vs) m x=_;unfold bindC;exact vh (i:=i) (List.nodup_cons.mp nd).2 (by simpa using h1) (by simpa using h2) hk
def start(N:List Str)(vs:List V):St:=vs.map some++List.replicate (N.length - vs.length) none
def iL(CX:yz)(P:Program)(w:World)(K:Frag)(mg:Str->Option Value)(base:Heap)(N:List Str)(qual:Str)(scope:Scope)(f:Addr)(cd:Value)(A:Around)(outer:List Env)(s:Shared)(H:Hp)(E:XK):Cx where
 prog:=P
 w:=w
 K:=K
 mg:=mg
 base:=base
 A:=A.deeper (envOfC qual scope s.heap.objs.size f cd)
 N:=N
 m8:=s
 Qz:=H
 env:=envOfC qual scope s.heap.objs.size f cd
 outer:=outer
 stack:=envOfC qual scope s.heap.objs.size f cd::outer
 ex:=[]
 calm:=true
 fn:=λ_=>true
 pn:=[]
 xe:=λe s'=>wpAny (model P w) (A.deeper (envOfC qual scope s.heap.objs.size f cd)) (leaving (envOfC qual scope s.heap.objs.size f cd) e) (λ_ s''=>CX outer H s E e s'') (λe' s''=>CX outer H s E e' s'') s'
theorem y6{sc:Scope}{n:Nat}(h:sc.names.lookup x=some .cell):∃c,(cellsFrom n sc.names []).lookup x=some c:=by have q:=PySem.W.cellsFrom_some sc.names n [] (.inl h);exact Option.isSome_iff_exists.mp q
theorem n_{CX:yz}{mg:Str->Option Value}{base:Heap}{N ps:List Str}{qual:Str}{scope:Scope}{f:Addr}{cd:Value}{outer:List Env}{s1:Shared}{E:XK}{vs:List V}(S:ax N ps scope)(hd:A.handled=none)(e0:xi P w K mg base A outer s H)(hl:vs.length=ps.length)(r:Vals vs us)(x:InCallC s s.heap.objs.size (bindL (envOfC qual scope s.heap.objs.size f cd).kindOf (ps.zip us) λ_=>none) (cellsFrom (s.heap.objs.size+1) scope.names []) (bindC (envOfC qual scope s.heap.objs.size f cd).kindOf (ps.zip us) λ_=>none) s1):
  Inv (iL CX P w K mg base N qual scope f cd A outer s H E) [] (start N vs) H s1:=by
 have hpl:ps.length<=N.length:=by have:=congrArg List.length S.pre;rw[List.length_take] at this;omega
 obtain⟨h1,tk,rfl,hk⟩:=x.done;have noA:∀b:Addr,b∉(iL CX P w K mg base N qual scope f cd A outer s H E).ex:=λb z=>absurd (show b∈([]:List Addr) from z) (by simp);refine⟨⟨e0.mod,S.kind,rfl,rfl,Nat.le_refl _,λy z c h1 h2=>?_,λy hy=>?_,λy c _ h=>?_,λ_=>hd,Around.frames_deeper e0.frames,.inr ⟨rfl,rfl⟩,λb z=>absurd z (noA b),e0.bs,e0.Fz,λb _ _=>noA b,λb z=>absurd z (noA b),e0.jY,e0.Jx⟩,
  rfl,e0.bare,Un.kept hk,⟨_,x.toInCall.ns,λi y v h1 h2 h3=>?_⟩,λy c h=>⟨_,x.cell y c h⟩,e0.aZ.fresh (Nat.le_refl _),λy c h=>?_,λp hp=>absurd (show p∈([]:List (Addr×Obj)) from hp) (by simp),e0.aZ.kept hk,?_⟩
 ·exact name_of_addr x.apart (PySem.mem_of_lookup h1) (PySem.mem_of_lookup h2)
 ·have hy:scope.names.lookup y=some .cell\/scope.names.lookup y=some .free:=hy;rcases hy with hy|hy
  ·exact y6 hy
  ·exact absurd rfl (S.Pa _ (PySem.mem_of_lookup hy))
 ·exact Nat.le_of_lt (x.above y c (PySem.mem_of_lookup h))
 ·have hi:i<vs.length:=by
   unfold start at h2;by_cases hi:i<vs.length
   ·exact hi
   ·rw[List.getElem?_append_right (by simpa using hi)] at h2;rw[List.getElem?_replicate] at h2;split at h2 <;> cases h2
  have ha:vs[i]?=some v:=by
   unfold start at h2;rw[List.getElem?_append_left (by simpa using hi),List.getElem?_map] at h2;cases e:vs[i]? with
   |none=>rw[e] at h2;cases h2
   |some a=>rw[e] at h2;cases h2;rfl
  obtain⟨u,hu,rv⟩:=r.get ha;have hp:ps[i]?=some y:=by
   rw[<-S.pre,List.getElem?_take_of_lt ↑2];exact h1
  have ndP:ps.Nodup:=by rw[<-S.pre];exact S.nd.sublist (List.take_sublist _ _)
  refine⟨u,rv,?_⟩;rcases S.par y (List.mem_of_getElem? hp) with k|k
  ·exact .inl ⟨k,uR ndP hp hu k⟩
  ·obtain⟨c,e⟩:=y6 (n:=s.heap.objs.size+1) k;refine .inr ⟨.inl k,c,e,?_⟩;have q:=x.cell y c e;rw[vh ndP hp hu (by show scope.names.lookup y≠_;rw[k];decide)] at q;exact q
 ·exact e0.aZ.fresh (Nat.le_of_lt (x.above y c (PySem.mem_of_lookup h)))
 ·unfold start;show _=N.length;rw[List.length_append,List.length_map,List.length_replicate];omega
theorem L5{CX:yz}{mg:Str->Option Value}{base:Heap}{k:Nat}{f:Addr}{name qual:Str}{params:Arguments}{body:List Stmt}{scope:Scope}{dV kV doc pm UT ct oc:Value}{an od:Option Addr}{osl:Array (Option Value)}{N ps:List Str}{sp:Sp}(lk:K.lookup f=some ⟨oc,od,.func (PySem.W.fnOf name qual params body scope dV kV doc pm an UT ct),osl⟩)(hcd:PySem.W.codeIn K UT qual=true)(S:ax N ps scope)(len:∀vs H Q E,sp vs H Q E->vs.length=ps.length)(hbody:∀(A:Around)(outer:List Env)(s:Shared)(H:Hp)(vs:List V)(Q:VK)(E:XK),bB k (A.deeper (envOfC qual scope s.heap.objs.size f UT))->sp vs H Q E->
   ∃t,tN (iL CX P w K mg base N qual scope f UT A outer s H E) body t/\t {nx:=λ_ H'=>Q .bF H',rt:=Q} (start N vs) H):
  bY P w K mg base CX (k+1) f (PySem.W.fnOf name qual params body scope dV kV doc pm an UT ct) ps sp:=by
 refine⟨len,λA outer s H args us vs Q E hr e0 hb r hsp=>?_⟩;have hl:=len _ _ _ _ hsp;have KX:K.In s.heap:=e0.mod.D'.keeps λb o e=>(e0.bs b o e).1;have lim:s.heap.NoLimit:=e0.mod.nolimit.keeps λb o e=>(e0.bs b o e).1;have hkind:∀y∈ps.zip us,scope.names.lookup y.1=some .local\/(scope.names.lookup y.1=some .cell/\((cellsFrom (s.heap.objs.size+1) scope.names []).lookup y.1).isSome=true):=λ⟨n,v⟩ hy=>by
  rcases S.par n (List.of_mem_zip hy).1 with q|q
  ·exact .inl q
  ·exact .inr ⟨q,PySem.W.cellsFrom_some _ _ _ (.inl q)⟩
 refine codeAny_call_function hr.depth (KX _ _ lk) rfl S.co S.gen rfl (PySem.W.codeRec_of KX hcd) (hb _ _ _ _ ?_);refine wpAny_newFunctionEnv_cells S.kind hkind λenv he s1 x=>?_;subst he;refine⟨lim.keeps x.toInCall.keep,codeAny_func ?_⟩;obtain⟨t,ht,hq⟩:=hbody A outer s H vs Q E (hr.deeper _) hsp;have I:Inv (iL CX P w K mg base N qual scope f UT A outer s H E) [] (start N vs) H s1:=n_ S hr.hd e0 hl r x;refine wpAny_mono (ht [] s1 (start N vs) H _ I hq) (λfl s' hs=>?_) λe s' hs=>hs;have fin:∀{σ':St}{H':Hp}{v:V}{u:Value},Inv (iL CX P w K mg base N qual scope f UT A outer s H E) [] σ' H' s'->RelV v u->Q v H'->CE outer P w H s Q u s':=
  λ{σ' H' v u} J rv q=>⟨v,H',J.os,J.bare,J.base,J.aZ,rv,q⟩
 cases fl with
 |ret u=>
  obtain⟨v,σ',H',J,rv,q⟩:=hs;exact fin J rv q
 |next=>
  obtain⟨σ',H',J,q⟩:=hs;exact fin (v:=V.bF) (u:=Value.none) J rfl q
 |brk=>
  obtain⟨_,_,_,q⟩:=hs;exact False.elim q
 |cont=>
  obtain⟨_,_,_,q⟩:=hs;exact False.elim q
section
variable{X:Cx}{x:Str}{p pos:Pos}{e:Expr}{es:List Expr}{t:TA}{id T:String}{r:List V->Hp->VK->Prop}
def Ma(r:List V->Hp->VK->Prop)(t:TA):TE:=λσ H Q=>t σ H λvs H1=>r vs H1 Q
theorem dX(hc:tK X (.builtin id) r)(hg:Gl X x)(hm:X.mg x=none)(hv:bootBuiltins x=some (.builtin id))(ha:PA X (e::es) t)(hn:x≠"__name__":=by decide)(hdb:(x==("__debug__":Str))=false:=by decide)(he:starEach (e::es) X.env=(false,eval e X.env)::starEach es X.env:=by rfl)(hpl:(backTo pos (starEach es X.env)).any (·.1)=false:=by rfl):PE X (.Call (.Name x p) (e::es) [] pos) (Ma r t):=by intro US s σ H Q I h;refine wpAny_Call_Name_kw (xR I hg hm hv ?_ hn hdb);exact PyProof.Rows.callWith_builtin1 (br (ha pos US s σ H _ I h) λus s1 ⟨vs,H1,I1,r1,q1⟩=>hc US s1 σ H1 vs us Q I1 r1 q1) he hpl
theorem Ea(hc:tK X (.type T) r)(hg:Gl X x)(hm:X.mg x=none)(hv:bootBuiltins x=some (.type T))(ha:PA X (e::es) t)(hn:x≠"__name__":=by decide)(hdb:(x==("__debug__":Str))=false:=by decide)(he:starEach (e::es) X.env=(false,eval e X.env)::starEach es X.env:=by rfl)(hpl:(backTo pos (starEach es X.env)).any (·.1)=false:=by rfl):PE X (.Call (.Name x p) (e::es) [] pos) (Ma r t):=by intro US s σ H Q I h;refine wpAny_Call_Name_kw (xR I hg hm hv ?_ hn hdb);exact PyProof.Rows.callWith_type1 (br (ha pos US s σ H _ I h) λus s1 ⟨vs,H1,I1,r1,q1⟩=>hc US s1 σ H1 vs us Q I1 r1 q1) he hpl
end
end L2
namespace HT
open PySem PyProof.Rows
section
open PySem.SeqAt
open PySem.AutoSeq1 (wpAny_loadPart')
open PySem.MeetsSeq PySem.MeetsSeq2 PySem.MeetsSeq3
end
section
variable{prog:Program}{w:World}{A:Around}{E:Value->Shared->Prop}{s:Shared}
def yP(n d:Nat):Option Int->Nat
 |none=>d
 |some v=>if v<0 then(v+(n:Int)).toNat else min v.toNat n
theorem Jn(n d:Nat):yP n d none=d:=rfl
theorem k_(n d k:Nat):yP n d (some (k:Int))=min k n:=by show(if(k:Int)<0 then((k:Int)+(n:Int)).toNat else min (k:Int).toNat n)=min k n;rw[if_neg ↑2,Int.toNat_natCast]
theorem ka{v:Value}{o:Option Int}{Q:Option Int->Shared->Prop}(p:IsPart v o)(h:Q o s):wpAny (model prog w) A (Builtin.Slice.slicePartIndex v) Q E s:=by
 cases p with
 |none=>exact slicePart_none h
 |int i t=>exact slicePart_int h
end
end HT
namespace L2
open PySem PySem.Spec PyProof.Rows
variable{US:List (Addr×Obj)}{H:Hp}{s:Shared}{A:Around}{w:World}{Q:Value->Shared->Prop}{kvs:List (List Key×V)}
abbrev TO:=St->Hp->(Option Int->Hp->Prop)->Prop
def PO(X:Cx)(e:Option Expr)(t:TO):Prop:=
 ∀(US:List (Addr×Obj))(s:Shared)(σ:St)(H:Hp)(Q:Option Int->Hp->Prop),Inv X US σ H s->t σ H Q->
  wpAny (model X.prog X.w) X.A (evalPart e X.env) (λu s'=>∃o H',Inv X US σ H' s'/\IsPart u o/\Q o H') X.xe s
def JY:TO:=λ_ H Q=>Q none H
def Pz(t:TE):TO:=λσ H Q=>t σ H λx H1=>∃i,x= .int i/\Q (some i) H1
section
variable{X:Cx}{e:Expr}{te:TE}{lo hi:Option Expr}{tl th:TO}{pos p2:Pos}
theorem Dm:PO X none JY:=by intro US s σ H Q I h;rw[evalPart_none];exact wpAny_pure ⟨none,H,I,.none,h⟩
theorem bT(h:PE X e te):PO X (some e) (Pz te):=by intro US s σ H Q I hw;rw[evalPart_some];refine br (h US s σ H _ I hw) λu s1 ⟨x,H1,I1,r1,q1⟩=>?_;obtain⟨i,rfl,q⟩:=q1;obtain⟨t,rfl⟩:=r1;exact⟨some i,H1,I1,.int i t,q⟩
def Uh(X:Cx)(r:V->Option Int->Option Int->Hp->VK->Prop):Prop:=
 ∀(US:List (Addr×Obj))(s:Shared)(σ:St)(H:Hp)(x:V)(v vl vu:Value)(lo hi:Option Int)(sl:Addr)(Q:VK),Inv X US σ H s->RelV x v->s.heap.IsSliceOf sl vl vu .none->IsPart vl lo->IsPart vu hi->r x lo hi H Q->
  ∃T id,typeLookup (.type T) "__getitem__"=pure (some (.builtin id))/\s.TypeIs v T/\wpAny (model X.prog X.w) X.A (getItem v (.ref sl)) (EP X US σ Q) X.xe s
def UE(r:V->Option Int->Option Int->Hp->VK->Prop)(te:TE)(tl th:TO):TE:=λσ H Q=>te σ H λx H1=>tl σ H1 λl H2=>th σ H2 λu H3=>r x l u H3 Q
theorem dR{r:V->Option Int->Option Int->Hp->VK->Prop}(hr:Uh X r)(he:PE X e te)(hl:PO X lo tl)(hu:PO X hi th):PE X (.Subscript e (.Slice lo hi none p2) pos) (UE r te tl th):=by intro US s σ H Q I h;refine Subscript_ (br (he US s σ H _ I h) λv s1 ⟨x,H1,I1,r1,q1⟩=>?_);refine wpAny_Slice (br (hl US s1 σ H1 _ I1 q1) λvl s2 ⟨l,H2,I2,pl,q2⟩=>br (hu US s2 σ H2 _ I2 q2) λvu s3 ⟨u,H3,I3,pu,q3⟩=>?_);rw[evalPart_none];refine wpAny_pure ?_;have I4:Inv X US σ H3 {s3 with heap:=s3.heap.push {cls:=.type "slice",data:=.fields #[vl,vu,.none]}}:=I3.kept (t':=s3.toks) λb ob q=>Heap.get?_push_of_some _ q;obtain⟨T,id,hT,ht,hg⟩:=hr US {s3 with heap:=s3.heap.push {cls:=.type "slice",data:=.fields #[vl,vu,.none]}} σ H3 x v vl vu l u s3.heap.objs.size Q I4 r1 (Heap.IsSliceOf.new ..) pl pu q3;show wpAny (model X.prog X.w) X.A (subscriptTail e (.Slice lo hi none p2) v (.ref s3.heap.objs.size)) (EP X US σ Q) X.xe {s3 with heap:=s3.heap.push {cls:=.type "slice",data:=.fields #[vl,vu,.none]}};exact tail_any (ops:=[.ref s3.heap.objs.size,v]) ht hT hg (by with_unfolding_all rfl)
def gN(xs:List V)(lo hi:Option Int):List V:=(xs.drop (HT.yP xs.length 0 lo)).take (HT.yP xs.length xs.length hi - HT.yP xs.length 0 lo)
theorem oS(xs:List V)(lo hi:Option Int):(gN xs lo hi).length<=xs.length:=by unfold gN;rw[List.length_take,List.length_drop];omega
end
def FF(n:Nat)(i:Int):Option Nat:=if 0<=i then(if i<n then some i.toNat else none) else if -(n:Int)<=i then some (i+n).toNat else none
def vi{α:Type}(xs:List α)(i:Int):Option α:=(FF xs.length i).bind λj=>xs[j]?
theorem C8{n:Nat}{i:Int}{j:Nat}(h:FF n i=some j):seqIndex? i n=some j/\j<n/\ -(n:Int)<=i/\i<n:=by
 unfold FF at h;by_cases h0:0<=i
 ·rw[if_pos h0] at h;by_cases h1:i<n
  ·rw[if_pos h1] at h;have e:i.toNat=j:=Option.some.inj h;exact⟨by rw[seqIndex_of h0 h1,e],↑2,↑2,h1⟩
  ·rw[if_neg h1] at h;cases h
 ·rw[if_neg h0] at h;by_cases h1: -(n:Int)<=i
  ·rw[if_pos h1] at h;have e:(i+n).toNat=j:=Option.some.inj h;exact⟨by rw[seqIndex_neg ↑2 h1,e],↑2,h1,↑2⟩
  ·rw[if_neg h1] at h;cases h
theorem qo{α:Type}{xs:List α}{i:Int}{v:α}(h:vi xs i=some v):∃j,seqIndex? i xs.length=some j/\xs[j]?=some v/\j<xs.length/\ -(xs.length:Int)<=i/\i<xs.length:=by
 unfold vi at h;cases e:FF xs.length i with
 |none=>rw[e] at h;cases h
 |some j=>
  rw[e] at h;obtain⟨h1,h2,h3,h4⟩:=C8 e;exact⟨j,h1,h,h2,h3,h4⟩
theorem JQ{α:Type}{xs:List α}{j:Nat}{v:α}(h:xs[j]?=some v):vi xs (j:Int)=some v:=by
 have hj:j<xs.length:=(List.getElem?_eq_some_iff.mp h).1;have e:FF xs.length (j:Int)=some j:=by
  unfold FF;rw[if_pos ↑2,if_pos ↑2];simp
 unfold vi;rw[e];exact h
def JM(b:Expr):Prop:=∀o i,subscripted b false o i=operate [o,i] (getItem o i)
def Po(X:Cx)(r:R2):Prop:=
 ∀(value UU:Expr)(US:List (Addr×Obj))(s:Shared)(σ:St)(H:Hp)(x y:V)(v u:Value)(Q:VK),Inv X US σ H s->RelV x v->RelV y u->r x y H Q->
  subscripted UU false v u=operate [v,u] (getItem v u)->wpAny (model X.prog X.w) X.A (subscriptTail value UU v u) (EP X US σ Q) X.xe s
def Sj(X:Cx)(id:String)(r:V->List V->Hp->VK->Prop):Prop:=
 ∀(US:List (Addr×Obj))(s:Shared)(σ:St)(H:Hp)(x:V)(xs:List V)(v:Value)(us:List Value)(Q:VK),Inv X US σ H s->RelV x v->Vals xs us->r x xs H Q->
  wpAny (model X.prog X.w) X.A (call (.builtin id) (v::us)) (EP X US σ Q) X.xe s
section
variable{X:Cx}{a b:Expr}{ta tb:TE}{pos:Pos}
theorem bx{r:R2}(hr:Po X r)(ha:PE X a ta)(hb:PE X b tb)(hs:JM b):PE X (.Subscript a b pos) (AD r ta tb):=by intro US s σ H Q I h;exact Subscript_ (Oz ha hb I h λv u s2 x y H2 I2 rx ry q=>hr a b US s2 σ H2 x y v u Q I2 rx ry q (hs _ _))
inductive KS(K:Frag)(x:V)(y:V)(H:Hp)(Q:VK):Prop
 |mk(p:_) (xs:_) (i:_) (v:_) (_:x= .ref p) (_:y= .int i) (_:bh K H p xs) (_:vi xs i=some v) (_:Q v H)
inductive Tu(K:Frag)(x:V)(y:V)(H:Hp)(Q:VK):Prop
 |mk(p:_) (xs:_) (i:_) (v:_) (_:x= .ref p) (_:y= .int i) (_:fN K H p xs) (_:vi xs i=some v) (_:Q v H)
inductive TZ(x:V)(y:V)(H:Hp)(Q:VK):Prop
 |mk(z:_) (i:_) (c:_) (_:x= .str z) (_:y= .int i) (_:z.length<=sizeLine) (_:vi z.cps.toList i=some c) (_:Q (.str ⟨#[c]⟩) H)
theorem aW:Po X (KS X.K):=by
 intro value UU US s σ H x y v u Q I rx ry h hs;obtain⟨p,xs,i,z,rfl,rfl,hq,he,q⟩:=h;cases rx;obtain⟨t,rfl⟩:=ry;obtain⟨its,r,pl,hz⟩:=I.list hq;obtain⟨j,h1,h2,h3,h4,h5⟩:=qo he;obtain⟨w,ew,rw'⟩:=r.get h2;have hl:=r.length;have hn:=n8;have fin:EP X US σ Q w s:=⟨z,H,I,rw',q⟩
 by_cases h0:0<=i
 ·have hj:i.toNat=j:=by
   rw[seqIndex_of h0 h5] at h1;exact Option.some.inj h1
  exact item_listR pl.isList h0 ↑2 (by rw[hj];simpa using ew) fin hs
 ·have hj:(i+(its.toArray.size:Int)).toNat=j:=by
   rw[seqIndex_neg ↑2 h4] at h1;rw[List.size_toArray,<-hl];exact Option.some.inj h1
  exact subscriptTail_builtinR (x:=w) pl.isList.typeIs slot_list_getitem.lookup
   (wpAny_getItem_list_neg (Q:=λr s'=>r=w/\EP X US σ Q r s') pl.isList ↑2 (by rw[List.size_toArray] <;> omega) ↑2 (by rw[hj];simpa using ew) ⟨rfl,fin⟩) hs
theorem xg:Po X (Tu X.K):=by
 intro value UU US s σ H x y v u Q I rx ry h hs;obtain⟨p,xs,i,z,rfl,rfl,hq,he,q⟩:=h;cases rx;obtain⟨t,rfl⟩:=ry;obtain⟨its,r,pl,hz⟩:=I.tuple hq;obtain⟨j,h1,h2,h3,h4,h5⟩:=qo he;obtain⟨w,ew,rw'⟩:=r.get h2;have hl:=r.length;have hn:=n8;have fin:EP X US σ Q w s:=⟨z,H,I,rw',q⟩
 exact subscriptTail_builtinR (x:=w) pl.typeIs slot_tuple_getitem.lookup
  (getItem_tuple (j:=j) (Q:=λr s'=>r=w/\EP X US σ Q r s') pl ↑2 ↑2 (by rw[List.size_toArray,<-hl];exact h1) (by simpa using ew) ⟨rfl,fin⟩) hs
theorem M4:Po X TZ:=by
 intro value UU US s σ H x y v u Q I rx ry h hs;obtain⟨z,i,c,rfl,rfl,hz,he,q⟩:=h;obtain⟨t,rfl⟩:=rx;obtain⟨t',rfl⟩:=ry;obtain⟨j,h1,h2,h3,h4,h5⟩:=qo he;have hl:z.cps.toList.length=z.length:=by simp[Str.length]
 rw[hl] at h1 h4 h5;have hn:=n8;exact tail_any (typeIs_str s z t) slot_str_getitem.lookup (getItem_str (c:=c) (by
  have e1:decide (i< -(2 ^ 63:Int))=false:=decide_eq_false ↑2;have e2:decide (i≥2 ^ 63)=false:=decide_eq_false ↑2;rw[e1,e2,Bool.or_false]) (by rw[h1];simpa using h2) ⟨.str ⟨#[c]⟩,H,I.tok _,⟨_,rfl⟩,q⟩) hs
theorem BX(its:List Value)(n j:Nat)(u:Value):Obj.mapSeq (·.setIfInBounds j u) {cls:=.type "list",data:=.seq its.toArray n}={cls:=.type "list",data:=.seq (its.set j u).toArray n}:=by simp[Obj.mapSeq]
theorem Inv.lst{σ:St}{p:Addr}{xs:List V}(I:Inv X US σ H s)(h:H p=some (.lst xs)):
  ∃(its:List Value)(n:Nat),Vals xs its/\s.heap.get? p=some {cls:=.type "list",data:=.seq its.toArray n}/\xs.length<=sizeLine:=by
 obtain⟨z,its,n,r,e⟩:=I.aZ p _ h;exact⟨its,n,r,e,z⟩
theorem Inv.Np{σ:St}{p:Addr}{xs ys:List V}{its its':List Value}{n n':Nat}{f:Obj->Obj}(I:Inv X US σ H s)(h:H p=some (.lst xs))(ho:s.heap.get? p=some {cls:=.type "list",data:=.seq its.toArray n})(hf:f {cls:=.type "list",data:=.seq its.toArray n}={cls:=.type "list",data:=.seq its'.toArray n'})(r:Vals ys its')(hz:ys.length<=sizeLine)(t:Nat):
  Inv X US σ (upd H p (.lst ys)) {s with heap:=s.heap.update p f,toks:=t}:=by
 have e:(s.heap.update p f).get? p=some {cls:=.type "list",data:=.seq its'.toArray n'}:=by
  rw[Heap.get?_update_self f ho (by rw[hf] <;> rfl),hf]
 refine I.write (x:=p) (e:=p) (by rw[h];trivial) (.inl rfl) (λb u hb q=>(Heap.get?_update_other _ _ (Ne.symm hb)).trans q) ⟨_,e⟩ ?_;exact⟨hz,its',n',r,e⟩
inductive LK(o:V)(i:V)(v:V)(H:Hp)(Q:(Hp->Prop)):Prop
 |mk(p:_) (xs:_) (k:_) (j:_) (_:o= .ref p) (_:i= .int k) (_:H p=some (.lst xs)) (_:FF xs.length k=some j) (_:Q (upd H p (.lst (xs.set j v))))
theorem set_list:O0 X LK:=by
 intro US s σ H o i v ov iv u Q I ro ri rv h;obtain⟨p,xs,k,j,rfl,rfl,hp,hj,q⟩:=h;cases ro;obtain⟨t,rfl⟩:=ri;obtain⟨its,n,r,ho,hz⟩:=I.lst hp;obtain⟨h1,h2,h3,h4⟩:=C8 hj;have hl:=r.length;have hn:=n8;have I':Inv X US σ (upd H p (.lst (xs.set j v))) {s with heap:=s.heap.update p (Obj.mapSeq (·.setIfInBounds j u))}:=
  I.Np hp ho (BX its n j u) (r.set rv j) (by rw[List.length_set];exact hz) s.toks
 by_cases h0:0<=k
 ·have hk:k.toNat=j:=by
   rw[seqIndex_of h0 h4] at h1;exact Option.some.inj h1
  exact PySem.W.ki_setAt ho h0 ↑2 (by rw[List.size_toArray,<-hl];exact h4) (by rw[hk];exact⟨_,I',q⟩)
 ·have hk:(k+(its.toArray.size:Int)).toNat=j:=by
   rw[seqIndex_neg ↑2 h3] at h1;rw[List.size_toArray,<-hl];exact Option.some.inj h1
  exact PySem.W.ki_setBack ho ↑2 (by rw[List.size_toArray,<-hl];exact h3) ↑2 (by rw[hk];exact⟨_,I',q⟩)
theorem wz(lo hi:Option Int)(n:Nat):(sliceBounds lo hi none n).1=((HT.yP n 0 lo:Nat):Int)/\(sliceBounds lo hi none n).2.1=((HT.yP n n hi:Nat):Int)/\(sliceBounds lo hi none n).2.2=1:=by
 refine⟨?_,?_,rfl⟩
 ·cases lo with
  |none=>simp[sliceBounds,HT.yP]
  |some i=>
   simp only[sliceBounds,HT.yP,Option.getD_none,show(1:Int)>0 by decide,if_true];by_cases h:i<0
   ·simp only[h,if_true] <;> omega
   ·simp only[h,if_false] <;> omega
 ·cases hi with
  |none=>simp[sliceBounds,HT.yP]
  |some i=>
   simp only[sliceBounds,HT.yP,Option.getD_none,show(1:Int)>0 by decide,if_true];by_cases h:i<0
   ·simp only[h,if_true] <;> omega
   ·simp only[h,if_false] <;> omega
theorem ui(its:List Value)(lo hi:Option Int):slicePick its.toArray lo hi none=((its.drop (HT.yP its.length 0 lo)).take (HT.yP its.length its.length hi - HT.yP its.length 0 lo)).toArray:=by obtain⟨h1,h2,h3⟩:=wz lo hi its.toArray.size;unfold slicePick;rw[h1,h2,h3];simp only[sliceRange_one,pick_run,List.size_toArray] <;> rfl
inductive Sv(K:Frag)(x:V)(lo:Option Int)(hi:Option Int)(H:Hp)(Q:VK):Prop
 |mk(a:_) (xs:_) (_:x= .ref a) (_:bh K H a xs) (_:∀p,H p=none->Q (.ref p) (upd H p (.lst (gN xs lo hi))))
theorem eU:Uh X (Sv X.K):=by intro US s σ H x v vl vu lo hi sl Q I rx hs pl pu h;obtain⟨a,xs,rfl,hx,q⟩:=h;cases rx;obtain⟨its,r,ht,hz⟩:=I.list hx;have hlen:=r.length;refine⟨"list",_,slot_list_getitem.lookup,ht.isList.typeIs,?_⟩;refine wpAny_getItem_list_slice ht.isList hs pl pu .none (by simp) ?_ (by rw[List.size_toArray] <;> omega);rw[ui,<-hlen];refine⟨.ref s.heap.objs.size,_,I.laid (t':=s.toks) (o:=.lst (gN xs lo hi)) (λb ob q=>Heap.get?_push_of_some _ q) (Nat.le_refl _) ?_,rfl,q _ (I.aZ.fresh (Nat.le_refl _))⟩;exact⟨Nat.le_trans (oS xs lo hi) hz,_,0,(r.drop (HT.yP xs.length 0 lo)).take (HT.yP xs.length xs.length hi - HT.yP xs.length 0 lo),Heap.get?_push_size _ rfl⟩
def iQ:V->Bool
 | .bF=>true
 | .bl _=>true
 | .int _=>true
 | .str _=>true
 |_=>false
def Eo:V->V->Bool
 | .bF,.bF=>true
 | .bl a,.bl b=>a==b
 | .bl a,.int b=>(if a then 1 else 0)==b
 | .int a,.bl b=>a==(if b then 1 else 0)
 | .int a,.int b=>a==b
 | .str a,.str b=>a==b
 |_,_=>false
theorem O_{y x:V}{u v:Value}(ry:RelV y u)(rx:RelV x v)(fy:iQ y=true)(fx:iQ x=true):SeqAt.EqAt A s u v (Eo y x):=by
 cases y with
 |bF=>
  cases ry;cases x with
  |bF=>cases rx;exact SeqAt.EqAt.same _
  |bl b=>cases rx;exact SeqAt.EqAt.none_bool b
  |int b=>obtain⟨t,rfl⟩:=rx;exact SeqAt.EqAt.none_int b t
  |str b=>obtain⟨t,rfl⟩:=rx;exact SeqAt.EqAt.none_str b t
  |_=>exact absurd (show false=true from fx) Bool.false_ne_true
 |bl a=>
  cases ry;cases x with
  |bF=>cases rx;exact SeqAt.EqAt.bool_none a
  |bl b=>cases rx;exact SeqAt.EqAt.bool_bool a b
  |int b=>obtain⟨t,rfl⟩:=rx;exact SeqAt.EqAt.bool_int a b t
  |str b=>obtain⟨t,rfl⟩:=rx;exact SeqAt.EqAt.bool_str a b t
  |_=>exact absurd (show false=true from fx) Bool.false_ne_true
 |int a=>
  obtain⟨t',rfl⟩:=ry;cases x with
  |bF=>cases rx;exact SeqAt.EqAt.int_none a t'
  |bl b=>cases rx;exact SeqAt.EqAt.int_bool a t' b
  |int b=>obtain⟨t,rfl⟩:=rx;exact SeqAt.EqAt.int_int a t' b t
  |str b=>obtain⟨t,rfl⟩:=rx;exact SeqAt.EqAt.int_str a t' b t
  |_=>exact absurd (show false=true from fx) Bool.false_ne_true
 |str a=>
  obtain⟨t',rfl⟩:=ry;cases x with
  |bF=>cases rx;exact SeqAt.EqAt.str_none a t'
  |bl b=>cases rx;exact SeqAt.EqAt.str_bool a t' b
  |int b=>obtain⟨t,rfl⟩:=rx;exact SeqAt.EqAt.str_int a t' b t
  |str b=>obtain⟨t,rfl⟩:=rx;exact SeqAt.EqAt.str_str a t' b t
  |_=>exact absurd (show false=true from fx) Bool.false_ne_true
 |_=>exact absurd (show false=true from fy) Bool.false_ne_true
def A2(x:V)(u:Value):Bool:=match u with
 | .none=>Eo .bF x
 | .bool b=>Eo (.bl b) x
 | .int i _=>Eo (.int i) x
 | .str z _=>Eo (.str z) x
 |_=>false
theorem GL{x y:V}{u:Value}(r:RelV y u)(f:iQ y=true):A2 x u=Eo y x:=by
 cases y with
 |bF=>cases r;rfl
 |bl b=>cases r;rfl
 |int i=>obtain⟨t,rfl⟩:=r;rfl
 |str z=>obtain⟨t,rfl⟩:=r;rfl
 |_=>exact absurd (show false=true from f) Bool.false_ne_true
theorem lM{x:V}:∀{xs:List V}{us:List Value},Vals xs us->xs.all iQ=true->us.any (A2 x)=xs.any λy=>Eo y x
 |_,_,.nil,_=>rfl
 |y::xs,u::us,.cons r t,f=>by
  rw[List.all_cons,Bool.and_eq_true] at f;rw[List.any_cons,List.any_cons,GL r f.1,lM t f.2]
theorem iB{x:V}{v:Value}(rx:RelV x v)(fx:iQ x=true):∀{xs:List V}{us:List Value},Vals xs us->xs.all iQ=true->∀u∈us,SeqAt.EqAt A s u v (A2 x u)
 |_,_,.nil,_=>λu hu=>by cases hu
 |y::xs,u::us,.cons r t,f=>λu' hu=>by
  rw[List.all_cons,Bool.and_eq_true] at f;rcases List.mem_cons.mp hu with rfl|hu
  ·rw[GL r f.1];exact O_ r rx f.1 fx
  ·exact iB rx fx t f.2 u' hu
def Dq(x:V)(xs:List V):Bool:=xs.any λy=>Eo y x
inductive Uk(K:Frag)(neg:Bool)(x:V)(y:V)(H:Hp)(Q:VK):Prop
 |mk(p:_) (xs:_) (_:y= .ref p) (_:(bh K H p xs\/fN K H p xs)) (_:iQ x=true) (_:xs.all iQ=true) (_:Q (.bl (if neg then !Dq x xs else Dq x xs)) H)
theorem eY:jg X (compareOp .In) (Uk X.K false):=by
 intro US s σ H x y v u Q I rx ry h;obtain⟨p,xs,rfl,hq,fx,fs,q⟩:=h;cases ry;rcases hq with hq|hq
 ·obtain⟨its,r,pl,hz⟩:=I.list hq;refine SeqAt.in_listAt (A2 x) pl.isList (λw hw=>iB rx fx r fs w (by simpa using hw)) ⟨.bl _,H,I,rfl,?_⟩;rw[show its.toArray.any (A2 x)=its.any (A2 x) by simp,lM r fs];exact q
 ·obtain⟨its,r,pl,hz⟩:=I.tuple hq;refine SeqAt.in_tupleAt (A2 x) pl (λw hw=>iB rx fx r fs w (by simpa using hw)) ⟨.bl _,H,I,rfl,?_⟩;rw[show its.toArray.any (A2 x)=its.any (A2 x) by simp,lM r fs];exact q
theorem vK:jg X (compareOp .NotIn) (Uk X.K true):=by
 intro US s σ H x y v u Q I rx ry h;obtain⟨p,xs,rfl,hq,fx,fs,q⟩:=h;cases ry;rcases hq with hq|hq
 ·obtain⟨its,r,pl,hz⟩:=I.list hq;refine SeqAt.notIn_listAt (A2 x) pl.isList (λw hw=>iB rx fx r fs w (by simpa using hw)) ⟨.bl _,H,I,rfl,?_⟩;rw[show its.toArray.any (A2 x)=its.any (A2 x) by simp,lM r fs];exact q
 ·obtain⟨its,r,pl,hz⟩:=I.tuple hq;refine SeqAt.notIn_tupleAt (A2 x) pl (λw hw=>iB rx fx r fs w (by simpa using hw)) ⟨.bl _,H,I,rfl,?_⟩;rw[show its.toArray.any (A2 x)=its.any (A2 x) by simp,lM r fs];exact q
inductive yM(K:Frag)(xs:List V)(H:Hp)(Q:VK):Prop
 |mk(p:Addr) (ys:List V) (_:xs=[.ref p]) (_:bh K H p ys\/fN K H p ys) (_:Q (.int ys.length) H)
theorem xy:tK X (.builtin "len") (yM X.K):=by
 intro US s σ H xs us Q I r h;obtain⟨p,ys,rfl,hq,q⟩:=h;obtain⟨u,rfl,rx⟩:=vals1 r;cases rx;have hn:=n8;rcases hq with hq|hq
 ·obtain⟨its,r',pl,hz⟩:=I.list hq;have hlen:=r'.length;exact Calls.call_len_list pl.isList (by simp only[List.size_toArray] <;> omega) ⟨.int ys.length,H,I.tok _,⟨s.toks+1,by rw[List.size_toArray,hlen]⟩,q⟩
 ·obtain⟨its,r',pl,hz⟩:=I.tuple hq;have hlen:=r'.length;exact len_tuple pl (by simp only[List.size_toArray] <;> omega) ⟨.int ys.length,H,I.tok _,⟨s.toks+1,by rw[List.size_toArray,hlen]⟩,q⟩
theorem w8:tK X (.type "list") (λxs H Q=>∃p ys,xs=[.ref p]/\(bh X.K H p ys\/fN X.K H p ys)/\∀l,H l=none->Q (.ref l) (upd H l (.lst ys))):=by
 intro US s σ H xs us Q I r h;obtain⟨p,ys,rfl,hq,q⟩:=h;obtain⟨u,rfl,rx⟩:=vals1 r;cases rx;have fin:∀(its:List Value),Vals ys its->ys.length<=sizeLine->∀(h':Heap)(c':Nat),(∀b o',s.heap.get? b=some o'->h'.get? b=some o')->
   h'.get? s.heap.objs.size=some {cls:=.type "list",dict:=none,data:=.seq its.toArray c',slots:=#[]}->EP X US σ Q (.ref s.heap.objs.size) {s with heap:=h'}:=λits r' hz h' c' kp e=>
  ⟨.ref s.heap.objs.size,_,I.laid (t':=s.toks) kp (Nat.le_refl _) (show bL X.prog X.w _ h' _ (.lst ys) from⟨hz,its,c',r',e⟩),rfl,q _ (I.aZ.fresh (Nat.le_refl _))⟩
 rcases hq with hq|hq
 ·obtain⟨its,r',pl,hz⟩:=I.list hq;have hlen:=r'.length;obtain⟨o,ho,hc,n,hd⟩:=pl.isList;exact call_list_seq p (.inl rfl) ho hc hd (λh' c' kp e=>fin its r' hz h' c' kp e) (by simp only[List.size_toArray] <;> omega)
 ·obtain⟨its,r',pl,hz⟩:=I.tuple hq;have hlen:=r'.length;obtain⟨o,ho,hc,n,hd⟩:=pl;exact call_list_seq p (.inr rfl) ho hc hd (λh' c' kp e=>fin its r' hz h' c' kp e) (by simp only[List.size_toArray] <;> omega)
def S0(K:Frag)(T:String)(x:V)(H:Hp):Prop:=match x with
 | .str _=>T="str"
 | .int _=>T="int"
 | .ref p=>(T="list"/\∃xs,bh K H p xs)\/(T="tuple"/\∃o,K.lookup p=some o/\o.cls= .type "tuple"/\o.dict=none)\/
   (T="dict"/\((∃kvs,H p=some (.dK kvs))\/∃kvs,H p=some (.dT kvs)))\/(T="set"/\∃S n,H p=some (.set S n))
 |_=>False
theorem IE{σ:St}{T:String}{x:V}{v:Value}(I:Inv X US σ H s)(r:RelV x v)(ty:S0 X.K T x H):
  s.TypeIs v T/\∀a,v= .ref a->∃ob,s.heap.get? a=some ob/\ob.dict=none:=by
 cases x with
 |str z=>
  obtain⟨t,rfl⟩:=r;cases(show T="str" from ty);exact⟨typeIs_str s z t,λ_ e=>nomatch e⟩
 |int i=>
  obtain⟨t,rfl⟩:=r;cases(show T="int" from ty);exact⟨typeIs_int s i t,λ_ e=>nomatch e⟩
 |ref p=>
  cases r;rcases ty with⟨rfl,xs,hq⟩|⟨rfl,o,hk,hc,hd⟩|⟨rfl,hk⟩|⟨rfl,S,n,hk⟩
  ·obtain⟨its,_,pl,_⟩:=I.list hq;refine⟨pl.isList.typeIs,λa e=>?_⟩;cases e;obtain⟨o,n,e,c,hd,_⟩:=pl;exact⟨o,e,hd⟩
  ·refine⟨⟨o,I.d5 p o hk,hc⟩,λa e=>?_⟩;cases e;exact⟨o,I.d5 _ o hk,hd⟩
  ·have z:∃o,s.heap.get? p=some o/\o.ExactDict:=by
    rcases hk with⟨kvs,hk⟩|⟨kvs,hk⟩
    ·obtain⟨_,_,_,_,o,_,_,e,ex,_⟩:=I.aZ p _ hk;exact⟨o,e,ex⟩
    ·obtain⟨_,_,_,_,o,_,_,e,ex,_⟩:=I.aZ p _ hk;exact⟨o,e,ex⟩
   obtain⟨o,e,ex⟩:=z;refine⟨⟨o,e,ex.1⟩,λa e2=>?_⟩;cases e2;exact⟨o,e,ex.2.1⟩
  ·obtain⟨o,_,_,_,e,ex,_⟩:=I.aZ p _ hk;refine⟨⟨o,e,ex.1⟩,λa e2=>?_⟩;cases e2;exact⟨o,e,ex.2.1⟩
 |_=>exact False.elim ty
def S5(K:Frag)(T:String)(r:V->List V->Hp->VK->Prop)(to:TE):TE:=λσ H Q=>to σ H λx H1=>S0 K T x H1/\r x [] H1 Q
def Uu(K:Frag)(T:String)(r:V->List V->Hp->VK->Prop)(to:TE)(t:TA):TE:=λσ H Q=>to σ H λx H1=>S0 K T x H1/\t σ H1 λxs H2=>r x xs H2 Q
variable{o e:Expr}{es:List Expr}{to:TE}{t:TA}{name:Str}{apos cpos:Pos}{T id:String}{r:V->List V->Hp->VK->Prop}
theorem tH(pa:PlainAttrs T)(slot:Slot T name id)(hty:typeOf (.builtin id)=pure (.type "method_descriptor"))(hm:Sj X id r)(ho:PE X o to)(hbase:attributeBase o name X.env (eval o X.env)=eval o X.env:=by rfl)(hline:(apos.endLine==cpos.line)=true:=by rfl):PE X (.Call (.Attribute o name apos) [] [] cpos) (S5 X.K T r to):=by intro US s σ H Q I h;refine wpAny_Call_method0_late hbase hline (br (ho US s σ H _ I h) λv s1 ⟨x,H1,I1,r1,ty,q1⟩=>?_);obtain⟨h1,h2⟩:=IE I1 r1 ty;exact⟨T,id,pa,slot,hty,h1,h2,Calls.callWith_builtin rfl (PySem.evalArgs_none (hm US s1 σ H1 x [] v [] Q I1 r1 .nil q1))⟩
theorem fW(pa:PlainAttrs T)(slot:Slot T name id)(hty:typeOf (.builtin id)=pure (.type "method_descriptor"))(hm:Sj X id r)(ho:PE X o to)(ha:PA X (e::es) t)(hbase:attributeBase o name X.env (eval o X.env)=eval o X.env:=by rfl)(hfew:((backTo cpos (starEach (e::es) X.env)).all (λx=>!x.1)&&(backToKw cpos (keywordEach [] X.env)).all (λx=>x.1.isSome)
   &&decide ((e::es).length+([]:List Keyword).length+(if([]:List Keyword).isEmpty then 0 else 1)<30))=true:=by rfl)(hline:(apos.endLine==cpos.line)=true:=by rfl)(hs:starEach (e::es) X.env=(false,eval e X.env)::starEach es X.env:=by rfl)(hplain:(backTo cpos (starEach es X.env)).any (·.1)=false:=by rfl):
  PE X (.Call (.Attribute o name apos) (e::es) [] cpos) (Uu X.K T r to t):=by
 intro US s σ H Q I h;refine wpAny_Call_method_late hbase hfew hline rfl (br (ho US s σ H _ I h) λv s1 ⟨x,H1,I1,r1,ty,q1⟩=>?_);obtain⟨h1,h2⟩:=IE I1 r1 ty;refine⟨T,id,pa,slot,hty,h1,h2,?_⟩;have hA:=ha cpos US s1 σ H1 _ I1 q1;rw[hs] at hA ⊢;refine Calls.callWith_builtin (by show(false||(backTo cpos (starEach es X.env)).any (·.1))=false;rw[hplain] <;> rfl) (Calls.evalArgs_plain ?_);exact br hA λus s2 ⟨vs,H2,I2,r2,q2⟩=>hm US s2 σ H2 x vs v us Q I2 r1 r2 q2
end
def Sk(X:Cx)(id:String)(r:V->List V->Hp->VK->Prop):Prop:=
 ∀(US:List (Addr×Obj))(s:Shared)(σ:St)(H:Hp)(x:V)(xs:List V)(v:Value)(us:List Value)(Q:VK),Inv X US σ H s->RelV x v->Vals xs us->r x xs H Q->
  wpAny (model X.prog X.w) X.A (call (.builtin id) (v::us)) (EP X US σ Q) X.xe s
def P1(us:List Value):List V->Prop
 |[]=>us=[]
 |x::xs=>∃u us',us=u::us'/\RelV x u/\Vals xs us'
theorem Vals.ri{xs:List V}{us:List Value}(h:Vals xs us):P1 us xs:=by
 cases h with
 |nil=>rfl
 |cons r q=>exact⟨_,_,rfl,r,q⟩
theorem Vals.one{x:V}{us:List Value}(h:Vals [x] us):∃u,us=[u]/\RelV x u:=by obtain⟨u,us,rfl,r,q⟩:=h.ri;exact⟨u,congrArg _ q.ri,r⟩
theorem Vals.zero:∀{us:List Value},Vals [] us->us=[]
 |_,.nil=>rfl
theorem Vals.dropLast{xs:List V}{us:List Value}(h:Vals xs us):Vals xs.dropLast us.dropLast:=by
 induction h with
 |nil=>exact .nil
 |cons r t ih=>
  cases t with
  |nil=>exact .nil
  |cons q t'=>exact .cons r ih
theorem Vals.reverse{xs:List V}{us:List Value}(h:Vals xs us):Vals xs.reverse us.reverse:=by
 induction h with
 |nil=>exact .nil
 |cons r t ih=>rw[List.reverse_cons,List.reverse_cons];exact Vals.append ih (.cons r .nil)
theorem BK{α:Type}(l:List α):l.eraseIdx (l.length - 1)=l.dropLast:=by
 induction l with
 |nil=>rfl
 |cons a r ih=>
  cases r with
  |nil=>rfl
  |cons b r=>
   have e:(a::b::r).length - 1=((b::r).length - 1)+1:=by
    have h1:(a::b::r).length=r.length+2:=rfl;have h2:(b::r).length=r.length+1:=rfl;omega
   rw[e,List.eraseIdx_cons_succ,ih]
   all_goals rfl
section
variable{X:Cx}{US:List (Addr×Obj)}{σ:St}{H:Hp}{s:Shared}{l b:Addr}{xs ys zs:List V}
theorem Inv.J1{its its':List Value}{n:Nat}{f:Array Value->Array Value}{t':Nat}(I:Inv X US σ H s)(hH:H l=some (.lst xs))(e:s.heap.get? l=some {cls:=.type "list",data:=.seq its.toArray n})(hf:f its.toArray=its'.toArray)(hv:Vals ys its')(hz:ys.length<=sizeLine):
  Inv X US σ (upd H l (.lst ys)) {s with heap:=s.heap.update l (Obj.mapSeq f),toks:=t'}:=by
 have q:=PySem.IsL.update e f;rw[hf] at q;refine I.write (x:=l) (e:=l) (by rw[hH];exact trivial) (.inl rfl) (λb' u hb hu=>(Heap.get?_update_other s.heap (Obj.mapSeq f) (Ne.symm hb)).trans hu) ⟨_,q⟩ ?_;exact⟨hz,its',_,hv,q⟩
theorem Inv.SG{its:List Value}{t':Nat}(I:Inv X US σ H s)(hv:Vals ys its)(hz:ys.length<=sizeLine):
  Inv X US σ (upd H s.heap.objs.size (.lst ys)) {s with heap:=s.heap.push {cls:=.type "list",data:=.seq its.toArray},toks:=t'}:=
 I.laid (λ_ _ q=>Heap.get?_push_of_some _ q) (Nat.le_refl _) ⟨hz,its,0,hv,Heap.get?_push_size _ rfl⟩
theorem Inv.fresh(I:Inv X US σ H s):H s.heap.objs.size=none:=I.aZ.fresh (Nat.le_refl _)
theorem Inv.AH(I:Inv X US σ H s)(hH:H l=some (.lst xs)):xs.length<=sizeLine/\∃(its:List Value)(n:Nat),Vals xs its/\xs.length=its.length/\s.heap.get? l=some {cls:=.type "list",data:=.seq its.toArray n}:=by obtain⟨z,its,n,r,e⟩:=I.aZ l _ hH;exact⟨z,its,n,r,r.length,e⟩
theorem yZ{n:Nat}(h:n<=sizeLine):Builtin.List.listTooLong n=false:=by unfold Builtin.List.listTooLong;exact decide_eq_false ↑2
end
section
variable{X:Cx}
inductive Kc(x:V)(vs:List V)(H:Hp)(Q:VK):Prop
 |mk(l:_) (xs:_) (y:_) (_:x= .ref l) (_:vs=[y]) (_:H l=some (.lst xs)) (_:xs.length<sizeLine) (_:Q .bF (upd H l (.lst (xs++[y]))))
theorem cH:Sk X "list.append" Kc:=by intro US s σ H x vs v us Q I rx rv h;obtain⟨l,xs,y,rfl,rfl,hH,hz,q⟩:=h;cases rx;obtain⟨u,rfl,ru⟩:=rv.one;obtain⟨z,its,n,r,hl,e⟩:=I.AH hH;refine call_meets F.slot_list_append ⟨_,e,rfl⟩ F.entry_list_append (F.args_list_append_2 _ _) (PySem.list_append l its.toArray n u (by rw[List.size_toArray];omega)) ⟨e,?_⟩;refine⟨.bF,_,I.J1 (its':=its++[u]) hH e (by simp) (r.append (.cons ru .nil)) ?_,rfl,q⟩;rw[List.length_append,List.length_singleton];omega
inductive KN(x:V)(vs:List V)(H:Hp)(Q:VK):Prop
 |mk(l:_) (b:_) (xs:_) (zs:_) (_:x= .ref l) (_:vs=[.ref b]) (_:H l=some (.lst xs)) (_:H b=some (.lst zs)) (_:xs.length+zs.length<=sizeLine) (_:Q .bF (upd H l (.lst (xs++zs))))
theorem EK:Sk X "list.extend" KN:=by
 intro US s σ H x vs v us Q I rx rv h;obtain⟨l,b,xs,zs,rfl,rfl,hH,hB,hz,q⟩:=h;cases rx;obtain⟨u,rfl,ru⟩:=rv.one;cases ru;obtain⟨z,its,n,r,hl,e⟩:=I.AH hH;obtain⟨z2,its2,n2,r2,hl2,e2⟩:=I.AH hB;have hsz:its.toArray.size+its2.toArray.size<=sizeLine:=by rw[List.size_toArray,List.size_toArray];omega
 have hlong:¬(!its.toArray.isEmpty&&Builtin.List.listTooLong (its.toArray.size+its2.toArray.size))=true:=by
  rw[yZ hsz,Bool.and_false];exact Bool.false_ne_true
 refine call_meets F.slot_list_extend ⟨_,e,rfl⟩ F.entry_list_extend (F.args_list_extend_2 _ _)
  (AutoSeq1.list_extend_list_list_0 l its.toArray n b its2.toArray n2 hlong (by rw[List.size_toArray];omega) ↑2) ⟨e,e2,?_⟩
 refine⟨.bF,_,I.J1 (its':=its++its2) hH e (by simp) (r.append r2) ?_,rfl,q⟩;rw[List.length_append];omega
inductive Tx(x:V)(vs:List V)(H:Hp)(Q:VK):Prop
 |mk(l:_) (xs:_) (y:_) (_:x= .ref l) (_:vs=[]) (_:H l=some (.lst xs)) (_:xs[xs.length - 1]?=some y) (_:Q y (upd H l (.lst xs.dropLast)))
theorem rS:Sk X "list.pop" Tx:=by
 intro US s σ H x vs v us Q I rx rv h;obtain⟨l,xs,y,rfl,rfl,hH,hy,q⟩:=h;cases rx;have hus:=rv.zero;subst hus;obtain⟨z,its,n,r,hl,e⟩:=I.AH hH;obtain⟨u,hu,ru⟩:=r.get hy;have hy':its.toArray[its.toArray.size - 1]?=some u:=by
  show its.toArray[its.length - 1]?=some u;rw[<-Array.getElem?_toList,<-hl];exact hu
 refine call_meets F.slot_list_pop ⟨_,e,rfl⟩ F.entry_list_pop (F.args_list_pop_1 _) (MeetsSeq.list_pop_last l its.toArray n u hy' (by rw[List.size_toArray];omega)) ⟨e,?_⟩;refine⟨y,_,I.J1 (its':=its.dropLast) hH e ?_ r.dropLast ?_,ru,q⟩
 ·show its.toArray.eraseIdxIfInBounds (its.toArray.size - 1)=its.dropLast.toArray;rw[List.size_toArray,List.eraseIdxIfInBounds_toArray,BK]
 ·rw[List.length_dropLast];omega
inductive Tq(x:V)(y:V)(H:Hp)(Q:VK):Prop
 |mk(l:_) (b:_) (xs:_) (zs:_) (_:x= .ref l) (_:y= .ref b) (_:H l=some (.lst xs)) (_:H b=some (.lst zs)) (_:xs.length+zs.length<=sizeLine) (_:∀p,H p=none->Q (.ref p) (upd H p (.lst (xs++zs))))
theorem GX:jg X (binaryOp .Add) Tq:=by
 intro US s σ H x y v u Q I rx ry h;obtain⟨l,b,xs,zs,rfl,rfl,hH,hB,hz,q⟩:=h;cases rx;cases ry;obtain⟨z,its,n,r,hl,e⟩:=I.AH hH;obtain⟨z2,its2,n2,r2,hl2,e2⟩:=I.AH hB;refine PySem.P.add_list e e2 ?_ (by rw[List.size_toArray,List.size_toArray];omega);have ea:its.toArray++its2.toArray=(its++its2).toArray:=by simp
 rw[ea];exact⟨.ref _,_,I.SG (t':=s.toks) (r.append r2) (by rw[List.length_append];omega),rfl,q _ I.fresh⟩
end
section
variable{prog:Program}{w:World}{A:Around}{E:Value->Shared->Prop}{s:Shared}
set_option maxRecDepth 100000 in
end
section
variable{X:Cx}
end
theorem Vals.Up:∀{bs:List Bool}{us:List Value},Vals (bs.map V.bl) us->us=bs.map Value.bool
 |[],us,h=>by
  rw[List.map_nil] at h;cases h;rfl
 |b::bs,us,h=>by
  rw[List.map_cons] at h;cases h with
  |cons r t=>
   cases r;rw[Vals.Up t,List.map_cons]
theorem Vals.S'{a:Addr}{us:List Value}(r:Vals [V.ref a] us):us=[Value.ref a]:=by
 cases r with
 |cons r t=>
  cases t;cases r;rfl
section
variable{prog:Program}{w:World}{A:Around}{E:Value->Shared->Prop}{s:Shared}{l:Addr}{its:List Value}{ns:List Int}{Q:Value->Shared->Prop}
end
section
variable{X:Cx}
end
section
variable{X:Cx}
end
section
variable{X:Cx}
end
theorem GY{prog:Program}{E:Value->Shared->Prop}{l:Addr}{items:Array Value}(hl:s.heap.IsList l items)(h:∀s₂:Shared,s₂={s with heap:=s.heap.push {cls:=.type "list_iterator",data:=.fields #[.ref l,.int 0 0]}}->
   (s₂.heap.IsListIter s.heap.objs.size l 0/\s₂.heap.IsList l items)->l≠s.heap.objs.size->Q (.ref s.heap.objs.size) s₂):wpAny (model prog w) A (pyIter (.ref l)) Q E s:=by
 have hlt:l<s.heap.objs.size:=by obtain⟨_,e,_⟩:=hl;exact Heap.lt_size e
 exact wpAny_pyIter_list hl (h _ rfl ⟨⟨_,Heap.get?_push_size _ rfl,rfl,rfl⟩,hl.push _⟩ (Nat.ne_of_lt hlt))
theorem zA{prog:Program}{bs:List Bool}{its:List Value}(e:its=bs.map Value.bool):
  TruthOf prog w A (λi v=>its.toArray[i]?=some v) (λi=>bs.getD i false):=λi v s Q E hv hq=>by
 have hv':its[i]?=some v:=by simpa using hv
 rw[e,List.getElem?_map] at hv';obtain⟨b,hb,rfl⟩:=Option.map_eq_some_iff.mp hv';have hg:bs.getD i false=b:=by rw[List.getD_eq_getElem?_getD,hb] <;> rfl
 have hq':Q (bs.getD i false) s:=hq;rw[hg] at hq';exact wpAny_truthy_bool hq'
theorem all_range:∀bs:List Bool,(List.range bs.length).all (λi=>bs.getD i false)=bs.all id
 |[]=>rfl
 |b::bs=>by
  rw[List.length_cons,List.range_succ_eq_map,List.all_cons,List.all_map,List.all_cons,<-all_range bs]
  all_goals rfl
section
variable{X:Cx}
inductive Uc(K:Frag)(vs:List V)(H:Hp)(Q:VK):Prop
 |mk(a:Addr) (bs:List Bool) (_:vs=[V.ref a]) (_:bh K H a (bs.map V.bl)) (_:Q (.bl (bs.all id)) H)
theorem Nf(hc:X.calm=true):tK X (.builtin "all") (Uc X.K):=by
 intro US s σ H vs us Q I r h;obtain⟨a,bs,rfl,hs,q⟩:=h;obtain⟨its,rv,hl,_⟩:=I.list hs;rw[Vals.S' r];have hb:=rv.Up;refine call_all_walk (GY hl.isList λs₂ e2 st hne=>?_);subst e2;refine⟨_,_,_,_,_,_,_,rfl,Walks.list (A:=X.A.in1) (I.ok.hd hc) _ a hne its.toArray,st,zA hb,λh' tk hk=>?_⟩;refine⟨.bl _,H,I.kept λb o eo=>hk b o (λhmem=>?_) (Heap.get?_push_of_some _ eo),?_,q⟩
 ·rcases List.mem_cons.mp hmem with e1|hmem
  ·exact absurd (e1▸Heap.lt_size eo) (Nat.lt_irrefl _)
  ·cases hmem
 ·show Value.bool _=Value.bool _;rw[<-all_range,hb,List.size_toArray,List.length_map]
end
mutual
inductive Dp(K:Frag)(H:Hp):V->PyData->Prop
 |bF:Dp K H .bF .none
 |bl(b:Bool):Dp K H (.bl b) (.bool b)
 |int(i:Int):Dp K H (.int i) (.int i)
 |str(x:Str):Dp K H (.str x) (.str x)
 |lst{a:Addr} {xs:List V} {ds:List PyData}:bh K H a xs->qR K H xs ds->Dp K H (.ref a) (.list ds)
 |tup{a:Addr} {xs:List V} {ds:List PyData}:fN K H a xs->qR K H xs ds->Dp K H (.ref a) (.tuple ds)
inductive qR(K:Frag)(H:Hp):List V->List PyData->Prop
 |nil:qR K H [] []
 |cons{v:V} {vs:List V} {d:PyData} {ds:List PyData}:Dp K H v d->qR K H vs ds->qR K H (v::vs) (d::ds)
end
section
variable{X:Cx}{US:List (Addr×Obj)}{σ:St}{H:Hp}{s:Shared}
mutual
theorem Dp.reads(I:Inv X US σ H s):∀(d:PyData)(v:V)(u:Value),Dp X.K H v d->RelV v u->∃as,Reads s.heap u d as
 | .none,_,_,h,r=>by
  cases h;cases r;exact⟨_,Reads.none⟩
 | .bool b,_,_,h,r=>by
  cases h;cases r;exact⟨_,Reads.bool b⟩
 | .int i,_,_,h,r=>by
  cases h;obtain⟨t,rfl⟩:=r;exact⟨_,Reads.int i t⟩
 | .str x,_,_,h,r=>by
  cases h;obtain⟨t,rfl⟩:=r;exact⟨_,Reads.str x t⟩
 | .list ds,_,_,h,r=>by
  cases h with
  |lst hs ha=>
   cases r;obtain⟨its,rv,⟨o,n,ho,hc,_,hd⟩,_⟩:=I.list hs;obtain⟨as,hr⟩:=Dp.readsAll I ds _ its ha rv;exact⟨_,Reads.list ho hc hd hr⟩
 | .tuple ds,_,_,h,r=>by
  cases h with
  |tup hs ha=>
   cases r;obtain⟨its,rv,⟨o,ho,hc,n,hd⟩,_⟩:=I.tuple hs;obtain⟨as,hr⟩:=Dp.readsAll I ds _ its ha rv;exact⟨_,Reads.tuple ho hc hd hr⟩
 | .dict _,_,_,h,_=>by cases h
theorem Dp.readsAll(I:Inv X US σ H s):∀(ds:List PyData)(vs:List V)(us:List Value),qR X.K H vs ds->Vals vs us->∃as,ReadsAll s.heap us ds as
 |[],_,_,h,r=>by
  cases h;cases r;exact⟨_,ReadsAll.nil⟩
 |d::ds,_,_,h,r=>by
  cases h with
  |cons h1 h2=>
   cases r with
   |cons r1 r2=>
    obtain⟨as,q1⟩:=Dp.reads I d _ _ h1 r1;obtain⟨bs,q2⟩:=Dp.readsAll I ds _ _ h2 r2;exact⟨_,ReadsAll.cons q1 q2⟩
end
end
section
variable{X:Cx}
inductive Sx(K:Frag)(x:V)(y:V)(H:Hp)(Q:VK):Prop
 |mk(d:_) (e:_) (_:Dp K H x d) (_:Dp K H y e) (_:SeqAt.shaped d=true) (_:SeqAt.shaped e=true) (_:Q (.bl (PyData.eqv d e)) H)
inductive Ts(K:Frag)(x:V)(y:V)(H:Hp)(Q:VK):Prop
 |mk(d:_) (e:_) (_:Dp K H x d) (_:Dp K H y e) (_:SeqAt.shaped d=true) (_:SeqAt.shaped e=true) (_:Q (.bl (!PyData.eqv d e)) H)
theorem M3(hu:X.A.units+64<cLine):jg X (compareOp .Eq) (Sx X.K):=by intro US s σ H x y v u Q I rx ry h;obtain⟨d,e,hd,he,sd,se,q⟩:=h;obtain⟨as,r1⟩:=Dp.reads I d x v hd rx;obtain⟨bs,r2⟩:=Dp.reads I e y u he ry;exact SeqAt.compareEq_shaped r1 r2 sd se hu ⟨.bl _,H,I,rfl,q⟩
theorem M7(hu:X.A.units+64<cLine):jg X (compareOp .NotEq) (Ts X.K):=by intro US s σ H x y v u Q I rx ry h;obtain⟨d,e,hd,he,sd,se,q⟩:=h;obtain⟨as,r1⟩:=Dp.reads I d x v hd rx;obtain⟨bs,r2⟩:=Dp.reads I e y u he ry;exact SeqAt.compareNe_shaped r1 r2 sd se hu ⟨.bl _,H,I,rfl,q⟩
end
abbrev Hh(h:Heap)(c:Addr)(v:Option Value):Prop:=h.IsCell c v
def S_(scope sc:Scope):Scope:=
 {scope with names:=scope.names.map λ(n,k)=>if(k==.free&&sc.kind==.function&&sc.names.lookup n==some .cell) then(n,.cell) else(n,k)}
def bu(cells:List (Str×Addr)):List (Str×NameKind)->List (Str×Addr)->List (Str×Addr)
 |[],acc=>acc
 |(n,k)::r,acc=>if k==.free then bu cells r ((n,(cells.lookup n).getD 0)::acc) else bu cells r acc
theorem kL(env:Env)(f:Str×NameKind->List (Str×Addr)->Sem (ForInStep (List (Str×Addr))))(hf:∀n k c,f (n,k) c=if k==.free then(do let a<-cellOf env n;pure (.yield ((n,a)::c))) else pure (.yield c)):
  ∀(names:List (Str×NameKind))(acc:List (Str×Addr)),(∀y∈names,y.2= .free->∃c,env.cells.lookup y.1=some c)->forIn names acc f=pure (bu env.cells names acc)
 |[],acc,_=>by rw[List.forIn_nil];rfl
 |(n,k)::r,acc,h=>by
  rw[List.forIn_cons,hf];have ih:=λacc=>kL env f hf r acc λy hy=>h y (List.mem_cons_of_mem _ hy);unfold bu;by_cases hk:(k==NameKind.free)=true
  ·rw[if_pos hk,if_pos hk];obtain⟨c,hc⟩:=h (n,k) List.mem_cons_self (by simpa using hk);have e:cellOf env n=pure c:=by unfold cellOf;rw[hc]
   rw[e];have e2:(env.cells.lookup n).getD 0=c:=by rw[hc];rfl
   rw[e2];exact ih _
  ·rw[if_neg hk,if_neg hk];exact ih _
theorem Bj{scope:Scope}{env:Env}(h:∀y∈scope.names,y.2= .free->∃c,env.cells.lookup y.1=some c):closureFor scope env=pure (bu env.cells scope.names []):=by simp only[closureFor];rw[kL env _ (λn k c=>rfl) scope.names [] h];rfl
theorem mem_lookup{α:Type}:∀{l:List (Str×α)}{n:Str}{c:α},(n,c)∈l->∃c',l.lookup n=some c'
 |(k,v)::r,n,c,h=>by
  rw[List.lookup_cons];cases hb:n==k with
  |true=>exact⟨_,rfl⟩
  |false=>
   rcases List.mem_cons.mp h with e|h
   ·cases e;simp at hb
   ·exact mem_lookup h
theorem fH{cells:List (Str×Addr)}:∀{names:List (Str×NameKind)}{acc:List (Str×Addr)}{n:Str}{c:Addr},(n,c)∈bu cells names acc->(n,c)∈acc\/((n,.free)∈names/\c=(cells.lookup n).getD 0)
 |[],_,_,_,h=>.inl h
 |(m,k)::r,acc,n,c,h=>by
  unfold bu at h;split at h
  ·rename_i hk;have hk:k= .free:=by simpa using hk
   rcases fH h with h|⟨h1,h2⟩
   ·rcases List.mem_cons.mp h with e|h
    ·cases e;exact .inr ⟨hk▸List.mem_cons_self,rfl⟩
    ·exact .inl h
   ·exact .inr ⟨List.mem_cons_of_mem _ h1,h2⟩
  ·rcases fH h with h|⟨h1,h2⟩
   ·exact .inl h
   ·exact .inr ⟨List.mem_cons_of_mem _ h1,h2⟩
theorem iN{cells:List (Str×Addr)}:∀{names:List (Str×NameKind)}{acc:List (Str×Addr)}{p:Str×Addr},p∈acc->p∈bu cells names acc
 |[],_,_,h=>h
 |(m,k)::r,acc,p,h=>by
  unfold bu;split
  ·exact iN (List.mem_cons_of_mem _ h)
  ·exact iN h
theorem i4{cells:List (Str×Addr)}:∀{names:List (Str×NameKind)}{acc:List (Str×Addr)}{n:Str},(n,.free)∈names->(n,(cells.lookup n).getD 0)∈bu cells names acc
 |(m,k)::r,acc,n,h=>by
  unfold bu;rcases List.mem_cons.mp h with e|h
  ·cases e;exact iN List.mem_cons_self
  ·split
   ·exact i4 h
   ·exact i4 h
theorem fY:∀{names:List (Str×NameKind)}{h:Heap}{acc:List (Str×Addr)}{x:Str}{c:Addr},(x,c)∈cellsFrom h.objs.size names acc->
  (x,c)∈acc\/((x,.cell)∈names/\h.objs.size<=c/\Hh (pushCells h names) c none)
 |[],_,_,_,_,h=>.inl h
 |(n,k)::r,h,acc,x,c,hm=>by
  unfold cellsFrom at hm;unfold pushCells;split at hm
  ·rename_i hk;rw[if_pos hk];have hk:k= .cell:=by simpa using hk
   rw[<-Heap.size_push h {cls:=.type "cell",data:=.cell none}] at hm;rcases fY hm with hm|⟨h1,h2,h3⟩
   ·rcases List.mem_cons.mp hm with e|hm
    ·cases e;exact .inr ⟨hk▸List.mem_cons_self,Nat.le_refl _,_,pushCells_keeps r _ _ _ (Heap.get?_push_size _ rfl),rfl⟩
    ·exact .inl hm
   ·rw[Heap.size_push] at h2;exact .inr ⟨List.mem_cons_of_mem _ h1,Nat.le_of_succ_le h2,h3⟩
  ·rename_i hk;rw[if_neg hk];rcases fY hm with hm|⟨h1,h2,h3⟩
   ·exact .inl hm
   ·exact .inr ⟨List.mem_cons_of_mem _ h1,h2,h3⟩
theorem jd:∀{names:List (Str×NameKind)}{n:Nat}{acc:List (Str×Addr)}{p:Str×Addr},p∈acc->p∈cellsFrom n names acc
 |[],_,_,_,h=>h
 |(m,k)::r,n,acc,p,h=>by
  unfold cellsFrom;split
  ·exact jd (List.mem_cons_of_mem _ h)
  ·exact jd h
theorem nE:∀{names:List (Str×NameKind)}{n:Nat}{acc:List (Str×Addr)}{x:Str},(x,.cell)∈names->∃c,(x,c)∈cellsFrom n names acc
 |(m,k)::r,n,acc,x,h=>by
  unfold cellsFrom;rcases List.mem_cons.mp h with e|h
  ·cases e;exact⟨n,jd List.mem_cons_self⟩
  ·split
   ·exact nE h
   ·exact nE h
theorem oh:∀{names:List (Str×NameKind)}{h:Heap}{acc:List (Str×Addr)}{x y:Str}{c:Addr},(∀p∈acc,p.2<h.objs.size)->(∀x y c,(x,c)∈acc->(y,c)∈acc->x=y)->
  (x,c)∈cellsFrom h.objs.size names acc->(y,c)∈cellsFrom h.objs.size names acc->x=y
 |[],_,_,_,_,_,_,hi,h1,h2=>hi _ _ _ h1 h2
 |(n,k)::r,h,acc,x,y,c,hl,hi,h1,h2=>by
  unfold cellsFrom at h1 h2;split at h1
  ·rename_i hk;rw[if_pos hk] at h2;rw[<-Heap.size_push h {cls:=.type "cell",data:=.cell none}] at h1 h2;refine oh (h:=h.push _) (λp hp=>?_) (λx y c a b=>?_) h1 h2
   ·rw[Heap.size_push];rcases List.mem_cons.mp hp with rfl|hp
    ·exact Nat.lt_succ_self _
    ·exact Nat.lt_succ_of_lt (hl p hp)
   ·rcases List.mem_cons.mp a with e|a <;> rcases List.mem_cons.mp b with e'|b
    ·cases e;cases e';rfl
    ·cases e;exact absurd (hl _ b) (Nat.lt_irrefl _)
    ·cases e';exact absurd (hl _ a) (Nat.lt_irrefl _)
    ·exact hi _ _ _ a b
  ·rename_i hk;rw[if_neg hk] at h2;exact oh hl hi h1 h2
theorem Ag{M:Model}{E:Value->Shared->Prop}{scope:Scope}{globals:Addr}{closure:List (Str×Addr)}{qual:Str}{func:Option Addr}{code:Value}{around:Env}{builtins:Addr}{Q:Env->Shared->Prop}(h:Q (newEnv scope s.heap.objs.size globals (cellsFrom (s.heap.objs.size+1) scope.names closure) qual func code (some around) builtins)
   {s with heap:=pushCells (s.heap.push {cls:=.type "dict",data:=.dict #[]}) scope.names}):
  wpAny M A (newFunctionEnv scope globals closure [] qual func code (some around) builtins) Q E s:=by
 simp only[newFunctionEnv,Option.isSome_some,if_true];refine wpAny_bind (wpAny_alloc ?_);refine wpAny_bind (wpAny_layCells _ (λn k c=>rfl) scope.names closure _ _ ?_);rw[show({s with heap:=s.heap.push {cls:=.type "dict",data:=.dict #[]}}:Shared).heap.objs.size=s.heap.objs.size+1 from Heap.size_push ..];rw[List.forIn_nil];exact wpAny_bind (wpAny_pure (wpAny_pure h))
theorem iH{sc:Scope}:∀{names:List (Str×NameKind)}{x:Str}{k:NameKind},
  (names.map λ(n,k)=>if(k==NameKind.free&&sc.kind==.function&&sc.names.lookup n==some .cell) then(n,NameKind.cell) else(n,k)).lookup x=some k->
  ∃k',names.lookup x=some k'/\(k=k'\/(k'= .free/\k= .cell))
 |[],_,_,h=>by simp at h
 |(n,k₀)::r,x,k,h=>by
  have ih:=@iH sc r x k;have h':List.lookup x ((if(k₀==NameKind.free&&sc.kind==.function&&sc.names.lookup n==some .cell)=true then(n,NameKind.cell) else(n,k₀))::(r.map _))=some k:=h;cases hx:x==n with
  |true=>
   simp only[List.lookup_cons,hx];by_cases hc:(k₀==NameKind.free&&sc.kind==.function&&sc.names.lookup n==some .cell)=true
   ·rw[if_pos hc] at h';simp only[List.lookup_cons,hx] at h';cases h';simp only[Bool.and_eq_true,beq_iff_eq] at hc;exact⟨k₀,rfl,.inr ⟨hc.1.1,rfl⟩⟩
   ·rw[if_neg hc] at h';simp only[List.lookup_cons,hx] at h';cases h';exact⟨_,rfl,.inl rfl⟩
  |false=>
   simp only[List.lookup_cons,hx];by_cases hc:(k₀==NameKind.free&&sc.kind==.function&&sc.names.lookup n==some .cell)=true
   ·rw[if_pos hc] at h';simp only[List.lookup_cons,hx] at h';exact ih h'
   ·rw[if_neg hc] at h';simp only[List.lookup_cons,hx] at h';exact ih h'
structure u4(N:List Str)(sc scope:Scope)(own:List (Str×Nat)):Prop where
 kind:scope.kind= .function
 uniq:∀y∈scope.names,scope.names.lookup y.1=some y.2
 ix:∀p∈own,N[p.2]?=some p.1
 free:∀y∈scope.names,y.2= .free->sc.names.lookup y.1=some .cell\/sc.names.lookup y.1=some .free
 own:∀y∈scope.names,y.2= .local\/y.2= .cell->y.1∈own.map (·.1)\/y.1∉N
def wipe(σ:St):List Nat->St
 |[]=>σ
 |v::vs=>(wipe σ vs).set v none
theorem iA(σ:St):∀vs:List Nat,(wipe σ vs).length=σ.length
 |[]=>rfl
 |v::vs=>by unfold wipe;rw[List.length_set,iA σ vs]
theorem nV{σ:St}{i:Nat}{x:V}:∀{vs:List Nat},(wipe σ vs)[i]?=some (some x)->σ[i]?=some (some x)/\i∉vs
 |[],h=>⟨h,by simp⟩
 |v::vs,h=>by
  unfold wipe at h;by_cases hi:v=i
  ·subst hi;by_cases hv:v<(wipe σ vs).length
   ·rw[List.getElem?_set_self hv] at h;cases h
   ·rw[List.getElem?_eq_none (by simpa using hv)] at h;cases h
  ·rw[List.getElem?_set_ne hi] at h;obtain⟨h1,h2⟩:=nV h;exact⟨h1,by simp only[List.mem_cons,not_or];exact⟨λe=>hi e.symm,h2⟩⟩
abbrev Cx.AE(X:Cx)(s:Shared)(H:Hp)(scope:Scope)(cenv:Env)(fp:List Addr):Cx:={X with m8:=s,Qz:=H,env:=cenv,outer:=X.stack,ex:=fp,fn:=λx=>scope.names.lookup x==some .cell,pn:=[],xe:=λ_ _=>False}
section
variable{X:Cx}{US:List (Addr×Obj)}{σ:St}{H:Hp}{s:Shared}
theorem zP{scope:Scope}{own:List (Str×Nat)}{fp:List Addr}(I:Inv X US σ H s)(ok:u4 X.N X.env.scope scope own)(hN:X.N.Nodup)(hfp:∀b∈fp,uj X US H b/\b<s.heap.objs.size):
  Inv (X.AE s H scope (compEnvC scope (cellsFrom (s.heap.objs.size+1) scope.names (bu X.env.cells scope.names [])) s.heap.objs.size X.env) fp) [] (wipe σ (own.map (·.2))) H {s with heap:=pushCells (s.heap.push {cls:=.type "dict",data:=.dict #[]}) scope.names}:=by
 have hfree:∀y∈scope.names,y.2= .free->∃c,X.env.cells.lookup y.1=some c:=λy hy e=>by
  rcases ok.free y hy e with k|k
  ·exact I.ok.has _ (.inl k)
  ·exact I.ok.has _ (.inr k)
 generalize hcenv:compEnvC scope (cellsFrom (s.heap.objs.size+1) scope.names (bu X.env.cells scope.names [])) s.heap.objs.size X.env=cenv;have kp:∀b o,s.heap.get? b=some o->(pushCells (s.heap.push {cls:=.type "dict",data:=.dict #[]}) scope.names).get? b=some o:=λb o e=>pushCells_keeps _ _ _ _ (Heap.get?_push_of_some _ e);have hL:cenv.locals=s.heap.objs.size:=by rw[<-hcenv];rfl
 have hcl:cenv.cells=cellsFrom (s.heap.objs.size+1) scope.names (bu X.env.cells scope.names []):=by rw[<-hcenv];rfl
 have hsc:cenv.scope=S_ scope X.env.scope:=by rw[<-hcenv];rfl
 rw[<-Heap.size_push s.heap {cls:=.type "dict",data:=.dict #[]}] at hcl;have cm:∀{y c},(y,c)∈bu X.env.cells scope.names []->X.env.cells.lookup y=some c/\c<s.heap.objs.size:=λ{y c} hm=>by
  rcases fH hm with hm|⟨h1,rfl⟩
  ·cases hm
  ·obtain⟨c,hc⟩:=hfree _ h1 rfl;rw[hc];obtain⟨w,z⟩:=I.cell _ _ hc;exact⟨rfl,z.lt⟩
 have mem:∀{y c},cenv.cells.lookup y=some c->(X.env.cells.lookup y=some c/\c<s.heap.objs.size)\/(s.heap.objs.size+1<=c/\Hh (pushCells (s.heap.push {cls:=.type "dict",data:=.dict #[]}) scope.names) c none):=λ{y c} e=>by
  rw[hcl] at e;rcases fY (PySem.mem_of_lookup e) with hm|⟨_,h2,h3⟩
  ·exact .inl (cm hm)
  ·rw[Heap.size_push] at h2;exact .inr ⟨h2,h3⟩
 have look:∀{y},scope.names.lookup y=some .free->∃c,cenv.cells.lookup y=some c/\X.env.cells.lookup y=some c:=λ{y} hl=>by
  have hy:(y,NameKind.free)∈scope.names:=PySem.mem_of_lookup hl;obtain⟨c',e'⟩:=mem_lookup (jd (names:=scope.names) (n:=(s.heap.push {cls:=.type "dict",data:=.dict #[]}).objs.size) (i4 (cells:=X.env.cells) (acc:=[]) hy));rw[<-hcl] at e';refine⟨c',e',?_⟩;rw[hcl] at e';rcases fY (PySem.mem_of_lookup e') with hm|⟨h1,_,_⟩
  ·exact(cm hm).1
  ·have:=ok.uniq _ h1;rw[hl] at this;cases this
 have okB:(X.AE s H scope cenv fp).Ok:=by
  refine⟨I.ok.mod,by show cenv.scope.kind=_;rw[hsc];exact ok.kind,by show cenv.globals=_;rw[<-hcenv];exact I.ok.glob,by show cenv.builtins=_;rw[<-hcenv];exact I.ok.blt,by show s.heap.objs.size<=cenv.locals;rw[hL];exact Nat.le_refl _,
   λy z c e1 e2=>?_,λy hy=>?_,λy c z e=>?_,I.ok.hd,I.ok.frames,.inl rfl,λb hb=>⟨?_,λy c e z=>?_⟩,I.bs,Nat.le_trans I.ok.Fz I.sz,λb o e hb=>?_,λb hb z=>?_,I.stack,I.xZ⟩
  ·have e1:cenv.cells.lookup y=some c:=e1;have e2:cenv.cells.lookup z=some c:=e2;rw[hcl] at e1 e2;refine oh (λp hp=>?_) (λy z c a b=>I.ok.inj y z c (cm a).1 (cm b).1) (PySem.mem_of_lookup e1) (PySem.mem_of_lookup e2);rw[Heap.size_push];exact Nat.lt_succ_of_lt (cm (y:=p.1) (c:=p.2) hp).2
  ·show ∃c,cenv.cells.lookup y=some c;have key:∀k,cenv.kindOf y=some k->(k= .cell\/k= .free)->∃c,cenv.cells.lookup y=some c:=λk hk hk'=>by
    unfold Env.kindOf at hk;rw[hsc] at hk;obtain⟨k',e,r⟩:=iH hk;have:k'= .cell\/k'= .free:=by
     rcases r with rfl|⟨rfl,_⟩
     ·exact hk'
     ·exact .inr rfl
    rcases this with rfl|rfl
    ·obtain⟨c,hm⟩:=nE (n:=(s.heap.push {cls:=.type "dict",data:=.dict #[]}).objs.size) (acc:=bu X.env.cells scope.names []) (PySem.mem_of_lookup e);obtain⟨c',e'⟩:=mem_lookup hm;exact⟨c',by rw[hcl];exact e'⟩
    ·obtain⟨c,h1,_⟩:=look e;exact⟨c,h1⟩
   rcases hy with hy|hy
   ·exact key _ hy (.inl rfl)
   ·exact key _ hy (.inr rfl)
  ·have z:(scope.names.lookup y==some NameKind.cell)=true:=z;have z:scope.names.lookup y=some .cell:=by simpa using z
   have e:cenv.cells.lookup y=some c:=e;rw[hcl] at e;rcases fY (PySem.mem_of_lookup e) with hm|⟨_,h2,_⟩
   ·rcases fH hm with hm|⟨h1,_⟩
    ·cases hm
    ·have q:=ok.uniq _ h1;rw[z] at q;cases q
   ·rw[Heap.size_push] at h2;exact Nat.le_of_succ_le h2
  ·show b≠cenv.locals;rw[hL];exact Nat.ne_of_lt (hfp b hb).2
  ·have e:cenv.cells.lookup y=some c:=e;rcases mem e with⟨h1,_⟩|⟨h1,_⟩
   ·exact(hfp b hb).1.2.2.2.2.1 y c h1 z
   ·have h2:s.heap.objs.size+1<=b:=by rw[<-z];exact h1
    exact absurd (Nat.lt_of_lt_of_le (hfp b hb).2 (Nat.le_of_succ_le h2)) (Nat.lt_irrefl _)
  ·rcases(hfp b hb).1.2.2.2.1 with z|z
   ·exact I.ok.Cg b o e z
   ·exact absurd (Nat.lt_of_lt_of_le (Heap.lt_size e) (Nat.le_trans I.ok.Fz z)) (Nat.lt_irrefl _)
  ·rcases List.mem_cons.mp (I.wH b z) with z|z
   ·exact(hfp b hb).1.2.1 z
   ·exact(hfp b hb).1.2.2.1 z
 refine⟨okB,rfl,I.bare,Un.kept kp,⟨λ_=>none,?_,λi y av e1 e2 e3=>?_⟩,λy c e=>?_,?_,λy c e=>?_,λp hp=>?_,I.aZ.kept kp,by rw[iA];exact I.len⟩
 ·show Heap.Ns _ cenv.locals _;rw[hL];exact Heap.Ns.keeps (Heap.Ns.new ..) λb o e=>pushCells_keeps _ _ _ _ e
 ·obtain⟨e2,hne⟩:=nV e2;have hfr:scope.names.lookup y=some .free/\(cenv.kindOf y=some .cell\/cenv.kindOf y=some .free):=by
   have key:∀k,cenv.scope.names.lookup y=some k->k= .local\/k= .cell\/k= .free->scope.names.lookup y=some .free/\(cenv.kindOf y=some .cell\/cenv.kindOf y=some .free):=λk hk hk'=>by
    have hk0:=hk;rw[hsc] at hk;obtain⟨k',e,r⟩:=iH hk;have no:¬(k'= .local\/k'= .cell):=λhh=>by
     rcases ok.own _ (PySem.mem_of_lookup e) hh with e'|e'
     ·obtain⟨p,hp,hpy⟩:=List.mem_map.mp e';have e3:=ok.ix p hp;have:p.1=y:=hpy;rw[this] at e3;exact hne (List.mem_map.mpr ⟨p,hp,qK hN e3 e1⟩)
     ·exact e' (List.mem_of_getElem? e1)
    rcases r with rfl|⟨rfl,rfl⟩
    ·rcases hk' with rfl|rfl|rfl
     ·exact absurd (.inl rfl) no
     ·exact absurd (.inr rfl) no
     ·exact⟨e,.inr hk0⟩
    ·exact⟨e,.inl hk0⟩
   have e3:MJ cenv.scope y:=e3;rcases e3 with e3|e3|e3
   ·exact key _ e3 (.inl rfl)
   ·exact key _ e3 (.inr (.inl rfl))
   ·exact key _ e3 (.inr (.inr rfl))
  obtain⟨m,hn,hl⟩:=I.loc;have hvis:MJ X.env.scope y:=(ok.free _ (PySem.mem_of_lookup hfr.1) rfl).elim (λk=>.inr (.inl k)) (λk=>.inr (.inr k));obtain⟨w,r,q⟩:=hl i y av e1 e2 hvis;refine⟨w,r,.inr ⟨hfr.2,?_⟩⟩;obtain⟨c,h1,h2⟩:=look hfr.1;rcases q with⟨k,_⟩|⟨_,c',e',z⟩
  ·have k:X.env.scope.names.lookup y=some .local:=k;rcases ok.free _ (PySem.mem_of_lookup hfr.1) rfl with k'|k' <;> rw[show X.env.scope.names.lookup y=_ from k'] at k <;> cases k
  ·rw[h2] at e';cases e';exact⟨c,h1,z.keeps kp⟩
 ·have e:cenv.cells.lookup y=some c:=e;rcases mem e with⟨h1,_⟩|⟨_,z⟩
  ·obtain⟨w,z⟩:=I.cell y c h1;exact⟨w,z.keeps kp⟩
  ·exact⟨_,z⟩
 ·show H cenv.locals=none;rw[hL];exact I.aZ.fresh (Nat.le_refl _)
 ·have e:cenv.cells.lookup y=some c:=e;rcases mem e with⟨h1,_⟩|⟨h1,_⟩
  ·exact I.fj y c h1
  ·exact I.aZ.fresh (Nat.le_of_succ_le h1)
 ·exact absurd (show p∈([]:List (Addr×Obj))++[] from hp) (by simp)
theorem OJ{E:Value->Shared->Prop}{D:Addr}{xs:List V}{y:V}{v:Value}(I:Inv X US σ H s)(hD:H D=some (.lst xs))(hz:xs.length<sizeLine)(r:RelV y v)(h:∀s',Inv X US σ (upd H D (.lst (xs++[y]))) s'->Q .none s'):wpAny (model X.prog X.w) X.A (call (.builtin "list.append") [.ref D,v]) Q E s:=by obtain⟨hz',its,n,ri,e⟩:=I.aZ D _ hD;have hl:=ri.length;refine append_at (hsz:=by rw[List.size_toArray];omega) e λh' sb ho'=>?_;refine h {s with heap:=h'} (I.write (t':=s.toks) (by rw[hD];trivial) (.inl rfl) (λb u hb q=>(sb.2 b hb).trans q) ⟨_,ho'⟩ ⟨by rw[List.length_append];exact hz,its++[v],n+1,ri.append (.cons r .nil),?_⟩);rw[ho'];simp
def Tf(X:Cx)(ifs:List Expr)(t:TT):Prop:=
 ∀(US:List (Addr×Obj))(s:Shared)(σ:St)(H:Hp)(Q:Bool->Hp->Prop),Inv X US σ H s->t σ H Q->
  wpAny (model X.prog X.w) X.A (forIn ifs true λc r=>if r=true then do let ok<-isTrue c X.env (eval c X.env);pure (ForInStep.yield ok) else pure (ForInStep.yield r)) (TP X US σ Q) X.xe s
def R':TT:=λ_ H Q=>Q true H
theorem C3:Tf X [] R':=λ_ _ _ H _ I h=>wpAny_tests_nil ⟨H,I,h⟩
end
theorem Fv{α:Type}{t:Sem α}{Q Q':α->Shared->Prop}{M:Model}{E:Value->Shared->Prop}(h:wpAny M A t Q (λ_ _=>False) s)(hQ:∀a s,Q a s->Q' a s):wpAny M A t Q' E s:=wpAny_mono h hQ λ_ _ z=>False.elim z
theorem vG{prog:Program}{R:Result->Shared->Prop}{elt target iter:Expr}{ifs:List Expr}{scope:Scope}{pos:Pos}{it acc:Value}{env:Env}(I:Nat->Shared->Prop)(turn:∀n s,I n s->wpAny (model prog w) A (pyNext it) (λr s₁=>match r with
   |none=>R (.ok .next) s₁
   |some v=>wpAny (model prog w) A (letOwnedTupleGo target it v) (λ_ s₁'=>wpAny (model prog w) A (assign target env v) (λ_ s₂=>
     wpAny (model prog w) A (forIn ifs true λc r=>if r=true then do let ok<-isTrue c env (eval c env);pure (ForInStep.yield ok) else pure (ForInStep.yield r)) (λok s₃=>
      if ok=true then wpAny (model prog w) A (eval elt env) (λx s₄=>
       wpAny (model prog w) A (call (.builtin "list.append") [acc,x]) (λ_ s₅=>∃m,m<n/\I m s₅) (notedBy (model prog w) A env λe s'=>R (.error e) s') s₄) (notedBy (model prog w) A env λe s'=>R (.error e) s') s₃
      else ∃m,m<n/\I m s₃) (notedBy (model prog w) A env λe s'=>R (.error e) s') s₂) (notedBy (model prog w) A env λe s'=>R (.error e) s') s₁') (notedBy (model prog w) A env λe s'=>R (.error e) s') s₁) (notedBy (model prog w) A env λe s'=>R (.error e) s') s)(n:Nat)(h:I n s):
  codeAny (model prog w) A (.compLoop (.ListComp elt [⟨target,iter,ifs,0⟩] scope pos) 0 it acc env) R s:=by
 refine codeAny_loop rfl I (λn s hI=>?_) n h;show wpAny _ A ((compTurn (.ListComp elt [⟨target,iter,ifs,0⟩] scope pos) 0 it acc env).onRaise (λx=>do noteFrame x env;theTreesLotGoes x)) _ _ s;refine wpAny_noted ?_;rw[compTurn_list];refine wpAny_bind (wpAny_standAt (wpAny_bind (wpAny_mono (turn n s hI) (λr s₁ h₁=>?_) λ_ _ h'=>h')));cases r with
 |none=>exact wpAny_pure h₁
 |some v=>
  refine wpAny_bind (wpAny_mono h₁ (λ_ s₁' h₁'=>?_) λ_ _ h'=>h');refine wpAny_bind (wpAny_mono h₁' (λ_ s₂ h₂=>wpAny_bind (wpAny_mono h₂ (λok s₃ h₃=>?_) λ_ _ h'=>h')) λ_ _ h'=>h');cases ok with
  |false=>exact wpAny_pure ⟨rfl,h₃⟩
  |true=>
   exact wpAny_bind (wpAny_bind (wpAny_mono h₃ (λx s₄ h₄=>wpAny_bind (wpAny_mono h₄ (λ_ s₅ h₅=>wpAny_pure (wpAny_pure ⟨rfl,h₅⟩)) λ_ _ h'=>h')) λ_ _ h'=>h'))
section
variable{X:Cx}
def Ue(wi:TI)(g:TG)(tt:TT)(te:TE)(vs:List Nat):TE:=λσ H Q=>wi σ H λJ H1=>∀D,H1 D=none->∃W:Nat->Nat->Hp->Prop,(∃m,W 0 m (upd H1 D (.lst [])))/\∀i m H,W i m H->
 (J.stop i H/\Q (.ref D) H)\/(J.go i H/\∃Nx:Hp->Prop,(∀H',Nx H'->∃m',m'<m/\W (i+1) m' H')/\∀x H',J.Ly i H x H'->g x (wipe σ vs) H' λσ2 H2=>wipe σ2 vs=wipe σ vs/\tt σ2 H2 λb H3=>
  if b=true then te σ2 H3 λy H4=>∃acc,H4 D=some (.lst acc)/\acc.length<sizeLine/\Nx (upd H4 D (.lst (acc++[y]))) else Nx H3)
theorem K2{σ:St}{Q:VK}{elt tg iter:Expr}{ifs:List Expr}{scope:Scope}{own:List (Str×Nat)}{pos pos':Pos}{wi:TI}{g:TG}{tt:TT}{te:TE}{use:Option (Value->Sem Unit)}{Qf:Value->Shared->Prop}(hc:X.calm=true)(hN:X.N.Nodup)(I:Inv X US σ H s)(hi:PI X tg iter wi)(ok:u4 X.N X.env.scope scope own)(hg:∀(s:Shared)(H:Hp)(C:Addr)(cl:List (Str×Addr))(fp:List Addr),PG (X.AE s H scope (compEnvC scope cl C X.env) fp) tg g)(ht:∀(s:Shared)(H:Hp)(C:Addr)(cl:List (Str×Addr))(fp:List Addr),Tf (X.AE s H scope (compEnvC scope cl C X.env) fp) ifs tt)(he:∀(s:Shared)(H:Hp)(C:Addr)(cl:List (Str×Addr))(fp:List Addr),PE (X.AE s H scope (compEnvC scope cl C X.env) fp) elt te)(hs:∀x,foldedSetIterable iter X.env x=pure x)(h:Ue wi g tt te (own.map (·.2)) σ H Q)(hRR:∀D C s' m H',Inv X US σ H' s'->Q (.ref D) H'->s'.heap.Ns C m->uj X US H' C->compPost (model X.prog X.w) X.A X.xe use Qf (.ref D) C (.ok .next) s'):
  wpAny (model X.prog X.w) X.A (comprehension (.ListComp elt [⟨tg,iter,ifs,0⟩] scope pos) scope X.env pos' (newList []) false (eval iter X.env) use) Qf X.xe s:=by
 have hfree:∀y∈scope.names,y.2= .free->∃c,X.env.cells.lookup y.1=some c:=λy hy e=>by
  rcases ok.free y hy e with k|k
  ·exact I.ok.has _ (.inl k)
  ·exact I.ok.has _ (.inr k)
 refine wpAny_comprehension_free (use:=use) rfl hs (Bj hfree) ok.kind (λy hy e=>by rw[ok.uniq y hy,e])
  (br (hi US s σ H _ I h) λxv s1 hx=>br hx λitv s2 h2=>?_)
 obtain⟨it,fp,tn,J,H2,e,I2,T,st2,f2,q⟩:=h2;subst e;refine wpAny_newObj_type (Ag ?_) (by show 0<=sizeLine;decide);generalize hD:s2.heap.objs.size=D;have hDn:H2 D=none:=I2.aZ.fresh (Nat.le_of_eq hD);obtain⟨W,⟨m0,w0⟩,turn⟩:=q D hDn;generalize hs3:({s2 with heap:=s2.heap.push {cls:=.type "list",data:=.seq ([]:List Value).toArray}}:Shared)=s3;have I3:Inv X US σ (upd H2 D (.lst [])) s3:=by
  rw[<-hs3];refine I2.laid (t':=s2.toks) (λb o e=>Heap.get?_push_of_some _ e) (Nat.le_of_eq hD) ⟨Nat.zero_le _,[],0,.nil,?_⟩;rw[<-hD];exact Heap.get?_push_size _ rfl
 have h3:s3.heap=s2.heap.push {cls:=.type "list",data:=.seq ([]:List Value).toArray}:=by rw[<-hs3]
 have sz:∀b∈fp,b<s2.heap.objs.size:=λb hb=>by
  obtain⟨o,e,_⟩:=T.obj _ _ st2 b hb;exact Heap.lt_size e
 have f3:∀b∈fp,uj X US (upd H2 D (.lst [])) b/\b<s3.heap.objs.size:=λb hb=>by
  have hlt:=sz b hb;refine⟨⟨?_,(f2 b hb).2⟩,by rw[h3,Heap.size_push];exact Nat.lt_succ_of_lt hlt⟩;rw[ah (by rw[<-hD];exact Nat.ne_of_lt hlt)];exact(f2 b hb).1
 have st3:tn 0 s3.heap:=T.keep _ _ _ st2 λb _ o e=>by rw[h3];exact Heap.get?_push_of_some _ e
 have I4:=zP I3 ok hN f3;have pg:=hg s3 (upd H2 D (.lst [])) s3.heap.objs.size (cellsFrom (s3.heap.objs.size+1) scope.names (bu X.env.cells scope.names [])) fp;have pt:=ht s3 (upd H2 D (.lst [])) s3.heap.objs.size (cellsFrom (s3.heap.objs.size+1) scope.names (bu X.env.cells scope.names [])) fp;have pe:=he s3 (upd H2 D (.lst [])) s3.heap.objs.size (cellsFrom (s3.heap.objs.size+1) scope.names (bu X.env.cells scope.names [])) fp;show codeAny _ _ (.compStart (.ListComp elt [⟨tg,iter,ifs,0⟩] scope pos) 0 (.ref it) (.ref D) (compEnvC scope (cellsFrom (s3.heap.objs.size+1) scope.names (bu X.env.cells scope.names [])) s3.heap.objs.size X.env)) (compPost (model X.prog X.w) X.A X.xe use Qf (.ref D) s3.heap.objs.size) {s3 with heap:=pushCells (s3.heap.push {cls:=.type "dict",data:=.dict #[]}) scope.names};have nfp:∀b∈fp,(upd H2 D (.lst [])) b=none:=λb hb=>(f3 b hb).1.1;generalize hce:compEnvC scope (cellsFrom (s3.heap.objs.size+1) scope.names (bu X.env.cells scope.names [])) s3.heap.objs.size X.env=ce at I4 pg pt pe ⊢;have cL:ce.locals=s3.heap.objs.size:=by subst hce;rfl
 generalize hH3:upd H2 D (.lst [])=H3 at I3 I4 pg pt pe w0 nfp f3;generalize hs4:({s3 with heap:=pushCells (s3.heap.push {cls:=.type "dict",data:=.dict #[]}) scope.names}:Shared)=s4 at I4 ⊢;have st4:tn 0 s4.heap:=T.keep _ _ _ st3 λb _ o e=>by rw[<-hs4];exact pushCells_keeps _ _ _ _ (Heap.get?_push_of_some _ e)
 have stat:∀{σ':St}{H':Hp}{s':Shared},Inv (X.AE s3 H3 scope ce fp) [] σ' H' s'->(∀b∈fp,H' b=none)->∀b∈fp,uj (X.AE s3 H3 scope ce fp) [] H' b:=λ{σ' H' s'} I' hn b hb=>
  ⟨hn b hb,(I'.ok.Pn b hb).1,I'.ok.B6 b hb,.inl hb,λx c e=>(I'.ok.Pn b hb).2 x c e,λp hp=>absurd (show p∈([]:List (Addr×Obj))++[] from hp) (by simp)⟩
 have loop:codeAny (model X.prog X.w) X.A (.compLoop (.ListComp elt [⟨tg,iter,ifs,0⟩] scope pos) 0 (.ref it) (.ref D) ce) (compPost (model X.prog X.w) X.A X.xe use Qf (.ref D) s3.heap.objs.size) s4:=by
  refine vG (λn s'=>∃i H',Inv (X.AE s3 H3 scope ce fp) [] (wipe σ (own.map (·.2))) H' s'/\tn i s'.heap/\(∀b∈fp,H' b=none)/\W i n H') ?_ m0 ⟨0,H3,I4,st4,nfp,w0⟩;rintro n s5 ⟨i,H5,I5,st5,n5,w5⟩;rcases turn i n H5 w5 with⟨stop,qq⟩|⟨go,Nx,hNx,step⟩
  ·have td:=T.done (X.AE s3 H3 scope ce fp) rfl rfl rfl hc i [] s5 _ H5 (λ_ _=>False) I5 (stat I5 n5) st5 stop;refine Fv td λr s6 ⟨hr,I6⟩=>?_;subst hr;have I7:Inv X US σ H5 s6:=I3.L6 (ch:=fp) I6.os I6.base I6.aZ I6.bare λb hb=>⟨(f3 b hb).1.2.2.2.1,(f3 b hb).1.2.1,(f3 b hb).1.2.2.2.2.1,(f3 b hb).1.2.2.2.2.2⟩
   have nC:H5 s3.heap.objs.size=none:=by
    have z:H5 ce.locals=none:=I6.free;rw[cL] at z;exact z
   obtain⟨m,hn,_⟩:=I6.loc;have hn:s6.heap.Ns ce.locals m:=hn;rw[cL] at hn;exact hRR D s3.heap.objs.size s6 m H5 I7 qq hn (I3.Hl (Nat.le_refl _) nC)
  ·have ti:=T.item (X.AE s3 H3 scope ce fp) rfl rfl rfl hc i [] s5 _ H5 (λ_ _=>False) I5 (stat I5 n5) st5 go;refine Fv ti λr s6 ⟨u,hr,h6⟩=>?_;subst hr;refine Fv h6 λ_ s7 ⟨x,H7,I7,r7,y7,st7,n7⟩=>?_;have I7':=I7.pinned (stat I7 n7) (T.obj _ _ st7);refine Fv (pg _ s7 _ H7 x u _ I7' r7 (step x H7 y7)) λ_ s8 ⟨σ8,H8,I8,hw8,q8⟩=>?_;refine Fv (pt _ s8 σ8 H8 _ I8 q8) λb s9 ⟨H9,I9,q9⟩=>?_;have fin:∀{s':Shared}{H':Hp},Inv (X.AE s3 H3 scope ce fp) ([]++rA fp s7.heap) σ8 H' s'->Nx H'->∃m,m<n/\∃i H',Inv (X.AE s3 H3 scope ce fp) [] (wipe σ (own.map (·.2))) H' s'/\tn i s'.heap/\(∀b∈fp,H' b=none)/\W i m H':=λ{s' H'} I' nx=>by
    obtain⟨m',hm,w'⟩:=hNx H' nx;have pin':∀b∈fp,∀o,s7.heap.get? b=some o->s'.heap.get? b=some o/\H' b=none:=λb hb o e=>
     let z:=I'.pin (b,o) (List.mem_append_right _ (List.mem_append_right _ (jV hb e)))
     ⟨z.1,z.2.1⟩
    have hl:(wipe σ (own.map (·.2))).length=σ8.length:=by rw[<-hw8,iA]
    refine⟨m',hm,i+1,H',(I'.kI (US:=[])).weak hl (λj v e=>?_),T.keep _ _ _ st7 λb hb o e=>(pin' b hb o e).1,λb hb=>?_,w'⟩
    ·rw[<-hw8] at e;exact(nV e).1
    ·obtain⟨o,e,_⟩:=T.obj _ _ st7 b hb;exact(pin' b hb o e).2
   cases b with
   |false=>
    simp only[Bool.false_eq_true,if_false] at q9 ⊢;exact fin I9 q9
   |true=>
    simp only[if_true] at q9 ⊢;refine Fv (pe _ s9 σ8 H9 _ I9 q9) λz s10 ⟨yv,H10,I10,r10,acc,hD10,hz10,nx⟩=>?_;exact OJ (X:=X.AE s3 H3 scope ce fp) I10 hD10 hz10 r10 λs11 I11=>fin I11 nx
 exact codeAny_compStart_list loop (T.self X.A 0 _ _ _ st4 loop)
theorem LU{elt tg iter:Expr}{ifs:List Expr}{scope:Scope}{own:List (Str×Nat)}{pos:Pos}{wi:TI}{g:TG}{tt:TT}{te:TE}(hc:X.calm=true)(hN:X.N.Nodup)(hi:PI X tg iter wi)(ok:u4 X.N X.env.scope scope own)(hg:∀(s:Shared)(H:Hp)(C:Addr)(cl:List (Str×Addr))(fp:List Addr),PG (X.AE s H scope (compEnvC scope cl C X.env) fp) tg g)(ht:∀(s:Shared)(H:Hp)(C:Addr)(cl:List (Str×Addr))(fp:List Addr),Tf (X.AE s H scope (compEnvC scope cl C X.env) fp) ifs tt)(he:∀(s:Shared)(H:Hp)(C:Addr)(cl:List (Str×Addr))(fp:List Addr),PE (X.AE s H scope (compEnvC scope cl C X.env) fp) elt te)(hs:∀x,foldedSetIterable iter X.env x=pure x:=by intro _;rfl):
  PE X (.ListComp elt [⟨tg,iter,ifs,0⟩] scope pos) (Ue wi g tt te (own.map (·.2))):=by
 intro US s σ H Q I h;rw[eval_ListComp];refine K2 hc hN I hi ok hg ht he hs h λD C s' m H' I' q hn f=>⟨m,hn,λh'' sb=>?_⟩
 obtain⟨f0,f1,f2,f3,f4,f5⟩:=f;exact⟨.ref D,H',I'.turned (t':=s'.toks) (λb o hb e=>(sb.2 b hb).trans e) f0 f1 f3 f4 f5,rfl,q⟩
end
theorem Dk{K:Frag}{a:Addr}{xs:List V}{g:TG}{tt:TT}{te:TE}{vs:List Nat}{σ:St}{H1:Hp}{D:Addr}{Qd:Hp->Prop}(Pv:Nat->Hp->Prop)(h0:Pv 0 (upd H1 D (.lst [])))(hl:∀i H,i<=xs.length->Pv i H->bh K H a xs)(hs:∀i x H,xs[i]?=some x->Pv i H->g x (wipe σ vs) H λσ2 H2=>wipe σ2 vs=wipe σ vs/\tt σ2 H2 λb H3=>
   if b=true then te σ2 H3 λy H4=>∃acc,H4 D=some (.lst acc)/\acc.length<sizeLine/\Pv (i+1) (upd H4 D (.lst (acc++[y]))) else Pv (i+1) H3)(hd:∀H,Pv xs.length H->Qd H):
  ∃W:Nat->Nat->Hp->Prop,(∃m,W 0 m (upd H1 D (.lst [])))/\∀i m H,W i m H->
   ((LL K a).stop i H/\Qd H)\/((LL K a).go i H/\∃Nx:Hp->Prop,(∀H',Nx H'->∃m',m'<m/\W (i+1) m' H')/\∀x H',(LL K a).Ly i H x H'->g x (wipe σ vs) H' λσ2 H2=>wipe σ2 vs=wipe σ vs/\tt σ2 H2 λb H3=>
    if b=true then te σ2 H3 λy H4=>∃acc,H4 D=some (.lst acc)/\acc.length<sizeLine/\Nx (upd H4 D (.lst (acc++[y]))) else Nx H3):=by
 refine⟨λi m H=>m=xs.length - i/\i<=xs.length/\Pv i H,⟨xs.length,by simp,Nat.zero_le _,h0⟩,?_⟩;rintro i m H ⟨rfl,hi,p⟩;have q:=hl i H hi p;by_cases hlt:i<xs.length
 ·refine .inr ⟨⟨xs,xs[i],q,by simp[hlt]⟩,Pv (i+1),λH' p'=>⟨xs.length - (i+1),↑2,rfl,hlt,p'⟩,λx H' y=>?_⟩;obtain⟨e,y⟩:=y;subst e;exact hs i x _ (y xs q) p
 ·have e:i=xs.length:=↑2
  subst e;exact .inl ⟨⟨xs,q,Nat.le_refl _⟩,hd H p⟩
def RD(N:List Str)(sc scope:Scope)(own:List (Str×Nat)):Bool:=
 (match scope.kind with| .function=>true|_=>false)&&(scope.names.all λy=>decide (scope.names.lookup y.1=some y.2))&&(own.all λp=>decide (N[p.2]?=some p.1))&&
  (scope.names.all λy=>match y.2 with
   | .free=>(match sc.names.lookup y.1 with|some .cell=>true|some .free=>true|_=>false)
   | .local=>decide (y.1∈own.map (·.1))||decide (y.1∉N)
   | .cell=>decide (y.1∈own.map (·.1))||decide (y.1∉N)
   |_=>true)
theorem Av{N:List Str}{sc scope:Scope}{own:List (Str×Nat)}(h:RD N sc scope own=true):u4 N sc scope own:=by
 unfold RD at h;simp only[Bool.and_eq_true,List.all_eq_true,decide_eq_true_eq] at h;obtain⟨⟨⟨h1,h2⟩,h3⟩,h4⟩:=h;refine⟨?_,h2,h3,λy hy e=>?_,λy hy e=>?_⟩
 ·split at h1
  ·assumption
  ·cases h1
 ·have q:=h4 y hy;simp only[e] at q;split at q <;> first|exact .inl (by assumption)|exact .inr (by assumption)|cases q
 ·have q:=h4 y hy;rcases e with e|e <;> (simp only[e,Bool.or_eq_true,decide_eq_true_eq] at q;exact q)
section
variable{prog:Program}{w:World}{A:Around}{R:Result->Shared->Prop}{s:Shared}{elt t0 i0 t1 i1:Expr}{ifs0 ifs1:List Expr}{scope:Scope}{pos:Pos}{it acc:Value}{env:Env}
end
section
variable{X:Cx}
end
section
variable{κ:Type}[DecidableEq κ]
def jR(kvs:List (κ×V))(k:κ):Option V:=(kvs.find? λkv=>decide (kv.1=k)).map (·.2)
def putK(kvs:List (κ×V))(k:κ)(v:V):List (κ×V):=
 if(kvs.any λkv=>decide (kv.1=k))=true then kvs.map (λkv=>if kv.1=k then(kv.1,v) else kv) else kvs++[(k,v)]
theorem ll{p:κ×V}{r:List (κ×V)}{k:κ}(e:p.1=k):jR (p::r) k=some p.2:=by simp[jR,List.find?_cons,e]
theorem ky{p:κ×V}{r:List (κ×V)}{k:κ}(e:¬p.1=k):jR (p::r) k=jR r k:=by simp[jR,List.find?_cons,e]
theorem tQ(k:κ):∀kvs:List (κ×V),(kvs.any λkv=>decide (kv.1=k))=(jR kvs k).isSome
 |[]=>rfl
 |p::r=>by
  rw[List.any_cons];by_cases e:p.1=k
  ·simp only[ll e,decide_eq_true e,Bool.true_or,Option.isSome_some]
  ·rw[ky e,decide_eq_false e,Bool.false_or];exact tQ k r
theorem oC(kvs:List (κ×V))(k:κ)(v:V):(putK kvs k v).length<=kvs.length+1:=by
 unfold putK;split
 ·rw[List.length_map];omega
 ·rw[List.length_append,List.length_cons,List.length_nil];omega
theorem GW{kvs:List (κ×V)}{k:κ}(v:V)(h:jR kvs k=none):putK kvs k v=kvs++[(k,v)]:=by unfold putK;rw[tQ,h];exact if_neg ↑0
theorem d7.mH{o:Option V}{u:Option Value}(r:d7 o u):o.isSome=u.isSome:=by
 cases o with
 |none=>cases u with
  |none=>rfl
  |some _=>exact(show False from r).elim
 |some _=>cases u with
  |none=>exact(show False from r).elim
  |some _=>rfl
theorem KV.val{kvs:List (κ×V)}{vs:List (κ×Value)}(r:KV kvs vs)(k:κ):d7 (jR kvs k) (valueAt vs k):=by
 unfold KV at r;induction r with
 |nil=>exact True.intro
 |@cons p q ps qs h t ih=>
  obtain⟨h1,h2⟩:=h;by_cases e:p.1=k
  ·have e':q.1=k:=h1.symm.trans e;have b:valueAt (q::qs) k=some q.2:=by simp[valueAt,List.find?_cons,e']
   rw[ll e,b];exact h2
  ·have e':¬q.1=k:=λz=>e (h1.trans z);have b:valueAt (q::qs) k=valueAt qs k:=by simp[valueAt,List.find?_cons,e']
   rw[ky e,b];exact ih
theorem KV.any{kvs:List (κ×V)}{vs:List (κ×Value)}(r:KV kvs vs)(k:κ):(kvs.any λkv=>decide (kv.1=k))=vs.any λkv=>decide (kv.1=k):=by
 unfold KV at r;induction r with
 |nil=>rfl
 |cons h t ih=>rw[List.any_cons,List.any_cons,ih,h.1]
theorem KV.OS{kvs:List (κ×V)}{vs:List (κ×Value)}(r:KV kvs vs)(k:κ){y:V}{u:Value}(ry:RelV y u):
  KV (kvs.map λkv=>if kv.1=k then(kv.1,y) else kv) (vs.map λkv=>if kv.1=k then(kv.1,u) else kv):=by
 unfold KV at r ⊢;induction r with
 |nil=>exact .nil
 |@cons p q ps qs h t ih=>
  rw[List.map_cons,List.map_cons];refine .cons ?_ ih;obtain⟨h1,h2⟩:=h;by_cases e:p.1=k
  ·rw[if_pos e,if_pos (h1.symm.trans e)];exact⟨h1,ry⟩
  ·rw[if_neg e,if_neg (λz=>e (h1.trans z))];exact⟨h1,h2⟩
theorem KV.put{kvs:List (κ×V)}{vs:List (κ×Value)}(r:KV kvs vs)(k:κ){y:V}{u:Value}(ry:RelV y u):KV (putK kvs k y) (stored vs k u):=by
 unfold putK stored;rw[r.any k];by_cases e:(vs.any λkv=>decide (kv.1=k))=true
 ·rw[if_pos e,if_pos e];exact r.OS k ry
 ·rw[if_neg e,if_neg e];exact Paired.snoc r ⟨rfl,ry⟩
theorem KV.length{kvs:List (κ×V)}{vs:List (κ×Value)}(r:KV kvs vs):kvs.length=vs.length:=Paired.length r
end
theorem Dv{P:Program}{k:Key}{u:Value}(r:RelV (kV k) u):(cY P w).is k u=true:=by
 cases k with
 |inl i=>obtain⟨t,e⟩:=(show ∃t,u=Value.int i t from r);subst e;exact zu P w i t
 |inr x=>obtain⟨t,e⟩:=(show ∃t,u=Value.str x t from r);subst e;exact za P w x t
theorem vt{P:Program}:∀{ks:List Key}{us:List Value},Vals (ks.map kV) us->ItemsAre (cY P w) ks us
 |[],_,r=>by rw[List.map_nil] at r;cases r;exact .nil
 |k::ks,_,r=>by
  rw[List.map_cons] at r;cases r with
  |cons h t=>exact .cons (Dv h) (vt t)
abbrev KT(H:Hp):List (List Key×V)->List (List Key×Addr×Value)->Prop:=Paired λp q=>p.1=q.1/\H q.2.1=some (.tup (p.1.map kV))/\RelV p.2 q.2.2
theorem KT.val{xs:List (List Key×Addr×Value)}(r:KT H kvs xs)(k:List Key):d7 (jR kvs k) ((atKey xs k).map (·.2)):=by
 induction r with
 |nil=>exact True.intro
 |@cons p q ps qs h t ih=>
  obtain⟨h1,_,h2⟩:=h;by_cases e:p.1=k
  ·have e':q.1=k:=h1.symm.trans e;have b:atKey (q::qs) k=some q.2:=by simp[atKey,List.find?_cons,e']
   rw[ll e,b];exact h2
  ·have e':¬q.1=k:=λz=>e (h1.trans z);have b:atKey (q::qs) k=atKey qs k:=by simp[atKey,List.find?_cons,e']
   rw[ky e,b];exact ih
theorem KT.OS{xs:List (List Key×Addr×Value)}(r:KT H kvs xs)(k:List Key){y:V}{u:Value}(ry:RelV y u):
  KT H (kvs.map λkv=>if kv.1=k then(kv.1,y) else kv) (xs.map (putAt k u)):=by
 induction r with
 |nil=>exact .nil
 |@cons p q ps qs h t ih=>
  rw[List.map_cons,List.map_cons];refine .cons ?_ ih;obtain⟨h1,h2,h3⟩:=h;unfold putAt;by_cases e:p.1=k
  ·rw[if_pos e,if_pos (h1.symm.trans e)];exact⟨h1,h2,ry⟩
  ·rw[if_neg e,if_neg (λz=>e (h1.trans z))];exact⟨h1,h2,h3⟩
theorem KT.put{xs:List (List Key×Addr×Value)}(r:KT H kvs xs)(k:List Key){b:Addr}{y:V}{u:Value}(hb:H b=some (.tup (k.map kV)))(ry:RelV y u):
  KT H (putK kvs k y) (storedH xs k b u):=by
 have e:(kvs.any λkv=>decide (kv.1=k))=(atKey xs k).isSome:=by
  rw[tQ,(r.val k).mH,Option.isSome_map]
 unfold putK storedH;rw[e];by_cases q:(atKey xs k).isSome=true
 ·rw[if_pos q,if_pos q];exact r.OS k ry
 ·rw[if_neg q,if_neg q];exact Paired.snoc r ⟨rfl,hb,ry⟩
theorem KT.keeps{H':Hp}{xs:List (List Key×Addr×Value)}(r:KT H kvs xs)(ht:∀b ys,H b=some (.tup ys)->H' b=some (.tup ys)):KT H' kvs xs:=
 Paired.K5 r λ_ _ z=>⟨z.1,ht _ _ z.2.1,z.2.2⟩
section
variable{P:Program}{w:World}{H:Hp}{h:Heap}{a:Addr}
theorem LD{u:HO}(ok:gy P w H h)(e:Rd H a u):bL P w H h a u:=e.ok ok
theorem DG{kvs:List (Key×V)}(ok:gy P w H h)(e:Rd H a (.dK kvs)):kvs.length<=sizeLine/\(a==sysModules)=false/\∃vs,KV kvs vs/\h.DictOf (cY P w) a vs:=
 show bL P w H h a (.dK kvs) from LD ok e
theorem RN{kvs:List (Key×V)}(ok:gy P w H h)(e:H a=some (.dK kvs)):kvs.length<=sizeLine/\(a==sysModules)=false/\∃vs,KV kvs vs/\h.DictOf (cY P w) a vs:=DG ok (.inl e)
theorem xb{ks:List Key}(ok:gy P w H h)(e:H a=some (.tup (ks.map kV))):(tupleKind (cY P w)).is h ks a:=by
 obtain⟨_,its,r,o,h1,h2,n,h3⟩:=(show bL P w H h a (.tup (ks.map kV)) from ok a _ e)
 exact⟨o,its.toArray,n,h1,h2,h3,by simpa using vt r⟩
theorem CH(ok:gy P w H h)(e:Rd H a (.dT kvs)):kvs.length<=sizeLine/\(a==sysModules)=false/\
  ∃xs,KT H kvs xs/\h.DictOfH (tupleKind (cY P w)) a xs:=by
 obtain⟨z,y,xs,r,o,es,ep,h1,h2,h3,h4,h5⟩:=(show bL P w H h a (.dT kvs) from LD ok e)
 refine⟨z,y,xs,r,o,es,ep,h1,h2,h3,h4,λx hx=>?_,h5⟩;have all:∀{l:List (List Key×V)}{m:List (List Key×Addr×Value)},KT H l m->∀x∈m,(tupleKind (cY P w)).is h x.1 x.2.1:=by
  intro l m q;induction q with
  |nil=>intro x hx;exact nomatch hx
  |@cons p q ps qs hq t ih=>
   intro x hx;rcases List.mem_cons.mp hx with e|hx
   ·subst e;exact xb ok (by rw[<-hq.1];exact hq.2.1)
   ·exact ih x hx
 exact all r x hx
theorem Q5(ok:gy P w H h)(e:H a=some (.dT kvs)):kvs.length<=sizeLine/\(a==sysModules)=false/\
  ∃xs,KT H kvs xs/\h.DictOfH (tupleKind (cY P w)) a xs:=CH ok (.inl e)
end
def qS(H:Hp)(a:Addr)(y:V)(r:Option V):Prop:=
 (∃kvs k,Rd H a (.dK kvs)/\y=kV k/\r=jR kvs k)\/∃kvs k b,Rd H a (.dT kvs)/\y= .ref b/\H b=some (.tup (k.map kV))/\r=jR kvs k
def Gw(H:Hp)(a:Addr)(y v:V)(H':Hp):Prop:=
 (∃kvs k,H a=some (.dK kvs)/\y=kV k/\kvs.length<sizeLine/\H'=upd H a (.dK (putK kvs k v)))\/
 ∃kvs k b,H a=some (.dT kvs)/\y= .ref b/\H b=some (.tup (k.map kV))/\kvs.length<sizeLine/\H'=upd H a (.dT (putK kvs k v))
theorem qS.t{a b:Addr}{k:List Key}(e:H a=some (.dT kvs))(eb:H b=some (.tup (k.map kV))):qS H a (.ref b) (jR kvs k):=.inr ⟨kvs,k,b,.inl e,rfl,eb,rfl⟩
theorem Gw.t{a b:Addr}{k:List Key}{v:V}(e:H a=some (.dT kvs))(eb:H b=some (.tup (k.map kV)))(hl:kvs.length<sizeLine):
  Gw H a (.ref b) v (upd H a (.dT (putK kvs k v))):=.inr ⟨kvs,k,b,e,rfl,eb,hl,rfl⟩
section
variable{X:Cx}{US:List (Addr×Obj)}{σ:St}{H:Hp}{s:Shared}{a:Addr}{y v:V}{u r:Value}{o:Option V}{A:Around}{E:Value->Shared->Prop}
theorem Inv.big(I:Inv X US σ H s):sysModules<s.heap.objs.size:=by have h:mainGlobals<s.heap.objs.size:=(I.mod.glob.keeps I.bk).lt;exact Nat.lt_trans ↑0 h
theorem D4(hu:A.units+1<cLine)(I:Inv X US σ H s)(g:qS H a y (some v))(ry:RelV y u)(h:∀w' s',Inv X US σ H s'->RelV v w'->Q w' s'):
  wpAny (model X.prog X.w) A (getItem (.ref a) u) Q E s:=by
 rcases g with⟨kvs,k,e,ey,l⟩|⟨kvs,k,b,e,ey,eb,l⟩
 ·subst ey;obtain⟨z,hd,vs,rel,dd⟩:=DG I.aZ e;obtain⟨w',hw,rw'⟩:=d7.some_of (v:=v) (o:=valueAt vs k) (by rw[l];exact rel.val k);exact wpAny_getItem_of (Dv ry) dd.mapOf hw (h w' _ (I.tok _) rw')
 ·subst ey;cases(show u=Value.ref b from ry);obtain⟨z,hd,xs,rel,dd⟩:=CH I.aZ e;obtain⟨w',hw,rw'⟩:=d7.some_of (v:=v) (o:=(atKey xs k).map (·.2)) (by rw[l];exact rel.val k);obtain⟨p,hp,hp2⟩:=Option.map_eq_some_iff.mp hw;refine wpAny_getItem_heap (tupleKind_room_in1 hu) (xb I.aZ eb) dd hp ?_;rw[hp2];exact h w' _ (I.tok _) rw'
theorem T_(hu:A.units+1<cLine)(I:Inv X US σ H s)(g:qS H a y o)(ry:RelV y u)(h:∀s',Inv X US σ H s'->Q (.bool o.isSome) s'):
  wpAny (model X.prog X.w) A (compareOp .In u (.ref a)) Q E s:=by
 rcases g with⟨kvs,k,e,ey,l⟩|⟨kvs,k,b,e,ey,eb,l⟩
 ·subst ey;obtain⟨z,hd,vs,rel,dd⟩:=DG I.aZ e;refine wpAny_in_of (Dv ry) hd dd.mapOf ?_;rw[<-(rel.val k).mH,<-l];exact h _ (I.tok _)
 ·subst ey;cases(show u=Value.ref b from ry);obtain⟨z,hd,xs,rel,dd⟩:=CH I.aZ e;refine wpAny_in_heap (tupleKind_room_in1 hu) (xb I.aZ eb) hd dd ?_;have q:=(rel.val k).mH;rw[Option.isSome_map] at q;rw[<-q,<-l];exact h _ (I.tok _)
theorem CV{h':Heap}{t':Nat}{ob:HO}(I:Inv X US σ H s)(mu:Pw (H a))(hs:Heap.SameBut a s.heap h')(he:∃q,h'.get? a=some q)(new:bL X.prog X.w (upd H a ob) h' a ob):
  Inv X US σ (upd H a ob) {s with heap:=h',toks:=t'}:=
 I.write (x:=a) (e:=a) mu (.inl rfl) (λb q hb z=>(hs.2 b hb).trans z) he new
theorem Mw{P:Program}{H':Hp}{h':Heap}{kvs:List (Key×V)}{vs:List (Key×Value)}(z:kvs.length<=sizeLine)(hd:(a==sysModules)=false)(rel:KV kvs vs)(dd:h'.DictOf (cY P w) a vs):
  bL P w H' h' a (.dK kvs):=⟨z,hd,vs,rel,dd⟩
theorem Ez{H':Hp}{Q:Unit->Shared->Prop}(hu:A.units+1<cLine)(I:Inv X US σ H s)(g:Gw H a y v H')(ry:RelV y u)(rv:RelV v r)(h:∀s',Inv X US σ H' s'->Q () s'):
  wpAny (model X.prog X.w) A (setItem (.ref a) u r) Q E s:=by
 rcases g with⟨kvs,k,e,ey,l,eH⟩|⟨kvs,k,b,e,ey,eb,l,eH⟩
 ·subst ey eH;obtain⟨z,hd,vs,rel,dd⟩:=RN I.aZ e;have hz:vs.length<=sizeLine:=by rw[<-rel.length];exact z
  have hl:(putK kvs k v).length<=sizeLine:=by have:=oC kvs k v;omega
  refine wpAny_setItem_pairs (hsz:=hz) (Dv ry) dd λh' dd' hs=>h _ ?_;have he:∃q,h'.get? a=some q:=let⟨q,_,_,hq,_⟩:=dd';⟨q,hq⟩;exact CV I (by rw[e];exact True.intro) hs he (Mw hl hd (rel.put k rv) dd')
 ·subst ey eH;cases(show u=Value.ref b from ry);obtain⟨z,hd,xs,rel,dd⟩:=Q5 I.aZ e;have hz:xs.length<=sizeLine:=by rw[<-Paired.length rel];exact z
  have hl:(putK kvs k v).length<=sizeLine:=by have:=oC kvs k v;omega
  refine wpAny_setItem_heap (hsz:=hz) (tupleKind_room_in1 hu) (xb I.aZ eb) dd λh' dd' hs=>h _ ?_;obtain⟨q,es,ep,hq,h2,h3,h4,_,h5⟩:=dd';refine CV I (by rw[e];exact True.intro) hs ⟨q,hq⟩ ⟨hl,hd,_,(rel.put k eb rv).keeps λc ys ec=>?_,q,es,ep,hq,h2,h3,h4,h5⟩;rw[ah (dB ec e (λz=>nomatch z))];exact ec
end
section
variable{X:Cx}{US:List (Addr×Obj)}{σ:St}{H:Hp}{s:Shared}{a:Addr}{kvs:List (Key×V)}{k:Key}{u:Value}{A:Around}{E:Value->Shared->Prop}
end
def PY(i:Expr):Prop:=∀ov iv,subscripted i false ov iv=operate [ov,iv] (getItem ov iv)
theorem Lm{prog:Program}{E:Value->Shared->Prop}{env:Env}{value UU:Expr}{pos:Pos}{T id:String}(hl:typeLookup (.type T) "__getitem__"=pure (some (.builtin id)))(hs:PY UU)(h:wpAny (model prog w) A (eval value env) (λo s₁=>wpAny (model prog w) A (eval UU env) (λi s₂=>s₂.TypeIs o T/\wpAny (model prog w) A (getItem o i) Q E s₂) E s₁) E s):
  wpAny (model prog w) A (eval (.Subscript value UU pos) env) Q E s:=by
 refine Subscript_ (wpAny_mono h (λo s₁ h₁=>wpAny_mono h₁ (λi s₂ h₂=>?_) λ_ _ x=>x) λ_ _ x=>x);obtain⟨hT,h₂⟩:=h₂;unfold subscriptTail;refine wpAny_bind ?_;rw[getitemInPython_of_ne hT.not_modules];refine wpAny_bind (wpAny_specialOf hT hl ?_);have fin:wpAny (model prog w) A (subscripted UU false o i) (λr s₃=>wpAny (model prog w) A (letTemporaryGo value o r>>=λ_=>pure r) Q E s₃) E s₂:=by
  rw[hs o i];exact wpAny_operating (wpAny_mono h₂ (λr s₃ h₃=>wpAny_bind (wpAny_letTemporaryGo (wpAny_pure h₃))) λ_ _ x=>x)
 first
  |exact wpAny_pure (wpAny_bind fin)
  |exact wpAny_bind (wpAny_pure (wpAny_bind fin))
  |exact wpAny_bind fin
theorem z_{X:Cx}{σ:St}{a:Addr}{y:V}{o:Option V}(I:Inv X US σ H s)(g:qS H a y o):s.TypeIs (.ref a) "dict":=by
 rcases g with⟨kvs,k,e,_,_⟩|⟨kvs,k,b,e,_,_,_⟩
 ·obtain⟨_,_,vs,_,dd⟩:=DG I.aZ e;exact dd.typeIs
 ·obtain⟨_,_,xs,_,dd⟩:=CH I.aZ e;exact dd.typeIs
def QP(td ty:TE):TE:=λσ H Q=>td σ H λx H1=>ty σ H1 λy H2=>∃a v,x= .ref a/\qS H2 a y (some v)/\Q v H2
def SX(ty td:TE):TE:=λσ H Q=>ty σ H λy H1=>td σ H1 λx H2=>∃a o,x= .ref a/\qS H2 a y o/\Q (.bl o.isSome) H2
def Rf(td ty tv:TE):TS:=λD σ H=>tv σ H λv H1=>td σ H1 λx H2=>ty σ H2 λy H3=>∃a H4,x= .ref a/\Gw H3 a y v H4/\D.nx σ H4
section
variable{X:Cx}{o i e value:Expr}{pos pos' tpos:Pos}{td ty tv:TE}
theorem Cw(hu:X.A.units+1<cLine)(ho:PE X o td)(hi:PE X i ty)(hs:PY i):PE X (.Subscript o i pos) (QP td ty):=by intro US s σ H Q I h;refine Lm PySem.F.slot_dict_getitem.lookup hs (br (ho US s σ H _ I h) λu s1 ⟨x,H1,I1,rx,q1⟩=>br (hi US s1 σ H1 _ I1 q1) λiv s2 ⟨y,H2,I2,ry,a,v,ex,g,q2⟩=>?_);subst ex;obtain rfl:u=Value.ref a:=rx;exact⟨z_ I2 g,D4 hu I2 g ry λw' s3 I3 rw'=>⟨v,H2,I3,rw',q2⟩⟩
theorem GZ(hu:X.A.units+1<cLine)(hi:PE X i ty)(ho:PE X o td):PC X .In i o (SX ty td):=by intro US s σ H Q I h;refine br (hi US s σ H _ I h) λiv s1 ⟨y,H1,I1,ry,q1⟩=>br (ho US s1 σ H1 _ I1 q1) λu s2 ⟨x,H2,I2,rx,a,ov,ex,g,q2⟩=>?_;subst ex;obtain rfl:u=Value.ref a:=rx;exact T_ hu I2 g ry λs3 I3=>⟨.bl ov.isSome,H2,I3,rfl,q2⟩
theorem KY(hu:X.A.units+1<cLine)(ho:PE X o td)(hi:PE X i ty)(hv:PE X value tv)(hs:swapsWith value (some (.Subscript o i pos')) pos.line X.env=pure false):
  PS X (.Assign [.Subscript o i pos'] value pos) (Rf td ty tv):=by
 intro US s σ H D I h;refine wpAny_Assign_Subscript (br (hv US s σ H _ I h) λr s1 ⟨v,H1,I1,rv,q1⟩=>br (ho US s1 σ H1 _ I1 q1) λu s2 ⟨x,H2,I2,rx,q2⟩=>br (hi US s2 σ H2 _ I2 q2) λiv s3 ⟨y,H3,I3,ry,a,H4,ex,g,q3⟩=>?_) hs;subst ex;obtain rfl:u=Value.ref a:=rx;exact Ez hu I3 g ry rv λs4 I4=>⟨σ,H4,I4,q3⟩
end
theorem HI{P:Program}(h:Heap)(hb:sysModules<h.objs.size):bL P w H (h.push {cls:=.type "dict",data:=.dict #[]}) h.objs.size (.dT []):=
 ⟨Nat.zero_le _,beq_eq_false_iff_ne.mpr (Ne.symm (Nat.ne_of_lt hb)),[],.nil,_,#[],0,Heap.get?_push_size _ rfl,⟨rfl,rfl,rfl⟩,rfl,rfl,List.nodup_nil⟩
def Nb:TE:=λ_ H Q=>∀p,H p=none->Q (.ref p) (upd H p (.dT []))
section
variable{X:Cx}{pos:Pos}
theorem F9:PE X (.Dict [] [] pos) Nb:=λUS s σ H Q I h=>
 wpAny_Dict_empty ⟨.ref s.heap.objs.size,_,I.laid (a:=s.heap.objs.size) (o:=.dT []) (t':=s.toks) (λ_ _ q=>Heap.get?_push_of_some _ q) (Nat.le_refl _) (HI s.heap I.big),rfl,h _ (I.aZ.fresh (Nat.le_refl _))⟩
end
section
variable{X:Cx}{US:List (Addr×Obj)}{σ:St}{H:Hp}{s:Shared}{a:Addr}{y d:V}{u r:Value}{o:Option V}{A:Around}{E:Value->Shared->Prop}
end
section
variable{X:Cx}{o e f:Expr}{apos cpos:Pos}{td ty tx:TE}
end
section
variable{X:Cx}{US:List (Addr×Obj)}{σ:St}{H:Hp}{s:Shared}{a:Addr}{kvs:List (Key×V)}{A:Around}{E:Value->Shared->Prop}
end
section
variable{X:Cx}{US:List (Addr×Obj)}{σ:St}{H:Hp}{s:Shared}{a:Addr}{y:V}{u:Value}{A:Around}{E:Value->Shared->Prop}
end
section
variable{prog:Program}{w:World}{A:Around}{E:Value->Shared->Prop}
end
section
variable{X:Cx}
end
section
variable{X:Cx}{US:List (Addr×Obj)}{σ:St}{H:Hp}{s:Shared}{h':Heap}
end
section
variable{X:Cx}
theorem N8{tg:Expr}{σ:St}{R:It->Hp->Prop}{J:It}{tn:Nat->Heap->Prop}{tk:Nat}(I:Inv X US σ H s)(o:Obj)(T:Turn X.prog X.w X.K tg J [s.heap.objs.size] s.heap.objs.size tn)(st:tn 0 (s.heap.push o))(q:R J H):SJ X US σ tg R (.ref s.heap.objs.size) {s with heap:=s.heap.push o,toks:=tk}:=by
 refine⟨s.heap.objs.size,[s.heap.objs.size],tn,J,H,rfl,I.kept λb ob e=>Heap.get?_push_of_some _ e,T,st,λb hb=>?_,q⟩;have e:b=s.heap.objs.size:=by simpa using hb
 subst e;exact I.Hl (Nat.le_refl _) (I.aZ.fresh (Nat.le_refl _))
end
section
variable{X:Cx}{tg:Expr}
end
section
variable{X:Cx}{tg:Expr}
end
section
variable{prog:Program}{w:World}{A:Around}{E:Value->Shared->Prop}{s:Shared}
theorem ED{d:Addr}{o:Obj}{es:Array DictEntry}{ep:Nat}(hd:(d==sysModules)=false)(ho:s.heap.get? d=some o)(hc:o.ExactDict)(hdat:o.data= .dict es ep)(hQ:Q (.ref s.heap.objs.size) {s with heap:=s.heap.push {cls:=.type "dict_keyiterator",data:=.fields #[.ref d,.int 0 0,.int es.size 0,.int ep 0]}}):
  wpAny (model prog w) A (pyIter (.ref d)) Q E s:=by
 have hT:s.TypeIs (.ref d) "dict":=⟨o,ho,hc.1⟩
 refine wpAny_pyIter_slot hT F.slot_dict_iter (wpAny_call_entry F.slot_dict_iter hT F.entry_dict_iter ?_ (F.args_dict_iter_1 _));unfold Builtin.«dict.__iter__»;refine wpAny_bind ?_;unfold Builtin.Dict.dictSlotNone;refine wpAny_bind (wpAny_notOrdered_dict hT ?_);show wpAny _ _ (pure (Value.ref d)) _ _ s;refine wpAny_pure ?_;show wpAny _ _ (Builtin.Dict.showsAll d>>=_) _ _ s;unfold Builtin.Dict.showsAll;rw[if_neg (by rw[hd];exact Bool.false_ne_true)];refine wpAny_bind (wpAny_pure ?_);refine wpAny_bind (wpAny_dictEntries ho hdat ?_);refine wpAny_bind (wpAny_dictEpoch ho hdat ?_);refine wpAny_bind (wpAny_newObj_type (wpAny_pure ⟨_,rfl,"dict_keyiterator",_,⟨_,Heap.get?_push_size _ rfl,rfl⟩,F.slot_dict_keyiterator_next.lookup,?_⟩));simpa[rawInt] using hQ
theorem uf{it d:Addr}{i n ep:Nat}{od:Obj}{es:Array DictEntry}{en:DictEntry}{Q:Option Value->Shared->Prop}(hit:s.heap.IsKeyIter it d i n ep)(hod:s.heap.get? d=some od)(hdd:od.data= .dict es ep)(hsz:es.size=n)(hx:es[i]?=some en)(hQ:∀h',h'.IsKeyIter it d (i+1) n ep->Heap.SameBut it s.heap h'->Q (some en.key) {s with heap:=h'}):wpAny (model prog w) A (pyNext (.ref it)) Q E s:=by
 obtain⟨o,ho,hc,hd⟩:=id hit;unfold pyNext;refine wpAny_bind (wpAny_attempt (wpAny_callSpecial?_slot (name:=Str.ofString "__next__") hit.typeIs F.slot_dict_keyiterator_next
  (wpAny_call_entry F.slot_dict_keyiterator_next hit.typeIs F.entry_dict_keyiterator_next ?_ (F.args_dict_keyiterator_next_1 _))))
 refine wpAny_bind (wpAny_pure ?_);refine wpAny_bind ?_;refine wpAny_bind ?_;first|refine wpAny_bind (wpAny_typeNameOfWhole_keyiter hit.typeIs (wpAny_pure ?_))|refine wpAny_bind (wpAny_typeNameOf_keyiter hit.typeIs (wpAny_pure ?_))
 refine wpAny_bind (wpAny_fieldsOf ho hd ?_);have hown:Builtin.Dict_items.ownsTuple "dict_keyiterator"=false:=↑0
 simp only[hown,Bool.false_eq_true,if_false];show wpAny _ _ (if(Value.ref d==Value.none)=true then _ else _) _ _ s;rw[if_neg (show ¬((Value.ref d==Value.none)=true) from Bool.false_ne_true)];refine wpAny_bind (wpAny_pure ?_);refine wpAny_bind (wpAny_dictEntries hod hdd ?_);rw[if_neg (by rw[hsz];simp)];refine wpAny_bind (wpAny_pure ?_);refine wpAny_bind (wpAny_dictEpoch hod hdd ?_);rw[if_neg (by simp)];refine wpAny_pure ?_;obtain⟨hlt',hen⟩:=Array.getElem?_eq_some_iff.mp hx;simp only[show ¬((i:Int)<0) from ↑2,if_false,Int.toNat_natCast,Array.getElem?_eq_getElem hlt'];refine wpAny_bind ?_;first|refine wpAny_bind (wpAny_typeNameOfWhole_keyiter hit.typeIs (wpAny_pure ?_))|refine wpAny_bind (wpAny_typeNameOf_keyiter hit.typeIs (wpAny_pure ?_))
 refine wpAny_bind (wpAny_isOneOf_keyiter hit.typeIs ?_);show wpAny _ _ (setField (.ref it) 1 (rawInt ((i:Int)+1))>>=_) _ _ s;refine wpAny_bind (wpAny_setField ho hd (by simp) ?_);have hit':(s.heap.update it (Obj.mapFields (·.setIfInBounds 1 (rawInt ((i:Int)+1))))).IsKeyIter it d (i+1) n ep:=
  ⟨_,Heap.get?_update_self _ ho (Obj.isFreed_of_fields (Obj.data_mapFields hd _)),(Obj.cls_mapFields ..).trans hc,by rw[Obj.data_mapFields hd];simp[rawInt]⟩
 refine wpAny_bind (wpAny_holding ?_);refine wpAny_bind (wpAny_isOneOf_keyiter (s:={s with heap:=s.heap.update it (Obj.mapFields (·.setIfInBounds 1 (rawInt ((i:Int)+1))))}) hit'.typeIs ?_);show wpAny _ _ (pure es[i].key) _ _ _;rw[hen];exact wpAny_pure (wpAny_pure ⟨_,rfl,wpAny_pure (hQ _ hit' (Heap.SameBut.update ..))⟩)
theorem yr{it d:Addr}{i n ep:Nat}{od:Obj}{es:Array DictEntry}{Q:Option Value->Shared->Prop}(hh:A.handled=none)(hit:s.heap.IsKeyIter it d i n ep)(hod:s.heap.get? d=some od)(hdd:od.data= .dict es ep)(hsz:es.size=n)(hge:n<=i)(hQ:∀h',Heap.ExtBut it s.heap h'->Q none {s with heap:=h'}):wpAny (model prog w) A (pyNext (.ref it)) Q E s:=by
 obtain⟨o,ho,hc,hd⟩:=id hit;unfold pyNext;refine wpAny_bind (wpAny_attempt (wpAny_callSpecial?_slot (name:=Str.ofString "__next__") hit.typeIs F.slot_dict_keyiterator_next
  (wpAny_call_entry F.slot_dict_keyiterator_next hit.typeIs F.entry_dict_keyiterator_next ?_ (F.args_dict_keyiterator_next_1 _))))
 refine wpAny_bind (wpAny_pure ?_);refine wpAny_bind ?_;refine wpAny_bind ?_;first|refine wpAny_bind (wpAny_typeNameOfWhole_keyiter hit.typeIs (wpAny_pure ?_))|refine wpAny_bind (wpAny_typeNameOf_keyiter hit.typeIs (wpAny_pure ?_))
 refine wpAny_bind (wpAny_fieldsOf ho hd ?_);have hown:Builtin.Dict_items.ownsTuple "dict_keyiterator"=false:=↑0
 simp only[hown,Bool.false_eq_true,if_false];show wpAny _ _ (if(Value.ref d==Value.none)=true then _ else _) _ _ s;rw[if_neg (show ¬((Value.ref d==Value.none)=true) from Bool.false_ne_true)];refine wpAny_bind (wpAny_pure ?_);refine wpAny_bind (wpAny_dictEntries hod hdd ?_);rw[if_neg (by rw[hsz];simp)];refine wpAny_bind (wpAny_pure ?_);refine wpAny_bind (wpAny_dictEpoch hod hdd ?_);rw[if_neg (by simp)];refine wpAny_pure ?_;have hge':es.size<=i:=by rw[hsz];exact hge
 simp only[show ¬((i:Int)<0) from ↑2,if_false,Int.toNat_natCast,Array.getElem?_eq_none hge'];refine wpAny_bind ?_;first|refine wpAny_bind (wpAny_typeNameOfWhole_keyiter hit.typeIs (wpAny_pure ?_))|refine wpAny_bind (wpAny_typeNameOf_keyiter hit.typeIs (wpAny_pure ?_))
 show wpAny _ _ (setField (.ref it) 0 .none>>=_) _ _ s;refine wpAny_bind (wpAny_setField ho hd (by simp) ?_);show wpAny _ _ (newExc (.type "StopIteration") []>>=_) _ _ _;refine wpAny_bind ?_;simp only[newExc,newTuple];refine wpAny_bind (wpAny_newObj_type ?_ (by size_fits));refine wpAny_bind (m:=firstArgMember _ _) (wpAny_of_eq (a:=Value.none) (by first|rfl|(simp only[firstArgMember];rfl)) ?_);refine wpAny_newObj_type ?_ (by size_fits);simp only[raiseNew];refine wpAny_bind (wpAny_handled ?_);rw[show A.in1.handled=none from hh];refine wpAny_bind (wpAny_pure (wpAny_throw ?_));refine wpAny_bind (wpAny_isInstance (T:="StopIteration") (b:=true) ⟨_,Heap.get?_push_size _ rfl,rfl⟩ isSubtype_stop ?_);exact wpAny_pure (hQ _ (((Heap.SameBut.update ..).extBut.push _).push _))
end
theorem jz{α β:Type}{G:α->β->Prop}{l₁:List α}{l₂:List β}(h:Paired G l₁ l₂):∀{i:Nat}{a:α},l₁[i]?=some a->∃b,l₂[i]?=some b/\G a b:=by
 induction h with
 |nil=>intro i a e;simp at e
 |@cons a b l₁ l₂ r t ih=>
  intro i a' e;cases i with
  |zero=>
   simp only[List.getElem?_cons_zero,Option.some.injEq] at e;subst e;exact⟨b,rfl,r⟩
  |succ j=>
   simp only[List.getElem?_cons_succ] at e ⊢;exact ih e
section
variable{X:Cx}{US:List (Addr×Obj)}{σ:St}{H:Hp}{s:Shared}{d:Addr}{o:Obj}
end
section
variable{P:Program}{w:World}{K:Frag}{tg:Expr}{d:Addr}{o:Obj}{es:Array DictEntry}{ep:Nat}
end
section
variable{X:Cx}{tg e:Expr}{td:TE}{apos cpos:Pos}
end
end L2
namespace SR
open PySem PyProof.Rows
end SR
namespace TL
open PySem PySem.Builtin PySem.Builtin.Str PySem.StrLaws
theorem join_eq(y:Str)(parts:List Str):Txt.join y parts=Str.join y parts:=glued_eq_join y parts
end TL
namespace L2
open PySem PySem.Spec PyProof.Rows
theorem gM:∀{ys:List Str}{us:List Value},Vals (ys.map V.str) us->StrsAre us ys
 |[],_,.nil=>.nil
 |y::ys,_,.cons r t=>by
  obtain⟨k,rfl⟩:=r;exact .cons y k (gM t)
section
variable{X:Cx}{US:List (Addr×Obj)}{σ:St}{H:Hp}{s:Shared}{Q:VK}
end
section
variable{X:Cx}
theorem J':Sj X "str.join" (λx xs H Q=>∃a p,∃ys:List Str,x= .str a/\xs=[.ref p]/\(bh X.K H p (ys.map V.str)\/fN X.K H p (ys.map V.str))/\
  (ys.map (·.length)).sum+ys.length*a.length<=16777216/\Q (.str (Txt.join a ys)) H):=by
 intro US s σ H x xs v us Q I rx rs h;obtain⟨a,p,ys,rfl,rfl,hp,hz,h⟩:=h;obtain⟨t,rfl⟩:=rx;cases rs with
 |cons r1 rs=>
  cases rs;cases r1;rcases hp with hp|hp
  ·obtain⟨its,r,⟨o,n,ho,hc,_,hd⟩,_⟩:=I.list hp;exact PyProof.Rows.join_list (items:=its.toArray) ⟨o,ho,hc,n,hd⟩ (by rw[List.toList_toArray];exact gM r) hz λt' k=>⟨.str _,H,I.tok k,⟨t',rfl⟩,h⟩
  ·obtain⟨its,r,ht,_⟩:=I.tuple hp;exact PyProof.Rows.join_tuple (items:=its.toArray) ht (by rw[List.toList_toArray];exact gM r) hz λt' k=>⟨.str _,H,I.tok k,⟨t',rfl⟩,h⟩
end
section
variable{X:Cx}{o e:Expr}{to te:TE}
def Ud(r:V->List V->Hp->VK->Prop)(to te:TE):TE:=λσ H Q=>to σ H λx H1=>(∃a,x= .str a)/\te σ H1 λy H2=>r x [y] H2 Q
theorem R9{id:String}{name:Str}{apos pos:Pos}{r:V->List V->Hp->VK->Prop}(slot:Slot "str" name id)(ty:typeOf (.builtin id)=pure (.type "method_descriptor"))(rule:Sj X id r)(ho:PE X o to)(he:PE X e te)(hs:starEach [e] X.env=[(false,eval e X.env)]:=by rfl)(hbase:attributeBase o name X.env (eval o X.env)=eval o X.env:=by rfl)(hline:(apos.endLine==pos.line)=true:=by rfl):
  PE X (.Call (.Attribute o name apos) [e] [] pos) (Ud r to te):=by
 intro US s σ H Q I h;refine PySem.Call_method1 hbase hs hline (br (ho US s σ H _ I h) λv s1 ⟨x,H1,I1,r1,q1⟩=>?_);obtain⟨⟨a,rfl⟩,q1⟩:=q1;obtain⟨t,rfl⟩:=_root_.id r1;refine⟨"str",_,F.plainAttrs_str,slot,ty,typeIs_str _ _ _,(λ_ e=>nomatch e),Calls.callWith_builtin rfl (Calls.evalArgs_plain (Calls.spliced_cons ?_))⟩;exact br (he US s1 σ H1 _ I1 q1) λu s2 ⟨y,H2,I2,r2,q2⟩=>Calls.spliced_nil (rule US s2 σ H2 _ [y] _ [u] Q I2 r1 (.cons r2 .nil) q2)
theorem J_{apos pos:Pos}(ho:PE X o to)(he:PE X e te)(hs:starEach [e] X.env=[(false,eval e X.env)]:=by rfl)(hbase:attributeBase o "join" X.env (eval o X.env)=eval o X.env:=by rfl)(hline:(apos.endLine==pos.line)=true:=by rfl):
  PE X (.Call (.Attribute o "join" apos) [e] [] pos) (Ud (λx xs H Q=>∃a p,∃ys:List Str,x= .str a/\xs=[.ref p]/\(bh X.K H p (ys.map V.str)\/fN X.K H p (ys.map V.str))/\
   (ys.map (·.length)).sum+ys.length*a.length<=16777216/\Q (.str (Txt.join a ys)) H) to te):=
 R9 F.slot_str_join F.type_str_join J' ho he hs hbase hline
end
section
variable{X:Cx}
end
end L2
namespace UC
open PySem PySem.W PySem.Calls PyProof.Rows
section
variable{prog:Program}{w:World}{A:Around}{E:Value->Shared->Prop}{s:Shared}{K:Frag}
end
end UC
namespace L2
open PySem PySem.Spec PyProof.Rows
def inClass(s:Stmt)(j:Nat):Stmt:=match s with
 | .ClassDef _ _ _ body _ _ _ _ _ _ _=>body.getD j (.Pass ⟨0,0,0,0⟩)
 |_=>.Pass ⟨0,0,0,0⟩
def el(s:Stmt):Arguments:=match s with
 | .FunctionDef _ a _ _ _ _ _ _ _ _=>a
 |_=>{posonlyargs:=[],args:=[],vararg:=none,kwonlyargs:=[],kw_defaults:=[],kwarg:=none,defaults:=[]}
def bX(s:Stmt):List Stmt:=match s with
 | .FunctionDef _ _ b _ _ _ _ _ _ _=>b
 |_=>[]
def aq(s:Stmt):Scope:=match s with
 | .FunctionDef _ _ _ _ _ _ sc _ _ _=>sc
 |_=>{kind:=.function,names:=[],isGenerator:=false,isCoroutine:=false}
abbrev bj:yz:=λ_ _ _ _ _ _=>False
abbrev E0:XK:=λ_ _ _=>False
theorem g9{X:Cx}:Passes bj X E0:=λ_ _ _ _ _ _ _ h=>h.elim
structure jW(K:Frag)(x qual:Str)(st:Stmt)(f:Addr)(fd:FuncData):Prop where
 ex:∃(oc:Value)(od:Option Addr)(kV doc pm:Value)(an:Option Addr)(UT ct:Value)(osl:Array (Option Value)),
  fd=PySem.W.fnOf x qual (el st) (bX st) (aq st) .none kV doc pm an UT ct/\K.lookup f=some ⟨oc,od,.func fd,osl⟩/\PySem.W.codeIn K UT qual=true
 kp:PySem.W.keepIn K (.ref f)=true
section
variable{P:Program}{w:World}{K:Frag}{mg:Str->Option Value}{base:Heap}
theorem jW.ok{x qual:Str}{st:Stmt}{f:Addr}{fd:FuncData}{N ps:List Str}{k:Nat}{sp:Sp}(F:jW K x qual st f fd)(S:ax N ps (aq st))(len:∀vs H Q E,sp vs H Q E->vs.length=ps.length)(hbody:∀(UT:Value)(A:Around)(outer:List Env)(s:Shared)(H:Hp)(vs:List V)(Q:VK)(E:XK),bB k (A.deeper (envOfC qual (aq st) s.heap.objs.size f UT))->sp vs H Q E->
   ∃t,tN (iL bj P w K mg base N qual (aq st) f UT A outer s H E).LF (bX st) t/\t {nx:=λ_ H'=>Q .bF H',rt:=Q} (start N vs) H):bY P w K mg base bj (k+1) f fd ps sp:=by
 obtain⟨oc,od,kV,doc,pm,an,UT,ct,osl,rfl,lk,hcd⟩:=F.ex;refine L5 lk hcd S len λA outer s H vs Q E hr hsp=>?_;obtain⟨t,h,q⟩:=hbody UT A outer s H vs Q E hr hsp;exact⟨t,h.LF,q⟩
theorem jW.binds{x qual:Str}{st:Stmt}{f:Addr}{fd:FuncData}{ps:List Str}(F:jW K x qual st f fd)(h:∀(kV doc pm:Value)(an:Option Addr)(UT ct:Value)(us:List Value),us.length=ps.length->bindArgs (PySem.W.fnOf x qual (el st) (bX st) (aq st) .none kV doc pm an UT ct) ⟨us,[]⟩=pure (ps.zip us)):Binds K fd ps []:=by obtain⟨oc,od,kV,doc,pm,an,UT,ct,osl,rfl,lk,hcd⟩:=F.ex;exact .all (h kV doc pm an UT ct)
theorem sX{x qual:Str}{st:Stmt}{f:Addr}{oc:Value}{od an:Option Addr}{osl:Array (Option Value)}{kV doc pm UT ct:Value}(l:K.lookup f=some ⟨oc,od,.func (PySem.W.fnOf x qual (el st) (bX st) (aq st) .none kV doc pm an UT ct),osl⟩)(c:PySem.W.codeIn K UT qual=true)(k:PySem.W.keepIn K (.ref f)=true):jW K x qual st f (PySem.W.fnOf x qual (el st) (bX st) (aq st) .none kV doc pm an UT ct):=⟨⟨oc,od,kV,doc,pm,an,UT,ct,osl,rfl,l,c⟩,k⟩
end
theorem LO{A:Around}{k:Nat}(hr:bB k A):A.units+1<cLine:=Nat.lt_of_le_of_lt (Nat.add_le_add_left (by decide:1<=64) _) hr.units
section
variable{X:Cx}
theorem pv(i:Nat){x:Str}{pos:Pos}(hN:X.N[i]?=some x:=by rfl)(hv:MJ X.env.scope x:=by first|exact Or.inl rfl|exact Or.inr (Or.inl rfl)|exact Or.inr (Or.inr rfl))(hd:(x==("__debug__":Str))=false:=by decide)(hcd:(x==("__classdict__":Str))=false:=by decide):PE X (.Name x pos) (df i):=F1 hN hv hd hcd
end
theorem dD{A B:Prop}(h:B):if false=true then A else B:=by rw[if_neg Bool.false_ne_true];exact h
theorem fE{A B:Prop}(h:A):if true=true then A else B:=by rw[if_pos rfl];exact h
theorem aT{c A B:Prop}[Decidable c](h1:c->A)(h2:¬c->B):if c then A else B:=by
 by_cases h:c
 ·rw[if_pos h];exact h1 h
 ·rw[if_neg h];exact h2 h
def aF(H H':Hp):Prop:=∀b o,H b=some o->H' b=some o
theorem aF.refl(H:Hp):aF H H:=λ_ _ h=>h
theorem aF.trans{H H1 H2:Hp}(a:aF H H1)(b:aF H1 H2):aF H H2:=λc o h=>b c o (a c o h)
theorem aF.free{H H':Hp}(e:aF H H'){l:Addr}(h:H' l=Option.none):H l=Option.none:=by
 cases q:H l with
 |none=>rfl
 |some o=>
  rw[e l o q] at h;cases h
theorem aF.seq{K:Frag}{H H':Hp}{a:Addr}{xs:List V}(e:aF H H')(h:bh K H a xs):bh K H' a xs:=by
 rcases h with(h|⟨o,h⟩)|h
 ·exact .inl (.inl (e _ _ h))
 ·exact .inl (.inr ⟨o,e _ _ h⟩)
 ·exact .inr h
section
variable{κ:Type}[DecidableEq κ]
end
theorem at_of{xs:List V}{z:Int}{j:Nat}{v:V}(e:z=(j:Int))(h:xs[j]?=some v):vi xs z=some v:=by rw[e];exact JQ h
theorem aF.made{H H1:Hp}{x dx C:Addr}(nx:H x=Option.none)(nd:H dx=Option.none)(k:∀b o,(upd (upd H dx (.own x)) x (.ins C dx [])) b=some o->b≠x->H1 b=some o):aF H H1:=λb o e=>
 k b o (by rw[ah (au e nx),ah (au e nd)];exact e) (au e nx)
section
open PySem.W (WData Codec OpenSpec Well WellAll ReadsW ReadsAllW)
mutual
inductive Dw(K:Frag)(H:Hp):V->WData->Prop
 |bF:Dw K H .bF .none
 |bl(b:Bool):Dw K H (.bl b) (.bool b)
 |int(i:Int):Dw K H (.int i) (.int i)
 |str(x:Str):Dw K H (.str x) (.str x)
 |bW(b:Array UInt8):Dw K H (.bW b) (.bytes b.toList)
 |lst{a:Addr} {xs:List V} {ds:List WData}:bh K H a xs->gg K H xs ds->Dw K H (.ref a) (.list ds)
 |tup{a:Addr} {xs:List V} {ds:List WData}:fN K H a xs->gg K H xs ds->Dw K H (.ref a) (.tuple ds)
inductive gg(K:Frag)(H:Hp):List V->List WData->Prop
 |nil:gg K H [] []
 |cons{v:V} {vs:List V} {d:WData} {ds:List WData}:Dw K H v d->gg K H vs ds->gg K H (v::vs) (d::ds)
end
theorem DF{K:Frag}{H:Hp}:∀ns:List Int,gg K H (ns.map V.int) (ns.map WData.int)
 |[]=>.nil
 |n::r=>.cons (.int n) (DF r)
theorem DK{K:Frag}{H:Hp}:∀(ns:List Int)(xs:List V),gg K H xs (ns.map WData.int)->xs=ns.map V.int
 |[],xs,h=>by
  cases h;rfl
 |n::r,xs,h=>by
  cases h with
  |cons h1 h2=>
   cases h1;rw[DK r _ h2] <;> rfl
section
variable{P:Program}{w:World}{K:Frag}{H:Hp}{h:Heap}{R:PySem.W.WRecords}{cl:Str->Option Addr}
theorem Oe{a:Addr}{xs:List V}(aZ:gy P w H h)(KX:K.In h)(q:bh K H a xs):∃(its:List Value)(o:Obj)(n:Nat),Vals xs its/\h.get? a=some o/\o.cls= .type "list"/\o.data= .seq its.toArray n:=by
 rcases q with q|⟨o,its,n,e,hc,_,hd,_,hv⟩
 ·obtain⟨_,its,n,hv,e⟩:=(show bL P w H h a (.lst xs) from q.ok aZ)
  exact⟨its,_,n,hv,e,rfl,rfl⟩
 ·exact⟨its.toList,o,n,hv,KX _ _ e,hc,by simp[hd]⟩
theorem M9{a:Addr}{xs:List V}(aZ:gy P w H h)(KX:K.In h)(q:fN K H a xs):∃(its:List Value)(o:Obj)(n:Nat),Vals xs its/\h.get? a=some o/\o.cls= .type "tuple"/\o.data= .seq its.toArray n:=by
 rcases q with q|⟨o,its,n,e,hc,hd,_,hv⟩
 ·obtain⟨_,its,hv,o,e,hc,n,hd⟩:=(show bL P w H h a (.tup xs) from q.ok aZ)
  exact⟨its,o,n,hv,e,hc,hd⟩
 ·exact⟨its.toList,o,n,hv,KX _ _ e,hc,by simp[hd]⟩
mutual
theorem Dw.reads(aZ:gy P w H h)(KX:K.In h):∀(d:WData)(v:V)(u:Value),Dw K H v d->RelV v u->∃as,ReadsW R cl h u d as
 | .none,_,_,x,r=>by
  cases x;cases r;exact⟨_,ReadsW.none⟩
 | .bool b,_,_,x,r=>by
  cases x;cases r;exact⟨_,ReadsW.bool b⟩
 | .int i,_,_,x,r=>by
  cases x;obtain⟨t,rfl⟩:=r;exact⟨_,ReadsW.int i t⟩
 | .str s,_,_,x,r=>by
  cases x;obtain⟨t,rfl⟩:=r;exact⟨_,ReadsW.str s t⟩
 | .bytes b,_,_,x,r=>by
  cases x;obtain⟨t,rfl⟩:=r;exact⟨_,ReadsW.bytes _ t⟩
 | .list ds,_,_,x,r=>by
  cases x with
  |lst hs ha=>
   cases r;obtain⟨its,o,n,rv,ho,hc,hd⟩:=Oe aZ KX hs;obtain⟨as,hr⟩:=Dw.readsAll aZ KX ds _ its ha rv;exact⟨_,ReadsW.list ho hc hd hr⟩
 | .tuple ds,_,_,x,r=>by
  cases x with
  |tup hs ha=>
   cases r;obtain⟨its,o,n,rv,ho,hc,hd⟩:=M9 aZ KX hs;obtain⟨as,hr⟩:=Dw.readsAll aZ KX ds _ its ha rv;exact⟨_,ReadsW.tuple ho hc hd hr⟩
 | .float _,_,_,x,_=>by cases x
 | .dict _,_,_,x,_=>by cases x
 | .bytearray _,_,_,x,_=>by cases x
 | .set _,_,_,x,_=>by cases x
 | .frozenset _,_,_,x,_=>by cases x
 | .obj _ _,_,_,x,_=>by cases x
theorem Dw.readsAll(aZ:gy P w H h)(KX:K.In h):∀(ds:List WData)(vs:List V)(us:List Value),gg K H vs ds->Vals vs us->∃as,ReadsAllW R cl h us ds as
 |[],_,_,x,r=>by
  cases x;cases r;exact⟨_,ReadsAllW.nil⟩
 |d::ds,_,_,x,r=>by
  cases x with
  |cons h1 h2=>
   cases r with
   |cons r1 r2=>
    obtain⟨as,q1⟩:=Dw.reads aZ KX d _ _ h1 r1;obtain⟨bs,q2⟩:=Dw.readsAll aZ KX ds _ _ h2 r2;exact⟨_,ReadsAllW.cons q1 q2⟩
end
end
mutual
def DR:WData->Bool
 | .none=>true
 | .bool _=>true
 | .int _=>true
 | .str _=>true
 | .bytes _=>true
 | .list xs=>pf xs
 | .tuple xs=>pf xs
 |_=>false
def pf:List WData->Bool
 |[]=>true
 |x::r=>DR x&&pf r
end
theorem zx{α:Type}{f:α->WData}(h:∀a,DR (f a)=true):∀l:List α,pf (l.map f)=true
 |[]=>rfl
 |x::r=>by
  show(DR (f x)&&pf (r.map f))=true;rw[h x,zx h r] <;> rfl
theorem iF:∀(c:Codec)(a:c.denote),DR (c.enc a)=true
 | .unit,_=>rfl
 | .bool,_=>rfl
 | .int _ _,_=>rfl
 | .nat _ _,_=>rfl
 | .u8,_=>rfl
 | .bytes _ _,_=>rfl
 | .text _ _ _ _,_=>rfl
 | .list _ _ c,a=>zx (λx=>iF c x) a
 | .pair c d,a=>by
  show(DR (c.enc a.1)&&(DR (d.enc a.2)&&true))=true;rw[iF c a.1,iF d a.2] <;> rfl
 | .triple c d e,a=>by
  show(DR (c.enc a.1)&&(DR (d.enc a.2.1)&&(DR (e.enc a.2.2)&&true)))=true;rw[iF c a.1,iF d a.2.1,iF e a.2.2] <;> rfl
 | .option c,none=>rfl
 | .option c,some x=>iF c x
theorem u7:∀(cs:List Codec)(a:Codec.denoteAll cs),pf (Codec.encAll cs a)=true
 |[],_=>rfl
 |c::cs,a=>by
  show(DR (c.enc a.1)&&pf (Codec.encAll cs a.2))=true;rw[iF c a.1,u7 cs a.2] <;> rfl
theorem jx:∀{xs:List WData}{d:WData},d∈xs->d.weight<=WData.weightAll xs
 |[],d,h=>absurd h (by simp)
 |x::r,d,h=>by
  show d.weight<=x.weight+1+WData.weightAll r;rcases List.mem_cons.mp h with e|m
  ·rw[e];omega
  ·have z:=jx m;omega
def toV:Value->V
 | .none=>.bF
 | .bool b=>.bl b
 | .int i _=>.int i
 | .str x _=>.str x
 | .bytes b _=>.bW b
 | .ref a=>.ref a
 |_=>.bF
def Ei(A:List Addr):Value->Prop
 | .none=>True
 | .bool _=>True
 | .int _ _=>True
 | .str _ _=>True
 | .bytes _ _=>True
 | .ref a=>a∈A
 |_=>False
theorem Ei.mono{A B:List Addr}(h:∀a∈A,a∈B):∀{u:Value},Ei A u->Ei B u:=λ{u} x=>by
 cases u with
 |ref a=>exact h a x
 |none=>trivial
 |bool b=>trivial
 |int i t=>trivial
 |str s t=>trivial
 |bytes b t=>trivial
 |_=>exact False.elim x
theorem G_{A:List Addr}{u:Value}(x:Ei A u):RelV (toV u) u:=by
 cases u with
 |ref a=>rfl
 |none=>rfl
 |bool b=>rfl
 |int i t=>exact⟨t,rfl⟩
 |str s t=>exact⟨t,rfl⟩
 |bytes b t=>exact⟨t,rfl⟩
 |_=>exact False.elim x
theorem gu{A:List Addr}:∀{vs:List Value},(∀u∈vs,Ei A u)->Vals (vs.map toV) vs
 |[],_=>.nil
 |u::r,h=>.cons (G_ (h u (List.mem_cons_self ..))) (gu λx hx=>h x (List.mem_cons_of_mem _ hx))
def g7(h:Heap)(A:List Addr)(a:Addr):Prop:=∃vs:List Value,vs.length<=sizeLine/\(∀u∈vs,Ei A u)/\
 (h.get? a=some {cls:=.type "list",data:=.seq vs.toArray}\/h.get? a=some {cls:=.type "tuple",data:=.seq vs.toArray})
theorem g7.mono{h:Heap}{A B:List Addr}{a:Addr}(k:∀a∈A,a∈B)(x:g7 h A a):g7 h B a:=by obtain⟨vs,h1,h2,h3⟩:=x;exact⟨vs,h1,λu hu=>(h2 u hu).mono k,h3⟩
theorem fM{P:Params}{h:Heap}:∀{vs:List Value}{ds:List WData},WellAll P h vs ds->vs.length=ds.length
 |_,_,.nil=>rfl
 |_,_,.cons _ b=>by
  show _+1=_+1;rw[fM b]
theorem vw{P:Params}{h:Heap}{v:Value}{ds:List WData}(x:Well P h v (.list ds)):∃(a:Addr)(vs:List Value),v= .ref a/\h.get? a=some {cls:=.type "list",data:=.seq vs.toArray}/\WellAll P h vs ds:=by
 cases x with
 |list ho hall=>exact⟨_,_,rfl,ho,hall⟩
theorem tL{P:Params}{h:Heap}{v:Value}{ds:List WData}(x:Well P h v (.tuple ds)):∃(a:Addr)(vs:List Value),v= .ref a/\h.get? a=some {cls:=.type "tuple",data:=.seq vs.toArray}/\WellAll P h vs ds:=by
 cases x with
 |tuple ho hall=>exact⟨_,_,rfl,ho,hall⟩
theorem uF{P:Params}{h:Heap}{us:List Value}{d:WData}{ds:List WData}(x:WellAll P h us (d::ds)):∃(v:Value)(vs:List Value),us=v::vs/\Well P h v d/\WellAll P h vs ds:=by
 cases x with
 |cons a b=>exact⟨_,_,rfl,a,b⟩
theorem C4{n:Nat}(h:n<=1048576):n<=sizeLine:=Nat.le_trans h ↑0
section
variable{P:Params}{h:Heap}
mutual
theorem Hz:∀(d:WData)(v:Value),Well P h v d->DR d=true->d.weight<=1048576->∃A:List Addr,Ei A v/\∀a∈A,g7 h A a
 | .none,_,x,_,_=>by
  cases x;exact⟨[],trivial,λa m=>absurd m (by simp)⟩
 | .bool b,_,x,_,_=>by
  cases x;exact⟨[],trivial,λa m=>absurd m (by simp)⟩
 | .int i,_,x,_,_=>by
  cases x;exact⟨[],trivial,λa m=>absurd m (by simp)⟩
 | .str s,_,x,_,_=>by
  cases x;exact⟨[],trivial,λa m=>absurd m (by simp)⟩
 | .bytes b,_,x,_,_=>by
  cases x;exact⟨[],trivial,λa m=>absurd m (by simp)⟩
 | .list ds,_,x,p,z=>by
  obtain⟨a,vs,rfl,ho,hall⟩:=vw x;have z2:WData.weightAll ds<=1048576:=z;obtain⟨A,h1,h2⟩:=kK ds _ hall p λd hd=>Nat.le_trans (jx hd) z2;have k:∀b∈A,b∈a::A:=λb hb=>List.mem_cons_of_mem _ hb;refine⟨a::A,List.mem_cons_self ..,λb hb=>?_⟩;rcases List.mem_cons.mp hb with e|m
  ·rw[e];exact⟨vs,C4 (by rw[fM hall];exact Nat.le_trans (PySem.W.length_le_weightAllW ds) z2),λu hu=>(h1 u hu).mono k,.inl ho⟩
  ·exact(h2 b m).mono k
 | .tuple ds,_,x,p,z=>by
  obtain⟨a,vs,rfl,ho,hall⟩:=tL x;have z2:WData.weightAll ds<=1048576:=z;obtain⟨A,h1,h2⟩:=kK ds _ hall p λd hd=>Nat.le_trans (jx hd) z2;have k:∀b∈A,b∈a::A:=λb hb=>List.mem_cons_of_mem _ hb;refine⟨a::A,List.mem_cons_self ..,λb hb=>?_⟩;rcases List.mem_cons.mp hb with e|m
  ·rw[e];exact⟨vs,C4 (by rw[fM hall];exact Nat.le_trans (PySem.W.length_le_weightAllW ds) z2),λu hu=>(h1 u hu).mono k,.inr ho⟩
  ·exact(h2 b m).mono k
 | .float _,_,_,p,_=>Bool.noConfusion (show false=true from p)
 | .dict _,_,_,p,_=>Bool.noConfusion (show false=true from p)
 | .bytearray _,_,_,p,_=>Bool.noConfusion (show false=true from p)
 | .set _,_,_,p,_=>Bool.noConfusion (show false=true from p)
 | .frozenset _,_,_,p,_=>Bool.noConfusion (show false=true from p)
 | .obj _ _,_,_,p,_=>Bool.noConfusion (show false=true from p)
theorem kK:∀(ds:List WData)(vs:List Value),WellAll P h vs ds->pf ds=true->(∀d∈ds,d.weight<=1048576)->∃A:List Addr,(∀u∈vs,Ei A u)/\∀a∈A,g7 h A a
 |[],_,x,_,_=>by
  cases x;exact⟨[],λu m=>absurd m (by simp),λa m=>absurd m (by simp)⟩
 |d::ds,_,x,p,z=>by
  obtain⟨v,vs,rfl,x1,x2⟩:=uF x;have q:DR d=true/\pf ds=true:=Bool.and_eq_true_iff.mp p;obtain⟨A,a1,a2⟩:=Hz d v x1 q.1 (z d (List.mem_cons_self ..));obtain⟨B,b1,b2⟩:=kK ds vs x2 q.2 λe he=>z e (List.mem_cons_of_mem _ he);have kA:∀b∈A,b∈A++B:=λb hb=>List.mem_append.mpr (.inl hb);have kB:∀b∈B,b∈A++B:=λb hb=>List.mem_append.mpr (.inr hb);refine⟨A++B,λu hu=>?_,λb hb=>?_⟩
  ·rcases List.mem_cons.mp hu with e|m
   ·rw[e];exact a1.mono kA
   ·exact(b1 u m).mono kB
  ·rcases List.mem_append.mp hb with m|m
   ·exact(a2 b m).mono kA
   ·exact(b2 b m).mono kB
end
end
def JJ(o:Obj):Option HO:=match o.data with
 | .seq vs _=>if(o.cls==Value.type "list")=true then some (.sQ o (.lst (vs.toList.map toV))) else some (.sQ o (.tup (vs.toList.map toV)))
 |_=>none
def gG(K:Frag)(h:Heap)(A:List Addr):Hp:=λb=>if b∈A then(if(K.lookup b).isNone=true then(h.get? b).bind JJ else none) else none
def vg(H:Hp):Prop:=∀b,H b=none\/∃o u,H b=some (.sQ o u)
theorem yA(vs:List Value):JJ {cls:=.type "list",data:=.seq vs.toArray}=some (.sQ {cls:=.type "list",data:=.seq vs.toArray} (.lst (vs.map toV))):=by show(if(Value.type "list"==Value.type "list")=true then some (HO.sQ {cls:=.type "list",data:=.seq vs.toArray} (.lst (vs.toArray.toList.map toV))) else some (HO.sQ {cls:=.type "list",data:=.seq vs.toArray} (.tup (vs.toArray.toList.map toV))))=_;rw[if_pos (beq_self_eq_true _)]
theorem yI(vs:List Value):JJ {cls:=.type "tuple",data:=.seq vs.toArray}=some (.sQ {cls:=.type "tuple",data:=.seq vs.toArray} (.tup (vs.map toV))):=by show(if(Value.type "tuple"==Value.type "list")=true then some (HO.sQ {cls:=.type "tuple",data:=.seq vs.toArray} (.lst (vs.toArray.toList.map toV))) else some (HO.sQ {cls:=.type "tuple",data:=.seq vs.toArray} (.tup (vs.toArray.toList.map toV))))=_;rw[if_neg ↑0]
section
variable{P:Program}{w:World}{K:Frag}{h:Heap}{A:List Addr}
theorem qp{b:Addr}{o:Obj}(hb:b∈A)(hk:K.lookup b=none)(e:h.get? b=some o):gG K h A b=JJ o:=by unfold gG;rw[if_pos hb,hk,if_pos (show(none:Option Obj).isNone=true from rfl),e] <;> rfl
theorem Li{b:Addr}{u:HO}(q:gG K h A b=some u):b∈A/\K.lookup b=none:=by
 unfold gG at q;by_cases hb:b∈A
 ·rw[if_pos hb] at q;cases hk:K.lookup b with
  |none=>exact⟨hb,rfl⟩
  |some o=>
   rw[hk,if_neg (by simp)] at q;cases q
 ·rw[if_neg hb] at q;cases q
theorem qg(ar:∀a∈A,g7 h A a){b:Addr}{u:HO}(q:gG K h A b=some u):K.lookup b=none/\∃vs:List Value,vs.length<=sizeLine/\(∀u∈vs,Ei A u)/\
    ((h.get? b=some {cls:=.type "list",data:=.seq vs.toArray}/\u= .sQ {cls:=.type "list",data:=.seq vs.toArray} (.lst (vs.map toV)))\/
     (h.get? b=some {cls:=.type "tuple",data:=.seq vs.toArray}/\u= .sQ {cls:=.type "tuple",data:=.seq vs.toArray} (.tup (vs.map toV)))):=by
  obtain⟨hb,hk⟩:=Li q;obtain⟨vs,h1,h2,h3⟩:=ar b hb;refine⟨hk,vs,h1,h2,?_⟩;rcases h3 with e|e
  · rw[qp hb hk e,yA] at q;exact .inl ⟨e,(Option.some.inj q).symm⟩
  · rw[qp hb hk e,yI] at q;exact .inr ⟨e,(Option.some.inj q).symm⟩
theorem DZ(ar:∀a∈A,g7 h A a):vg (gG K h A):=λb=>by
 cases q:gG K h A b with
 |none=>exact .inl rfl
 |some u=>
  obtain⟨_,vs,_,_,⟨_,e⟩|⟨_,e⟩⟩:=qg ar q
  ·exact .inr ⟨_,_,by rw[e]⟩
  ·exact .inr ⟨_,_,by rw[e]⟩
theorem Lj(ar:∀a∈A,g7 h A a):gy P w (gG K h A) h:=λb u q=>by
 obtain⟨_,vs,h1,h2,⟨e,rfl⟩|⟨e,rfl⟩⟩:=qg ar q
 ·exact⟨e,by rw[List.length_map];exact h1,vs,_,gu h2,e⟩
 ·exact⟨e,by rw[List.length_map];exact h1,vs,gu h2,_,e,rfl,_,rfl⟩
theorem qf{c c':Value}{vs us:List Value}(e:(some {cls:=c,data:=.seq vs.toArray}:Option Obj)=some {cls:=c',data:=.seq us.toArray}):c=c'/\vs=us:=by have e1:=Option.some.inj e;have e2:c=c':=congrArg Obj.cls e1;have e3:Data.seq vs.toArray=Data.seq us.toArray:=congrArg Obj.data e1;injection e3 with e4;refine⟨e2,?_⟩;have e5:=congrArg Array.toList e4;simpa using e5
theorem TB(KX:K.In h)(ar:∀a∈A,g7 h A a){a:Addr}{vs:List Value}(ha:a∈A)(e:h.get? a=some {cls:=.type "list",data:=.seq vs.toArray}):(∀u∈vs,Ei A u)/\bh K (gG K h A) a (vs.map toV):=by
 obtain⟨us,h1,h2,h3⟩:=ar a ha;have hu:us=vs:=by
  rcases h3 with q|q
  ·rw[e] at q;exact(qf q).2.symm
  ·rw[e] at q;exact absurd (Value.type.inj (qf q).1) ↑0
 subst hu;refine⟨h2,?_⟩;cases hk:K.lookup a with
 |none=>exact .inl (.inr ⟨_,by rw[qp ha hk e,yA]⟩)
 |some o=>
  have e2:=KX a o hk;rw[e] at e2;obtain rfl:=Option.some.inj e2;exact .inr ⟨_,us.toArray,_,hk,rfl,rfl,rfl,by rw[List.size_toArray];exact h1,by simpa using gu h2⟩
theorem T9(KX:K.In h)(ar:∀a∈A,g7 h A a){a:Addr}{vs:List Value}(ha:a∈A)(e:h.get? a=some {cls:=.type "tuple",data:=.seq vs.toArray}):(∀u∈vs,Ei A u)/\fN K (gG K h A) a (vs.map toV):=by
 obtain⟨us,h1,h2,h3⟩:=ar a ha;have hu:us=vs:=by
  rcases h3 with q|q
  ·rw[e] at q;exact absurd (Value.type.inj (qf q).1) ↑0
  ·rw[e] at q;exact(qf q).2.symm
 subst hu;refine⟨h2,?_⟩;cases hk:K.lookup a with
 |none=>exact .inl (.inr ⟨_,by rw[qp ha hk e,yI]⟩)
 |some o=>
  have e2:=KX a o hk;rw[e] at e2;obtain rfl:=Option.some.inj e2;exact .inr ⟨_,us.toArray,_,hk,rfl,rfl,by rw[List.size_toArray];exact h1,by simpa using gu h2⟩
mutual
theorem NB{Pm:Params}(KX:K.In h)(ar:∀a∈A,g7 h A a):∀(d:WData)(v:Value),Well Pm h v d->DR d=true->Ei A v->Dw K (gG K h A) (toV v) d
 | .none,_,x,_,_=>by
  cases x;exact .bF
 | .bool b,_,x,_,_=>by
  cases x;exact .bl b
 | .int i,_,x,_,_=>by
  cases x;exact .int i
 | .str s,_,x,_,_=>by
  cases x;exact .str s
 | .bytes b,_,x,_,_=>by
  cases x;have z:=Dw.bW (K:=K) (H:=gG K h A) b.toArray;exact z
 | .list ds,_,x,p,hu=>by
  obtain⟨a,vs,rfl,ho,hall⟩:=vw x;obtain⟨h2,hs⟩:=TB KX ar hu ho;exact .lst hs (xF KX ar ds _ hall p h2)
 | .tuple ds,_,x,p,hu=>by
  obtain⟨a,vs,rfl,ho,hall⟩:=tL x;obtain⟨h2,hs⟩:=T9 KX ar hu ho;exact .tup hs (xF KX ar ds _ hall p h2)
 | .float _,_,_,p,_=>Bool.noConfusion (show false=true from p)
 | .dict _,_,_,p,_=>Bool.noConfusion (show false=true from p)
 | .bytearray _,_,_,p,_=>Bool.noConfusion (show false=true from p)
 | .set _,_,_,p,_=>Bool.noConfusion (show false=true from p)
 | .frozenset _,_,_,p,_=>Bool.noConfusion (show false=true from p)
 | .obj _ _,_,_,p,_=>Bool.noConfusion (show false=true from p)
theorem xF{Pm:Params}(KX:K.In h)(ar:∀a∈A,g7 h A a):∀(ds:List WData)(vs:List Value),WellAll Pm h vs ds->pf ds=true->(∀u∈vs,Ei A u)->gg K (gG K h A) (vs.map toV) ds
 |[],_,x,_,_=>by
  cases x;exact .nil
 |d::ds,_,x,p,hu=>by
  obtain⟨v,vs,rfl,x1,x2⟩:=uF x;have q:DR d=true/\pf ds=true:=Bool.and_eq_true_iff.mp p;exact .cons (NB KX ar d v x1 q.1 (hu _ (List.mem_cons_self ..))) (xF KX ar ds vs x2 q.2 λu m=>hu u (List.mem_cons_of_mem _ m))
end
end
theorem D5{P:Program}{w:World}{K:Frag}{mg mb:Str->Option Value}{CX:yz}{k:Nat}{fa:Addr}{fd:FuncData}{ps:List Str}{sp:Sp}{s₁:Shared}{vals:List Value}{ds:List WData}{R:PySem.W.WRecords}{cl:Str->Option Addr}{d0:WData}(KX:K.In s₁.heap)(hns:s₁.heap.Ns mainGlobals mg)(hb:s₁.heap.Ns builtinsNs mb)(hbb:∀x:Str,x≠"__name__"->mb x=bootBuiltins x)(hlim:s₁.heap.NoLimit)(hg:s₁.gens=#[])(hwl:WellAll w.params s₁.heap vals ds)(hpl:pf ds=true)(hwt:∀d∈ds,d.weight<=1048576)(hr:bB k callerA)(F:∀base:Heap,K.In base->base.Ns mainGlobals mg->bY P w K mg base CX k fa fd ps sp)(hbind:∀(s:Shared)(us:List Value),us.length=ps.length->BindsTo s fd ⟨us,[]⟩ (ps.zip us))(hlen:ds.length=ps.length)(hsp:∀(H:Hp)(xs:List V),vg H->gg K H xs ds->sp xs H (λv H'=>Dw K H' v d0) λ_ _ _=>False)(hCX:∀H e s',CX [] H s₁ (λ_ _ _=>False) e s'->False):
  codeAny (model P w) callerA (.call (.ref fa) ⟨vals,[]⟩) (λr s'=>∃u as,r= .ok (.ret u)/\ReadsW R cl s'.heap u d0 as/\OldK s₁.heap s'.heap/\s'.os=s₁.os/\AllBare s'.gens) s₁:=by
 obtain⟨A,ho,ar⟩:=kK ds vals hwl hpl hwt;have hO:vg (gG K s₁.heap A):=DZ ar;have aZ:gy P w (gG K s₁.heap A) s₁.heap:=Lj ar;have hS:=xF KX ar ds vals hwl hpl ho;have hV:=gu ho;have hK:∀b u,gG K s₁.heap A b=some u->K.lookup b=none:=λb u q=>(qg ar q).1;have noA:∀{b:Addr}{o:Obj}{es:Array DictEntry}{ep:Nat},s₁.heap.get? b=some o->o.data= .dict es ep->gG K s₁.heap A b=none:=λ{b o es ep} e d=>by
  cases q:gG K s₁.heap A b with
  |none=>rfl
  |some u=>
   obtain⟨_,vs,_,_,⟨e2,_⟩|⟨e2,_⟩⟩:=qg ar q
   ·rw[e2] at e;cases e;have d':Data.seq vs.toArray _=Data.dict es ep:=d;cases d'
   ·rw[e2] at e;cases e;have d':Data.seq vs.toArray _=Data.dict es ep:=d;cases d'
 generalize gG K s₁.heap A=H at hO aZ hS hK noA;have base_of:∀{b:Addr}{o:Obj},s₁.heap.get? b=some o->H b=none->(wq s₁.heap H).get? b=some o:=λe n=>Hj e n;have nsK:∀{b:Addr}{m:Str->Option Value},s₁.heap.Ns b m->(wq s₁.heap H).Ns b m:=λ{b m} ⟨o,es,ep,e,d,r⟩=>⟨o,es,ep,base_of e (noA e d),d,r⟩
 have nK:∀b o,K.lookup b=some o->H b=none:=λb o e=>by
  cases q:H b with
  |none=>rfl
  |some u=>
   rw[hK b u q] at e;cases e
 have hKb:K.In (wq s₁.heap H):=λb o e=>base_of (KX b o e) (nK b o e);have hM:Mod K mg (wq s₁.heap H):=⟨hKb,nsK hns,⟨mb,nsK hb,hbb⟩,let⟨mc,h1,h2⟩:=hlim;⟨mc,nsK h1,h2⟩⟩
 have e0:xi P w K mg (wq s₁.heap H) callerA [] s₁ H:=⟨rfl,hM,λb o e=>Kf e,Nat.le_of_eq (Fq _ _),trivial,λb hb=>absurd (show b∈([]:List Addr) from hb) (by simp),aZ,.of_eq hg⟩
 have hl:vals.length=ps.length:=by rw[fM hwl];exact hlen
 refine codeAny_mono ((F _ hKb (nsK hns)).run callerA [] s₁ H ⟨vals,[]⟩ vals (vals.map toV) _ _ hr e0 (hbind s₁ vals hl) hV (hsp H _ hO hS)) λr s' x=>?_;cases r with
 |error e=>exact(hCX H e s' x).elim
 |ok fl=>
  cases fl with
  |next=>exact False.elim x
  |brk=>exact False.elim x
  |cont=>exact False.elim x
  |ret u=>
   obtain⟨v,H',os,bare,un,hok',r',q⟩:=x;have kept:∀b o,s₁.heap.get? b=some o->s'.heap.get? b=some o:=λb o e=>by
    cases q2:H b with
    |none=>exact un.keep b o e q2 (by intro z;exact absurd (show b∈([]:List Addr) from z) (by simp)) (by simp)
    |some u2=>
     rcases hO b with z|⟨ob,u3,z⟩
     ·rw[q2] at z;cases z
     ·have z2:=un.mR b ob _ z;obtain⟨e1,_⟩:=aZ b _ z;obtain⟨e2,_⟩:=hok' b _ z2;rw[e] at e1;cases e1;exact e2
   have KX':K.In s'.heap:=λb o e=>kept b o (KX b o e);obtain⟨as,hrd⟩:=Dw.reads (R:=R) (cl:=cl) hok' KX' d0 v u q r';exact⟨u,as,rfl,hrd,OldK.of_keep kept,os,bare⟩
theorem sR{ds:List WData}(h:WData.layableAll ds=true):∀d∈ds,d.weight<=1048576:=λd hd=>
 (PySem.W.layableW_iff.mp (List.all_eq_true.mp h d hd)).2.2
theorem qI:∀(cs:List Codec)(a:Codec.denoteAll cs),(Codec.encAll cs a).length=cs.length
 |[],_=>rfl
 |c::cs,a=>by
  show(Codec.encAll cs a.2).length+1=cs.length+1;rw[qI cs a.2]
theorem EU{r:OpenSpec}{k:Nat}{q:Program}{loose:List Str}{XP:(Str->Option Value)->Heap->Prop}{YP:World->Heap->Prop}{d:DefRec}{K:Params->Frag}{CX:World->yz}{ps:List Str}{sp:World->Sp}(hwell:r.wellSaid=true)(hdf:d.params.defaults=[])(hlen:r.args.length=ps.length)(hr:bB k callerA)(hY:∀(w:World)(h:Heap),YP w h->(K w.params).In h)(F:∀(w:World)(mg:Str->Option Value)(fa:Addr)(h:Heap),YP w h->(K w.params).In h->h.Ns mainGlobals mg->mg d.name=some (.ref fa)->
   ∃fd:FuncData,(∀(s:Shared)(us:List Value),us.length=ps.length->BindsTo s fd ⟨us,[]⟩ (ps.zip us))/\
    ∀base:Heap,(K w.params).In base->base.Ns mainGlobals mg->bY r.prog w (K w.params) mg base (CX w) k fa fd ps (sp w))(hsp:∀(w:World)(H:Hp)(xs:List V)(a:Codec.denoteAll r.args),vg H->Codec.withinAll r.args a=true->Codec.app r.args r.asked a=true->gg (K w.params) H xs (Codec.encAll r.args a)->
   sp w xs H (λv H'=>Dw (K w.params) H' v (r.ret.enc (Codec.app r.args r.f a))) λ_ _ _=>False)(hCX:∀(w:World)(H:Hp)(s:Shared)(e:Value)(s':Shared),CX w [] H s (λ_ _ _=>False) e s'->False):
  PySem.W.WalkOS q loose XP YP r d [] (λf vs=>PySem.call f vs):=by
 intro w m8 s₁ mg mb G Y fa o pm cd doc dV kV ho hd hcd hD hmg hg args vals as hpre hlay hrd hwl hlo;obtain⟨a,e1,e2⟩:=PySem.W.os_pre_some hpre;obtain⟨e3,hwi⟩:=Codec.encAll_of_decAll r.args args a e1;subst e3;have KX:=hY w _ Y;obtain⟨fd,hb,hF⟩:=F w mg fa _ Y KX G.T.g hmg;refine PySem.W.enter_call (codeAny_mono (D5 (R:=[]) (cl:=classAt m8.heap) (d0:=r.ret.enc (Codec.app r.args r.f a)) KX G.T.g G.T.b G.T.builtins G.T.nolimit hg hwl (u7 _ _) (sR hlay) hr hF hb (by rw[qI];exact hlen)
  (λH xs hO hS=>hsp w H xs a hO hwi e2 hS) λH e s'=>hCX w H s₁ e s') λr' s' hq=>?_)
 obtain⟨u,as',rfl,h1,h2,h3,h4⟩:=hq;exact⟨.inl ⟨u,_,as',rfl,λ_=>rfl,h1,(OpenSpec.post_iff hwell hwi _ _).mpr rfl,λz=>Bool.noConfusion (show false=true from z)⟩,h2,h3,h4⟩
theorem Ce{r:OpenSpec}{k:Nat}{q:Program}{loose:List Str}{XP:(Str->Option Value)->Heap->Prop}{YP:World->Heap->Prop}{d:DefRec}{K:Params->Frag}{CX:yz}{ps:List Str}{sp:Frag->Sp}(hwell:r.wellSaid=true)(hdf:d.params.defaults=[])(hlen:r.args.length=ps.length)(hr:bB k callerA)(hY:∀(w:World)(h:Heap),YP w h->(K w.params).In h)(F:∀(w:World)(mg:Str->Option Value)(fa:Addr)(h:Heap),YP w h->(K w.params).In h->h.Ns mainGlobals mg->mg d.name=some (.ref fa)->
   ∃fd:FuncData,(∀(s:Shared)(us:List Value),us.length=ps.length->BindsTo s fd ⟨us,[]⟩ (ps.zip us))/\
    ∀base:Heap,(K w.params).In base->base.Ns mainGlobals mg->bY r.prog w (K w.params) mg base CX k fa fd ps (sp (K w.params)))(hsp:∀(K:Frag)(H:Hp)(xs:List V)(a:Codec.denoteAll r.args),vg H->Codec.withinAll r.args a=true->Codec.app r.args r.asked a=true->gg K H xs (Codec.encAll r.args a)->
   sp K xs H (λv H'=>Dw K H' v (r.ret.enc (Codec.app r.args r.f a))) λ_ _ _=>False)(hCX:∀(H:Hp)(s:Shared)(e:Value)(s':Shared),CX [] H s (λ_ _ _=>False) e s'->False):
  PySem.W.WalkOS q loose XP YP r d [] (λf vs=>PySem.call f vs):=
 EU (K:=K) (CX:=λ_=>CX) (sp:=λw=>sp (K w.params)) hwell hdf hlen hr hY F (λw H xs a h1 h2 h3 h4=>hsp (K w.params) H xs a h1 h2 h3 h4) λ_ H s e s'=>hCX H s e s'
end
end L2
namespace TW
open EwTree
variable{b:By}{c:UInt8}{p:Nat}{r:By}
abbrev By:=List UInt8
theorem eA{α:Type}(p:α->Bool):∀(l:List α)(n:Nat),(l.takeWhile p).length<=n->(l.take n).takeWhile p=l.takeWhile p
 |[],n,_=>by simp
 |a::l,0,h=>by
  cases e:p a with
  |false=>simp[List.takeWhile_cons,e]
  |true=>simp[List.takeWhile_cons,e] at h
 |a::l,n+1,h=>by
  cases e:p a with
  |false=>simp[List.takeWhile_cons,e]
  |true=>
   simp only[List.take_succ_cons,List.takeWhile_cons,e,if_true];rw[eA p l n (by simpa[List.takeWhile_cons,e] using h)]
theorem i6{α:Type}(p:α->Bool):∀(l:List α)(n:Nat),(l.takeWhile p).length<=n->(l.take n).dropWhile p=(l.dropWhile p).take (n - (l.takeWhile p).length)
 |[],n,_=>by simp
 |a::l,0,h=>by
  cases e:p a with
  |false=>simp[List.dropWhile_cons,e,List.takeWhile_cons]
  |true=>simp[List.takeWhile_cons,e] at h
 |a::l,n+1,h=>by
  cases e:p a with
  |false=>simp[List.takeWhile_cons,List.dropWhile_cons,e]
  |true=>
   simp only[List.take_succ_cons,List.takeWhile_cons,List.dropWhile_cons,e,if_true,List.length_cons];rw[i6 p l n (by simpa[List.takeWhile_cons,e] using h)];congr 1;omega
theorem dn{α:Type}(p:α->Bool):∀(l:List α),l.dropWhile p=l.drop (l.takeWhile p).length
 |[]=>rfl
 |a::l=>by
  cases e:p a with
  |false=>simp[List.takeWhile_cons,List.dropWhile_cons,e]
  |true=>
   simp only[List.takeWhile_cons,List.dropWhile_cons,e,if_true,List.length_cons,List.drop_succ_cons];exact dn p l
theorem gF{α:Type}(p:α->Bool):∀(l:List α),l.takeWhile p=l.take (l.takeWhile p).length
 |[]=>rfl
 |a::l=>by
  cases e:p a with
  |false=>simp[List.takeWhile_cons,e]
  |true=>
   simp only[List.takeWhile_cons,e,if_true,List.length_cons,List.take_succ_cons];rw[<-gF p l]
theorem dj{α:Type}(p:α->Bool)(l:List α):(l.takeWhile p).length+(l.dropWhile p).length=l.length:=by have:=congrArg List.length (List.takeWhile_append_dropWhile (p:=p) (l:=l));rw[List.length_append] at this;exact this
theorem He{α:Type}(p:α->Bool):∀(l:List α),(l.takeWhile p).all p=true
 |[]=>rfl
 |a::l=>by
  cases e:p a with
  |false=>simp[List.takeWhile_cons,e]
  |true=>
   simp only[List.takeWhile_cons,e,if_true,List.all_cons,Bool.true_and];exact He p l
theorem sh{a b:UInt8}:a<=b↔a.toNat<=b.toNat:=UInt8.le_iff_toNat_le
theorem jh{a b:UInt8}:a=b↔a.toNat=b.toNat:=⟨λh=>by rw[h],λh=>UInt8.toNat_inj.mp h⟩
theorem xx{n:Nat}{m:UInt8}(h:m.toNat=n):decide ((n:Int)<=(c.toNat:Int))=decide (m<=c):=by
 by_cases q:m<=c
 ·rw[decide_eq_true q];exact decide_eq_true (by have:=sh.mp q;omega)
 ·rw[decide_eq_false q];exact decide_eq_false (λz=>q (sh.mpr ↑2))
theorem xO{n:Nat}{m:UInt8}(h:m.toNat=n):decide ((c.toNat:Int)<=(n:Int))=decide (c<=m):=by
 by_cases q:c<=m
 ·rw[decide_eq_true q];exact decide_eq_true (by have:=sh.mp q;omega)
 ·rw[decide_eq_false q];exact decide_eq_false (λz=>q (sh.mpr ↑2))
theorem BF{n:Nat}{m:UInt8}(h:m.toNat=n):decide ((c.toNat:Int)=(n:Int))=decide (c=m):=by
 by_cases q:c=m
 ·rw[decide_eq_true q];exact decide_eq_true (by rw[q];omega)
 ·rw[decide_eq_false q];exact decide_eq_false (λz=>q (jh.mpr ↑2))
def iU(n:Int):Bool:=decide (97<=n)&&decide (n<=122)
def t_(n:Int):Bool:=decide (65<=n)&&decide (n<=90)
def b_(n:Int):Bool:=decide (48<=n)&&decide (n<=57)
def g8(n:Int):Bool:=decide (32<=n)&&decide (n<=126)
def gY(n:Int):Bool:=iU n||(b_ n||decide (n=95))
def oH(n:Int):Bool:=t_ n||b_ n
def o8(n:Int):Bool:=gY n||t_ n
theorem sq(c:UInt8):iU c.toNat=isSmall c:=by unfold iU isSmall;rw[<-xx (n:=97) (m:=97) rfl,<-xO (n:=122) (m:=122) rfl];rfl
theorem Bo(c:UInt8):t_ c.toNat=isBig c:=by unfold t_ isBig;rw[<-xx (n:=65) (m:=65) rfl,<-xO (n:=90) (m:=90) rfl];rfl
theorem fC(c:UInt8):b_ c.toNat=isDigit c:=by unfold b_ isDigit;rw[<-xx (n:=48) (m:=48) rfl,<-xO (n:=57) (m:=57) rfl];rfl
theorem Dc(c:UInt8):g8 c.toNat=isSeen c:=by unfold g8 isSeen;rw[<-xx (n:=32) (m:=32) rfl,<-xO (n:=126) (m:=126) rfl];rfl
theorem Dg(c:UInt8):gY c.toNat=isWordByte c:=by
 unfold gY isWordByte;rw[sq,fC];have:decide ((c.toNat:Int)=95)=(c==95):=by
  show decide ((c.toNat:Int)=((95:Nat):Int))=_;rw[BF (n:=95) (m:=95) rfl];by_cases q:c=95 <;> simp[q]
 rw[this]
theorem K9(c:UInt8):oH c.toNat=isCodeByte c:=by unfold oH isCodeByte;rw[Bo,fC]
theorem Ke(c:UInt8):o8 c.toNat=isMarkByte c:=by unfold o8 isMarkByte;rw[Dg,Bo]
def cQ(b:By)(p:Nat):Int:=match b[p]? with|some c=>(c.toNat:Int)|none=> -1
def aJ(q:UInt8->Bool)(b:By)(p:Nat):Nat:=p+((b.drop p).takeWhile q).length
theorem dH(q:UInt8->Bool)(h:p<=b.length):aJ q b p<=b.length:=by unfold aJ;have:=dj q (b.drop p);rw[List.length_drop] at this;omega
theorem bV(q:UInt8->Bool)(b:By)(p:Nat):p<=aJ q b p:=Nat.le_add_right _ _
theorem bp(h:b[p]?=some c):b.drop p=c::b.drop (p+1):=by obtain⟨hp,e⟩:=List.getElem?_eq_some_iff.mp h;rw[List.drop_eq_getElem_cons hp,e]
theorem bH(h:b.drop p=c::r):b[p]?=some c/\r=b.drop (p+1):=by
 have hp:p<b.length:=by
  have:=congrArg List.length h;rw[List.length_drop,List.length_cons] at this;omega
 have e:=List.drop_eq_getElem_cons hp;rw[h] at e;injection e with e1 e2;exact⟨by rw[List.getElem?_eq_getElem hp,e1],e2⟩
theorem uU{q:UInt8->Bool}(h:b[p]?=some c)(hq:q c=true):aJ q b p=aJ q b (p+1):=by unfold aJ;rw[bp h,List.takeWhile_cons,if_pos hq,List.length_cons];omega
theorem Eh{q:UInt8->Bool}(h:b[p]?=some c)(hq:q c=false):aJ q b p=p:=by unfold aJ;rw[bp h,List.takeWhile_cons,if_neg (by rw[hq];decide)];rfl
theorem Ir{q:UInt8->Bool}(h:b[p]?=none):aJ q b p=p:=by unfold aJ;rw[List.drop_eq_nil_of_le (List.getElem?_eq_none_iff.mp h)];rfl
theorem f7(q:UInt8->Bool)(b:By)(p:Nat):b.drop (aJ q b p)=(b.drop p).dropWhile q:=by rw[dn,List.drop_drop];rfl
theorem F3:∀(n k p:Nat)(b:By)(x:Bytes×Nat×Bytes),b.length<=n->itemsIn k p b= .ok x->p<x.2.1/\x.2.1<=p+b.length/\x.2.2=b.drop (x.2.1 - p):=by
 intro n;induction n with
 |zero=>
  intro k p b x hb h;have:b=[]:=List.eq_nil_of_length_eq_zero ↑2;subst this;rw[itemsIn] at h;cases h
 |succ n ih=>
  intro k p b x hb h;cases b with
  |nil=>rw[itemsIn] at h;cases h
  |cons c r=>
   have hr:r.length<=n:=by simp at hb;exact hb
   unfold itemsIn at h;split at h
   ·cases h;refine⟨Nat.lt_succ_self _,by simp,?_⟩;show r=(c::r).drop (p+1 - p);rw[Nat.add_sub_cancel_left];rfl
   split at h
   ·cases h
   split at h
   ·cases h
   have two:∀(a d:UInt8)(s:By),r=d::s->((itemsIn (k+1) (p+2) s).map λ(x:Bytes×Nat×Bytes)=>(a::x.1,x.2))= .ok x->p<x.2.1/\x.2.1<=p+(c::r).length/\x.2.2=(c::r).drop (x.2.1 - p):=by
    intro a d s e h;cases q:itemsIn (k+1) (p+2) s with
    |error z=>rw[q] at h;cases h
    |ok y=>
     rw[q] at h;have h:(a::y.1,y.2)=x:=by injection h
     obtain⟨i1,i2,i3⟩:=ih (k+1) (p+2) s y (by rw[e] at hr;simp at hr;omega) q;subst h;dsimp only;refine⟨↑2,by rw[e];simp;omega,?_⟩;rw[i3,e];obtain⟨m,hm⟩:∃m,y.2.1=p+2+m:=⟨y.2.1 - (p+2),↑2⟩
     rw[hm,show p+2+m - (p+2)=m from ↑2,show p+2+m - p=m+2 from ↑2];rfl
   split at h
   ·split at h
    ·exact two _ _ _ rfl h
    ·exact two _ _ _ rfl h
    ·exact two _ _ _ rfl h
    ·cases h
   ·split at h
    ·cases q:itemsIn (k+1) (p+1) r with
     |error z=>rw[q] at h;cases h
     |ok y=>
      rw[q] at h;have h:(c::y.1,y.2)=x:=by injection h
      obtain⟨i1,i2,i3⟩:=ih (k+1) (p+1) r y hr q;subst h;dsimp only;refine⟨↑2,by simp;omega,?_⟩;rw[i3];obtain⟨m,hm⟩:∃m,y.2.1=p+1+m:=⟨y.2.1 - (p+1),↑2⟩
      rw[hm,show p+1+m - (p+1)=m from ↑2,show p+1+m - p=m+1 from ↑2];rfl
    ·cases h
theorem il(b:By):∃k,k<=b.length/\(pointIn b).2=b.drop k:=by
 unfold pointIn;split
 ·rename_i c r;split
  ·refine⟨1+((c::r).takeWhile isDigit).length,?_,?_⟩
   ·have:=dj isDigit (c::r);simp only[List.length_cons] at this ⊢;omega
   ·show(c::r).dropWhile isDigit=(46::c::r).drop (1+_);rw[dn,Nat.add_comm 1,List.drop_succ_cons]
  ·exact⟨0,Nat.zero_le _,rfl⟩
 ·exact⟨0,Nat.zero_le _,rfl⟩
theorem jJ(b:By):∃k,k<=b.length/\(expoIn b).2=b.drop k:=by
 unfold expoIn;split
 ·rename_i c r;split
  ·refine⟨2+((c::r).takeWhile isDigit).length,?_,?_⟩
   ·have:=dj isDigit (c::r);simp only[List.length_cons] at this ⊢;omega
   ·show(c::r).dropWhile isDigit=(101::45::c::r).drop (2+_);rw[dn,Nat.add_comm 2,List.drop_succ_cons,List.drop_succ_cons]
  ·exact⟨0,Nat.zero_le _,rfl⟩
 ·rename_i c r _;split
  ·refine⟨1+((c::r).takeWhile isDigit).length,?_,?_⟩
   ·have:=dj isDigit (c::r);simp only[List.length_cons] at this ⊢;omega
   ·show(c::r).dropWhile isDigit=(101::c::r).drop (1+_);rw[dn,Nat.add_comm 1,List.drop_succ_cons]
  ·exact⟨0,Nat.zero_le _,rfl⟩
 ·exact⟨0,Nat.zero_le _,rfl⟩
theorem vN(b:By):∃k,k<=b.length/\(digitsIn b).2=b.drop k:=by
 obtain⟨k1,h1,e1⟩:=il (b.dropWhile isDigit);obtain⟨k2,h2,e2⟩:=jJ (pointIn (b.dropWhile isDigit)).2;have l0:=dj isDigit b;have l3:=dj isMarkByte (expoIn (pointIn (b.dropWhile isDigit)).2).2;refine⟨(b.takeWhile isDigit).length+k1+k2+((expoIn (pointIn (b.dropWhile isDigit)).2).2.takeWhile isMarkByte).length,?_,?_⟩
 ·rw[e2,e1] at l3;rw[e1] at h2;rw[e2,e1];simp only[List.length_drop] at l3 h2 ⊢;omega
 ·show(expoIn (pointIn (b.dropWhile isDigit)).2).2.dropWhile isMarkByte=_;rw[dn,e2,e1,dn,List.drop_drop,List.drop_drop,List.drop_drop];congr 1;omega
theorem Mh{s:By}(h:∃k,k<=b.length/\s=b.drop k):s=b.drop (b.length - s.length):=by obtain⟨k,hk,rfl⟩:=h;rw[List.length_drop];congr 1;omega
theorem iT{t:Tok}{s:By}(h:tokenIn p b= .ok (t,s)):t.place=p/\p<t.halt_/\t.halt_<=p+b.length/\s=b.drop (t.halt_ - p):=by
 unfold tokenIn at h;cases b with
 |nil=>cases h
 |cons c r=>
  dsimp only at h;split at h
  ·rename_i hs;have hw:isWordByte c=true:=by unfold isWordByte;rw[hs];rfl
   have hl:0<((c::r).takeWhile isWordByte).length:=by rw[List.takeWhile_cons,if_pos hw];simp
   have hle:((c::r).takeWhile isWordByte).length<=(c::r).length:=by have:=dj isWordByte (c::r);omega
   split at h
   ·cases h;exact⟨rfl,Nat.lt_add_of_pos_right hl,Nat.add_le_add_left hle _,by dsimp only;rw[Nat.add_sub_cancel_left]⟩
   ·split at h
    ·cases h;exact⟨rfl,Nat.lt_add_of_pos_right hl,Nat.add_le_add_left hle _,by dsimp only;rw[Nat.add_sub_cancel_left]⟩
    ·cases h
  split at h
  ·rename_i hs;have hw:isCodeByte c=true:=by unfold isCodeByte;rw[hs];rfl
   have hl:0<((c::r).takeWhile isCodeByte).length:=by rw[List.takeWhile_cons,if_pos hw];simp
   have hle:((c::r).takeWhile isCodeByte).length<=(c::r).length:=by have:=dj isCodeByte (c::r);omega
   split at h
   ·cases h;exact⟨rfl,Nat.lt_add_of_pos_right hl,Nat.add_le_add_left hle _,by dsimp only;rw[Nat.add_sub_cancel_left]⟩
   ·cases h
  split at h
  ·split at h
   ·rename_i hn;cases h;have hl:0<((c::r).take ((c::r).length - (digitsIn (c::r)).2.length)).length:=by
     cases e:(c::r).take ((c::r).length - (digitsIn (c::r)).2.length) with
     |nil=>rw[e] at hn;cases hn
     |cons _ _=>simp
    refine⟨rfl,Nat.lt_add_of_pos_right hl,Nat.add_le_add_left (List.length_take_le' _ _) _,?_⟩;dsimp only;rw[Nat.add_sub_cancel_left,List.length_take,Nat.min_eq_left (Nat.sub_le _ _)];exact Mh (vN _)
   ·cases h
  split at h
  ·split at h
   ·cases h
   ·rename_i x hx;cases h;obtain⟨i1,i2,i3⟩:=F3 _ 0 (p+1) r x (Nat.le_refl _) hx;refine⟨rfl,by dsimp only;omega,by dsimp only;rw[List.length_cons];omega,?_⟩;dsimp only;rw[i3];obtain⟨m,hm⟩:∃m,x.2.1=p+1+m:=⟨x.2.1 - (p+1),↑2⟩
    rw[hm,show p+1+m - (p+1)=m from ↑2,show p+1+m - p=m+1 from ↑2];rfl
  ·split at h
   ·rename_i z hz;cases h;have hp:=List.find?_some hz;have hm:=List.mem_of_find?_eq_some hz;have hl:0<z.length:=by
     have:∀y∈SIGNS,0<y.length:=↑0
     exact this z hm
    have hle:z.length<=(c::r).length:=by
     have:=List.IsPrefix.length_le (List.isPrefixOf_iff_prefix.mp hp);exact this
    exact⟨rfl,Nat.lt_add_of_pos_right hl,Nat.add_le_add_left hle _,by dsimp only;rw[Nat.add_sub_cancel_left]⟩
   ·cases h
def Tn(p:Nat)(b:By):List Tok×Option Fault:=tokensIn (b.length+1) p b
theorem GR:∀(n:Nat)(b:By),b.length<=n->∀(f g p:Nat),b.length<f->b.length<g->tokensIn f p b=tokensIn g p b:=by
 intro n;induction n with
 |zero=>
  intro b hb f g p hf hg;have:b=[]:=List.eq_nil_of_length_eq_zero ↑2;subst this;cases f <;> cases g <;> simp_all [tokensIn]
 |succ n ih=>
  intro b hb f g p hf hg;cases b with
  |nil=>cases f <;> cases g <;> simp_all [tokensIn]
  |cons c r=>
   cases f with
   |zero=>simp at hf
   |succ f=>
    cases g with
    |zero=>simp at hg
    |succ g=>
     simp only[List.length_cons] at hb hf hg;have hr:r.length<=n:=↑2
     simp only[tokensIn];split
     ·exact ih r hr f g _ ↑2 ↑2
     ·split
      ·split
       ·rfl
       ·exact ih _ (by rw[List.length_drop];omega) f g _ (by rw[List.length_drop];omega) (by rw[List.length_drop];omega)
      ·cases e:tokenIn p (c::r) with
       |error z=>rfl
       |ok x=>
        obtain⟨t,s⟩:=x;obtain⟨h1,h2,h3,h4⟩:=iT e;have hs:s.length<=r.length:=by rw[h4,List.length_drop,List.length_cons];omega
        dsimp only;rw[ih s ↑2 f g _ ↑2 ↑2]
theorem C5{f:Nat}(h:b.length<f):tokensIn f p b=Tn p b:=GR b.length b (Nat.le_refl _) f _ p h (Nat.lt_succ_self _)
theorem E4(b:By):tokens b=Tn 0 b:=rfl
theorem gT(p:Nat):Tn p []=([],none):=rfl
theorem iK(h:isBlank c=true):Tn p (c::r)=Tn (p+1) r:=by unfold Tn;simp only[List.length_cons,tokensIn];rw[if_pos h]
theorem m7(h:isBlank c=false)(h35:c≠35):
  Tn p (c::r)=(match tokenIn p (c::r) with| .error e=>([],some e)| .ok (t,s)=>(t::(Tn t.halt_ s).1,(Tn t.halt_ s).2)):=by
 unfold Tn;simp only[List.length_cons,tokensIn];rw[if_neg (by rw[h];decide),if_neg h35];cases e:tokenIn p (c::r) with
 |error z=>rfl
 |ok x=>
  obtain⟨t,s⟩:=x;obtain⟨h1,h2,h3,h4⟩:=iT e;have hs:s.length<=r.length:=by rw[h4,List.length_drop,List.length_cons];omega
  dsimp only;rw[C5 (by omega:s.length<r.length+1)];rfl
theorem Jk(h:isSeen c=false):tokenIn p (c::r)= .error (1,p):=by
 have hn:¬(32<=c.toNat/\c.toNat<=126):=by
  intro z;unfold isSeen at h;rw[decide_eq_true (show(32:UInt8)<=c from sh.mpr z.1),decide_eq_true (show c<=(126:UInt8) from sh.mpr z.2)] at h;cases h
 have b1:∀(a m:UInt8),32<=a.toNat->m.toNat<=126->(decide (a<=c)&&decide (c<=m))=false:=by
  intro a m ha hm;by_cases z:a<=c
  ·by_cases y:c<=m
   ·have:=sh.mp z;have:=sh.mp y;exact absurd ⟨↑2,↑2⟩ hn
   ·rw[decide_eq_false y,Bool.and_false]
  ·rw[decide_eq_false z];rfl
 have ne:∀(d:UInt8),32<=d.toNat->d.toNat<=126->c≠d:=λd h1 h2 e=>hn (by rw[e];exact⟨h1,h2⟩);unfold tokenIn;dsimp only;rw[if_neg (by unfold isSmall;rw[b1 97 122 ↑0 ↑0];decide),if_neg (by unfold isBig;rw[b1 65 90 ↑0 ↑0];decide),
  if_neg (by unfold isDigit;rw[b1 48 57 ↑0 ↑0];decide),if_neg (ne 34 ↑0 ↑0)]
 have hf:(SIGNS.find? λ(s:Bytes)=>s.isPrefixOf (c::r))=none:=by
  rw[List.find?_eq_none];intro s hs hp;have hh:∀y∈SIGNS,∃d z,y=d::z/\32<=d.toNat/\d.toNat<=126:=by
   have q:SIGNS.all (λy=>match y with|[]=>false|d::z=>decide (32<=d.toNat)&&decide (d.toNat<=126))=true:=↑0
   intro y hy;have:=List.all_eq_true.mp q y hy;cases y with
   |nil=>cases this
   |cons d z=>simp only[Bool.and_eq_true,decide_eq_true_eq] at this;exact⟨d,z,rfl,this.1,this.2⟩
  obtain⟨d,z,rfl,h1,h2⟩:=hh s hs;have:=List.isPrefixOf_iff_prefix.mp hp;have e:d=c:=by
   obtain⟨t,ht⟩:=this;injection ht
  exact ne d h1 h2 e.symm
 rw[hf]
theorem kP:Tn p (35::r)=Tn (p+((35::r).takeWhile isSeen).length) ((35::r).drop ((35::r).takeWhile isSeen).length):=by
 have e35:isSeen 35=true:=↑0
 rw[List.takeWhile_cons,if_pos e35,List.length_cons,List.drop_succ_cons];have key:∀(r:By),(match(r.takeWhile λ(x:UInt8)=>x != 10).findIdx? λ(x:UInt8)=>!isSeen x with
   |some i=>i=(r.takeWhile isSeen).length/\∃c z,r.drop i=c::z/\isSeen c=false/\c≠10
   |none=>r.takeWhile isSeen=r.takeWhile λ(x:UInt8)=>x != 10):=by
  intro r;induction r with
  |nil=>simp
  |cons c r ih=>
   by_cases h10:c=10
   ·subst h10;simp[List.takeWhile_cons,show isSeen 10=false from ↑0]
   ·have hb:(c != 10)=true:=by simp[h10]
    rw[List.takeWhile_cons,if_pos hb,List.findIdx?_cons];cases hs:isSeen c with
    |false=>
     simp only[Bool.not_false,if_true];rw[List.takeWhile_cons,if_neg (by rw[hs];decide)];exact⟨rfl,c,r,rfl,hs,h10⟩
    |true=>
     simp only[Bool.not_true,Bool.false_eq_true,if_false];rw[List.takeWhile_cons,if_pos hs];cases hf:(r.takeWhile λ(x:UInt8)=>x != 10).findIdx? λ(x:UInt8)=>!isSeen x with
     |none=>
      rw[hf] at ih;simp only[Option.map_none];rw[show r.takeWhile isSeen=_ from ih]
     |some i=>
      rw[hf] at ih;simp only[Option.map_some];obtain⟨h1,h2⟩:=ih;exact⟨by rw[h1];rfl,h2⟩
 have hk:=key r;have hL:Tn p (35::r)=(match(r.takeWhile λ(x:UInt8)=>x != 10).findIdx? λ(x:UInt8)=>!isSeen x with
    |some i=>([],some (1,p+1+i))
    |none=>tokensIn (r.length+1) (p+1+(r.takeWhile λ(x:UInt8)=>x != 10).length) (r.drop (r.takeWhile λ(x:UInt8)=>x != 10).length)):=by
  show tokensIn ((35::r).length+1) p (35::r)=_;simp only[List.length_cons,tokensIn];rw[if_neg ↑0,if_pos True.intro];rfl
 rw[hL];cases hf:(r.takeWhile λ(x:UInt8)=>x != 10).findIdx? λ(x:UInt8)=>!isSeen x with
 |none=>
  rw[hf] at hk;have hk:r.takeWhile isSeen=r.takeWhile λ(x:UInt8)=>x != 10:=hk;dsimp only;rw[C5 (by rw[List.length_drop];omega),hk];congr 1;omega
 |some i=>
  rw[hf] at hk;obtain⟨h1,c,z,h2,h3,h4⟩:=hk;dsimp only;rw[<-h1,h2];have hb:isBlank c=false:=by
   unfold isBlank;have e1:c≠32:=λe=>by rw[e] at h3;exact absurd h3 ↑0
   have e2:c≠59:=λe=>by rw[e] at h3;exact absurd h3 ↑0
   simp[e1,e2,h4]
  have h35:c≠35:=λe=>by rw[e] at h3;exact absurd h3 ↑0
  rw[m7 hb h35,Jk h3];dsimp only;rw[show p+(i+1)=p+1+i from ↑2]
theorem jv(h:isDigit c=true):pointIn (46::c::r)=(some ((c::r).takeWhile isDigit),(c::r).dropWhile isDigit):=by simp[pointIn,h]
theorem jB{x:By}(h:∀c r,x=46::c::r->isDigit c=false):pointIn x=(none,x):=by
 unfold pointIn;split
 ·rename_i c r;rw[if_neg (by rw[h c r rfl];decide)]
 ·rfl
theorem sD(h:isDigit c=true):expoIn (101::45::c::r)=(some (true,(c::r).takeWhile isDigit),(c::r).dropWhile isDigit):=by simp[expoIn,h]
theorem qL(h:isDigit c=true):expoIn (101::c::r)=(some (false,(c::r).takeWhile isDigit),(c::r).dropWhile isDigit):=by
 have hc:c≠45:=λe=>by rw[e] at h;exact absurd h ↑0
 unfold expoIn;split
 ·rename_i heq;injection heq with _ h2;injection h2 with h3 _;exact absurd h3 hc
 ·rename_i heq;injection heq with _ h2;injection h2 with h3 h4;subst h3;subst h4;rw[if_pos h]
 ·rename_i h1 h2;exact absurd rfl (h2 c r)
theorem fZ{x:By}(h1:∀c r,x=101::45::c::r->isDigit c=false)(h2:∀c r,x=101::c::r->isDigit c=false):expoIn x=(none,x):=by
 unfold expoIn;split
 ·rename_i c r;rw[if_neg (by rw[h1 c r rfl];decide)]
 ·rename_i c r _;rw[if_neg (by rw[h2 c r rfl];decide)]
 ·rfl
theorem rJ{x:By}{m:Nat}{l s:By}(h:x.take m=l++s):∃s',x=l++s':=by have:=List.take_append_drop m x;rw[h,List.append_assoc] at this;exact⟨_,this.symm⟩
theorem AS(x:By)(m:Nat)(h:x.length - (pointIn x).2.length<=m):
  pointIn (x.take m)=((pointIn x).1,(pointIn x).2.take (m - (x.length - (pointIn x).2.length))):=by
 by_cases q:∃c r,x=46::c::r/\isDigit c=true
 ·obtain⟨c,r,rfl,hc⟩:=q;rw[jv hc] at h ⊢;dsimp only at h ⊢;have l:=dj isDigit (c::r);have l1:1<=((c::r).takeWhile isDigit).length:=by rw[List.takeWhile_cons,if_pos hc];simp
  simp only[List.length_cons] at h l ⊢;obtain⟨n,rfl⟩:∃n,m=n+2:=⟨m - 2,↑2⟩
  show pointIn (46::c::r.take n)=_;rw[jv hc];have e1:c::r.take n=(c::r).take (n+1):=rfl;rw[e1,eA _ _ _ ↑2,i6 _ _ _ ↑2];congr 2;omega
 ·have ex:pointIn x=(none,x):=jB λc r e=>by
   cases z:isDigit c with
   |false=>rfl
   |true=>exact absurd ⟨c,r,e,z⟩ q
  have et:pointIn (x.take m)=(none,x.take m):=jB λc r e=>by
   cases z:isDigit c with
   |false=>rfl
   |true=>
    obtain⟨s',es⟩:=rJ (l:=[46,c]) (s:=r) (by rw[e];rfl);exact absurd ⟨c,s',es,z⟩ q
  rw[et,ex];dsimp only;rw[Nat.sub_self,Nat.sub_zero]
theorem ET(x:By)(m:Nat)(h:x.length - (expoIn x).2.length<=m):
  expoIn (x.take m)=((expoIn x).1,(expoIn x).2.take (m - (x.length - (expoIn x).2.length))):=by
 by_cases q1:∃c r,x=101::45::c::r/\isDigit c=true
 ·obtain⟨c,r,rfl,hc⟩:=q1;rw[sD hc] at h ⊢;dsimp only at h ⊢;have l:=dj isDigit (c::r);have l1:1<=((c::r).takeWhile isDigit).length:=by rw[List.takeWhile_cons,if_pos hc];simp
  simp only[List.length_cons] at h l ⊢;obtain⟨n,rfl⟩:∃n,m=n+3:=⟨m - 3,↑2⟩
  show expoIn (101::45::c::r.take n)=_;rw[sD hc];have e1:c::r.take n=(c::r).take (n+1):=rfl;rw[e1,eA _ _ _ ↑2,i6 _ _ _ ↑2];congr 2;omega
 by_cases q2:∃c r,x=101::c::r/\isDigit c=true
 ·obtain⟨c,r,rfl,hc⟩:=q2;rw[qL hc] at h ⊢;dsimp only at h ⊢;have l:=dj isDigit (c::r);have l1:1<=((c::r).takeWhile isDigit).length:=by rw[List.takeWhile_cons,if_pos hc];simp
  simp only[List.length_cons] at h l ⊢;obtain⟨n,rfl⟩:∃n,m=n+2:=⟨m - 2,↑2⟩
  show expoIn (101::c::r.take n)=_;rw[qL hc];have e1:c::r.take n=(c::r).take (n+1):=rfl;rw[e1,eA _ _ _ ↑2,i6 _ _ _ ↑2];congr 2;omega
 ·have ex:expoIn x=(none,x):=fZ (λc r e=>by
   cases z:isDigit c with
   |false=>rfl
   |true=>exact absurd ⟨c,r,e,z⟩ q1) (λc r e=>by
   cases z:isDigit c with
   |false=>rfl
   |true=>exact absurd ⟨c,r,e,z⟩ q2)
  have et:expoIn (x.take m)=(none,x.take m):=fZ (λc r e=>by
   cases z:isDigit c with
   |false=>rfl
   |true=>
    obtain⟨s',es⟩:=rJ (l:=[101,45,c]) (s:=r) (by rw[e];rfl);exact absurd ⟨c,s',es,z⟩ q1) (λc r e=>by
   cases z:isDigit c with
   |false=>rfl
   |true=>
    obtain⟨s',es⟩:=rJ (l:=[101,c]) (s:=r) (by rw[e];rfl);exact absurd ⟨c,s',es,z⟩ q2)
  rw[et,ex];dsimp only;rw[Nat.sub_self,Nat.sub_zero]
theorem yU(b:By):digitsIn (b.take (b.length - (digitsIn b).2.length))=((digitsIn b).1,[]):=by
 obtain⟨k1,h1,e1⟩:=il (b.dropWhile isDigit);obtain⟨k2,h2,e2⟩:=jJ (pointIn (b.dropWhile isDigit)).2;have l0:=dj isDigit b;have l3:=dj isMarkByte (expoIn (pointIn (b.dropWhile isDigit)).2).2;have lr:(digitsIn b).2=(expoIn (pointIn (b.dropWhile isDigit)).2).2.dropWhile isMarkByte:=rfl;have lp:(pointIn (b.dropWhile isDigit)).2.length<=(b.dropWhile isDigit).length:=by rw[e1,List.length_drop];omega
 have le:(expoIn (pointIn (b.dropWhile isDigit)).2).2.length<=(pointIn (b.dropWhile isDigit)).2.length:=by rw[e2,List.length_drop];omega
 generalize hn:b.length - (digitsIn b).2.length=n;rw[lr] at hn;have a1:=eA isDigit b n ↑2;have a2:=i6 isDigit b n ↑2;have a3:=AS (b.dropWhile isDigit) (n - (b.takeWhile isDigit).length) ↑2;generalize hm:n - (b.takeWhile isDigit).length - ((b.dropWhile isDigit).length - (pointIn (b.dropWhile isDigit)).2.length)=m at a3;have a4:=ET (pointIn (b.dropWhile isDigit)).2 m ↑2;generalize hm':m - ((pointIn (b.dropWhile isDigit)).2.length - (expoIn (pointIn (b.dropWhile isDigit)).2).2.length)=m' at a4;have a5:=eA isMarkByte (expoIn (pointIn (b.dropWhile isDigit)).2).2 m' ↑2;have a6:=i6 isMarkByte (expoIn (pointIn (b.dropWhile isDigit)).2).2 m' ↑2;unfold digitsIn;dsimp only;rw[a1,a2,a3];dsimp only;rw[a4];dsimp only;rw[a5,a6,show m' - ((expoIn (pointIn (b.dropWhile isDigit)).2).2.takeWhile isMarkByte).length=0 from ↑2,List.take_zero]
theorem ub(hc:isDigit c=true):isNumber ((c::r).take ((c::r).length - (digitsIn (c::r)).2.length))=
  (decide ((c::r).length - (digitsIn (c::r)).2.length<=255)&&(digitsIn (c::r)).1.right):=by
 have hs:(digitsIn (c::r)).2.length<=r.length:=by
  have l0:=dj isDigit (c::r);rw[List.takeWhile_cons,if_pos hc,List.length_cons] at l0;obtain⟨k1,h1,e1⟩:=il ((c::r).dropWhile isDigit);obtain⟨k2,h2,e2⟩:=jJ (pointIn ((c::r).dropWhile isDigit)).2;have l3:=dj isMarkByte (expoIn (pointIn ((c::r).dropWhile isDigit)).2).2;show((expoIn (pointIn ((c::r).dropWhile isDigit)).2).2.dropWhile isMarkByte).length<=_;rw[e2,e1] at l3 ⊢;simp only[List.length_drop,List.length_cons] at l3 l0 ⊢;omega
 unfold isNumber;rw[yU];have hh:((c::r).take ((c::r).length - (digitsIn (c::r)).2.length)).head?.any isDigit=true:=by
  obtain⟨n,hn⟩:∃n,(c::r).length - (digitsIn (c::r)).2.length=n+1:=⟨r.length - (digitsIn (c::r)).2.length,by rw[List.length_cons];omega⟩
  rw[hn];simp[hc]
 rw[hh];simp only[List.isEmpty_nil,Bool.true_and,List.length_take,Nat.min_eq_left (Nat.sub_le _ _)];rfl
def aO(b:By)(q:Nat):Nat:=if cQ b q=46/\b_ (cQ b (q+1))=true then aJ isDigit b (q+1) else q
def gO(b:By)(q:Nat):Nat:=if cQ b (q+1)=45 then q+2 else q+1
def aQ(b:By)(q:Nat):Nat:=if cQ b q=101 then(if b_ (cQ b (gO b q))=true then aJ isDigit b (gO b q) else q) else q
def cut(b:By)(i j:Nat):By:=(b.drop i).take (j - i)
theorem cn{q:Nat}(h:b[q]?=some c):cQ b q=c.toNat:=by unfold cQ;rw[h]
theorem ip{q:Nat}(h:b[q]?=none):cQ b q= -1:=by unfold cQ;rw[h]
theorem gR{q n:Nat}{m:UInt8}(hm:m.toNat=n):cQ b q=(n:Int)↔b[q]?=some m:=by
 cases h:b[q]? with
 |none=>rw[ip h];exact⟨λz=>↑2,λz=>by cases z⟩
 |some c=>
  rw[cn h];constructor
  ·intro z;rw[show c=m from jh.mpr ↑2]
  ·intro z;cases z;omega
theorem dy{q:Nat}:b_ (cQ b q)=true↔∃c,b[q]?=some c/\isDigit c=true:=by
 cases h:b[q]? with
 |none=>rw[ip h];exact⟨λz=>by exact absurd z ↑0,λ⟨c,e,_⟩=>by cases e⟩
 |some c=>
  rw[cn h,fC];exact⟨λz=>⟨c,rfl,z⟩,λ⟨d,e,z⟩=>by cases e;exact z⟩
theorem qm(q:UInt8->Bool)(b:By)(p:Nat):cut b p (aJ q b p)=(b.drop p).takeWhile q:=by unfold cut aJ;rw[Nat.add_sub_cancel_left,<-gF]
theorem vH(b:By)(q:Nat):(pointIn (b.drop q)).2=b.drop (aO b q)/\((pointIn (b.drop q)).1=none↔aO b q=q)/\q<=aO b q/\(q<=b.length->aO b q<=b.length):=by
 unfold aO;by_cases h:cQ b q=46/\b_ (cQ b (q+1))=true
 ·rw[if_pos h];obtain⟨c,e2,hc⟩:=dy.mp h.2;have e1:=(gR (m:=46) (n:=46) rfl).mp h.1;have d1:=bp e1;have d2:=bp e2;rw[d1,d2,jv hc];dsimp only;have hlt:q+1<b.length:=(List.getElem?_eq_some_iff.mp e2).1;refine⟨by rw[f7,d2],⟨(λz=>by cases z),λz=>?_⟩,(by have:=bV isDigit b (q+1);omega),λ_=>dH _ ↑2⟩;have:=bV isDigit b (q+1);omega
 ·rw[if_neg h,jB λc r e=>by
   cases z:isDigit c with
   |false=>rfl
   |true=>
    obtain⟨g1,g2⟩:=bH e;obtain⟨g3,g4⟩:=bH g2.symm;exact absurd ⟨(gR (m:=46) (n:=46) rfl).mpr g1,dy.mpr ⟨c,g3,z⟩⟩ h]
  exact⟨rfl,⟨λ_=>rfl,λ_=>rfl⟩,Nat.le_refl _,λz=>z⟩
def cF:Option (Bool×By)->By
 |none=>[]
 |some (true,d)=>101::45::d
 |some (false,d)=>101::d
theorem BZ(b:By)(q:Nat):(expoIn (b.drop q)).2=b.drop (aQ b q)/\cut b q (aQ b q)=cF (expoIn (b.drop q)).1/\q<=aQ b q/\(q<=b.length->aQ b q<=b.length)/\
  (∀x,(expoIn (b.drop q)).1=some x->∃c d,x.2=c::d/\isDigit c=true):=by
 have none_case:aQ b q=q->expoIn (b.drop q)=(none,b.drop q)->(expoIn (b.drop q)).2=b.drop (aQ b q)/\cut b q (aQ b q)=cF (expoIn (b.drop q)).1/\q<=aQ b q/\(q<=b.length->aQ b q<=b.length)/\
   (∀x,(expoIn (b.drop q)).1=some x->∃c d,x.2=c::d/\isDigit c=true):=λh1 h2=>by
  rw[h1,h2];refine⟨rfl,?_,Nat.le_refl _,λz=>z,λx e=>by cases e⟩;unfold cut;rw[Nat.sub_self,List.take_zero];rfl
 by_cases h:cQ b q=101
 ·have e1:=(gR (m:=101) (n:=101) rfl).mp h;have d1:=bp e1;by_cases hm:cQ b (q+1)=45
  ·have e2:=(gR (m:=45) (n:=45) rfl).mp hm;have d2:=bp e2;have hd:gO b q=q+2:=by unfold gO;rw[if_pos hm]
   by_cases hc:b_ (cQ b (q+2))=true
   ·obtain⟨c,e3,hc'⟩:=dy.mp hc;have d3:=bp e3;have hE:aQ b q=aJ isDigit b (q+2):=by unfold aQ;rw[if_pos h,hd,if_pos hc]
    have hlt:q+2<b.length:=(List.getElem?_eq_some_iff.mp e3).1;have ge:=bV isDigit b (q+2);rw[hE,d1,d2,d3,sD hc'];dsimp only;refine⟨by rw[f7,d3],?_,↑2,λ_=>dH _ ↑2,λx e=>?_⟩
    ·unfold cut cF;rw[d1,d2,d3];have:aJ isDigit b (q+2) - q=((c::b.drop (q+2+1)).takeWhile isDigit).length+2:=by
      unfold aJ;rw[d3];omega
     rw[this,List.take_succ_cons,List.take_succ_cons,<-gF]
    ·cases e;exact⟨c,_,by dsimp only;rw[List.takeWhile_cons,if_pos hc'],hc'⟩
   ·refine none_case (by unfold aQ;rw[if_pos h,hd,if_neg hc]) ?_;rw[d1,d2];refine fZ (λc r e=>?_) (λc r e=>?_)
    ·injection e with _ e;injection e with _ e;cases z:isDigit c with
     |false=>rfl
     |true=>exact absurd (dy.mpr ⟨c,(bH e).1,z⟩) hc
    ·injection e with _ e;injection e with e _;rw[<-e];decide
  ·have hd:gO b q=q+1:=by unfold gO;rw[if_neg hm]
   by_cases hc:b_ (cQ b (q+1))=true
   ·obtain⟨c,e3,hc'⟩:=dy.mp hc;have d3:=bp e3;have hE:aQ b q=aJ isDigit b (q+1):=by unfold aQ;rw[if_pos h,hd,if_pos hc]
    have hlt:q+1<b.length:=(List.getElem?_eq_some_iff.mp e3).1;have ge:=bV isDigit b (q+1);rw[hE,d1,d3,qL hc'];dsimp only;refine⟨by rw[f7,d3],?_,↑2,λ_=>dH _ ↑2,λx e=>?_⟩
    ·unfold cut cF;rw[d1,d3];have:aJ isDigit b (q+1) - q=((c::b.drop (q+1+1)).takeWhile isDigit).length+1:=by
      unfold aJ;rw[d3];omega
     rw[this,List.take_succ_cons,<-gF]
    ·cases e;exact⟨c,_,by dsimp only;rw[List.takeWhile_cons,if_pos hc'],hc'⟩
   ·refine none_case (by unfold aQ;rw[if_pos h,hd,if_neg hc]) ?_;rw[d1];refine fZ (λc r e=>?_) (λc r e=>?_)
    ·injection e with _ e;obtain⟨g1,g2⟩:=bH e;exact absurd ((gR (m:=45) (n:=45) rfl).mpr g1) hm
    ·injection e with _ e;cases z:isDigit c with
     |false=>rfl
     |true=>exact absurd (dy.mpr ⟨c,(bH e).1,z⟩) hc
 ·refine none_case (by unfold aQ;rw[if_neg h]) ?_;refine fZ (λc r e=>?_) (λc r e=>?_)
  ·exact absurd ((gR (m:=101) (n:=101) rfl).mpr (bH e).1) h
  ·exact absurd ((gR (m:=101) (n:=101) rfl).mpr (bH e).1) h
def MK:List UInt8:=[109,120,100,115,104,105,112]
def oW(m:By):Bool:=decide (m=[])||(decide (m.length=1)&&(match m with|[]=>false|a::_=>MK.contains a))
def ir(d f e:By):Bool:=(decide (f=[])&&decide (e=[]))&&decide (d.length<=31)
def isNeg(e:By):Bool:=decide (cQ e 1=45)
def cG(e:By):By:=if isNeg e=true then e.drop 2 else e.drop 1
def E9(e:By):Bool:=if cQ (cG e) 0=48 then decide ((cG e).length=1)&&!isNeg e else decide ((cG e).length<=5)
def di(d f e m:By):Bool:=
 if 255<d.length+f.length+e.length+m.length then false
 else if oW m=false then false
 else if m=[112] then ir d f e
 else if 1<d.length/\cQ d 0=48 then false
 else if e=[] then true
 else !decide (m=[])&&E9 e
theorem F6(m:By):oW m=MARKS.contains m:=by
 have hM:MARKS=[[],[109],[120],[100],[115],[104],[105],[112]]:=↑0
 rw[hM];unfold oW MK
 match m with
 |[]=>rfl
 |[a]=>
  simp only[List.length_cons,List.length_nil,List.contains_cons,List.contains_nil,Bool.or_false];have:∀x y:UInt8,([x]==[y])=(x==y):=λx y=>by
   by_cases h:x=y <;> simp[h]
  simp[this]
 |a::c::r=>
  simp
theorem yC{d:By}:plain (c::d)=!(decide (1<(c::d).length)&&decide (cQ (c::d) 0=48)):=by
 have hb:cQ (c::d) 0=c.toNat:=rfl;have e0:decide (cQ (c::d) 0=48)=decide (c=48):=by rw[hb];exact BF (n:=48) (m:=48) rfl
 rw[e0];unfold plain;by_cases h:c=48
 ·subst h;cases d with
  |nil=>rfl
  |cons _ _=>simp
 ·simp[h]
theorem JG{neg:Bool}{d:By}(hc:isDigit c=true)(mk:By):E9 (cF (some (neg,c::d)))=(plain (c::d)&&(decide ((c::d).length<=5)&&(!(neg&&(c::d)==[48])))):=by
 have n1:isNeg (cF (some (neg,c::d)))=neg:=by
  cases neg with
  |true=>rfl
  |false=>
   show decide (cQ (101::c::d) 1=45)=false;have hb:cQ (101::c::d) 1=c.toNat:=rfl;rw[hb,show decide ((c.toNat:Int)=45)=decide (c=45) from BF (n:=45) (m:=45) rfl];exact decide_eq_false λe=>by rw[e] at hc;exact absurd hc ↑0
 have n2:cG (cF (some (neg,c::d)))=c::d:=by unfold cG;rw[n1];cases neg <;> rfl
 unfold E9;rw[n1,n2];have hb:cQ (c::d) 0=c.toNat:=rfl;rw[yC,hb];by_cases h:c=48
 ·subst h;rw[if_pos ↑0];cases d with
  |nil=>cases neg <;> rfl
  |cons x y=>simp
 ·have hn:¬((c.toNat:Int)=48):=λe=>h (jh.mpr (by have:(48:UInt8).toNat=48:=rfl;omega));rw[if_neg hn,decide_eq_false hn];simp[h]
theorem MM(hb:b.drop p=c::r)(hc:isDigit c=true):
  (digitsIn (b.drop p)).2=b.drop (aJ isMarkByte b (aQ b (aO b (aJ isDigit b p))))/\p<aJ isDigit b p/\aJ isDigit b p<=aO b (aJ isDigit b p)/\
  aO b (aJ isDigit b p)<=aQ b (aO b (aJ isDigit b p))/\aJ isMarkByte b (aQ b (aO b (aJ isDigit b p)))<=b.length/\
  (b.drop p).length - (digitsIn (b.drop p)).2.length=aJ isMarkByte b (aQ b (aO b (aJ isDigit b p))) - p/\
  isNumber ((b.drop p).take ((b.drop p).length - (digitsIn (b.drop p)).2.length))=di (cut b p (aJ isDigit b p)) (cut b (aJ isDigit b p) (aO b (aJ isDigit b p)))
   (cut b (aO b (aJ isDigit b p)) (aQ b (aO b (aJ isDigit b p)))) (cut b (aQ b (aO b (aJ isDigit b p))) (aJ isMarkByte b (aQ b (aO b (aJ isDigit b p))))):=by
 have hp:p<b.length:=by
  have:=congrArg List.length hb;rw[List.length_drop,List.length_cons] at this;omega
 have cf:=qm isDigit b p;have r1:=f7 isDigit b p;have g1:p<aJ isDigit b p:=by
  unfold aJ;rw[hb,List.takeWhile_cons,if_pos hc,List.length_cons];omega
 have l1:=dH isDigit (b:=b) (p:=p) ↑2;generalize hde:aJ isDigit b p=de at*;obtain⟨f1,f2,f3,f4⟩:=vH b de;have l2:=f4 l1;generalize hfe:aO b de=fe at*;obtain⟨x1,x2,x3,x4,x5⟩:=BZ b fe;have l3:=x4 l2;generalize hee:aQ b fe=ee at*;have cm:=qm isMarkByte b ee;have r4:=f7 isMarkByte b ee;have g4:=bV isMarkByte b ee;have l4:=dH isMarkByte (b:=b) (p:=ee) l3;generalize hme:aJ isMarkByte b ee=me at*;have hD:digitsIn (b.drop p)=(⟨cut b p de,(pointIn (b.drop de)).1,(expoIn (b.drop fe)).1,cut b ee me⟩,b.drop me):=by
  unfold digitsIn;dsimp only;rw[cf,<-r1,f1,x1,cm,<-r4]
 have hlen:(b.drop p).length - (digitsIn (b.drop p)).2.length=me - p:=by
  rw[hD];simp only[List.length_drop];omega
 refine⟨by rw[hD],g1,f3,x3,l4,hlen,?_⟩;have hN:=ub (c:=c) (r:=r) hc;rw[<-hb] at hN;rw[hN,hlen,hD];have L1:(cut b p de).length=de - p:=by unfold cut;rw[List.length_take,List.length_drop];omega
 have L2:(cut b de fe).length=fe - de:=by unfold cut;rw[List.length_take,List.length_drop];omega
 have L3:(cut b fe ee).length=ee - fe:=by unfold cut;rw[List.length_take,List.length_drop];omega
 have L4:(cut b ee me).length=me - ee:=by unfold cut;rw[List.length_take,List.length_drop];omega
 have hsum:(cut b p de).length+(cut b de fe).length+(cut b fe ee).length+(cut b ee me).length=me - p:=↑2
 have hpt:(pointIn (b.drop de)).1.isNone=decide (cut b de fe=[]):=by
  by_cases z:fe=de
  ·rw[f2.mpr z];rw[decide_eq_true (List.eq_nil_of_length_eq_zero ↑2)];rfl
  ·have:cut b de fe≠[]:=λe=>by rw[e] at L2;simp at L2;omega
   rw[decide_eq_false this];cases e:(pointIn (b.drop de)).1 with
   |none=>exact absurd (f2.mp e) z
   |some _=>rfl
 obtain⟨c1,d1,hcd⟩:∃c1 d1,cut b p de=c1::d1:=by
  cases e:cut b p de with
  |nil=>rw[e] at L1;simp at L1;omega
  |cons x y=>exact⟨x,y,rfl⟩
 unfold di;rw[hsum];by_cases h255:255<me - p
 ·rw[if_pos h255,decide_eq_false ↑2];rfl
 rw[if_neg h255,decide_eq_true ↑2,Bool.true_and];unfold Digits.right;dsimp only;rw[<-F6];cases hmk:oW (cut b ee me) with
 |false=>rfl
 |true=>
  rw[if_neg (show ¬(true=false) by decide),Bool.true_and];have hw:word "p"=[112]:=↑0
  rw[hw];by_cases hpk:cut b ee me=[112]
  ·rw[if_pos hpk,if_pos hpk,hpt];unfold ir;have hx:(expoIn (b.drop fe)).1.isNone=decide (cut b fe ee=[]):=by
    rw[x2];cases e:(expoIn (b.drop fe)).1 with
    |none=>rfl
    |some y=>obtain⟨n,z⟩:=y;cases n <;> rfl
   rw[hx,Bool.and_assoc]
  ·rw[if_neg hpk,if_neg hpk,hcd,yC];by_cases hz:1<(c1::d1).length/\cQ (c1::d1) 0=48
   ·rw[if_pos hz,decide_eq_true hz.1,decide_eq_true hz.2];rfl
   ·have:(decide (1<(c1::d1).length)&&decide (cQ (c1::d1) 0=48))=false:=by
     by_cases z1:1<(c1::d1).length
     ·rw[decide_eq_true z1,decide_eq_false (λz2=>hz ⟨z1,z2⟩)];rfl
     ·rw[decide_eq_false z1];rfl
    rw[if_neg hz,this,Bool.not_false,Bool.true_and,x2];cases e:(expoIn (b.drop fe)).1 with
    |none=>rfl
    |some y=>
     obtain⟨neg,ds⟩:=y;obtain⟨c2,d2,e2,hc2⟩:=x5 _ e;dsimp only at e2;subst e2;have hne:cF (some (neg,c2::d2))≠[]:=by cases neg <;> exact List.cons_ne_nil _ _
     rw[if_neg hne,JG hc2 []];dsimp only;have hem:(cut b ee me).isEmpty=decide (cut b ee me=[]):=by cases cut b ee me <;> rfl
     rw[hem];cases plain (c2::d2) <;> cases decide ((c2::d2).length<=5) <;> cases(neg&&(c2::d2)==[48]) <;> cases decide (cut b ee me=[]) <;> rfl
section
open PySem (Str)
def vm(w:By):Str:=⟨(w.map UInt8.toNat).toArray⟩
theorem Cr{v w:By}(h:vm v=vm w):v=w:=by
 have h1:(v.map UInt8.toNat)=(w.map UInt8.toNat):=by
  have:=congrArg (λz:Str=>z.cps.toList) h;simpa[vm] using this
 have:∀(v w:By),v.map UInt8.toNat=w.map UInt8.toNat->v=w:=by
  intro v;induction v with
  |nil=>intro w e;cases w with
   |nil=>rfl
   |cons _ _=>simp at e
  |cons a v ih=>intro w e;cases w with
   |nil=>simp at e
   |cons b w=>simp only[List.map_cons,List.cons.injEq] at e;rw[jh.mpr e.1,ih w e.2]
 exact this v w h1
def sv(w:By):Str:=if w.all isSmall=true then vm w else Str.empty
def bN(t:Tok):Str:=
 if t.kind=0 then vm t.bytes else if t.kind=1 then "NAME" else if t.kind=2 then "CODE" else if t.kind=3 then "NUMBER" else if t.kind=4 then "TEXT"
 else if t.bytes=[37] then "percent" else vm t.bytes
noncomputable def JN:List Str:=KEYWORDS.map vm
theorem jI:∀w∈KEYWORDS,w.all isSmall=true/\w≠[]:=by
 have:(KEYWORDS.all λw=>w.all isSmall&&!w.isEmpty)=true:=↑1
 intro w hw;have:=List.all_eq_true.mp this w hw;simp only[Bool.and_eq_true,Bool.not_eq_true'] at this;exact⟨this.1,λe=>by rw[e] at this;exact absurd this.2 ↑0⟩
theorem D7(w:By):decide (sv w∈JN)=isKeyword w:=by
 unfold isKeyword;by_cases h:w∈KEYWORDS
 ·have hs:=(jI w h).1;rw[List.contains_iff_mem.mpr h];refine decide_eq_true ?_;unfold sv;rw[if_pos hs];exact List.mem_map.mpr ⟨w,h,rfl⟩
 ·have:KEYWORDS.contains w=false:=by
   cases e:KEYWORDS.contains w with
   |false=>rfl
   |true=>exact absurd (List.contains_iff_mem.mp e) h
  rw[this];refine decide_eq_false λm=>?_;unfold sv at m;split at m
  ·obtain⟨v,hv,e⟩:=List.mem_map.mp m;exact h (by rw[<-Cr e];exact hv)
  ·obtain⟨v,hv,e⟩:=List.mem_map.mp m;have:v=[]:=Cr (v:=v) (w:=[]) e;exact(jI v hv).2 this
def Good(t:Tok):Prop:=(t.kind=0/\t.bytes∈KEYWORDS)\/(1<=t.kind/\t.kind<=4)\/(t.kind=5/\t.bytes∈SIGNS)
theorem HD{t:Tok}{s:By}(h:tokenIn p b= .ok (t,s)):Good t:=by
 unfold tokenIn at h;cases b with
 |nil=>cases h
 |cons c r=>
  dsimp only at h;split at h
  ·split at h
   ·rename_i hk;cases h;exact .inl ⟨rfl,List.contains_iff_mem.mp hk⟩
   ·split at h
    ·cases h;exact .inr (.inl ⟨Nat.le_refl _,(by show 1<=4;decide)⟩)
    ·cases h
  split at h
  ·split at h
   ·cases h;exact .inr (.inl ⟨(by show 1<=2;decide),(by show 2<=4;decide)⟩)
   ·cases h
  split at h
  ·split at h
   ·cases h;exact .inr (.inl ⟨(by show 1<=3;decide),(by show 3<=4;decide)⟩)
   ·cases h
  split at h
  ·split at h
   ·cases h
   ·cases h;exact .inr (.inl ⟨(by show 1<=4;decide),(by show 4<=4;decide)⟩)
  ·split at h
   ·rename_i hz;cases h;exact .inr (.inr ⟨rfl,List.mem_of_find?_eq_some hz⟩)
   ·cases h
def jm:List Str:=["(","[","{"]
def gQ:List Str:=[")","]","}"]
def oE:List Str:=["-","+","*","/","//","percent","^","==","!=","<","<=",">",">=","->",".","not","or","and","as","of","then","spawn","resume","giving","picture"]
def jX:List Str:=[",","=",":","let","fn","record","account","use","return","raise","say","yield","post","from","match","is","while","for","in","to","with","try","catch"]
def eP(x:Str):Nat:=if x∈jm then 1 else if x∈gQ then(if x="}" then 3 else 2) else if x∈oE then 4 else if x∈jX then 5 else 0
def qk(c:Nat)(l:List Nat):List Nat:=match c with
 |1=>0::l
 |2=>(match l.drop 1 with|[]=>[1]|k::r=>(k+1)::r)
 |3=>(match l.drop 1 with|[]=>[0]|_::r=>0::r)
 |4=>(match l with|[]=>[1]|k::r=>(k+1)::r)
 |5=>0::l.drop 1
 |_=>l
def K6(b:By):Nat:=if ADDWORDS.contains b=true then 4 else if RESETWORDS.contains b=true then 5 else 0
def KG(b:By):Nat:=if b=word "("\/b=word "["\/b=word "{" then 1 else if b=word ")"\/b=word "]" then 2 else if b=word "}" then 3 else if ADDING.contains b=true then 4 else if RESETS.contains b=true then 5 else 0
theorem zB{l:List Nat}{t:Tok}(h:t.kind=0):depthStep l t=qk (K6 t.bytes) l:=by
 unfold depthStep K6;dsimp only;rw[h,if_neg ↑0,if_pos rfl];by_cases h1:ADDWORDS.contains t.bytes=true
 ·rw[if_pos h1,if_pos h1];rfl
 ·rw[if_neg h1,if_neg h1];by_cases h2:RESETWORDS.contains t.bytes=true
  ·rw[if_pos h2,if_pos h2];rfl
  ·rw[if_neg h2,if_neg h2];rfl
theorem zi{l:List Nat}{t:Tok}(h:t.kind=5):depthStep l t=qk (KG t.bytes) l:=by
 unfold depthStep KG;dsimp only;rw[h,if_pos rfl];by_cases h1:t.bytes=word "("\/t.bytes=word "["\/t.bytes=word "{"
 ·rw[if_pos h1,if_pos h1];rfl
 rw[if_neg h1,if_neg h1];by_cases h2:t.bytes=word ")"\/t.bytes=word "]"
 ·rw[if_pos h2,if_pos h2];rfl
 rw[if_neg h2,if_neg h2];by_cases h3:t.bytes=word "}"
 ·rw[if_pos h3,if_pos h3];rfl
 rw[if_neg h3,if_neg h3];by_cases h4:ADDING.contains t.bytes=true
 ·rw[if_pos h4,if_pos h4];rfl
 rw[if_neg h4,if_neg h4];by_cases h5:RESETS.contains t.bytes=true
 ·rw[if_pos h5,if_pos h5];rfl
 rw[if_neg h5,if_neg h5];rfl
theorem FJ:∀w∈KEYWORDS,eP (vm w)=K6 w:=by
 have:(KEYWORDS.all λw=>decide (eP (vm w)=K6 w))=true:=↑1
 intro w hw;exact of_decide_eq_true (List.all_eq_true.mp this w hw)
theorem Gg:∀w∈SIGNS,eP (if w=[37] then "percent" else vm w)=KG w:=by
 have:(SIGNS.all λw=>decide (eP (if w=[37] then "percent" else vm w)=KG w))=true:=↑1
 intro w hw;exact of_decide_eq_true (List.all_eq_true.mp this w hw)
theorem eS{l:List Nat}{t:Tok}(g:Good t):depthStep l t=qk (eP (bN t)) l:=by
 rcases g with⟨h,hb⟩|⟨h1,h2⟩|⟨h,hb⟩
 ·rw[zB h,<-FJ _ hb];unfold bN;rw[if_pos h]
 ·have hd:depthStep l t=l:=by
   unfold depthStep;dsimp only;rw[if_neg ↑2,if_neg ↑2]
  rw[hd];have:eP (bN t)=0:=by
   unfold bN;rw[if_neg ↑2];have k:t.kind=1\/t.kind=2\/t.kind=3\/t.kind=4:=↑2
   rcases k with k|k|k|k
   ·rw[if_pos k];decide+kernel
   ·rw[if_neg ↑2,if_pos k];decide+kernel
   ·rw[if_neg ↑2,if_neg ↑2,if_pos k];decide+kernel
   ·rw[if_neg ↑2,if_neg ↑2,if_neg ↑2,if_pos k];decide+kernel
  rw[this];rfl
 ·have e:bN t=(if t.bytes=[37] then Str.ofString "percent" else vm t.bytes):=by
   unfold bN;rw[if_neg (by rw[h];decide),if_neg (by rw[h];decide),if_neg (by rw[h];decide),if_neg (by rw[h];decide),if_neg (by rw[h];decide)]
  rw[zi h,e,Gg _ hb]
theorem N2{c:Nat}{l:List Nat}(h:l≠[]):qk c l≠[]:=by
 unfold qk;split
 ·exact List.cons_ne_nil _ _
 ·split <;> exact List.cons_ne_nil _ _
 ·split <;> exact List.cons_ne_nil _ _
 ·split <;> exact List.cons_ne_nil _ _
 ·exact List.cons_ne_nil _ _
 ·exact h
def cS:List Tok->List Nat×Nat
 |ts=>ts.foldl (λx t=>(depthStep x.1 t,max x.2 (depthNow (depthStep x.1 t)))) ([0],0)
theorem ic:∀(ts:List Tok)(l:List Nat)(m:Nat),depthFrom l m ts=(ts.foldl (λx t=>(depthStep x.1 t,max x.2 (depthNow (depthStep x.1 t)))) (l,m)).2
 |[],l,m=>rfl
 |t::r,l,m=>by
  rw[depthFrom,List.foldl_cons];exact ic r _ _
theorem EY(b:By):depth b=(cS (tokens b).1).2:=ic _ _ _
theorem mv(ts:List Tok)(t:Tok):cS (ts++[t])=(depthStep (cS ts).1 t,max (cS ts).2 (depthNow (depthStep (cS ts).1 t))):=by unfold cS;rw[List.foldl_append];rfl
theorem Cu(ts:List Tok)(g:∀t∈ts,Good t):(cS ts).1≠[]:=by
 have:∀(ts:List Tok)(x:List Nat×Nat),x.1≠[]->(∀t∈ts,Good t)->(ts.foldl (λx t=>(depthStep x.1 t,max x.2 (depthNow (depthStep x.1 t)))) x).1≠[]:=by
  intro ts;induction ts with
  |nil=>intro x h _;exact h
  |cons t ts ih=>
   intro x h g;rw[List.foldl_cons];exact ih _ (by dsimp only;rw[eS (g t (by simp))];exact N2 h) λu hu=>g u (by simp[hu])
 exact this ts _ (List.cons_ne_nil _ _) g
theorem tP:∀(n:Nat)(p:Nat)(b:By),b.length<=n->∀t∈(Tn p b).1,Good t:=by
 intro n;induction n with
 |zero=>
  intro p b hb t ht;have:b=[]:=List.eq_nil_of_length_eq_zero ↑2;subst this;rw[gT] at ht;simp at ht
 |succ n ih=>
  intro p b hb t ht;cases b with
  |nil=>rw[gT] at ht;simp at ht
  |cons c r=>
   simp only[List.length_cons] at hb;cases h1:isBlank c with
   |true=>rw[iK h1] at ht;exact ih _ r ↑2 t ht
   |false=>
    by_cases h2:c=35
    ·subst h2;rw[kP,List.takeWhile_cons,if_pos ↑0,List.length_cons,List.drop_succ_cons] at ht;exact ih _ _ (by rw[List.length_drop];omega) t ht
    ·rw[m7 h1 h2] at ht;cases e:tokenIn p (c::r) with
     |error z=>rw[e] at ht;simp at ht
     |ok x=>
      obtain⟨u,s⟩:=x;rw[e] at ht;obtain⟨q1,q2,q3,q4⟩:=iT e;rcases List.mem_cons.mp ht with z|z
      ·rw[z];exact HD e
      ·exact ih _ s (by rw[q4,List.length_drop,List.length_cons];omega) t z
theorem NU{n:Int}(h:0<=n/\n<=255):((UInt8.ofNat n.toNat).toNat:Int)=n:=by rw[UInt8.toNat_ofNat',Nat.mod_eq_of_lt ↑2];omega
theorem u0:∀(ns:List Int),(∀n∈ns,0<=n/\n<=255)->ns=(WrxthhNeutral.text ns).map λc=>(c.toNat:Int)
 |[],_=>rfl
 |n::ns,h=>by
  show n::ns=((UInt8.ofNat n.toNat).toNat:Int)::(WrxthhNeutral.text ns).map _;rw[NU (h n (by simp)),<-u0 ns λm hm=>h m (by simp[hm])]
theorem K3(hb:b.drop p=c::r)(hc:isSmall c=true):
  tokenIn p (b.drop p)=(if isKeyword (cut b p (aJ isWordByte b p))=true then .ok (⟨0,p,aJ isWordByte b p,cut b p (aJ isWordByte b p)⟩,b.drop (aJ isWordByte b p))
   else if aJ isWordByte b p - p<=31 then .ok (⟨1,p,aJ isWordByte b p,cut b p (aJ isWordByte b p)⟩,b.drop (aJ isWordByte b p)) else .error (1,p)):=by
 have hw:=qm isWordByte b p;have hl:((b.drop p).takeWhile isWordByte).length=aJ isWordByte b p - p:=by unfold aJ;omega
 have hd:(b.drop p).drop (aJ isWordByte b p - p)=b.drop (aJ isWordByte b p):=by rw[List.drop_drop];congr 1;have:=bV isWordByte b p;omega
 have he:p+(aJ isWordByte b p - p)=aJ isWordByte b p:=by have:=bV isWordByte b p;omega
 rw[hw];rw[hb] at hl hd ⊢;unfold tokenIn;dsimp only;rw[if_pos hc,hl,hd,he];rfl
theorem JP(hb:b.drop p=c::r)(hs:isSmall c=false)(hc:isBig c=true):
  tokenIn p (b.drop p)=(if 2<=aJ isCodeByte b p - p/\aJ isCodeByte b p - p<=8 then .ok (⟨2,p,aJ isCodeByte b p,cut b p (aJ isCodeByte b p)⟩,b.drop (aJ isCodeByte b p)) else .error (1,p)):=by
 have hw:=qm isCodeByte b p;have hl:((b.drop p).takeWhile isCodeByte).length=aJ isCodeByte b p - p:=by unfold aJ;omega
 have hd:(b.drop p).drop (aJ isCodeByte b p - p)=b.drop (aJ isCodeByte b p):=by rw[List.drop_drop];congr 1;have:=bV isCodeByte b p;omega
 have he:p+(aJ isCodeByte b p - p)=aJ isCodeByte b p:=by have:=bV isCodeByte b p;omega
 have hk:isCode ((b.drop p).takeWhile isCodeByte)=decide (2<=aJ isCodeByte b p - p/\aJ isCodeByte b p - p<=8):=by
  unfold isCode;rw[He,hl,hb,List.takeWhile_cons,if_pos (by unfold isCodeByte;rw[hc];rfl)];simp only[List.head?_cons,Option.any_some,hc,Bool.true_and];by_cases h1:2<=aJ isCodeByte b p - p
  ·by_cases h2:aJ isCodeByte b p - p<=8 <;> simp[h1,h2]
  ·simp[h1]
 rw[hw];rw[hb] at hl hd hk ⊢;unfold tokenIn;dsimp only;rw[if_neg (by rw[hs];decide),if_pos hc,hk,hl,hd,he];simp only[decide_eq_true_eq]
theorem E'(hb:b.drop p=c::r)(hs:isSmall c=false)(hg:isBig c=false)(hc:isDigit c=true):
  ∃w,tokenIn p (b.drop p)=(if di (cut b p (aJ isDigit b p)) (cut b (aJ isDigit b p) (aO b (aJ isDigit b p)))
   (cut b (aO b (aJ isDigit b p)) (aQ b (aO b (aJ isDigit b p)))) (cut b (aQ b (aO b (aJ isDigit b p))) (aJ isMarkByte b (aQ b (aO b (aJ isDigit b p)))))=true
   then .ok (⟨3,p,aJ isMarkByte b (aQ b (aO b (aJ isDigit b p))),w⟩,b.drop (aJ isMarkByte b (aQ b (aO b (aJ isDigit b p))))) else .error (1,p)):=by
 obtain⟨n1,n2,n3,n4,n5,n6,n7⟩:=MM hb hc;refine⟨(b.drop p).take ((b.drop p).length - (digitsIn (b.drop p)).2.length),?_⟩;rw[<-n7];have hl:((b.drop p).take ((b.drop p).length - (digitsIn (b.drop p)).2.length)).length=aJ isMarkByte b (aQ b (aO b (aJ isDigit b p))) - p:=by
  rw[List.length_take,Nat.min_eq_left (Nat.sub_le _ _),n6]
 have he:p+(aJ isMarkByte b (aQ b (aO b (aJ isDigit b p))) - p)=aJ isMarkByte b (aQ b (aO b (aJ isDigit b p))):=by
  have:=bV isMarkByte b (aQ b (aO b (aJ isDigit b p)));omega
 rw[<-n1];have hgoal:tokenIn p (b.drop p)=(if isNumber ((b.drop p).take ((b.drop p).length - (digitsIn (b.drop p)).2.length))=true then
   .ok (⟨3,p,p+((b.drop p).take ((b.drop p).length - (digitsIn (b.drop p)).2.length)).length,(b.drop p).take ((b.drop p).length - (digitsIn (b.drop p)).2.length)⟩,(digitsIn (b.drop p)).2) else .error (1,p)):=by
  rw[hb];unfold tokenIn;dsimp only;rw[if_neg (by rw[hs];decide),if_neg (by rw[hg];decide),if_pos hc]
 rw[hgoal,hl,he]
theorem Kg(hb:b.drop p=34::r):
  tokenIn p (b.drop p)=(match itemsIn 0 (p+1) (b.drop (p+1)) with| .error e=>.error e| .ok x=>.ok (⟨4,p,x.2.1,x.1⟩,x.2.2)):=by
 rw[<-(bH hb).2,hb];unfold tokenIn;dsimp only;rw[if_neg ↑0,if_neg ↑0,if_neg ↑0,if_pos rfl];rfl
theorem BO(k p:Nat)(c:UInt8)(r:By):itemsIn k p (c::r)=(if c=34 then .ok ([],p+1,r) else if ITEMS<=k then .error (1,p) else if c=92/\r=[] then .error (3,p+1) else
  if c=92 then(match r with
   |34::s=>(itemsIn (k+1) (p+2) s).map λ(x:Bytes×Nat×Bytes)=>(34::x.1,x.2)
   |92::s=>(itemsIn (k+1) (p+2) s).map λ(x:Bytes×Nat×Bytes)=>(92::x.1,x.2)
   |110::s=>(itemsIn (k+1) (p+2) s).map λ(x:Bytes×Nat×Bytes)=>(10::x.1,x.2)
   |_=>.error (1,p))
  else if isSeen c=true then(itemsIn (k+1) (p+1) r).map λ(x:Bytes×Nat×Bytes)=>(c::x.1,x.2) else .error (1,p)):=by
 conv=>lhs;unfold itemsIn
 rfl
def two?(b:By)(p:Nat):Nat:=if cQ b p=92 then 2 else 1
def bq(b:By)(p:Nat):Except Fault Nat:=
 if b.length<p+two? b p then .error (3,b.length)
 else if two? b p=1/\g8 (cQ b p)=false then .error (1,p)
 else if two? b p=2/\¬(cQ b (p+1)=34\/cQ b (p+1)=92\/cQ b (p+1)=110) then .error (1,p)
 else .ok (p+two? b p)
def E2(x:Except Fault (Bytes×Nat×Bytes)):Except Fault (Nat×Bytes):=match x with| .error e=>.error e| .ok y=>.ok y.2
theorem vT(x:Except Fault (Bytes×Nat×Bytes))(a:UInt8):E2 (x.map λ(y:Bytes×Nat×Bytes)=>(a::y.1,y.2))=E2 x:=by cases x <;> rfl
theorem IX{k:Nat}(h:cQ b p=34):itemsIn k p (b.drop p)= .ok ([],p+1,b.drop (p+1)):=by have e:=(gR (m:=34) (n:=34) rfl).mp h;rw[bp e,BO,if_pos rfl]
theorem KI{k:Nat}(h:cQ b p≠34)(hk:1024<=k)(hp:p<b.length):itemsIn k p (b.drop p)= .error (1,p):=by rw[List.drop_eq_getElem_cons hp];have hne:b[p]≠34:=λe=>h ((gR (m:=34) (n:=34) rfl).mpr (by rw[List.getElem?_eq_getElem hp,e]));rw[BO,if_neg hne,if_pos (show ITEMS<=k from hk)]
theorem Js{k:Nat}(h:cQ b p≠34)(hk:k<1024\/b.length<=p)(hp:p<=b.length):
  E2 (itemsIn k p (b.drop p))=(match bq b p with| .error e=>.error e| .ok q=>E2 (itemsIn (k+1) q (b.drop q))):=by
 by_cases hl:p<b.length
 ·have hk':¬ITEMS<=k:=λz=>by
   rcases hk with q|q
   ·exact absurd z (Nat.not_le.mpr q)
   ·omega
  have hc:b[p]?=some b[p]:=List.getElem?_eq_getElem hl;have hd:=bp hc;have hB:=cn hc;generalize b[p]=c at hc hd hB;have hne:c≠34:=λe=>h (by rw[hB,e];rfl);rw[hd,BO,if_neg hne,if_neg hk'];by_cases h92:c=92
  ·subst h92;have t2:two? b p=2:=by unfold two?;rw[if_pos (by rw[hB];rfl)]
   unfold bq;rw[t2];by_cases hn:b.length<p+2
   ·have hr:b.drop (p+1)=[]:=List.drop_eq_nil_of_le ↑2;rw[if_pos ⟨rfl,hr⟩,if_pos hn];show(Except.error (3,p+1):Except Fault (Nat×Bytes))= .error (3,b.length);rw[show p+1=b.length from ↑2]
   ·have hl1:p+1<b.length:=↑2
    have hc1:b[p+1]?=some b[p+1]:=List.getElem?_eq_getElem hl1;have hd1:=bp hc1;have hB1:=cn hc1;generalize b[p+1]=d at hc1 hd1 hB1;rw[if_neg (show ¬((92:UInt8)=92/\b.drop (p+1)=[]) from λz=>by rw[hd1] at z;cases z.2),if_neg hn,if_neg (show ¬(2=1/\g8 (cQ b p)=false) from λz=>absurd z.1 ↑0),if_pos (show(92:UInt8)=92 from rfl),hd1,hB1];have hd2:∀m:UInt8,∀n:Nat,m.toNat=n->((d.toNat:Int)=(n:Int)↔d=m):=λm n hm=>⟨λz=>jh.mpr ↑2,λz=>by rw[z];omega⟩
    have q34:=hd2 34 34 rfl;have q92:=hd2 92 92 rfl;have q110:=hd2 110 110 rfl;by_cases e1:d=34
    ·subst e1;rw[if_neg (λz=>z.2 (.inl rfl))];exact vT _ _
    by_cases e2:d=92
    ·subst e2;rw[if_neg (λz=>z.2 (.inr (.inl rfl)))];exact vT _ _
    by_cases e3:d=110
    ·subst e3;rw[if_neg (λz=>z.2 (.inr (.inr rfl)))];exact vT _ _
    rw[if_pos ⟨rfl,λz=>by
     rcases z with z|z|z
     ·exact e1 (q34.mp z)
     ·exact e2 (q92.mp z)
     ·exact e3 (q110.mp z)⟩]
    split
    ·rename_i heq;injection heq with z _;exact absurd z e1
    ·rename_i heq;injection heq with z _;exact absurd z e2
    ·rename_i heq;injection heq with z _;exact absurd z e3
    ·rfl
  ·have hbn:¬cQ b p=92:=λz=>h92 (jh.mpr (by rw[hB] at z;have:(92:UInt8).toNat=92:=rfl;omega));have t1:two? b p=1:=by unfold two?;rw[if_neg hbn]
   unfold bq;rw[t1,if_neg (show ¬(c=92/\b.drop (p+1)=[]) from λz=>h92 z.1),if_neg h92,if_neg (show ¬b.length<p+1 by omega),hB,Dc];cases hs:isSeen c with
   |true=>
    rw[if_pos rfl,if_neg (show ¬(1=1/\true=false) from λz=>by cases z.2),if_neg (show ¬(1=2/\¬(cQ b (p+1)=34\/cQ b (p+1)=92\/cQ b (p+1)=110)) from λz=>absurd z.1 ↑0)];exact vT _ _
   |false=>
    rw[if_neg (show ¬(false=true) by decide),if_pos (show 1=1/\false=false from⟨rfl,rfl⟩)];rfl
 ·have hp':p=b.length:=↑2
  subst hp';have hB:cQ b b.length= -1:=ip (List.getElem?_eq_none_iff.mpr (Nat.le_refl _));have t1:two? b b.length=1:=by unfold two?;rw[hB,if_neg ↑0]
  unfold bq;rw[t1,List.drop_length,if_pos (Nat.lt_succ_self _)];rfl
theorem A_{q:Nat}(h:bq b p= .ok q):p<q/\q<=b.length:=by
 unfold bq at h;split at h
 ·cases h
 split at h
 ·cases h
 split at h
 ·cases h
 ·cases h;rename_i h1 _ _;have:1<=two? b p:=by unfold two?;split <;> decide
  omega
def Jt:List (Int×Str):=[(11822,".."),(11582,"->"),(15677,"=="),(8509,"!="),(15421,"<="),(15933,">="),(12079,"//")]
def Jy:List (Int×Str):=[(40,"("),(41,")"),(91,"["),(93,"]"),(123,"{"),(125,"}"),(44,","),(58,":"),(46,"."),(61,"="),(60,"<"),(62,">"),(43,"+"),(45,"-"),(42,"*"),(47,"/"),(37,"percent"),(94,"^")]
def lk(l:List (Int×Str))(k:Int):Option Str:=(l.find? λkv=>decide (kv.1=k)).map (·.2)
def pairOf(b:By)(p:Nat):Int:=cQ b p*256+max (cQ b (p+1)) 0
theorem kN{l:List (Int×Str)}{k:Int}{x:Str}(h:lk l k=some x):(k,x)∈l:=by unfold lk at h;obtain⟨y,h1,h2⟩:=Option.map_eq_some_iff.mp h;have h3:=List.find?_some h1;have h4:=List.mem_of_find?_eq_some h1;have h5:=of_decide_eq_true h3;obtain⟨y1,y2⟩:=y;dsimp only at h2 h5;rw[<-h2,<-h5];exact h4
theorem C2{l:List (Int×Str)}{k:Int}(h:lk l k=none):∀x,(k,x)∉l:=by intro x m;unfold lk at h;rw[Option.map_eq_none_iff,List.find?_eq_none] at h;exact h _ m (decide_eq_true rfl)
theorem zR{s:By}:s.isPrefixOf b=true↔s<+:b:=List.isPrefixOf_iff_prefix
theorem Bl:∀s∈SIGNS,(∃x y,s=[x,y]/\∃z,((x.toNat:Int)*256+y.toNat,z)∈Jt)\/(∃x,s=[x]/\∃z,((x.toNat:Int),z)∈Jy):=by
 have:(SIGNS.all λs=>match s with
  |[x,y]=>(lk Jt ((x.toNat:Int)*256+y.toNat)).isSome
  |[x]=>(lk Jy (x.toNat:Int)).isSome
  |_=>false)=true:=↑1
 intro s hs;have:=List.all_eq_true.mp this s hs
 match s,this with
 |[x,y],h=>
  obtain⟨z,hz⟩:=Option.isSome_iff_exists.mp h;exact .inl ⟨x,y,rfl,z,kN hz⟩
 |[x],h=>
  obtain⟨z,hz⟩:=Option.isSome_iff_exists.mp h;exact .inr ⟨x,rfl,z,kN hz⟩
theorem Jd:∀kv∈Jt,∃x y:UInt8,kv.1=(x.toNat:Int)*256+y.toNat/\kv.2=vm [x,y]/\[x,y]≠[37]/\∀r:By,(SIGNS.find? λ(s:Bytes)=>s.isPrefixOf (x::y::r))=some [x,y]:=by
 intro kv h;simp only[Jt,List.mem_cons,List.not_mem_nil,or_false] at h;rcases h with rfl|rfl|rfl|rfl|rfl|rfl|rfl
 ·exact⟨46,46,↑0,↑1,↑0,λr=>rfl⟩
 ·exact⟨45,62,↑0,↑1,↑0,λr=>rfl⟩
 ·exact⟨61,61,↑0,↑1,↑0,λr=>rfl⟩
 ·exact⟨33,61,↑0,↑1,↑0,λr=>rfl⟩
 ·exact⟨60,61,↑0,↑1,↑0,λr=>rfl⟩
 ·exact⟨62,61,↑0,↑1,↑0,λr=>rfl⟩
 ·exact⟨47,47,↑0,↑1,↑0,λr=>rfl⟩
theorem Gp:∀kv∈Jy,∃x:UInt8,kv.1=(x.toNat:Int)/\kv.2=(if([x]:By)=[37] then Str.ofString "percent" else vm [x])/\[x]∈SIGNS:=by
 have:(Jy.all λkv=>decide (kv.1=((UInt8.ofNat kv.1.toNat).toNat:Int))&&(decide (kv.2=(if([UInt8.ofNat kv.1.toNat]:By)=[37] then Str.ofString "percent" else vm [UInt8.ofNat kv.1.toNat]))&&SIGNS.contains [UInt8.ofNat kv.1.toNat]))=true:=↑1
 intro kv h;have:=List.all_eq_true.mp this kv h;simp only[Bool.and_eq_true,decide_eq_true_eq] at this;exact⟨_,this.1,this.2.1,List.contains_iff_mem.mp this.2.2⟩
theorem Kq(hb:b.drop p=c::r)(hs:isSmall c=false)(hg:isBig c=false)(hd:isDigit c=false)(hq:c≠34):
  (∀x,lk Jt (pairOf b p)=some x->∃t,tokenIn p (b.drop p)= .ok (t,b.drop (p+2))/\t.kind=5/\t.place=p/\t.halt_=p+2/\bN t=x)/\
  (lk Jt (pairOf b p)=none->(∀x,lk Jy (cQ b p)=some x->∃t,tokenIn p (b.drop p)= .ok (t,b.drop (p+1))/\t.kind=5/\t.place=p/\t.halt_=p+1/\bN t=x)/\
   (lk Jy (cQ b p)=none->tokenIn p (b.drop p)= .error (1,p))):=by
 obtain⟨hc,hr⟩:=bH hb;have hB:=cn hc;have htok:tokenIn p (b.drop p)=(match SIGNS.find? λ(s:Bytes)=>s.isPrefixOf (c::r) with|some s=>.ok (⟨5,p,p+s.length,s⟩,(b.drop p).drop s.length)|none=>.error (1,p)):=by
  rw[hb];unfold tokenIn;dsimp only;rw[if_neg (by rw[hs];decide),if_neg (by rw[hg];decide),if_neg (by rw[hd];decide),if_neg hq];rfl
 have lt256:∀u:UInt8,u.toNat<256:=λu=>UInt8.toNat_lt u;have tail:r=[]/\pairOf b p=(c.toNat:Int)*256\/∃d r',r=d::r'/\pairOf b p=(c.toNat:Int)*256+d.toNat:=by
  cases r with
  |nil=>
   left;refine⟨rfl,?_⟩;unfold pairOf;rw[hB,ip (List.getElem?_eq_none_iff.mpr (by have:=congrArg List.length hr;rw[List.length_drop,List.length_nil] at this;omega)),show max (-1:Int) 0=0 from rfl,Int.add_zero]
  |cons d r'=>
   right;refine⟨d,r',rfl,?_⟩;unfold pairOf;rw[hB,cn (bH hr.symm).1];omega
 have look5:∀(s:By)(t:Tok),t.kind=5->t.bytes=s->bN t=(if s=[37] then Str.ofString "percent" else vm s):=by
  intro s t h e;unfold bN;rw[if_neg (by rw[h];decide),if_neg (by rw[h];decide),if_neg (by rw[h];decide),if_neg (by rw[h];decide),if_neg (by rw[h];decide),e]
 refine⟨λx hx=>?_,λhn=>?_⟩
 ·obtain⟨x1,y1,e1,e2,e3,e4⟩:=Jd _ (kN hx);dsimp only at e1 e2;rcases tail with⟨_,hp⟩|⟨d,r',rfl,hp⟩
  ·have hy:y1.toNat=0:=by rw[hp] at e1;have:=lt256 y1;omega
   have:∀kv∈Jt,kv.1 % 256≠0:=↑0
   exact absurd (by show pairOf b p % 256=0;rw[hp];omega) (this _ (kN hx))
  ·have hx1:x1=c:=jh.mpr (by rw[hp] at e1;have:=lt256 y1;have:=lt256 d;omega);have hy1:y1=d:=jh.mpr (by rw[hp] at e1;have:=lt256 y1;have:=lt256 d;omega);subst hx1;subst hy1;rw[htok,e4 r'];dsimp only;refine⟨_,by rw[List.drop_drop];rfl,rfl,rfl,rfl,?_⟩;rw[look5 _ _ rfl rfl,if_neg e3,e2]
 ·have no2:∀s∈SIGNS,s.isPrefixOf (c::r)=true->∃x,s=[x]/\x=c/\∃z,((x.toNat:Int),z)∈Jy:=by
   intro s hsn hp;obtain⟨u,hu⟩:=zR.mp hp;rcases Bl s hsn with⟨x,y,rfl,z,hz⟩|⟨x,rfl,z,hz⟩
   ·exfalso;rcases tail with⟨rfl,hp'⟩|⟨d,r',rfl,hp'⟩
    ·cases hu
    ·injection hu with h1 h2;injection h2 with h2 _;subst h1;subst h2;rw[<-hp'] at hz;exact C2 hn z hz
   ·injection hu with h1 _;exact⟨x,rfl,h1,z,hz⟩
  refine⟨λx hx=>?_,λhn1=>?_⟩
  ·obtain⟨x1,e1,e2,e3⟩:=Gp _ (kN hx);dsimp only at e1 e2;have hxc:x1=c:=jh.mpr (by rw[hB] at e1;omega);subst hxc;have hfind:(SIGNS.find? λ(s:Bytes)=>s.isPrefixOf (x1::r))=some [x1]:=by
    cases hf:SIGNS.find? λ(s:Bytes)=>s.isPrefixOf (x1::r) with
    |none=>
     rw[List.find?_eq_none] at hf;exact absurd (zR.mpr ⟨r,rfl⟩) (hf _ e3)
    |some s=>
     obtain⟨y,hy,hyc,_⟩:=no2 s (List.mem_of_find?_eq_some hf) (by have z:=List.find?_some hf;exact z);rw[hy,hyc]
   rw[htok,hfind];dsimp only;refine⟨_,by rw[List.drop_drop];rfl,rfl,rfl,rfl,?_⟩;rw[look5 _ _ rfl rfl,e2]
  ·have hfind:(SIGNS.find? λ(s:Bytes)=>s.isPrefixOf (c::r))=none:=by
    rw[List.find?_eq_none];intro s hsn hp;obtain⟨y,_,hyc,z,hz⟩:=no2 s hsn hp;rw[hyc,<-hB] at hz;exact C2 hn1 z hz
   rw[htok,hfind]
end
end TW
namespace RT
open EwTree
section
variable{n:Nat}
theorem eE{l:List String}{s:St}{k:Nat}(h:oneOf l s=some k):k<l.length:=by unfold oneOf at h;rw[List.findIdx?_eq_some_iff_getElem] at h;exact h.1
theorem H_:∀a<128,∀k<7,withFlag a k<128/\a<=withFlag a k/\0<withFlag a k:=↑1
def optN(s:St):Option Bytes×St:=match s.toks with
 |[]=>(none,s)
 |t::r=>if t.kind=3 then(some t.bytes,(⟨t.halt_,r⟩:St)) else(none,s)
def pU(s:St):Nat×St:=match oneOf ROUNDS s with
 |some i=>(i+1,s.skip)
 |none=>(0,s)
theorem all_cons{α:Type}{P:α->Prop}{a:α}{l:List α}(h:P a)(k:∀x∈l,P x):∀x∈a::l,P x:=by
 intro y hy;rcases List.mem_cons.mp hy with rfl|hy
 ·exact h
 ·exact k y hy
theorem all_nil{α:Type}{P:α->Prop}:∀x∈([]:List α),P x:=λ_ h=>nomatch h
def AG(s:St):Option Bytes×St:=match s.toks with
 |[]=>(none,s)
 |t::r=>if t.kind=4 then(some t.bytes,(⟨t.halt_,r⟩:St)) else(none,s)
end
end RT
section
theorem CQ.a{a b c:Nat}(h:a<b)(k:b<=c):a<=c:=Nat.le_trans (Nat.le_of_lt h) k
theorem CQ.b{a b c:Nat}(h:a+1=b)(k:b<=c):a<=c:=Nat.le_trans (Nat.le_of_lt (h▸Nat.lt_succ_self a)) k
theorem CQ.c{a b c:Nat}(h:a<b)(k:b<=c):a<c:=Nat.lt_of_lt_of_le h k
theorem CQ.d{a b c:Nat}(h:a+1=b)(k:b<=c):a<c:=Nat.lt_of_lt_of_le (h▸Nat.lt_succ_self a) k
theorem CQ.e{a b c:Nat}(h:a<=b)(k:b<c):a<c:=Nat.lt_of_le_of_lt h k
theorem CQ.f{a b c:Nat}(h:a<=b)(k:b<=c):a<=c:=Nat.le_trans h k
theorem CQ.g{m x s c f i:Nat}(h:m*s+c<=f+1)(k:x<s)(d:i+1<=c+m):m*x+i<=f:=by
 have:m*x+m<=m*s:=by rw[<-Nat.mul_succ];exact Nat.mul_le_mul_left m k
 omega
theorem CQ.h{m x s c f i:Nat}(h:m*s+c<=f+1)(k:x<=s)(d:i+1<=c):m*x+i<=f:=by have:m*x<=m*s:=Nat.mul_le_mul_left m k;omega
local macro_rules
 |`(tactic|sleep 90)=>`(tactic|first|exact Nat.le_refl _|assumption|(refine CQ.c (by assumption) ?_;sleep 91)|(refine CQ.d (by assumption) ?_;sleep 91)|(refine CQ.e (by assumption) ?_;sleep 90))
 |`(tactic|sleep 91)=>`(tactic|first|exact Nat.le_refl _|assumption|(refine CQ.a (by assumption) ?_;sleep 91)|(refine CQ.b (by assumption) ?_;sleep 91)|(refine CQ.f (by assumption) ?_;sleep 91))
 |`(tactic|sleep 92)=>`(tactic|first|(refine CQ.g (by assumption) ?_ ↑0;sleep 90)|(refine CQ.h (by assumption) ?_ ↑0;sleep 91))
 |`(tactic|omega)=>`(tactic|first|(sleep 90;done)|(sleep 91;done)|(sleep 92;done)|lia|omega (splitMinMax:=true))
namespace MA
open EwTree RT
variable{n:Nat}{l:List Pt}{r:List Sym}{q:List Sym}{f:Fm}{k:Nat}{s:St}{w:String}{G:List Fr}{α:Type}{fu:Nat}
section
inductive Fk where
 |kind(k:Nat)
 |row
 |count
 |set
inductive Fm where
 |kind(k:Nat) (b:St)
 |row(b:St)
 |count(b:St)
 |set(b:St)
def Fk.at:Fk->St->Fm
 | .kind k,b=>.kind k b
 | .row,b=>.row b
 | .count,b=>.count b
 | .set,b=>.set b
def Fm.zD:Fm->St
 | .kind _ b=>b
 | .row b=>b
 | .count b=>b
 | .set b=>b
def Fm.isSet:Fm->Bool
 | .set _=>true
 |_=>false
inductive Pt where
 |leaf(b:Bytes)
 |aY(f:Fm) (s:St) (l:List Pt)
def st(p:Pt)(b:St):St:=match p with
 | .leaf _=>b
 | .aY f _ _=>f.zD
def Fm.tk(p:Pt):Fm->Fm
 | .kind k b=>.kind k (st p b)
 | .row b=>.row (st p b)
 | .count b=>.count (st p b)
 | .set b=>.set (st p b)
def Fm.turn(k:Nat):Fm->Fm
 | .kind _ b=>.kind k b
 | .row b=>.kind k b
 | .count b=>.kind k b
 | .set b=>.kind k b
structure Fr where
 form:Fm
 parts:List Pt
inductive Sym where
 |bg(f:Fk)
 |bW(b:Bytes)
 |take
 |turn(k:Nat)
 |fin
 |w(x:Nat)
noncomputable def vA:List (Nat×List Sym):=[(299,[.bg (.kind 144),.w 39,.w 200,.bg .count,.w 1001,.fin,.bg .count,.w 1002,.fin,.fin])]
noncomputable def Gn:List (Nat×List Sym):=[(73,[.w 73,.w 200,.w 1001]),(299,[])]
noncomputable def iJ:List (Nat×List Sym):=[(204,[]),(299,[.w 1003,.w 1002])]
noncomputable def jj:List (Nat×List Sym):=[(35,[.bg (.kind 128),.w 1004,.fin]),(55,[.bg (.kind 129),.w 55,.w 200,.w 111,.bg .count,.w 1008,.fin,.w 112,.fin]),(0,[.bg (.kind 130),.w 0,.w 200,.w 201,.fin]),(21,[.bg (.kind 131),.w 21,.w 200,.w 1006,.w 107,.bg .count,.w 1008,.fin,.w 108,.w 1011,.w 1017,.fin])]
noncomputable def L7:List (Nat×List Sym):=[(299,[.w 35,.w 200,.w 1005,.w 116,.w 1040])]
noncomputable def oA:List (Nat×List Sym):=[(114,[.w 114,.bW [1],.w 1012]),(299,[.bW [0]])]
noncomputable def kn:List (Nat×List Sym):=[(109,[.w 109,.bg .count,.w 200,.w 1007,.fin,.w 110]),(299,[.bg .count,.fin])]
noncomputable def lu:List (Nat×List Sym):=[(113,[.w 113,.w 200,.w 1007]),(299,[])]
noncomputable def zQ:List (Nat×List Sym):=[(200,[.w 1010,.w 1009]),(299,[])]
noncomputable def jr:List (Nat×List Sym):=[(113,[.w 113,.w 1010,.w 1009]),(299,[])]
noncomputable def C7:List (Nat×List Sym):=[(299,[.bg .row,.w 200,.w 114,.w 1012,.fin])]
noncomputable def zm:List (Nat×List Sym):=[(100,[.w 100,.bW [1],.w 1012]),(299,[.bW [0]])]
noncomputable def GO:List (Nat×List Sym):=[(76,[.bg (.kind 1),.w 76,.fin]),(23,[.bg (.kind 2),.w 23,.fin]),(9,[.bg (.kind 3),.w 9,.fin]),(26,[.bg (.kind 4),.w 26,.fin]),(60,[.bg (.kind 5),.w 60,.fin]),(10,[.bg (.kind 6),.w 10,.fin]),(14,[.bg (.kind 7),.w 14,.fin]),(30,[.bg (.kind 8),.w 30,.fin]),(69,[.bg (.kind 9),.w 69,.fin]),(64,[.bg (.kind 10),.w 64,.fin]),(19,[.bg (.kind 11),.w 19,.fin]),(13,[.bg (.kind 12),.w 13,.fin]),(0,[.bg (.kind 13),.w 0,.fin]),(74,[.bg (.kind 14),.w 74,.fin]),(50,[.bg (.kind 15),.w 50,.w 202,.fin]),(36,[.bg (.kind 16),.w 36,.w 45,.w 1012,.fin]),(16,[.bg (.kind 17),.w 16,.w 1013,.fin]),(21,[.bg (.kind 18),.w 21,.w 107,.bg .count,.w 1014,.fin,.w 108,.w 1011,.fin]),(200,[.bg (.kind 19),.w 200,.w 1016,.fin])]
noncomputable def uY:List (Nat×List Sym):=[(45,[.w 45,.bW [1],.w 1012]),(299,[.bW [0]])]
noncomputable def DX:List (Nat×List Sym):=[(108,[]),(299,[.w 1012,.w 1015])]
noncomputable def lP:List (Nat×List Sym):=[(113,[.w 113,.w 1012,.w 1015]),(299,[])]
noncomputable def jq:List (Nat×List Sym):=[(115,[.turn 20,.w 115,.w 200]),(299,[])]
noncomputable def Cp:List (Nat×List Sym):=[(299,[.bg .count,.w 111,.w 1018,.w 112,.fin])]
noncomputable def lJ:List (Nat×List Sym):=[(112,[]),(299,[.w 1019,.w 1018])]
noncomputable def oF:List (Nat×List Sym):=[(35,[.bg (.kind 96),.w 1004,.fin]),(200,[.w 1062,.w 1020]),(19,[.bg (.kind 99),.w 19,.w 116,.w 1040,.fin]),(27,[.bg (.kind 100),.bg .count,.w 1024,.w 1022,.fin]),(75,[.bg (.kind 101),.w 75,.w 1040,.w 1017,.fin]),(22,[.bg (.kind 102),.w 22,.w 200,.w 28,.w 1040,.w 1025,.w 1017,.fin]),(38,[.bg (.kind 103),.w 38,.w 1040,.w 111,.bg .count,.w 1026,.fin,.w 1027,.w 112,.fin]),(57,[.bg (.kind 104),.w 57,.w 1040,.fin]),(34,[.bg (.kind 105),.w 34,.fin]),(5,[.bg (.kind 106),.w 5,.fin]),(43,[.bg (.kind 107),.w 43,.fin]),(77,[.bg (.kind 108),.w 77,.bg .count,.w 1033,.w 1032,.fin,.w 1017,.fin]),(70,[.bg (.kind 109),.w 70,.w 1017,.w 1028,.fin]),(54,[.bg (.kind 110),.w 54,.w 1040,.fin]),(59,[.bg (.kind 111),.w 59,.bg .count,.w 1040,.w 1039,.fin,.fin]),(78,[.bg (.kind 112),.w 78,.w 1040,.w 1030,.fin]),(52,[.bg (.kind 113),.w 52,.w 1040,.w 114,.w 1040,.w 24,.w 1040,.w 1031,.fin])]
noncomputable def DQ:List (Nat×List Sym):=[(107,[.w 1059,.w 1021]),(109,[.w 1060,.w 1020]),(115,[.w 1061,.w 1020]),(116,[.bg (.kind 97),.take,.w 116,.w 1040,.fin])]
noncomputable def h8:List (Nat×List Sym):=[(107,[.w 1059,.w 1021]),(109,[.w 1060,.w 1020]),(115,[.w 1061,.w 1020]),(299,[.bg (.kind 98),.take,.fin])]
noncomputable def g6:List (Nat×List Sym):=[(12,[.w 12,.w 1023]),(299,[.fin,.bW [0]])]
noncomputable def js:List (Nat×List Sym):=[(27,[.w 1024,.w 1022]),(299,[.fin,.bW [1],.w 1017])]
noncomputable def Aa:List (Nat×List Sym):=[(299,[.bg .row,.w 27,.w 1040,.w 1017,.fin])]
noncomputable def Rq:List (Nat×List Sym):=[(66,[.w 66,.bW [1],.w 1040]),(299,[.bW [0]])]
noncomputable def DO:List (Nat×List Sym):=[(33,[.bg .row,.w 33,.w 1012,.w 200,.w 1017,.fin,.w 1026]),(299,[])]
noncomputable def HA:List (Nat×List Sym):=[(12,[.w 12,.bW [1],.w 1017]),(299,[.bW [0]])]
noncomputable def k7:List (Nat×List Sym):=[(6,[.w 6,.bW [1],.w 200,.w 1017,.w 1029]),(17,[.bW [0],.w 1029])]
noncomputable def uV:List (Nat×List Sym):=[(17,[.w 17,.bW [1],.w 1017]),(299,[.bW [0]])]
noncomputable def IG:List (Nat×List Sym):=[(31,[.w 31,.bW [1],.w 200]),(299,[.bW [0]])]
noncomputable def jo:List (Nat×List Sym):=[(203,[.bW [1],.w 203]),(299,[.bW [0]])]
noncomputable def kE:List (Nat×List Sym):=[(113,[.w 113,.w 1033,.w 1032]),(299,[])]
noncomputable def HS:List (Nat×List Sym):=[(58,[.bg .row,.w 58,.bW [0],.w 1034,.fin]),(53,[.bg .row,.w 53,.bW [1],.w 202,.fin]),(67,[.bg .row,.w 67,.bW [2],.bg .set,.w 1037,.w 1035,.fin,.fin]),(20,[.bg .row,.w 20,.bW [3],.w 1036,.fin])]
noncomputable def oJ:List (Nat×List Sym):=[(40,[.w 40,.bW [0]]),(11,[.w 11,.bW [1]]),(72,[.w 72,.bW [2]]),(8,[.w 8,.bW [3]])]
noncomputable def vo:List (Nat×List Sym):=[(113,[]),(111,[]),(299,[.w 1037,.w 1035])]
noncomputable def uE:List (Nat×List Sym):=[(28,[.w 28,.bW [0]]),(48,[.w 48,.bW [1]]),(4,[.w 4,.bW [2]])]
noncomputable def IU:List (Nat×List Sym):=[(32,[.w 32,.bW [0]]),(61,[.w 61,.bW [1]]),(79,[.w 79,.bW [2]]),(49,[.w 49,.bW [3]]),(71,[.w 71,.bW [4]]),(29,[.w 29,.bW [5]]),(63,[.w 63,.bW [6]])]
noncomputable def jl:List (Nat×List Sym):=[(108,[]),(299,[.w 1040,.w 1039])]
noncomputable def fB:List (Nat×List Sym):=[(113,[.w 113,.w 1040,.w 1039]),(299,[])]
noncomputable def lV:List (Nat×List Sym):=[(27,[.bg (.kind 51),.w 27,.w 1040,.w 65,.w 1040,.w 12,.w 1040,.fin]),(299,[.w 1042,.w 1041])]
noncomputable def vc:List (Nat×List Sym):=[(47,[.bg (.kind 64),.take,.w 47,.w 1042,.fin,.w 1041]),(299,[])]
noncomputable def GF:List (Nat×List Sym):=[(299,[.w 1044,.w 1043])]
noncomputable def qT:List (Nat×List Sym):=[(1,[.bg (.kind 65),.take,.w 1,.w 1044,.fin,.w 1043]),(299,[])]
noncomputable def uG:List (Nat×List Sym):=[(44,[.bg (.kind 47),.w 44,.w 1044,.fin]),(299,[.w 1046,.w 1045])]
noncomputable def tj:List (Nat×List Sym):=[(101,[.bg (.kind 66),.take,.w 101,.w 1046,.fin]),(102,[.bg (.kind 67),.take,.w 102,.w 1046,.fin]),(117,[.bg (.kind 68),.take,.w 117,.w 1046,.fin]),(103,[.bg (.kind 69),.take,.w 103,.w 1046,.fin]),(118,[.bg (.kind 70),.take,.w 118,.w 1046,.fin]),(104,[.bg (.kind 71),.take,.w 104,.w 1046,.fin]),(299,[])]
noncomputable def Hu:List (Nat×List Sym):=[(299,[.w 1050,.w 1047])]
noncomputable def uM:List (Nat×List Sym):=[(2,[.bg (.kind 52),.take,.w 2,.w 1012,.w 1048,.w 1049,.fin,.w 1047]),(299,[])]
noncomputable def Ae:List (Nat×List Sym):=[(202,[.bW [1],.w 202]),(299,[.bW [0]])]
noncomputable def rm:List (Nat×List Sym):=[(40,[.w 40,.bW [1]]),(11,[.w 11,.bW [2]]),(72,[.w 72,.bW [3]]),(8,[.w 8,.bW [4]]),(41,[.w 41,.bW [5]]),(42,[.w 42,.bW [6]]),(3,[.w 3,.bW [7]]),(18,[.w 18,.bW [8]]),(299,[.bW [0]])]
noncomputable def LY:List (Nat×List Sym):=[(299,[.w 1052,.w 1051])]
noncomputable def rR:List (Nat×List Sym):=[(119,[.bg (.kind 72),.take,.w 119,.w 1052,.fin,.w 1051]),(120,[.bg (.kind 73),.take,.w 120,.w 1052,.fin,.w 1051]),(299,[])]
noncomputable def uQ:List (Nat×List Sym):=[(299,[.w 1054,.w 1053])]
noncomputable def ia:List (Nat×List Sym):=[(121,[.bg (.kind 74),.take,.w 121,.w 1054,.fin,.w 1053]),(122,[.bg (.kind 75),.take,.w 122,.w 1054,.fin,.w 1053]),(105,[.bg (.kind 76),.take,.w 105,.w 1054,.fin,.w 1053]),(123,[.bg (.kind 77),.take,.w 123,.w 1054,.fin,.w 1053]),(299,[])]
noncomputable def Ap:List (Nat×List Sym):=[(120,[.bg (.kind 46),.w 120,.w 1054,.fin]),(62,[.bg (.kind 48),.w 62,.w 1057,.fin]),(56,[.bg (.kind 49),.w 56,.w 1057,.w 1055,.fin]),(51,[.bg (.kind 50),.w 51,.w 203,.w 45,.w 1057,.fin]),(299,[.w 1057,.w 1056])]
noncomputable def yF:List (Nat×List Sym):=[(25,[.w 25,.bW [1],.w 1054]),(299,[.bW [0]])]
noncomputable def CB:List (Nat×List Sym):=[(124,[.bg (.kind 78),.take,.w 124,.w 1054,.fin]),(299,[])]
noncomputable def I_:List (Nat×List Sym):=[(299,[.w 1063,.w 1058])]
noncomputable def oM:List (Nat×List Sym):=[(107,[.w 1059,.w 1058]),(109,[.w 1060,.w 1058]),(115,[.w 1061,.w 1058]),(299,[])]
noncomputable def Hi:List (Nat×List Sym):=[(299,[.bg (.kind 43),.take,.w 107,.bg .count,.w 1038,.fin,.w 108,.fin])]
noncomputable def CU:List (Nat×List Sym):=[(299,[.bg (.kind 44),.take,.w 109,.w 1040,.w 110,.fin])]
noncomputable def zJ:List (Nat×List Sym):=[(299,[.bg (.kind 45),.take,.w 115,.w 200,.fin])]
noncomputable def Hf:List (Nat×List Sym):=[(299,[.bg (.kind 37),.w 200,.fin])]
noncomputable def C1:List (Nat×List Sym):=[(202,[.bg (.kind 32),.w 202,.fin]),(203,[.bg (.kind 33),.w 203,.fin]),(68,[.bg (.kind 34),.w 68,.fin]),(15,[.bg (.kind 35),.w 15,.fin]),(19,[.bg (.kind 36),.w 19,.fin]),(200,[.w 1062]),(201,[.bg (.kind 38),.w 201,.fin]),(46,[.bg (.kind 39),.w 46,.w 107,.bg .set,.w 1064,.fin,.w 108,.fin]),(107,[.bg .row,.w 107,.w 1040,.w 108,.fin]),(109,[.bg (.kind 40),.w 109,.w 1066,.w 110,.fin]),(37,[.bg (.kind 42),.w 37,.w 200,.w 1068,.w 107,.bg .count,.w 1069,.fin,.w 108,.fin])]
noncomputable def Ds:List (Nat×List Sym):=[(108,[]),(299,[.w 1037,.w 1065])]
noncomputable def lD:List (Nat×List Sym):=[(113,[.w 113,.w 1037,.w 1065]),(299,[])]
noncomputable def y8:List (Nat×List Sym):=[(110,[.bg .count,.fin]),(299,[.w 1040,.w 1067])]
noncomputable def jk:List (Nat×List Sym):=[(106,[.turn 41,.w 106,.w 1040]),(299,[.bg .count,.take,.w 1039,.fin])]
noncomputable def FK:List (Nat×List Sym):=[(115,[.bg .row,.bW [1],.take,.w 115,.w 200,.fin]),(299,[.bg .row,.bW [0],.take,.fin])]
noncomputable def qZ:List (Nat×List Sym):=[(200,[.w 1071,.w 1070]),(299,[])]
noncomputable def hW:List (Nat×List Sym):=[(113,[.w 113,.w 1071,.w 1070]),(299,[])]
noncomputable def vk:List (Nat×List Sym):=[(299,[.bg .row,.w 200,.w 114,.w 1040,.fin])]
noncomputable def cM:List (List (Nat×List Sym)):=[vA,Gn,iJ,jj,L7,oA,kn,lu,zQ,jr,C7,zm,GO,uY,DX,lP,jq,Cp,lJ,oF,DQ,h8,g6,js,Aa,Rq,DO,HA,k7,uV,IG,jo,kE,HS,oJ,vo,uE,IU,jl,fB,lV,vc,GF,qT,uG,tj,Hu,uM,Ae,rm,LY,rR,uQ,ia,Ap,yF,CB,I_,oM,Hi,CU,zJ,Hf,C1,Ds,lD,y8,jk,FK,qZ,hW,vk]
def RO{α:Type}:List α->Nat->Option α
 |[],_=>none
 |a::_,0=>some a
 |_::l,i+1=>RO l i
def aH(g:List (Nat×List Sym))(l:Nat):Option (List Sym):=match g with
 |[]=>none
 |y::r=>if Nat.beq y.1 l=true then some y.2 else aH r l
def row(n l:Nat):Option (List Sym):=if Nat.ble 1000 n=true then(match RO cM (n - 1000) with
 |none=>none
 |some g=>aH g l) else none
def lZ(t:Tok):Nat:=
 if t.kind=0 then(match KEYWORDS.findIdx? λx=>x==t.bytes with
  |some i=>i
  |none=>999)
 else if t.kind=5 then(match SIGNS.findIdx? λx=>x==t.bytes with
  |some i=>100+i
  |none=>999)
 else if t.kind=1 then 200 else if t.kind=2 then 201 else if t.kind=3 then 202 else if t.kind=4 then 203 else 999
def lk(e:Bool)(s:St):Nat:=match s.toks with
 |[]=>if e=true then 205 else 204
 |t::_=>lZ t
def lf(t:Tok):List Pt:=if t.kind=0\/t.kind=5 then[] else if t.kind=4 then[.leaf (long t.bytes)] else[.leaf (short t.bytes)]
def eB:List Pt->Nat
 |[]=>0
 | .leaf (b::_)::r=>2 ^ b.toNat ||| eB r
 |_::r=>eB r
def done(f:Fm)(s:St)(l:List Pt):Pt:=match f.isSet with
 |true=>.leaf [UInt8.ofNat (eB l)]
 |false=>.aY f s l
def len(s:St):Nat:=s.toks.length
def iP(l:List Pt):Prop:=∀p∈l,∃k,k<7/\p= .leaf [UInt8.ofNat k]
inductive Out where
 |ok(G:List Fr)
 |fault(e:Fault)
inductive Runs(e:Bool)(z:Fault):Nat->List Sym->St->List Fr->Out->Prop
 |halt(s:St) (G:List Fr):Runs e z 0 [] s G (.ok G)
 |bg{n:Nat} {f:Fk} {K:List Sym} {s:St} {G:List Fr} {o:Out}:Runs e z n K s (⟨f.at s,[]⟩::G) o->Runs e z (n+1) (.bg f::K) s G o
 |bW{n:Nat} {b:Bytes} {K:List Sym} {s:St} {f:Fm} {l:List Pt} {G:List Fr} {o:Out}:Runs e z n K s (⟨f,l++[.leaf b]⟩::G) o->Runs e z (n+1) (.bW b::K) s (⟨f,l⟩::G) o
 |take{n:Nat} {p:Pt} {K:List Sym} {s:St} {f h:Fm} {l r:List Pt} {G:List Fr} {o:Out}:Runs e z n K s (⟨f.tk p,l++[p]⟩::⟨h,r⟩::G) o->Runs e z (n+1) (.take::K) s (⟨f,l⟩::⟨h,r++[p]⟩::G) o
 |turn{n:Nat} {k:Nat} {K:List Sym} {s:St} {f:Fm} {l:List Pt} {G:List Fr} {o:Out}:Runs e z n K s (⟨f.turn k,l⟩::G) o->Runs e z (n+1) (.turn k::K) s (⟨f,l⟩::G) o
 |fin{n:Nat} {K:List Sym} {s:St} {f h:Fm} {l r:List Pt} {G:List Fr} {o:Out}:(f.isSet=true->iP l)->Runs e z n K s (⟨h,r++[done f s l]⟩::G) o->Runs e z (n+1) (.fin::K) s (⟨f,l⟩::⟨h,r⟩::G) o
 |pass{n:Nat} {K:List Sym} {t:Tok} {p:Nat} {ts:List Tok} {f:Fm} {l:List Pt} {G:List Fr} {o:Out}:Runs e z n K ⟨t.halt_,ts⟩ (⟨f,l++lf t⟩::G) o->Runs e z (n+1) (.w (lZ t)::K) ⟨p,t::ts⟩ (⟨f,l⟩::G) o
 |go{n:Nat} {x:Nat} {r K:List Sym} {s:St} {G:List Fr} {o:Out}:x≠lk e s->row x (lk e s)=some r->Runs e z n (r++K) s G o->Runs e z (n+(1+r.length)) (.w x::K) s G o
 |SH{n:Nat} {x:Nat} {r K:List Sym} {s:St} {G:List Fr} {o:Out}:x≠lk e s->row x (lk e s)=none->row x 299=some r->Runs e z n (r++K) s G o->Runs e z (n+(1+r.length)) (.w x::K) s G o
 |no{x:Nat} {K:List Sym} {s:St} {G:List Fr}:x≠lk e s->row x (lk e s)=none->row x 299=none->Runs e z 0 (.w x::K) s G (.fault (bad z s))
def BT:List Int:=[-49,1,1,-81,-87,3,5,1,1,1,-84,3,-24,3,1,1,1,-59,1,-15,-19,7,5,-53,-79,3,1,3,7,3,3,3,1,-49,-30,1,-30,-30,10,1,6,1,2,1,-2,1,-6,1,3,3,-10,1,-14,1,-18,3,1,-22,1,-44,-52,-59,-28,-26,1,1,18,9,9,1,1,-54]
def DT:List Int:=[12,4,17,14,6,4,7,4,10,4,7,4,11,4,14,4,5,7,20,17,20,20,5,13,9,7,9,4,8,4,4,4,4,10,3,6,3,3,39,6,36,9,33,9,30,8,27,11,4,3,24,9,21,9,18,4,8,15,20,17,11,8,5,12,6,4,39,13,10,10,4,7]
def wB:Sym->Int
 | .w x=>if Nat.ble 1000 x=true then BT.getD (x - 1000) 0 else -34
 |_=>1
def wD:Sym->Int
 | .w x=>if Nat.ble 1000 x=true then DT.getD (x - 1000) 0 else 0
 |_=>0
def bs:List Sym->Int
 |[]=>0
 |y::r=>wB y+bs r
def ds:List Sym->Int
 |[]=>0
 |y::r=>if wB y+ds r<=wD y then wD y else wB y+ds r
def Ii:List (List (Nat×List Sym))->List Int->List Int->Bool
 |[],_,_=>true
 |_::_,[],_=>false
 |_::_,_,[]=>false
 |g::G,b::B,d::D=>g.all (λy=>decide (1+(y.2.length:Int)+bs y.2<=b)&&decide (1+(y.2.length:Int)+ds y.2<=d))&&Ii G B D
theorem G1:Ii cM BT DT=true:=↑1
theorem Pg:∀d∈DT,(0:Int)<=d:=↑1
theorem xk:∀(r q:List Sym),bs (r++q)=bs r+bs q
 |[],q=>(Int.zero_add _).symm
 |y::r,q=>by show wB y+bs (r++q)=wB y+bs r+bs q;rw[xk r q,Int.add_assoc]
theorem Pe(y:Sym):0<=wD y:=by
 cases y with
 |w x=>
  show 0<=if Nat.ble 1000 x=true then DT.getD (x - 1000) 0 else 0;split
  ·rw[List.getD_eq_getElem?_getD];cases h:DT[x - 1000]? with
   |none=>exact Int.le_refl _
   |some d=>exact Pg d (List.mem_of_getElem? h)
  ·exact Int.le_refl _
 |_=>exact Int.le_refl _
theorem IV:∀(r:List Sym),0<=ds r
 |[]=>Int.le_refl _
 |y::r=>by
  have:=Pe y;show 0<=if wB y+ds r<=wD y then wD y else wB y+ds r;split <;> omega
theorem lL(y:Sym)(r:List Sym):wD y<=ds (y::r):=by show wD y<=if wB y+ds r<=wD y then wD y else wB y+ds r;split <;> omega
theorem fh(y:Sym)(r:List Sym):wB y+ds r<=ds (y::r):=by show wB y+ds r<=if wB y+ds r<=wD y then wD y else wB y+ds r;split <;> omega
theorem Cq:∀(r q:List Sym),ds r<=ds (r++q)
 |[],q=>IV q
 |y::r,q=>by
  have h:=Cq r q;have h1:=lL y (r++q);have h2:=fh y (r++q);show(if wB y+ds r<=wD y then wD y else wB y+ds r)<=ds (y::(r++q));split <;> omega
theorem CM:∀(r q:List Sym),bs r+ds q<=ds (r++q)
 |[],q=>by show 0+ds q<=ds q;omega
 |y::r,q=>by
  have h:=CM r q;have h2:=fh y (r++q);show wB y+bs r+ds q<=ds (y::(r++q));omega
theorem x9:∀(r q:List Sym)(c:Int),ds r<=c->bs r+ds q<=c->ds (r++q)<=c
 |[],q,c,_,h=>by
  have:(0:Int)+ds q<=c:=h;show ds q<=c;omega
 |y::r,q,c,h1,h2=>by
  have a1:=lL y r;have a2:=fh y r;have h2:wB y+bs r+ds q<=c:=h2;have h:=x9 r q (c - wB y) ↑2 ↑2;show(if wB y+ds (r++q)<=wD y then wD y else wB y+ds (r++q))<=c;split <;> omega
theorem zt:∀{R:List (List (Nat×List Sym))}{B D:List Int},Ii R B D=true->∀{i:Nat}{g:List (Nat×List Sym)}{y:Nat×List Sym},RO R i=some g->y∈g->1+(y.2.length:Int)+bs y.2<=B.getD i 0/\1+(y.2.length:Int)+ds y.2<=D.getD i 0
 |[],_,_,_,_,_,_,h,_=>by cases h
 |_::_,[],_,h,_,_,_,_,_=>by cases h
 |_::_,_::_,[],h,_,_,_,_,_=>by cases h
 |g::G,b::B,d::D,h,0,_,y,e,m=>by
  cases e;have h:=(Bool.and_eq_true _ _).mp h;have h1:=List.all_eq_true.mp h.1 y m;have h1:=(Bool.and_eq_true _ _).mp h1;exact⟨of_decide_eq_true h1.1,of_decide_eq_true h1.2⟩
 |g::G,b::B,d::D,h,i+1,_,y,e,m=>zt (R:=G) (B:=B) (D:=D) ((Bool.and_eq_true _ _).mp h).2 (i:=i) e m
theorem uK:∀{g:List (Nat×List Sym)}{l:Nat}{r:List Sym},aH g l=some r->∃y∈g,y.2=r
 |[],_,_,h=>by cases h
 |y::g,l,r,h=>by
  unfold aH at h;split at h
  ·exact⟨y,List.mem_cons_self ..,Option.some.inj h⟩
  ·obtain⟨x,hx,e⟩:=uK h;exact⟨x,List.mem_cons_of_mem _ hx,e⟩
theorem lH{l:Nat}(h:row n l=some r):1+(r.length:Int)+bs r<=wB (.w n)/\1+(r.length:Int)+ds r<=wD (.w n):=by
 unfold row at h;split at h
 ·rename_i c;split at h
  ·cases h
  ·rename_i g hg;obtain⟨y,hy,rfl⟩:=uK h;have:=zt G1 hg hy;show _<=(if Nat.ble 1000 n=true then BT.getD (n - 1000) 0 else -34)/\_<=(if Nat.ble 1000 n=true then DT.getD (n - 1000) 0 else 0);rw[if_pos c,if_pos c];exact this
 ·cases h
def Sm(e:Bool)(z:Fault)(r:List Sym)(s:St)(G:List Fr){α:Type}(x:Except Fault α)(Q:α->St->List Fr->Prop):Prop:=match x with
 | .error er=>∃n:Nat,(n:Int)<=35*(len s:Int)+ds r/\∀K,Runs e z n (r++K) s G (.fault er)
 | .ok a=>∃(s':St)(G':List Fr)(n:Nat),(n:Int)+35*(len s':Int)<=35*(len s:Int)+bs r/\Q a s' G'/\∀m K o,Runs e z m K s' G' o->Runs e z (m+n) (r++K) s G o
section
variable{e:Bool}{z:Fault}{α β:Type}{s:St}{G:List Fr}
theorem mN{a:α}{Q:α->St->List Fr->Prop}(h:Q a s G):Sm e z [] s G (.ok a) Q:=⟨s,G,0,by show(0:Int)+_<=_+0;omega,h,λ_ _ _ h=>h⟩
theorem mB{x:Except Fault α}{k:α->Except Fault β}{Q:α->St->List Fr->Prop}{R:β->St->List Fr->Prop}(h:Sm e z r s G x Q)(g:∀a s' G',Q a s' G'->Sm e z q s' G' (k a) R):Sm e z (r++q) s G (x>>=k) R:=by
 cases x with
 |error er=>
  obtain⟨n,hn,h⟩:=h;exact⟨n,Int.le_trans hn (by have:=Cq r q;omega),λK=>by rw[List.append_assoc];exact h _⟩
 |ok a=>
  obtain⟨s',G',n,hn,hq,hr⟩:=h;have:=g a s' G' hq;show Sm e z (r++q) s G (k a) R;cases hk:k a with
  |error er=>
   rw[hk] at this;obtain⟨m,hm,h⟩:=this;exact⟨m+n,by have:=CM r q;omega,λK=>by rw[List.append_assoc];exact hr _ _ _ (h K)⟩
  |ok b=>
   rw[hk] at this;obtain⟨s2,G2,m,hm,h2,h3⟩:=this;exact⟨s2,G2,m+n,by have:=xk r q;omega,h2,λj K o ho=>by rw[List.append_assoc,<-Nat.add_assoc];exact hr _ _ _ (h3 j K o ho)⟩
theorem mC{y:Sym}{x:Except Fault α}{k:α->Except Fault β}{Q:α->St->List Fr->Prop}{R:β->St->List Fr->Prop}(h:Sm e z [y] s G x Q)(g:∀a s' G',Q a s' G'->Sm e z q s' G' (k a) R):Sm e z (y::q) s G (x>>=k) R:=mB (r:=[y]) h g
theorem mM{x:Except Fault α}{k:α->β}{Q:α->St->List Fr->Prop}{R:β->St->List Fr->Prop}(h:Sm e z r s G x Q)(g:∀a s' G',Q a s' G'->R (k a) s' G'):Sm e z r s G (x.map k) R:=by
 cases x with
 |error er=>exact h
 |ok a=>
  obtain⟨s',G',n,hn,hq,hr⟩:=h;exact⟨s',G',n,hn,g a s' G' hq,hr⟩
theorem mS{r':List Sym}{s0:St}{G':List Fr}{x:Except Fault α}{Q:α->St->List Fr->Prop}(c:Nat)(h1:(c:Int)+35*(len s0:Int)+bs r'<=35*(len s:Int)+bs r)(h2:(c:Int)+35*(len s0:Int)+ds r'<=35*(len s:Int)+ds r)(st:∀m K o,Runs e z m (r'++K) s0 G' o->Runs e z (m+c) (r++K) s G o)(h:Sm e z r' s0 G' x Q):Sm e z r s G x Q:=by
 cases x with
 |error er=>
  obtain⟨n,hn,h⟩:=h;exact⟨n+c,↑2,λK=>st _ K _ (h K)⟩
 |ok a=>
  obtain⟨s',G',n,hn,hq,hr⟩:=h;exact⟨s',G',n+c,↑2,hq,λm K o ho=>by rw[<-Nat.add_assoc];exact st _ K o (hr m K o ho)⟩
theorem Qj{y:Sym}{G':List Fr}{x:Except Fault α}{Q:α->St->List Fr->Prop}(hy:wB y=1)(st:∀m K o,Runs e z m (r++K) s G' o->Runs e z (m+1) (y::(r++K)) s G o)(h:Sm e z r s G' x Q):Sm e z (y::r) s G x Q:=
 mS 1 (by show(1:Int)+_+bs r<=_+(wB y+bs r);omega) (by have:=fh y r;show(1:Int)+_+ds r<=_;omega) st h
theorem bJ{f:Fk}{x:Except Fault α}{Q:α->St->List Fr->Prop}(h:Sm e z r s (⟨f.at s,[]⟩::G) x Q):Sm e z (.bg f::r) s G x Q:=Qj rfl (λ_ _ _ h=>.bg h) h
theorem d9{b:Bytes}{x:Except Fault α}{Q:α->St->List Fr->Prop}(h:Sm e z r s (⟨f,l++[.leaf b]⟩::G) x Q):Sm e z (.bW b::r) s (⟨f,l⟩::G) x Q:=Qj rfl (λ_ _ _ h=>.bW h) h
theorem A8{p:Pt}{h:Fm}{q:List Pt}{x:Except Fault α}{Q:α->St->List Fr->Prop}(hh:Sm e z r s (⟨f.tk p,l++[p]⟩::⟨h,q⟩::G) x Q):Sm e z (.take::r) s (⟨f,l⟩::⟨h,q++[p]⟩::G) x Q:=Qj rfl (λ_ _ _ h=>.take h) hh
theorem Ul{x:Except Fault α}{Q:α->St->List Fr->Prop}(hh:Sm e z r s (⟨f.turn k,l⟩::G) x Q):Sm e z (.turn k::r) s (⟨f,l⟩::G) x Q:=Qj rfl (λ_ _ _ h=>.turn h) hh
theorem Dz{h:Fm}{q:List Pt}{x:Except Fault α}{Q:α->St->List Fr->Prop}(hs:f.isSet=true->iP l)(hh:Sm e z r s (⟨h,q++[done f s l]⟩::G) x Q):Sm e z (.fin::r) s (⟨f,l⟩::⟨h,q⟩::G) x Q:=Qj rfl (λ_ _ _ h=>.fin hs h) hh
theorem LN(e:Bool)(s:St):lk e s<1000:=by
 unfold lk;split
 ·cases e <;> decide
 ·rename_i t _ _;unfold lZ;split
  ·split
   ·rename_i i h;have:=(List.findIdx?_eq_some_iff_getElem.mp h).1;have:KEYWORDS.length=80:=↑1
    omega
   ·decide
  split
  ·split
   ·rename_i i h;have:=(List.findIdx?_eq_some_iff_getElem.mp h).1;have:SIGNS.length=25:=↑1
    omega
   ·decide
  split
  ·decide
  split
  ·decide
  split
  ·decide
  split
  ·decide
  ·decide
theorem sg{e:Bool}{s:St}:(299:Nat)≠lk e s:=by
 intro c;have c:=c.symm;unfold lk at c;split at c
 ·cases e <;> cases c
 ·rename_i t _ _;unfold lZ at c;split at c
  ·split at c
   ·rename_i i h;have:=(List.findIdx?_eq_some_iff_getElem.mp h).1;have:KEYWORDS.length=80:=↑1
    omega
   ·cases c
  split at c
  ·split at c
   ·rename_i i h;have:=(List.findIdx?_eq_some_iff_getElem.mp h).1;have:SIGNS.length=25:=↑1
    omega
   ·cases c
  split at c
  ·cases c
  split at c
  ·cases c
  split at c
  ·cases c
  split at c <;> cases c
theorem nt(h:1000<=n):n≠lk e s:=λc=>absurd (LN e s) (by rw[<-c];exact Nat.not_lt.mpr h)
theorem mX{l:Nat}{x:Except Fault α}{Q:α->St->List Fr->Prop}(h1:row n l=some r)(hl:lk e s=l)(h0:1000<=n)(h:Sm e z (r++q) s G x Q):Sm e z (.w n::q) s G x Q:=
 mS (1+r.length) (by
  have:=lH h1;have h2:=xk r q;show((1+r.length:Nat):Int)+_+bs (r++q)<=_+(wB (.w n)+bs q)
  omega) (by
  have c:=lH h1;have h2:=lL (.w n) q;have h3:=fh (.w n) q;have h4:=x9 r q (ds (.w n::q) - 1 - r.length) ↑2 ↑2;omega) (λm K o h=>.go (nt h0) (by rw[hl];exact h1) (by rw[List.append_assoc] at h;exact h)) h
theorem Pp{x:Except Fault α}{Q:α->St->List Fr->Prop}(h2:row n 299=some r)(h1:row n (lk e s)=none)(h0:1000<=n)(h:Sm e z (r++q) s G x Q):Sm e z (.w n::q) s G x Q:=
 mS (1+r.length) (by
  have:=lH h2;have h3:=xk r q;show((1+r.length:Nat):Int)+_+bs (r++q)<=_+(wB (.w n)+bs q)
  omega) (by
  have c:=lH h2;have h3:=lL (.w n) q;have h4:=fh (.w n) q;have h5:=x9 r q (ds (.w n::q) - 1 - r.length) ↑2 ↑2;omega) (λm K o h=>.SH (nt h0) h1 h2 (by rw[List.append_assoc] at h;exact h)) h
theorem Fs{Q:α->St->List Fr->Prop}(h0:n≠lk e s)(h1:row n (lk e s)=none)(h2:row n 299=none):Sm e z (.w n::q) s G (.error (bad z s)) Q:=⟨0,by have:=IV (.w n::q);omega,λ_=>.no h0 h1 h2⟩
theorem mT{c:Prop}[Decidable c]{x y:Except Fault α}{Q:α->St->List Fr->Prop}(h:c)(k:Sm e z r s G x Q):Sm e z r s G (if c then x else y) Q:=by rw[if_pos h];exact k
theorem mF{c:Prop}[Decidable c]{x y:Except Fault α}{Q:α->St->List Fr->Prop}(h:¬c)(k:Sm e z r s G y Q):Sm e z r s G (if c then x else y) Q:=by rw[if_neg h];exact k
theorem mW{x:Except Fault α}{Q R:α->St->List Fr->Prop}(h:Sm e z r s G x Q)(k:∀a s' G',Q a s' G'->R a s' G'):Sm e z r s G x R:=by
 cases x with
 |error er=>exact h
 |ok a=>
  obtain⟨s',G',n,hn,hq,hr⟩:=h;exact⟨s',G',n,hn,k a s' G' hq,hr⟩
end
theorem aA{e:Bool}{i:Nat}(h:(KEYWORDS.findIdx? λx=>x==word w)=some i):s.key w=true↔lk e s=i:=by
 have hi:i<80:=by
  have:=(List.findIdx?_eq_some_iff_getElem.mp h).1;have h2:KEYWORDS.length=80:=↑1
  omega
 obtain⟨p,ts⟩:=s;cases ts with
 |nil=>
  refine⟨λc=>(by cases c),λc=>?_⟩;cases e
  ·have c:204=i:=c;omega
  ·have c:205=i:=c;omega
 |cons t r=>
  show(t.kind==0&&t.bytes==word w)=true↔lZ t=i;rw[Bool.and_eq_true,beq_iff_eq,beq_iff_eq];refine⟨λ⟨a,b⟩=>?_,λc=>?_⟩
  ·unfold lZ;rw[if_pos a,b,h]
  ·unfold lZ at c;split at c
   ·rename_i a;split at c
    ·rename_i j hj;subst c;obtain⟨hj1,hj2,_⟩:=List.findIdx?_eq_some_iff_getElem.mp hj;obtain⟨_,hi2,_⟩:=List.findIdx?_eq_some_iff_getElem.mp h;have e1:KEYWORDS[j]=t.bytes:=by simpa using hj2
     have e2:KEYWORDS[j]=word w:=by simpa using hi2
     exact⟨a,e1.symm.trans e2⟩
    ·omega
   split at c
   ·split at c <;> omega
   split at c
   ·omega
   split at c
   ·omega
   split at c
   ·omega
   split at c <;> omega
theorem bc{e:Bool}{i:Nat}(h:(SIGNS.findIdx? λx=>x==word w)=some i):s.sign w=true↔lk e s=100+i:=by
 have hi:i<25:=by
  have:=(List.findIdx?_eq_some_iff_getElem.mp h).1;have h2:SIGNS.length=25:=↑1
  omega
 obtain⟨p,ts⟩:=s;cases ts with
 |nil=>
  refine⟨λc=>(by cases c),λc=>?_⟩;cases e
  ·have c:204=100+i:=c;omega
  ·have c:205=100+i:=c;omega
 |cons t r=>
  show(t.kind==5&&t.bytes==word w)=true↔lZ t=100+i;rw[Bool.and_eq_true,beq_iff_eq,beq_iff_eq];refine⟨λ⟨a,b⟩=>?_,λc=>?_⟩
  ·unfold lZ;rw[if_neg (by rw[a];decide),if_pos a,b,h]
  ·unfold lZ at c;split at c
   ·split at c
    ·rename_i j hj;have:=(List.findIdx?_eq_some_iff_getElem.mp hj).1;have h2:KEYWORDS.length=80:=↑1
     omega
    ·omega
   split at c
   ·rename_i a;split at c
    ·rename_i j hj;have:j=i:=↑2
     subst this;obtain⟨hj1,hj2,_⟩:=List.findIdx?_eq_some_iff_getElem.mp hj;obtain⟨_,hi2,_⟩:=List.findIdx?_eq_some_iff_getElem.mp h;have e1:SIGNS[j]=t.bytes:=by simpa using hj2
     have e2:SIGNS[j]=word w:=by simpa using hi2
     exact⟨a,e1.symm.trans e2⟩
    ·omega
   split at c
   ·omega
   split at c
   ·omega
   split at c
   ·omega
   split at c <;> omega
section
variable{e:Bool}{s:St}
theorem fg:s.key "account"=true↔lk e s=0:=aA ↑1
theorem L9:s.key "and"=true↔lk e s=1:=aA ↑1
theorem Nl:s.key "as"=true↔lk e s=2:=aA ↑1
theorem B4:s.key "away"=true↔lk e s=3:=aA ↑1
theorem BW:s.key "both"=true↔lk e s=4:=aA ↑1
theorem wU:s.key "break"=true↔lk e s=5:=aA ↑1
theorem wc:s.key "catch"=true↔lk e s=6:=aA ↑1
theorem vB:s.key "cut"=true↔lk e s=8:=aA ↑1
theorem mK:s.key "decimal"=true↔lk e s=9:=aA ↑1
theorem sA:s.key "double"=true↔lk e s=10:=aA ↑1
theorem nA:s.key "down"=true↔lk e s=11:=aA ↑1
theorem ju:s.key "else"=true↔lk e s=12:=aA ↑1
theorem yj:s.key "error"=true↔lk e s=13:=aA ↑1
theorem j8:s.key "extended"=true↔lk e s=14:=aA ↑1
theorem vZ:s.key "false"=true↔lk e s=15:=aA ↑1
theorem yu:s.key "fibre"=true↔lk e s=16:=aA ↑1
theorem ej:s.key "finally"=true↔lk e s=17:=aA ↑1
theorem Cj:s.key "five"=true↔lk e s=18:=aA ↑1
theorem eV:s.key "flags"=true↔lk e s=19:=aA ↑1
theorem vM:s.key "flush"=true↔lk e s=20:=aA ↑1
theorem EO:s.key "fn"=true↔lk e s=21:=aA ↑1
theorem IF:s.key "for"=true↔lk e s=22:=aA ↑1
theorem jL:s.key "fraction"=true↔lk e s=23:=aA ↑1
theorem NR:s.key "from"=true↔lk e s=24:=aA ↑1
theorem sL:s.key "giving"=true↔lk e s=25:=aA ↑1
theorem Bu:s.key "half"=true↔lk e s=26:=aA ↑1
theorem zb:s.key "if"=true↔lk e s=27:=aA ↑1
theorem KA:s.key "in"=true↔lk e s=28:=aA ↑1
theorem m9:s.key "inexact"=true↔lk e s=29:=aA ↑1
theorem jG:s.key "interval"=true↔lk e s=30:=aA ↑1
theorem AW:s.key "into"=true↔lk e s=31:=aA ↑1
theorem mG:s.key "invalid"=true↔lk e s=32:=aA ↑1
theorem N5:s.key "is"=true↔lk e s=33:=aA ↑1
theorem yl:s.key "leave"=true↔lk e s=34:=aA ↑1
theorem yO:s.key "let"=true↔lk e s=35:=aA ↑1
theorem BI:s.key "list"=true↔lk e s=36:=aA ↑1
theorem B_:s.key "make"=true↔lk e s=37:=aA ↑1
theorem vV:s.key "match"=true↔lk e s=38:=aA ↑1
theorem Ib:s.key "module"=true↔lk e s=39:=aA ↑1
theorem nP:s.key "near"=true↔lk e s=40:=aA ↑1
theorem jO:s.key "nearaway"=true↔lk e s=41:=aA ↑1
theorem nD:s.key "nearcut"=true↔lk e s=42:=aA ↑1
theorem Bi:s.key "next"=true↔lk e s=43:=aA ↑1
theorem G9:s.key "not"=true↔lk e s=44:=aA ↑1
theorem Jb:s.key "of"=true↔lk e s=45:=aA ↑1
theorem BH:s.key "only"=true↔lk e s=46:=aA ↑1
theorem QN:s.key "or"=true↔lk e s=47:=aA ↑1
theorem FV:s.key "out"=true↔lk e s=48:=aA ↑1
theorem kg:s.key "overflow"=true↔lk e s=49:=aA ↑1
theorem rW:s.key "packed"=true↔lk e s=50:=aA ↑1
theorem oy:s.key "picture"=true↔lk e s=51:=aA ↑1
theorem AF:s.key "post"=true↔lk e s=52:=aA ↑1
theorem iE:s.key "precision"=true↔lk e s=53:=aA ↑1
theorem wo:s.key "raise"=true↔lk e s=54:=aA ↑1
theorem qB:s.key "record"=true↔lk e s=55:=aA ↑1
theorem qA:s.key "resume"=true↔lk e s=56:=aA ↑1
theorem qD:s.key "return"=true↔lk e s=57:=aA ↑1
theorem jF:s.key "rounding"=true↔lk e s=58:=aA ↑1
theorem Gy:s.key "say"=true↔lk e s=59:=aA ↑1
theorem qC:s.key "single"=true↔lk e s=60:=aA ↑1
theorem xh:s.key "small"=true↔lk e s=61:=aA ↑1
theorem wJ:s.key "spawn"=true↔lk e s=62:=aA ↑1
theorem yh:s.key "stack"=true↔lk e s=63:=aA ↑1
theorem BS:s.key "text"=true↔lk e s=64:=aA ↑1
theorem Ny:s.key "then"=true↔lk e s=65:=aA ↑1
theorem Nd:s.key "to"=true↔lk e s=66:=aA ↑1
theorem AQ:s.key "trap"=true↔lk e s=67:=aA ↑1
theorem B8:s.key "true"=true↔lk e s=68:=aA ↑1
theorem xN:s.key "truth"=true↔lk e s=69:=aA ↑1
theorem Jq:s.key "try"=true↔lk e s=70:=aA ↑1
theorem iV:s.key "underflow"=true↔lk e s=71:=aA ↑1
theorem Eb:s.key "up"=true↔lk e s=72:=aA ↑1
theorem Io:s.key "use"=true↔lk e s=73:=aA ↑1
theorem v8:s.key "value"=true↔lk e s=74:=aA ↑1
theorem xq:s.key "while"=true↔lk e s=75:=aA ↑1
theorem wN:s.key "whole"=true↔lk e s=76:=aA ↑1
theorem Cd:s.key "with"=true↔lk e s=77:=aA ↑1
theorem vR:s.key "yield"=true↔lk e s=78:=aA ↑1
theorem AX:s.key "zero"=true↔lk e s=79:=aA ↑1
theorem ES:s.sign "->"=true↔lk e s=100:=bc (i:=0) ↑1
theorem Q7:s.sign "=="=true↔lk e s=101:=bc (i:=1) ↑1
theorem Qv:s.sign "!="=true↔lk e s=102:=bc (i:=2) ↑1
theorem Qa:s.sign "<="=true↔lk e s=103:=bc (i:=3) ↑1
theorem R3:s.sign ">="=true↔lk e s=104:=bc (i:=4) ↑1
theorem QD:s.sign "//"=true↔lk e s=105:=bc (i:=5) ↑1
theorem Mx:s.sign ".."=true↔lk e s=106:=bc (i:=6) ↑1
theorem kZ:s.sign "("=true↔lk e s=107:=bc (i:=7) ↑1
theorem hX:s.sign ")"=true↔lk e s=108:=bc (i:=8) ↑1
theorem oj:s.sign "["=true↔lk e s=109:=bc (i:=9) ↑1
theorem v_:s.sign "]"=true↔lk e s=110:=bc (i:=10) ↑1
theorem FU:s.sign "{"=true↔lk e s=111:=bc (i:=11) ↑1
theorem Fb:s.sign "}"=true↔lk e s=112:=bc (i:=12) ↑1
theorem eI:s.sign ","=true↔lk e s=113:=bc (i:=13) ↑1
theorem Ec:s.sign ":"=true↔lk e s=114:=bc (i:=14) ↑1
theorem mj:s.sign "."=true↔lk e s=115:=bc (i:=15) ↑1
theorem IB:s.sign "="=true↔lk e s=116:=bc (i:=16) ↑1
theorem Qn:s.sign "<"=true↔lk e s=117:=bc (i:=17) ↑1
theorem RX:s.sign ">"=true↔lk e s=118:=bc (i:=18) ↑1
theorem PX:s.sign "+"=true↔lk e s=119:=bc (i:=19) ↑1
theorem HE:s.sign "-"=true↔lk e s=120:=bc (i:=20) ↑1
theorem P9:s.sign "*"=true↔lk e s=121:=bc (i:=21) ↑1
theorem Ra:s.sign "/"=true↔lk e s=122:=bc (i:=22) ↑1
theorem RF:s.sign "%"=true↔lk e s=123:=bc (i:=23) ↑1
theorem Pj:s.sign "^"=true↔lk e s=124:=bc (i:=24) ↑1
end
theorem cK{e:Bool}(hk:1<=k/\k<=4):(∃t r,s.toks=t::r/\t.kind=k)↔lk e s=199+k:=by
 obtain⟨p,ts⟩:=s;cases ts with
 |nil=>
  refine⟨λ⟨t,r,h,_⟩=>(by cases h),λc=>?_⟩;cases e
  ·have c:204=199+k:=c;omega
  ·have c:205=199+k:=c;omega
 |cons t r=>
  have hl:KEYWORDS.length=80:=↑1
  have hs:SIGNS.length=25:=↑1
  refine⟨λ⟨t',r',h,h2⟩=>?_,λc=>⟨t,r,rfl,?_⟩⟩
  ·obtain⟨rfl,rfl⟩:=List.cons.inj h;show lZ t=_;unfold lZ;rw[if_neg ↑2,if_neg ↑2];split
   ·omega
   split
   ·omega
   split
   ·omega
   split <;> omega
  ·have c:lZ t=199+k:=c;unfold lZ at c;split at c
   ·split at c
    ·rename_i j hj;have:=(List.findIdx?_eq_some_iff_getElem.mp hj).1;omega
    ·omega
   split at c
   ·split at c
    ·rename_i j hj;have:=(List.findIdx?_eq_some_iff_getElem.mp hj).1;omega
    ·omega
   split at c
   ·omega
   split at c
   ·omega
   split at c
   ·omega
   split at c <;> omega
abbrev dA:Nat:=1000
abbrev O2:Nat:=1001
abbrev ib:Nat:=1002
abbrev jn:Nat:=1003
abbrev QQ:Nat:=1004
abbrev Aw:Nat:=1005
abbrev xB:Nat:=1006
abbrev kD:Nat:=1007
abbrev qV:Nat:=1008
abbrev tY:Nat:=1009
abbrev Kj:Nat:=1010
abbrev Ho:Nat:=1011
abbrev kh:Nat:=1012
abbrev Dy:Nat:=1014
abbrev ko:Nat:=1015
abbrev CO:Nat:=1017
abbrev kO:Nat:=1018
abbrev oO:Nat:=1019
abbrev qh:Nat:=1020
abbrev iy:Nat:=1021
abbrev eM:Nat:=1022
abbrev r8:Nat:=1024
abbrev T':Nat:=1025
abbrev wk:Nat:=1026
abbrev Bd:Nat:=1027
abbrev Mf:Nat:=1030
abbrev uy:Nat:=1031
abbrev vQ:Nat:=1032
abbrev FI:Nat:=1033
abbrev zr:Nat:=1034
abbrev D0:Nat:=1035
abbrev EZ:Nat:=1036
abbrev Cn:Nat:=1037
abbrev fV:Nat:=1038
abbrev bM:Nat:=1039
abbrev cE:Nat:=1040
abbrev vx:Nat:=1041
abbrev Jo:Nat:=1042
abbrev B0:Nat:=1043
abbrev EX:Nat:=1044
abbrev jS:Nat:=1045
abbrev Bs:Nat:=1046
abbrev vd:Nat:=1047
abbrev IP:Nat:=1048
abbrev Bk:Nat:=1049
abbrev Rt:Nat:=1050
abbrev BR:Nat:=1051
abbrev Ed:Nat:=1052
abbrev r9:Nat:=1053
abbrev ID:Nat:=1054
abbrev JS:Nat:=1056
abbrev HR:Nat:=1057
abbrev oX:Nat:=1058
abbrev Nt:Nat:=1059
abbrev JE:Nat:=1060
abbrev GG:Nat:=1061
abbrev DS:Nat:=1063
abbrev K4:Nat:=1064
abbrev xS:Nat:=1065
abbrev OK:Nat:=1068
abbrev rN:Nat:=1069
abbrev hJ:Nat:=1070
abbrev uX:Nat:=1071
theorem EH(l:Nat):row 1000 l=aH vA l:=rfl
def zN:=(rfl:row 1000 299=some _)
theorem MO(l:Nat):row 1001 l=aH Gn l:=rfl
def BM:=(rfl:row 1001 73=some _)
def G4:=(rfl:row 1001 299=some _)
theorem iC(l:Nat):row 1002 l=aH iJ l:=rfl
def jQ:=(rfl:row 1002 204=some _)
def gc:=(rfl:row 1002 299=some _)
theorem t5(l:Nat):row 1003 l=aH jj l:=rfl
def lz:=(rfl:row 1003 35=some _)
def iS:=(rfl:row 1003 55=some _)
def hZ:=(rfl:row 1003 0=some _)
def nW:=(rfl:row 1003 21=some _)
theorem Q8(l:Nat):row 1004 l=aH L7 l:=rfl
def Lh:=(rfl:row 1004 299=some _)
theorem zj(l:Nat):row 1005 l=aH oA l:=rfl
def tE:=(rfl:row 1005 114=some _)
def ur:=(rfl:row 1005 299=some _)
theorem yg(l:Nat):row 1006 l=aH kn l:=rfl
def qc:=(rfl:row 1006 109=some _)
def qE:=(rfl:row 1006 299=some _)
theorem wV(l:Nat):row 1007 l=aH lu l:=rfl
def pj:=(rfl:row 1007 113=some _)
def qW:=(rfl:row 1007 299=some _)
theorem yL(l:Nat):row 1008 l=aH zQ l:=rfl
def t9:=(rfl:row 1008 200=some _)
def qJ:=(rfl:row 1008 299=some _)
theorem ua(l:Nat):row 1009 l=aH jr l:=rfl
def mU:=(rfl:row 1009 113=some _)
def pq:=(rfl:row 1009 299=some _)
theorem KO(l:Nat):row 1010 l=aH C7 l:=rfl
def Fc:=(rfl:row 1010 299=some _)
theorem zy(l:Nat):row 1011 l=aH zm l:=rfl
def oY:=(rfl:row 1011 100=some _)
def so:=(rfl:row 1011 299=some _)
theorem Om(l:Nat):row 1012 l=aH GO l:=rfl
def wF:=(rfl:row 1012 76=some _)
def pD:=(rfl:row 1012 23=some _)
def sJ:=(rfl:row 1012 9=some _)
def yJ:=(rfl:row 1012 26=some _)
def ug:=(rfl:row 1012 60=some _)
def uv:=(rfl:row 1012 10=some _)
def pB:=(rfl:row 1012 14=some _)
def pJ:=(rfl:row 1012 30=some _)
def w6:=(rfl:row 1012 69=some _)
def zZ:=(rfl:row 1012 64=some _)
def yx:=(rfl:row 1012 19=some _)
def yi:=(rfl:row 1012 13=some _)
def rO:=(rfl:row 1012 0=some _)
def wI:=(rfl:row 1012 74=some _)
def uB:=(rfl:row 1012 50=some _)
def yQ:=(rfl:row 1012 36=some _)
def wA:=(rfl:row 1012 16=some _)
def Es:=(rfl:row 1012 21=some _)
def zM:=(rfl:row 1012 200=some _)
theorem Fj(l:Nat):row 1013 l=aH uY l:=rfl
def wY:=(rfl:row 1013 45=some _)
def ze:=(rfl:row 1013 299=some _)
theorem Kx(l:Nat):row 1014 l=aH DX l:=rfl
def A9:=(rfl:row 1014 108=some _)
def EM:=(rfl:row 1014 299=some _)
theorem x8(l:Nat):row 1015 l=aH lP l:=rfl
def qd:=(rfl:row 1015 113=some _)
def tI:=(rfl:row 1015 299=some _)
theorem t7(l:Nat):row 1016 l=aH jq l:=rfl
def mE:=(rfl:row 1016 115=some _)
def pT:=(rfl:row 1016 299=some _)
theorem KQ(l:Nat):row 1017 l=aH Cp l:=rfl
def E6:=(rfl:row 1017 299=some _)
theorem vU(l:Nat):row 1018 l=aH lJ l:=rfl
def pO:=(rfl:row 1018 112=some _)
def rj:=(rfl:row 1018 299=some _)
theorem AA(l:Nat):row 1019 l=aH oF l:=rfl
def p_:=(rfl:row 1019 35=some _)
def mq:=(rfl:row 1019 200=some _)
def lW:=(rfl:row 1019 19=some _)
def tU:=(rfl:row 1019 27=some _)
def kz:=(rfl:row 1019 75=some _)
def pL:=(rfl:row 1019 22=some _)
def lK:=(rfl:row 1019 38=some _)
def jP:=(rfl:row 1019 57=some _)
def kx:=(rfl:row 1019 34=some _)
def lA:=(rfl:row 1019 5=some _)
def mQ:=(rfl:row 1019 43=some _)
def mL:=(rfl:row 1019 77=some _)
def pE:=(rfl:row 1019 70=some _)
def lx:=(rfl:row 1019 54=some _)
def qa:=(rfl:row 1019 59=some _)
def km:=(rfl:row 1019 78=some _)
def nQ:=(rfl:row 1019 52=some _)
theorem Kb(l:Nat):row 1020 l=aH DQ l:=rfl
def Ca:=(rfl:row 1020 107=some _)
def AK:=(rfl:row 1020 109=some _)
def Cm:=(rfl:row 1020 115=some _)
def AU:=(rfl:row 1020 116=some _)
theorem rq(l:Nat):row 1021 l=aH h8 l:=rfl
def lN:=(rfl:row 1021 107=some _)
def lC:=(rfl:row 1021 109=some _)
def lB:=(rfl:row 1021 115=some _)
def ny:=(rfl:row 1021 299=some _)
theorem pY(l:Nat):row 1022 l=aH g6 l:=rfl
def h7:=(rfl:row 1022 12=some _)
def ly:=(rfl:row 1022 299=some _)
theorem ue(l:Nat):row 1023 l=aH js l:=rfl
def nM:=(rfl:row 1023 27=some _)
def p7:=(rfl:row 1023 299=some _)
theorem G5(l:Nat):row 1024 l=aH Aa l:=rfl
def Bq:=(rfl:row 1024 299=some _)
theorem TH(l:Nat):row 1025 l=aH Rq l:=rfl
def J4:=(rfl:row 1025 66=some _)
def NI:=(rfl:row 1025 299=some _)
theorem K0(l:Nat):row 1026 l=aH DO l:=rfl
def BG:=(rfl:row 1026 33=some _)
def Fp:=(rfl:row 1026 299=some _)
theorem N9(l:Nat):row 1027 l=aH HA l:=rfl
def yB:=(rfl:row 1027 12=some _)
def Jp:=(rfl:row 1027 299=some _)
theorem yp(l:Nat):row 1028 l=aH k7 l:=rfl
def jT:=(rfl:row 1028 6=some _)
def iG:=(rfl:row 1028 17=some _)
theorem Fo(l:Nat):row 1029 l=aH uV l:=rfl
def fG:=(rfl:row 1029 17=some _)
def Ax:=(rfl:row 1029 299=some _)
theorem Oo(l:Nat):row 1030 l=aH IG l:=rfl
def y_:=(rfl:row 1030 31=some _)
def G6:=(rfl:row 1030 299=some _)
theorem uC(l:Nat):row 1031 l=aH jo l:=rfl
def jw:=(rfl:row 1031 203=some _)
def pW:=(rfl:row 1031 299=some _)
theorem w_(l:Nat):row 1032 l=aH kE l:=rfl
def pR:=(rfl:row 1032 113=some _)
def tq:=(rfl:row 1032 299=some _)
theorem Nh(l:Nat):row 1033 l=aH HS l:=rfl
def p9:=(rfl:row 1033 58=some _)
def l_:=(rfl:row 1033 53=some _)
def yK:=(rfl:row 1033 67=some _)
def ym:=(rfl:row 1033 20=some _)
theorem zE(l:Nat):row 1034 l=aH oJ l:=rfl
def oz:=(rfl:row 1034 40=some _)
def nJ:=(rfl:row 1034 11=some _)
def rH:=(rfl:row 1034 72=some _)
def pA:=(rfl:row 1034 8=some _)
theorem vC(l:Nat):row 1035 l=aH vo l:=rfl
def vI:=(rfl:row 1035 113=some _)
def xQ:=(rfl:row 1035 111=some _)
def oQ:=(rfl:row 1035 299=some _)
theorem EN(l:Nat):row 1036 l=aH uE l:=rfl
def vW:=(rfl:row 1036 28=some _)
def uh:=(rfl:row 1036 48=some _)
def ra:=(rfl:row 1036 4=some _)
theorem O5(l:Nat):row 1037 l=aH IU l:=rfl
def sN:=(rfl:row 1037 32=some _)
def xW:=(rfl:row 1037 61=some _)
def yG:=(rfl:row 1037 79=some _)
def pS:=(rfl:row 1037 49=some _)
def mV:=(rfl:row 1037 71=some _)
def qH:=(rfl:row 1037 29=some _)
def wg:=(rfl:row 1037 63=some _)
theorem uw(l:Nat):row 1038 l=aH jl l:=rfl
def mZ:=(rfl:row 1038 108=some _)
def pK:=(rfl:row 1038 299=some _)
theorem fA(l:Nat):row 1039 l=aH fB l:=rfl
def d_:=(rfl:row 1039 113=some _)
def eD:=(rfl:row 1039 299=some _)
theorem wK(l:Nat):row 1040 l=aH lV l:=rfl
def pH:=(rfl:row 1040 27=some _)
def rB:=(rfl:row 1040 299=some _)
theorem Ee(l:Nat):row 1041 l=aH vc l:=rfl
def xP:=(rfl:row 1041 47=some _)
def zw:=(rfl:row 1041 299=some _)
theorem OQ(l:Nat):row 1042 l=aH GF l:=rfl
def G7:=(rfl:row 1042 299=some _)
theorem BA(l:Nat):row 1043 l=aH qT l:=rfl
def tu:=(rfl:row 1043 1=some _)
def wu:=(rfl:row 1043 299=some _)
theorem D6(l:Nat):row 1044 l=aH uG l:=rfl
def uo:=(rfl:row 1044 44=some _)
def zL:=(rfl:row 1044 299=some _)
theorem Bf(l:Nat):row 1045 l=aH tj l:=rfl
def t6:=(rfl:row 1045 101=some _)
def uz:=(rfl:row 1045 102=some _)
def t8:=(rfl:row 1045 117=some _)
def uu:=(rfl:row 1045 103=some _)
def uA:=(rfl:row 1045 118=some _)
def tW:=(rfl:row 1045 104=some _)
def we:=(rfl:row 1045 299=some _)
theorem OO(l:Nat):row 1046 l=aH Hu l:=rfl
def Gb:=(rfl:row 1046 299=some _)
theorem EB(l:Nat):row 1047 l=aH uM l:=rfl
def xU:=(rfl:row 1047 2=some _)
def zW:=(rfl:row 1047 299=some _)
theorem Hv(l:Nat):row 1048 l=aH Ae l:=rfl
def pX:=(rfl:row 1048 202=some _)
def Ci:=(rfl:row 1048 299=some _)
theorem Ck(l:Nat):row 1049 l=aH rm l:=rfl
def pG:=(rfl:row 1049 40=some _)
def pZ:=(rfl:row 1049 11=some _)
def uk:=(rfl:row 1049 72=some _)
def qY:=(rfl:row 1049 8=some _)
def jf:=(rfl:row 1049 41=some _)
def j9:=(rfl:row 1049 42=some _)
def pQ:=(rfl:row 1049 3=some _)
def ph:=(rfl:row 1049 18=some _)
def xu:=(rfl:row 1049 299=some _)
theorem Ru(l:Nat):row 1050 l=aH LY l:=rfl
def Lb:=(rfl:row 1050 299=some _)
theorem BJ(l:Nat):row 1051 l=aH rR l:=rfl
def uq:=(rfl:row 1051 119=some _)
def um:=(rfl:row 1051 120=some _)
def x':=(rfl:row 1051 299=some _)
theorem Ek(l:Nat):row 1052 l=aH uQ l:=rfl
def zO:=(rfl:row 1052 299=some _)
theorem qN(l:Nat):row 1053 l=aH ia l:=rfl
def kY:=(rfl:row 1053 121=some _)
def kT:=(rfl:row 1053 122=some _)
def kU:=(rfl:row 1053 105=some _)
def kM:=(rfl:row 1053 123=some _)
def mO:=(rfl:row 1053 299=some _)
theorem Ip(l:Nat):row 1054 l=aH Ap l:=rfl
def Ah:=(rfl:row 1054 120=some _)
def sj:=(rfl:row 1054 62=some _)
def px:=(rfl:row 1054 56=some _)
def nz:=(rfl:row 1054 51=some _)
def Cc:=(rfl:row 1054 299=some _)
theorem FY(l:Nat):row 1055 l=aH yF l:=rfl
def pz:=(rfl:row 1055 25=some _)
def BD:=(rfl:row 1055 299=some _)
theorem Kv(l:Nat):row 1056 l=aH CB l:=rfl
def Bp:=(rfl:row 1056 124=some _)
def EL:=(rfl:row 1056 299=some _)
theorem MR(l:Nat):row 1057 l=aH I_ l:=rfl
def Jr:=(rfl:row 1057 299=some _)
theorem y4(l:Nat):row 1058 l=aH oM l:=rfl
def rX:=(rfl:row 1058 107=some _)
def rD:=(rfl:row 1058 109=some _)
def tS:=(rfl:row 1058 115=some _)
def ud:=(rfl:row 1058 299=some _)
theorem G8(l:Nat):row 1059 l=aH Hi l:=rfl
def zV:=(rfl:row 1059 299=some _)
theorem Dt(l:Nat):row 1060 l=aH CU l:=rfl
def vE:=(rfl:row 1060 299=some _)
theorem zd(l:Nat):row 1061 l=aH zJ l:=rfl
def sT:=(rfl:row 1061 299=some _)
theorem Gk(l:Nat):row 1062 l=aH Hf l:=rfl
def zC:=(rfl:row 1062 299=some _)
theorem JR(l:Nat):row 1063 l=aH C1 l:=rfl
def sW:=(rfl:row 1063 202=some _)
def vP:=(rfl:row 1063 203=some _)
def xK:=(rfl:row 1063 68=some _)
def tZ:=(rfl:row 1063 15=some _)
def tX:=(rfl:row 1063 19=some _)
def vY:=(rfl:row 1063 200=some _)
def v9:=(rfl:row 1063 201=some _)
def xG:=(rfl:row 1063 46=some _)
def B3:=(rfl:row 1063 107=some _)
def A1:=(rfl:row 1063 109=some _)
def wx:=(rfl:row 1063 37=some _)
theorem Lc(l:Nat):row 1064 l=aH Ds l:=rfl
def BB:=(rfl:row 1064 108=some _)
def D_:=(rfl:row 1064 299=some _)
theorem xE(l:Nat):row 1065 l=aH lD l:=rfl
def qb:=(rfl:row 1065 113=some _)
def qP:=(rfl:row 1065 299=some _)
theorem HG(l:Nat):row 1066 l=aH y8 l:=rfl
def y':=(rfl:row 1066 110=some _)
def AY:=(rfl:row 1066 299=some _)
theorem uc(l:Nat):row 1067 l=aH jk l:=rfl
def nO:=(rfl:row 1067 106=some _)
def pC:=(rfl:row 1067 299=some _)
theorem O7(l:Nat):row 1068 l=aH FK l:=rfl
def EW:=(rfl:row 1068 115=some _)
def IM:=(rfl:row 1068 299=some _)
theorem rl(l:Nat):row 1069 l=aH qZ l:=rfl
def pN:=(rfl:row 1069 200=some _)
def k8:=(rfl:row 1069 299=some _)
theorem pP(l:Nat):row 1070 l=aH hW l:=rfl
def jU:=(rfl:row 1070 113=some _)
def la:=(rfl:row 1070 299=some _)
theorem Ft(l:Nat):row 1071 l=aH vk l:=rfl
def zl:=(rfl:row 1071 299=some _)
theorem bC{g:List (Nat×List Sym)}{l:Nat}(k:∀y∈g.map (λy=>y.1),y≠l):aH g l=none:=by
 induction g with
 |nil=>rfl
 |cons y g ih=>
  unfold aH;rw[if_neg (λc=>k y.1 (List.mem_cons_self ..) (Nat.eq_of_beq_eq_true c)),ih λx hx=>k x (List.mem_cons_of_mem _ hx)]
theorem DI{w l:Nat}(h:w<1000):row w l=none:=if_neg (by
 intro c;have:=Nat.le_of_ble_eq_true c;omega)
variable{e:Bool}{z:Fault}
theorem Rx(h:n<1000){Q:α->St->List Fr->Prop}(hn:lk e s≠n):Sm e z (.w n::q) s G (.error (bad z s)) Q:=Fs (λc=>hn c.symm) (DI h) (DI h)
theorem Si{t:Tok}{p:Nat}{ts:List Tok}{x:Except Fault α}{Q:α->St->List Fr->Prop}(h1:lZ t=n)(hn:n<1000)(h:Sm e z q ⟨t.halt_,ts⟩ (⟨f,l++lf t⟩::G) x Q):Sm e z (.w n::q) ⟨p,t::ts⟩ (⟨f,l⟩::G) x Q:=by
 have hw:wB (.w n)= -34:=by
  show(if Nat.ble 1000 n=true then BT.getD (n - 1000) 0 else -34)= -34;rw[if_neg (λc=>by have:=Nat.le_of_ble_eq_true c;omega)]
 have hl:len ⟨p,t::ts⟩=len ⟨t.halt_,ts⟩+1:=rfl;refine mS (s0:=⟨t.halt_,ts⟩) 1 ?_ ?_ (λm K o ho=>by show Runs e z (m+1) (.w n::(q++K)) _ _ _;rw[<-h1];exact .pass ho) h
 ·show((1:Nat):Int)+_+bs q<=_+(wB (.w n)+bs q)
  rw[hw,hl];omega
 ·have:=fh (.w n) q;rw[hw] at this;rw[hl];omega
theorem Su(hl:s.is k w=true↔lk e s=n)(hn:n<1000)(hk:k=0\/k=5):
  Sm e z [.w n] s (⟨f,l⟩::G) (eat z (s.is k w) s) λa s' G'=>s'=a/\len a+1=len s/\G'=⟨f,l⟩::G:=by
 by_cases c:s.is k w=true
 ·have h1:=hl.mp c;rw[show eat z (s.is k w) s= .ok s.skip from if_pos c];obtain⟨p,ts⟩:=s;cases ts with
  |nil=>cases c
  |cons t r=>
   have hkind:t.kind=k:=by
    have c:(t.kind==k&&t.bytes==word w)=true:=c;rw[Bool.and_eq_true,beq_iff_eq] at c;exact c.1
   have hlf:lf t=[]:=if_pos (by rw[hkind];exact hk);exact Si h1 hn (mN ⟨rfl,rfl,by rw[hlf,List.append_nil]⟩)
 ·rw[show eat z (s.is k w) s= .error (bad z s) from if_neg c];exact Rx hn (λh=>c (hl.mpr h))
theorem bo{x:Except Fault α}{Q:α->St->List Fr->Prop}(c:s.is k w=true)(hl:s.is k w=true↔lk e s=n)(hk:k=0\/k=5)(h:len s.skip+1=len s->Sm e z q s.skip (⟨f,l⟩::G) x Q):Sm e z (.w n::q) s (⟨f,l⟩::G) x Q:=by
 have h1:=hl.mp c;have hn:n<1000:=by rw[<-h1];exact LN e s
 obtain⟨p,ts⟩:=s;cases ts with
 |nil=>cases c
 |cons t r=>
  have hkind:t.kind=k:=by
   have c:(t.kind==k&&t.bytes==word w)=true:=c;rw[Bool.and_eq_true,beq_iff_eq] at c;exact c.1
  have hlf:lf t=[]:=if_pos (by rw[hkind];exact hk);exact Si h1 hn (by rw[hlf,List.append_nil];exact h rfl)
def Ba(k:Nat)(b:Bytes):Bytes:=if k=4 then long b else short b
theorem Qs(hk:1<=k/\k<=4){t:Tok}(c:t.kind=k):lf t=[.leaf (Ba k t.bytes)]:=by unfold lf Ba;rw[if_neg ↑2,c];split <;> rfl
theorem QW(hk:1<=k/\k<=4):
  Sm e z [.w (199+k)] s (⟨f,l⟩::G) (EwTree.take z k s) λa s' G'=>s'=a.2/\len a.2+1=len s/\G'=⟨f,l++[.leaf (Ba k a.1)]⟩::G:=by
 obtain⟨p,ts⟩:=s;cases ts with
 |nil=>exact Rx (s:=⟨p,[]⟩) ↑2 (λc=>by obtain⟨t,r,h,_⟩:=(cK hk).mpr c;cases h)
 |cons t r=>
  by_cases c:t.kind=k
  ·rw[show EwTree.take z k ⟨p,t::r⟩= .ok (t.bytes,⟨t.halt_,r⟩) from if_pos c];exact Si ((cK (e:=e) (s:=⟨p,t::r⟩) hk).mp ⟨t,r,rfl,c⟩) ↑2 (mN ⟨rfl,rfl,by rw[Qs hk c]⟩)
  ·rw[show EwTree.take z k ⟨p,t::r⟩= .error (2,t.place) from if_neg c];exact Rx (s:=⟨p,t::r⟩) ↑2 (λh=>by
    obtain⟨t',r',h1,h2⟩:=(cK hk).mpr h;obtain⟨rfl,rfl⟩:=List.cons.inj h1;exact c h2)
end
section
def hb:Fm->Nat->Bytes
 | .kind k _,_=>kind k
 | .row _,_=>[]
 | .count _,n=>count n
 | .set _,_=>[]
def yt(m:Mark):Mark×Bool:=(m,true)
def hk:Fm->St->List (Mark×Bool)->List (Mark×Bool)
 | .kind k b,s,m=>(⟨k,b.here,s.last,m.length+1⟩,decide (len s<len b))::m
 | .row _,_,m=>m
 | .count _,_,m=>m
 | .set _,_,m=>m
mutual
def yb:Pt->Bytes
 | .leaf b=>b
 | .aY f _ l=>hb f l.length++cJ l
def cJ:List Pt->Bytes
 |[]=>[]
 |p::r=>yb p++cJ r
end
mutual
def yk:Pt->List (Mark×Bool)
 | .leaf _=>[]
 | .aY f s l=>hk f s (cy l)
def cy:List Pt->List (Mark×Bool)
 |[]=>[]
 |p::r=>yk p++cy r
end
theorem s_{a:Nat}{b:St}{ps:List Pt}{m:List Mark}(h:cy ps=m.map yt)(hl:len s<len b)(ha:b.here=a):yk (.aY (.kind k b) s ps)=(marked k a s m).map yt:=by show(_,decide (len s<len b))::cy ps=_;rw[h,decide_eq_true hl,List.length_map,ha];rfl
theorem iY:∀(l:List Pt)(p:Pt),cJ (l++[p])=cJ l++yb p
 |[],p=>by simp only[List.nil_append,cJ,List.append_nil]
 |q::l,p=>by simp only[List.cons_append,cJ,iY l p,List.append_assoc]
theorem ig:∀(l:List Pt)(p:Pt),cy (l++[p])=cy l++yk p
 |[],p=>by simp only[List.nil_append,cy,List.append_nil]
 |q::l,p=>by simp only[List.cons_append,cy,ig l p,List.append_assoc]
theorem vn:∀(l r:List Pt),cJ (l++r)=cJ l++cJ r
 |[],r=>rfl
 |q::l,r=>by simp only[List.cons_append,cJ,vn l r,List.append_assoc]
theorem u5:∀(l r:List Pt),cy (l++r)=cy l++cy r
 |[],r=>rfl
 |q::l,r=>by simp only[List.cons_append,cy,u5 l r,List.append_assoc]
section
variable{e:Bool}{z:Fault}{α β:Type}{s:St}{f:Fm}{l:List Pt}{G:List Fr}
def PP(B:α->Bytes)(s:St)(f:Fm)(l:List Pt)(G:List Fr)(a:α×List Mark×St)(s':St)(G':List Fr):Prop:=s'=a.2.2/\len a.2.2<len s/\∃p,G'=⟨f,l++[p]⟩::G/\yb p=B a.1/\yk p=a.2.1.map yt/\∀b,st p b=s
theorem cV{g:St->Except Fault β}{R:β->St->List Fr->Prop}(hl:s.is k w=true↔lk e s=n)(hn:n<1000)(hk:k=0\/k=5)(h:∀s1,len s1+1=len s->Sm e z q s1 (⟨f,l⟩::G) (g s1) R):Sm e z (.w n::q) s (⟨f,l⟩::G) (eat z (s.is k w) s>>=g) R:=
 mC (Su hl hn hk) λa s' G' ⟨h1,h2,h3⟩=>by subst h1 h3;exact h _ h2
theorem cN{g:Bytes×St->Except Fault β}{R:β->St->List Fr->Prop}(hk:1<=k/\k<=4)(h:∀a:Bytes×St,len a.2+1=len s->Sm e z q a.2 (⟨f,l++[.leaf (Ba k a.1)]⟩::G) (g a) R):Sm e z (.w (199+k)::q) s (⟨f,l⟩::G) (EwTree.take z k s>>=g) R:=
 mC (QW hk) λa s' G' ⟨h1,h2,h3⟩=>by subst h1 h3;exact h _ h2
theorem cP{y:Sym}{B:α->Bytes}{x:Except Fault (α×List Mark×St)}{g:α×List Mark×St->Except Fault β}{R:β->St->List Fr->Prop}(hx:Sm e z [y] s (⟨f,l⟩::G) x (PP B s f l G))(h:∀(a:α×List Mark×St)(p:Pt),len a.2.2<len s->yb p=B a.1->yk p=a.2.1.map yt->(∀b,st p b=s)->Sm e z q a.2.2 (⟨f,l++[p]⟩::G) (g a) R):Sm e z (y::q) s (⟨f,l⟩::G) (x>>=g) R:=
 mC hx λa s' G' ⟨h1,h2,p,h3,h4,h5,h6⟩=>by subst h1 h3;exact h a p h2 h4 h5 h6
theorem aX{B:α->Bytes}{a:Nat}{b:St}{ps:List Pt}{x:α}{m:List Mark}{s0:St}(hb:kind k++cJ ps=B x)(hm:cy ps=m.map yt)(hl:len s<len s0)(h0:b=s0:=by rfl)(ha:s0.here=a:=by rfl):Sm e z [.fin] s (⟨.kind k b,ps⟩::⟨f,l⟩::G) (.ok (x,marked k a s m,s)) (PP B s0 f l G):=
 Dz nofun (mN ⟨rfl,hl,.aY (.kind k b) s ps,rfl,hb,s_ hm (by rw[h0];exact hl) (by rw[h0];exact ha),λ_=>h0⟩)
end
variable{e:Bool}{z:Fault}
def MX(s:St)(ps:List Pt)(f:Fm)(l:List Pt)(G:List Fr)(a:List Srt×List Mark×St)(s':St)(G':List Fr):Prop:=s'=a.2.2/\len a.2.2<len s/\∃qs b h,G'=⟨f,l++[.aY (.count b) h (ps++qs)]⟩::G/\qs.length=a.1.length/\cJ qs=srtsBytes a.1/\cy qs=a.2.1.map yt
def Sn(e:Bool)(z:Fault)(fu:Nat):Prop:=(∀s f l G,2*len s+1<=fu->Sm e z [.w kh] s (⟨f,l⟩::G) (sortIn z fu s) (PP Srt.bytes s f l G))/\
 (∀s c ps f l G,2*len s+2<=fu->Sm e z [.w kh,.w ko,.fin,.w 108] s (⟨.count c,ps⟩::⟨f,l⟩::G) (sortsIn z fu s) (MX s ps f l G))
theorem eW{L:List String}(h:oneOf L s=some k)(hw:L[k]?=some w):s.key w=true:=by unfold oneOf at h;obtain⟨h1,h2,_⟩:=List.findIdx?_eq_some_iff_getElem.mp h;rw[List.getElem?_eq_getElem h1] at hw;rw[<-Option.some.inj hw];exact h2
theorem iI{L:List String}(h:oneOf L s=none):∀w∈L,¬s.key w=true:=by intro w hw c;have:=List.findIdx?_eq_none_iff.mp h w hw;rw[c] at this;cases this
theorem J0(h:oneOf BASIC s=some k):Sm e z [.w kh] s (⟨f,l⟩::G) (.ok (.basic (k+1),marked (k+1) s.here s.skip [],s.skip)) (PP Srt.bytes s f l G):=by
 have hk:k<14:=eE h;have hw:=λw=>eW h (w:=w);clear h
 match k,hk,hw with
 |0,_,hw=>exact have h:=hw "whole" rfl;mX wF (wN.mp h) ↑0 (bJ (bo h wN (.inl rfl) λhl=>aX rfl rfl ↑2))
 |1,_,hw=>exact have h:=hw "fraction" rfl;mX pD (jL.mp h) ↑0 (bJ (bo h jL (.inl rfl) λhl=>aX rfl rfl ↑2))
 |2,_,hw=>exact have h:=hw "decimal" rfl;mX sJ (mK.mp h) ↑0 (bJ (bo h mK (.inl rfl) λhl=>aX rfl rfl ↑2))
 |3,_,hw=>exact have h:=hw "half" rfl;mX yJ (Bu.mp h) ↑0 (bJ (bo h Bu (.inl rfl) λhl=>aX rfl rfl ↑2))
 |4,_,hw=>exact have h:=hw "single" rfl;mX ug (qC.mp h) ↑0 (bJ (bo h qC (.inl rfl) λhl=>aX rfl rfl ↑2))
 |5,_,hw=>exact have h:=hw "double" rfl;mX uv (sA.mp h) ↑0 (bJ (bo h sA (.inl rfl) λhl=>aX rfl rfl ↑2))
 |6,_,hw=>exact have h:=hw "extended" rfl;mX pB (j8.mp h) ↑0 (bJ (bo h j8 (.inl rfl) λhl=>aX rfl rfl ↑2))
 |7,_,hw=>exact have h:=hw "interval" rfl;mX pJ (jG.mp h) ↑0 (bJ (bo h jG (.inl rfl) λhl=>aX rfl rfl ↑2))
 |8,_,hw=>exact have h:=hw "truth" rfl;mX w6 (xN.mp h) ↑0 (bJ (bo h xN (.inl rfl) λhl=>aX rfl rfl ↑2))
 |9,_,hw=>exact have h:=hw "text" rfl;mX zZ (BS.mp h) ↑0 (bJ (bo h BS (.inl rfl) λhl=>aX rfl rfl ↑2))
 |10,_,hw=>exact have h:=hw "flags" rfl;mX yx (eV.mp h) ↑0 (bJ (bo h eV (.inl rfl) λhl=>aX rfl rfl ↑2))
 |11,_,hw=>exact have h:=hw "error" rfl;mX yi (yj.mp h) ↑0 (bJ (bo h yj (.inl rfl) λhl=>aX rfl rfl ↑2))
 |12,_,hw=>exact have h:=hw "account" rfl;mX rO (fg.mp h) ↑0 (bJ (bo h fg (.inl rfl) λhl=>aX rfl rfl ↑2))
 |13,_,hw=>exact have h:=hw "value" rfl;mX wI (v8.mp h) ↑0 (bJ (bo h v8 (.inl rfl) λhl=>aX rfl rfl ↑2))
theorem qw(hk:1<=k/\k<=4)(h:lk e s≠199+k):EwTree.take z k s= .error (bad z s):=by
 obtain⟨p,ts⟩:=s;cases ts with
 |nil=>rfl
 |cons t r=>
  refine if_neg λc=>h ?_;exact(cK hk).mp ⟨t,r,rfl,c⟩
theorem aI{P:α->Prop}{a:α}{l:List α}(h:P a)(k:∀x∈l,P x):∀x∈a::l,P x:=all_cons h k
theorem OY(i:Sn e z fu)(hf:2*len s+2<=fu):
  Sm e z [.bg .count,.w Dy,.fin,.w 108] s (⟨f,l⟩::G) (if s.sign ")"=true then(.ok ([],[],s.skip):Except Fault ((List Srt)×List Mark×St)) else sortsIn z fu s) (MX s [] f l G):=by
 refine bJ ?_;by_cases c:s.sign ")"=true
 ·exact mT c (mX A9 (hX.mp c) ↑0 (Dz nofun (bo c hX (.inr rfl) λhl=>mN ⟨rfl,by dsimp only;omega,[],_,_,rfl,rfl,rfl,rfl⟩)))
 ·exact mF c (Pp EM ((Kx _).trans (bC (aI (λh=>c (hX.mpr h.symm)) (aI sg all_nil)))) ↑0 (i.2 s _ [] f l G hf))
theorem JD(i:Sn e z fu)(s:St)(f:Fm)(l:List Pt)(G:List Fr)(hf:2*len s+1<=fu+1):Sm e z [.w kh] s (⟨f,l⟩::G) (sortIn z (fu+1) s) (PP Srt.bytes s f l G):=by
 unfold sortIn;dsimp only;split
 ·rename_i k hk;exact J0 hk
 rename_i hno;have hno:=iI hno;by_cases c1:s.key "packed"=true
 ·refine mT c1 (mX uB (rW.mp c1) ↑0 (bJ (bo c1 rW (.inl rfl) λhl=>cN (k:=3) ↑0 λa ha=>aX ?_ rfl ↑2)));show kind 15++(short a.1++[])=kind 15++short a.1;rw[List.append_nil]
 refine mF c1 ?_;by_cases c2:s.key "list"=true
 ·refine mT c2 (mX yQ (BI.mp c2) ↑0 (bJ (bo c2 BI (.inl rfl) λhl=>cV Jb ↑0 (.inl rfl) λs1 h1=>cP (i.1 _ _ _ _ ↑2) λa p h2 hb hk zp=>aX ?_ ?_ ↑2)))
  ·show kind 16++(yb p++[])=kind 16++a.1.bytes;rw[List.append_nil,hb]
  ·show yk p++[]=_;rw[List.append_nil,hk]
 refine mF c2 ?_;by_cases c3:s.key "fibre"=true
 ·refine mT c3 (mX wA (yu.mp c3) ↑0 (bJ (bo c3 yu (.inl rfl) λhl=>?_)));by_cases c4:s.skip.key "of"=true
  ·refine mT c4 (mX wY (Jb.mp c4) ↑0 (bo c4 Jb (.inl rfl) λhl2=>d9 (cP (i.1 _ _ _ _ ↑2) λa p h2 hb hk zp=>aX ?_ ?_ ↑2)))
   ·show kind 17++([1]++(yb p++[]))=[17,1]++a.1.bytes;rw[List.append_nil,hb];rfl
   ·show[]++(yk p++[])=_;rw[List.append_nil,hk];rfl
  ·exact mF c4 (Pp ze ((Fj _).trans (bC (aI (λc=>c4 (Jb.mpr c.symm)) (aI sg all_nil)))) ↑0 (d9 (aX rfl rfl ↑2)))
 refine mF c3 ?_;by_cases c5:s.key "fn"=true
 ·refine mT c5 (mX Es (EO.mp c5) ↑0 (bJ (bo c5 EO (.inl rfl) λhl=>cV kZ ↑0 (.inr rfl) λs1 h1=>mB (r:=[.bg .count,.w Dy,.fin,.w 108]) (OY i ↑2) λa s2 G2 ⟨e1,e2,qs,cb,ch,e3,e4,e5,e6⟩=>?_)));subst e1 e3;by_cases c6:a.2.2.sign "->"=true
  ·refine mT c6 (mX oY (ES.mp c6) ↑0 (bo c6 ES (.inr rfl) λhl2=>d9 (cP (i.1 _ _ _ _ ↑2) λb p h2 hb hk zp=>aX ?_ ?_ ↑2)))
   ·show kind 18++((count qs.length++cJ qs)++([1]++(yb p++[])))=kind 18++(count a.1.length++(srtsBytes a.1++(1::b.1.bytes)));rw[List.append_nil,hb,e4,e5,List.append_assoc];rfl
   ·show([]++cy qs)++([]++(yk p++[]))=_;rw[List.append_nil,hk,List.map_append,e6];rfl
  ·refine mF c6 (Pp so ((zy _).trans (bC (aI (λc=>c6 (ES.mpr c.symm)) (aI sg all_nil)))) ↑0 (d9 (aX ?_ ?_ ↑2)))
   ·show kind 18++((count qs.length++cJ qs)++([0]++[]))=kind 18++(count a.1.length++(srtsBytes a.1++[0]));rw[e4,e5,List.append_assoc];rfl
   ·show([]++cy qs)++([]++[])=_;rw[<-e6];simp
 refine mF c5 ?_;by_cases c7:lk e s=200
 ·refine mX zM c7 ↑0 (bJ (cN (k:=1) ↑0 λa ha=>?_));by_cases c8:a.2.sign "."=true
  ·refine mT c8 (mX mE (mj.mp c8) ↑0 (Ul (bo c8 mj (.inr rfl) λhl2=>cN (k:=1) ↑0 λb hb=>aX ?_ rfl ↑2)));show kind 20++(short a.1++(short b.1++[]))=_;rw[List.append_nil];rfl
  ·refine mF c8 (Pp pT ((t7 _).trans (bC (aI (λc=>c8 (mj.mpr c.symm)) (aI sg all_nil)))) ↑0 (aX ?_ rfl ↑2));show kind 19++(short a.1++[])=_;rw[List.append_nil];rfl
 ·rw[qw (e:=e) (k:=1) ↑0 c7];have hr:row kh (lk e s)=none:=(Om _).trans (bC (aI (λc=>hno "whole" ↑0 (wN.mpr c.symm)) (aI (λc=>hno "fraction" ↑0 (jL.mpr c.symm)) (aI (λc=>hno "decimal" ↑0 (mK.mpr c.symm)) (aI (λc=>hno "half" ↑0 (Bu.mpr c.symm)) (aI (λc=>hno "single" ↑0 (qC.mpr c.symm)) (aI (λc=>hno "double" ↑0 (sA.mpr c.symm)) (aI (λc=>hno "extended" ↑0 (j8.mpr c.symm)) (aI (λc=>hno "interval" ↑0 (jG.mpr c.symm)) (aI (λc=>hno "truth" ↑0 (xN.mpr c.symm)) (aI (λc=>hno "text" ↑0 (BS.mpr c.symm)) (aI (λc=>hno "flags" ↑0 (eV.mpr c.symm)) (aI (λc=>hno "error" ↑0 (yj.mpr c.symm)) (aI (λc=>hno "account" ↑0 (fg.mpr c.symm)) (aI (λc=>hno "value" ↑0 (v8.mpr c.symm)) (aI (λc=>c1 (rW.mpr c.symm)) (aI (λc=>c2 (BI.mpr c.symm)) (aI (λc=>c3 (yu.mpr c.symm)) (aI (λc=>c5 (EO.mpr c.symm)) (aI (λc=>c7 c.symm) all_nil))))))))))))))))))));exact Fs (nt ↑0) hr rfl
theorem KL(i:Sn e z fu)(s c:St)(ps:List Pt)(f:Fm)(l:List Pt)(G:List Fr)(hf:2*len s+2<=fu+1):Sm e z [.w kh,.w ko,.fin,.w 108] s (⟨.count c,ps⟩::⟨f,l⟩::G) (sortsIn z (fu+1) s) (MX s ps f l G):=by
 unfold sortsIn;refine cP (i.1 _ _ _ _ ↑2) λa p h2 hb hk zp=>?_;by_cases c:a.2.2.sign ","=true
 ·refine mT c (mX qd (eI.mp c) ↑0 (bo c eI (.inr rfl) λhl=>mB (q:=[]) (i.2 _ _ (ps++[p]) f l G ↑2) λb s2 G2 ⟨e1,e2,qs,cb,ch,e3,e4,e5,e6⟩=>?_));subst e1 e3;refine mN ⟨rfl,by show len b.2.2<len s;omega,p::qs,_,_,by rw[List.append_assoc];rfl,by show qs.length+1=b.1.length+1;rw[e4],?_,?_⟩
  ·show yb p++cJ qs=a.1.bytes++srtsBytes b.1;rw[hb,e5]
  ·show yk p++cy qs=_;rw[hk,e6,List.map_append]
 ·refine mF c (Pp tI ((x8 _).trans (bC (aI (λh=>c (eI.mpr h.symm)) (aI sg all_nil)))) ↑0 (Dz nofun (cV hX ↑0 (.inr rfl) λs2 h3=>mN ⟨rfl,by dsimp only;omega,[p],_,_,rfl,rfl,?_,?_⟩)))
  ·show yb p++[]=a.1.bytes++[];rw[hb]
  ·show yk p++[]=_;rw[hk,List.append_nil]
theorem wL(e:Bool)(z:Fault):∀fu,Sn e z fu
 |0=>⟨λs f l G h=>↑2,λs c ps f l G h=>↑2⟩
 |fu+1=>⟨JD (wL e z fu),KL (wL e z fu)⟩
end
section
variable{e:Bool}{z:Fault}
theorem ie{c:String}(hc:c≠""):∀fu s,exprsIn z c fu s=exprsIn z "" fu s>>=λr=>eat z (r.2.2.sign c) r.2.2>>=λs'=>.ok (r.1,r.2.1,s')
 |0,s=>rfl
 |fu+1,s=>by
  unfold exprsIn;cases h:exprIn z fu 0 s with
  |error er=>rfl
  |ok a=>
   show(if a.2.2.sign ","=true then _ else _)=(if a.2.2.sign ","=true then _ else _)>>=_;by_cases c1:a.2.2.sign ","=true
   ·rw[if_pos c1,if_pos c1,ie hc fu];cases exprsIn z "" fu a.2.2.skip with
    |error er=>rfl
    |ok b=>
     show(eat z (b.2.2.sign c) b.2.2>>=λs'=>Except.ok (b.1,b.2.1,s'))>>=_=eat z (b.2.2.sign c) b.2.2>>=_;cases eat z (b.2.2.sign c) b.2.2 <;> rfl
   ·rw[if_neg c1,if_neg c1,if_neg hc,if_pos rfl];rfl
def PQ{α:Type}(B:α->Bytes)(s0 s:St)(f:Fm)(l:List Pt)(G:List Fr)(a:α×List Mark×St)(s':St)(G':List Fr):Prop:=s'=a.2.2/\len a.2.2<=len s/\∃p,G'=⟨f,l++[p]⟩::G/\yb p=B a.1/\yk p=a.2.1.map yt/\∀b,st p b=s0
def Ui(s:St)(f:Fm)(l:List Pt)(G:List Fr)(a:List Expr×List Mark×St)(s':St)(G':List Fr):Prop:=s'=a.2.2/\len a.2.2<len s/\∃qs,G'=⟨f,l++qs⟩::G/\qs.length=a.1.length/\cJ qs=(exprsBytes a.1).flatten/\cy qs=a.2.1.map yt
def Uq(s:St)(f:Fm)(l:List Pt)(G:List Fr)(a:List (Bytes×Expr)×List Mark×St)(s':St)(G':List Fr):Prop:=s'=a.2.2/\len a.2.2<len s/\∃qs c h,G'=⟨f,l++[.aY (.count c) h qs]⟩::G/\qs.length=a.1.length/\cJ qs=woven (a.1.map λ(x:Bytes×Expr)=>x.1) (exprsBytes (a.1.map λ(x:Bytes×Expr)=>x.2))/\cy qs=a.2.1.map yt
def NQ:Nat->List Sym
 |0=>[.w cE]
 |1=>[.w Jo,.w vx]
 |2=>[.w Jo]
 |3=>[.w EX]
 |4=>[.w Bs,.w jS]
 |5=>[.w Bs]
 |6=>[.w Rt]
 |7=>[.w Ed]
 |8=>[.w ID]
 |9=>[.w HR,.w JS]
 |10=>[.w HR]
 |_=>[.w DS]
def HC:Nat->Nat
 |1=>vx
 |2=>B0
 |6=>BR
 |_=>r9
structure FD(e:Bool)(z:Fault)(fu:Nat):Prop where
 ex:∀L s f l G,L<=11->24*len s+13<=fu+L->Sm e z (NQ L) s (⟨f,l⟩::G) (exprIn z fu L s) (PP Expr.bytes s f l G)
 mo:∀L a x m p s0 s f l G,(L=1\/L=2\/L=6\/L=7)->24*len s+14<=fu->yb p=Expr.bytes x->yk p=m.map yt->(∀b,st p b=s0)->s0.here=a->len s<len s0->Sm e z [.w (HC L)] s (⟨f,l++[p]⟩::G) (moreIn z fu L a x m s) (PQ Expr.bytes s0 s f l G)
 ca:∀a x m p s0 s f l G,24*len s+14<=fu->yb p=Expr.bytes x->yk p=m.map yt->(∀b,st p b=s0)->s0.here=a->len s<len s0->Sm e z [.w vd] s (⟨f,l++[p]⟩::G) (castIn z fu a x m s) (PQ Expr.bytes s0 s f l G)
 po:∀a x m p s0 s f l G,24*len s+14<=fu->yb p=Expr.bytes x->yk p=m.map yt->(∀b,st p b=s0)->s0.here=a->len s<len s0->Sm e z [.w oX] s (⟨f,l++[p]⟩::G) (postIn z fu a x m s) (PQ Expr.bytes s0 s f l G)
 li:∀s f l G,24*len s+14<=fu->Sm e z [.w cE,.w bM] s (⟨f,l⟩::G) (exprsIn z "" fu s) (Ui s f l G)
 fi:∀s cc ps f l G,24*len s+14<=fu->Sm e z [.w uX,.w hJ,.fin,.w 108] s (⟨.count cc,ps⟩::⟨f,l⟩::G) (fieldsIn z fu s) λa s' G'=>s'=a.2.2/\len a.2.2<len s/\∃qs c h,G'=⟨f,l++[.aY (.count c) h (ps++qs)]⟩::G/\qs.length=a.1.length/\cJ qs=woven (a.1.map λ(x:Bytes×Expr)=>x.1) (exprsBytes (a.1.map λ(x:Bytes×Expr)=>x.2))/\cy qs=a.2.1.map yt
theorem mD{g:List (Nat×List Sym)}{x:Except Fault α}{Q:α->St->List Fr->Prop}(h2:row n 299=some r)(hg:∀l,row n l=aH g l)(h:∀y∈g.map (λy=>y.1),y≠lk e s)(h0:1000<=n)(k:Sm e z (r++q) s G x Q):Sm e z (.w n::q) s G x Q:=Pp h2 ((hg _).trans (bC h)) h0 k
theorem d1{a:Nat}(h:a≠lk e s):∀y∈[a,299],y≠lk e s:=aI h (aI sg all_nil)
theorem d0:∀y∈[299],y≠lk e s:=aI sg all_nil
theorem xl(i:FD e z fu)(s:St)(f:Fm)(l:List Pt)(G:List Fr)(hf:24*len s+14<=fu+1):Sm e z [.w cE,.w bM] s (⟨f,l⟩::G) (exprsIn z "" (fu+1) s) (Ui s f l G):=by
 unfold exprsIn;refine cP (i.ex 0 s f l G ↑0 ↑2) λa p h2 hb hk zp=>?_;by_cases c:a.2.2.sign ","=true
 ·refine mT c (mX d_ (eI.mp c) ↑0 (bo c eI (.inr rfl) λhl=>mB (q:=[]) (i.li a.2.2.skip f (l++[p]) G ↑2) λb s2 G2 ⟨e1,e2,qs,e3,e4,e5,e6⟩=>?_));subst e1 e3;refine mN ⟨rfl,by show len b.2.2<len s;omega,p::qs,by rw[List.append_assoc];rfl,by show qs.length+1=b.1.length+1;rw[e4],?_,?_⟩
  ·show yb p++cJ qs=a.1.bytes++(exprsBytes b.1).flatten;rw[hb,e5]
  ·show yk p++cy qs=_;rw[hk,e6,List.map_append]
 ·refine mF c (mT rfl (mD eD fA (d1 λh=>c (eI.mpr h.symm)) ↑0 (mN ⟨rfl,by show len a.2.2<len s;omega,[p],rfl,rfl,?_,?_⟩)))
  ·show yb p++[]=a.1.bytes++[];rw[hb]
  ·show yk p++[]=_;rw[hk,List.append_nil]
theorem xf(i:FD e z fu)(s cc:St)(ps:List Pt)(f:Fm)(l:List Pt)(G:List Fr)(hf:24*len s+14<=fu+1):Sm e z [.w uX,.w hJ,.fin,.w 108] s (⟨.count cc,ps⟩::⟨f,l⟩::G) (fieldsIn z (fu+1) s) λa s' G'=>s'=a.2.2/\len a.2.2<len s/\∃qs c h,G'=⟨f,l++[.aY (.count c) h (ps++qs)]⟩::G/\qs.length=a.1.length/\cJ qs=woven (a.1.map λ(x:Bytes×Expr)=>x.1) (exprsBytes (a.1.map λ(x:Bytes×Expr)=>x.2))/\cy qs=a.2.1.map yt:=by
 unfold fieldsIn;refine mD zl Ft d0 ↑0 (bJ (cN (k:=1) ↑0 λn hn=>cV Ec ↑0 (.inr rfl) λs1 h1=>cP (i.ex 0 s1 _ _ _ ↑0 ↑2) λa p h2 hb hk zp=>Dz nofun ?_));have e1:yb (done (.row s) a.2.2 ([]++[.leaf (Ba 1 n.1)]++[p]))=short n.1++a.1.bytes:=by
  show[]++(short n.1++(yb p++[]))=_;rw[List.append_nil,hb];rfl
 have e2:yk (done (.row s) a.2.2 ([]++[.leaf (Ba 1 n.1)]++[p]))=a.2.1.map yt:=by
  show[]++(yk p++[])=_;rw[List.append_nil,hk];rfl
 show Sm e z _ _ (⟨.count cc,ps++[done (.row s) a.2.2 ([]++[.leaf (Ba 1 n.1)]++[p])]⟩::_) _ _;generalize done (.row s) a.2.2 ([]++[.leaf (Ba 1 n.1)]++[p])=q at e1 e2;by_cases c:a.2.2.sign ","=true
 ·refine mT c (mX jU (eI.mp c) ↑0 (bo c eI (.inr rfl) λhl=>mB (q:=[]) (i.fi a.2.2.skip cc (ps++[q]) f l G ↑2) λb s2 G2 ⟨f1,f2,qs,cb,ch,f3,f4,f5,f6⟩=>?_));subst f1 f3;refine mN ⟨rfl,by show len b.2.2<len s;omega,q::qs,_,_,by rw[List.append_assoc];rfl,by show qs.length+1=b.1.length+1;rw[f4],?_,?_⟩
  ·show yb q++cJ qs=short n.1++(a.1.bytes++woven (b.1.map _) (exprsBytes (b.1.map _)));rw[e1,f5,List.append_assoc]
  ·show yk q++cy qs=_;rw[e2,f6,List.map_append]
 ·refine mF c (mD la pP (d1 λh=>c (eI.mpr h.symm)) ↑0 (Dz nofun (cV hX ↑0 (.inr rfl) λs2 h3=>mN ⟨rfl,by show len s2<len s;omega,[q],_,_,rfl,rfl,?_,?_⟩)))
  ·show yb q++[]=short n.1++(a.1.bytes++[]);rw[e1,List.append_nil,List.append_nil]
  ·show yk q++[]=_;rw[e2,List.append_nil]
theorem Ie(i:FD e z fu)(hf:24*len s+14<=fu):Sm e z [.bg .count,.w fV,.fin,.w 108] s (⟨f,l⟩::G) (if s.sign ")"=true then(.ok ([],[],s.skip):Except Fault ((List Expr)×List Mark×St)) else exprsIn z ")" fu s)
  λa s' G'=>s'=a.2.2/\len a.2.2<len s/\∃qs c h,G'=⟨f,l++[.aY (.count c) h qs]⟩::G/\qs.length=a.1.length/\cJ qs=(exprsBytes a.1).flatten/\cy qs=a.2.1.map yt:=by
 refine bJ ?_;by_cases c:s.sign ")"=true
 ·exact mT c (mX mZ (hX.mp c) ↑0 (Dz nofun (bo c hX (.inr rfl) λhl=>mN ⟨rfl,by show len s.skip<len s;omega,[],_,_,rfl,rfl,rfl,rfl⟩)))
 ·refine mF c (mD pK uw (d1 λh=>c (hX.mpr h.symm)) ↑0 ?_);rw[ie ↑0];refine mB (r:=[.w cE,.w bM]) (i.li s _ _ _ hf) λa s2 G2 ⟨e1,e2,qs,e3,e4,e5,e6⟩=>?_;subst e1 e3;exact Dz nofun (cV hX ↑0 (.inr rfl) λs3 h3=>mN ⟨rfl,by show len s3<len s;omega,qs,_,_,rfl,e4,e5,e6⟩)
theorem cO{h:Fm}{q:List Pt}{x:Except Fault α}{Q:α->St->List Fr->Prop}(hf:f.isSet=false)(hh:Sm e z r s (⟨h,q++[.aY f s l]⟩::G) x Q):Sm e z (.fin::r) s (⟨f,l⟩::⟨h,q⟩::G) x Q:=Dz (by rw[hf];nofun) (by rw[show done f s l= .aY f s l by unfold done;rw[hf]];exact hh)
theorem uJ{B:α->Bytes}{s0:St}(h:len s<len s0):∀(a:α×List Mark×St) s' G',PQ B s0 s f l G a s' G'->PP B s0 f l G a s' G':=λa s' G' ⟨h1,h2,h3⟩=>⟨h1,↑2,h3⟩
theorem Ao{B:α->Bytes}{s1 s0:St}(h:len s<=len s1):∀(a:α×List Mark×St) s' G',PQ B s0 s f l G a s' G'->PQ B s0 s1 f l G a s' G':=λa s' G' ⟨h1,h2,h3⟩=>⟨h1,↑2,h3⟩
theorem xp(i:FD e z fu)(a:Nat)(x:Expr)(m:List Mark)(p:Pt)(s0 s:St)(f:Fm)(l:List Pt)(G:List Fr)(hf:24*len s+14<=fu+1)(hb:yb p=Expr.bytes x)(hk:yk p=m.map yt)(hs:∀b,st p b=s0)(ha:s0.here=a)(h0:len s<len s0):Sm e z [.w oX] s (⟨f,l++[p]⟩::G) (postIn z (fu+1) a x m s) (PQ Expr.bytes s0 s f l G):=by
 unfold postIn;by_cases c1:s.sign "("=true
 ·refine mT c1 (mX rX (kZ.mp c1) ↑0 (mD zV G8 d0 ↑0 (bJ (A8 (bo c1 kZ (.inr rfl) λhl=>mB (r:=[.bg .count,.w fV,.fin,.w 108]) (Ie i ↑2) λb s2 G2 ⟨e1,e2,qs,cb,ch,e3,e4,e5,e6⟩=>?_)))));subst e1 e3;refine cO rfl (mW (i.po a (.call x b.1) _ _ s0 b.2.2 f l G ↑2 ?_ (s_ ?_ (by rw[hs];omega) (by rw[hs];exact ha)) (λ_=>hs _) ha ↑2) (Ao ↑2))
  ·show kind 43++(yb p++((count qs.length++cJ qs)++[]))=kind 43++(x.bytes++(count b.1.length++(exprsBytes b.1).flatten));rw[hb,e4,e5,List.append_nil]
  ·show yk p++(cy qs++[])=_;rw[hk,e6,List.append_nil,List.map_append]
 refine mF c1 ?_;by_cases c2:s.sign "["=true
 ·refine mT c2 (mX rD (oj.mp c2) ↑0 (mD vE Dt d0 ↑0 (bJ (A8 (bo c2 oj (.inr rfl) λhl=>cP (i.ex 0 s.skip _ _ _ ↑0 ↑2) λb q h2 hb2 hk2 zq=>cV v_ ↑0 (.inr rfl) λs3 h3=>cO rfl (mW (i.po a (.index x b.1) _ _ s0 s3 f l G ↑2 ?_ (s_ ?_ (by rw[hs];omega) (by rw[hs];exact ha)) (λ_=>hs _) ha ↑2) (Ao ↑2)))))))
  ·show kind 44++(yb p++(yb q++[]))=kind 44++(x.bytes++b.1.bytes);rw[hb,hb2,List.append_nil]
  ·show yk p++(yk q++[])=_;rw[hk,hk2,List.append_nil,List.map_append]
 refine mF c2 ?_;by_cases c3:s.sign "."=true
 ·refine mT c3 (mX tS (mj.mp c3) ↑0 (mD sT zd d0 ↑0 (bJ (A8 (bo c3 mj (.inr rfl) λhl=>cN (k:=1) ↑0 λb h2=>cO rfl (mW (i.po a (.field x b.1) _ _ s0 b.2 f l G ↑2 ?_ (s_ ?_ (by rw[hs];omega) (by rw[hs];exact ha)) (λ_=>hs _) ha ↑2) (Ao ↑2)))))))
  ·show kind 45++(yb p++(short b.1++[]))=kind 45++(x.bytes++short b.1);rw[hb,List.append_nil]
  ·show yk p++([]++[])=_;rw[hk];simp
 ·exact mF c3 (mD ud y4 (aI (λh=>c1 (kZ.mpr h.symm)) (aI (λh=>c2 (oj.mpr h.symm)) (d1 λh=>c3 (mj.mpr h.symm)))) ↑0 (mN ⟨rfl,Nat.le_refl _,p,rfl,hb,hk,hs⟩))
theorem CJ{L:Nat}{op:Nat}(h:opIn L s=some op):∃b w,(L,b,w,op)∈OPS/\(if b=true then s.key w else s.sign w)=true:=by unfold opIn at h;rw[Option.map_eq_some_iff] at h;obtain⟨⟨L',b,w,op'⟩,h,rfl⟩:=h;have h1:=List.find?_some h;have h2:=List.mem_of_find?_eq_some h;rw[Bool.and_eq_true,beq_iff_eq] at h1;have:L'=L:=h1.1;subst this;exact⟨b,w,h2,h1.2⟩
theorem CA{L:Nat}(h:opIn L s=none){b:Bool}{op:Nat}(hm:(L,b,w,op)∈OPS):¬(if b=true then s.key w else s.sign w)=true:=by unfold opIn at h;rw[Option.map_eq_none_iff] at h;have:=List.find?_eq_none.mp h _ hm;intro c;exact this (by show(L==L&&_)=true;rw[beq_self_eq_true];exact c)
theorem oZ(i:FD e z fu){L a op tok sub:Nat}{x:Expr}{m:List Mark}{p:Pt}{s0:St}(hL:L=1\/L=2\/L=6\/L=7)(hn:HC L=n)(h0:1000<=n)(hr:row n tok=some [.bg (.kind op),.take,.w tok,.w sub,.fin,.w n])(hs:NQ (L+1)=[.w sub])(c:s.is k w=true)(hl:s.is k w=true↔lk e s=tok)(hk:k=0\/k=5)(hf:24*len s+14<=fu+1)(hb:yb p=Expr.bytes x)(hm:yk p=m.map yt)(hs0:∀b,st p b=s0)(ha:s0.here=a)(h00:len s<len s0):Sm e z [.w n] s (⟨f,l++[p]⟩::G) (exprIn z fu (L+1) s.skip>>=λr=>moreIn z fu L a (.bin op x r.1) (marked op a r.2.2 (m++r.2.1)) r.2.2) (PQ Expr.bytes s0 s f l G):=by
 refine mX hr (hl.mp c) h0 (bJ (A8 (bo c hl hk λhlen=>cP (hs▸i.ex (L+1) s.skip _ _ _ ↑2 ↑2) λb q h2 hb2 hk2 zq=>cO rfl ?_)));rw[<-hn];refine mW (i.mo L a (.bin op x b.1) _ _ s0 b.2.2 f l G hL ↑2 ?_ (s_ ?_ (by rw[hs0];omega) (by rw[hs0];exact ha)) (λ_=>hs0 _) ha ↑2) (Ao ↑2)
 ·show kind op++(yb p++(yb q++[]))=kind op++(x.bytes++b.1.bytes);rw[hb,hb2,List.append_nil]
 ·show yk p++(yk q++[])=_;rw[hm,hk2,List.append_nil,List.map_append]
theorem xm(i:FD e z fu)(L a:Nat)(x:Expr)(m:List Mark)(p:Pt)(s0 s:St)(f:Fm)(l:List Pt)(G:List Fr)(hL:L=1\/L=2\/L=6\/L=7)(hf:24*len s+14<=fu+1)(hb:yb p=Expr.bytes x)(hk:yk p=m.map yt)(hs0:∀b,st p b=s0)(ha:s0.here=a)(h00:len s<len s0):Sm e z [.w (HC L)] s (⟨f,l++[p]⟩::G) (moreIn z (fu+1) L a x m s) (PQ Expr.bytes s0 s f l G):=by
 unfold moreIn;have fin:=mN (e:=e) (z:=z) (s:=s) (G:=⟨f,l++[p]⟩::G) (a:=(x,m,s)) (Q:=PQ Expr.bytes s0 s f l G) ⟨rfl,Nat.le_refl _,p,rfl,hb,hk,hs0⟩;cases h:opIn L s with
 |none=>
  have hn:=λb w op hm=>CA h (b:=b) (w:=w) (op:=op) hm;rcases hL with rfl|rfl|rfl|rfl
  ·exact mD zw Ee (d1 λc=>hn true "or" 64 ↑0 (QN.mpr c.symm)) ↑0 fin
  ·exact mD wu BA (d1 λc=>hn true "and" 65 ↑0 (L9.mpr c.symm)) ↑0 fin
  ·exact mD x' BJ (aI (λc=>hn false "+" 72 ↑0 (PX.mpr c.symm)) (d1 λc=>hn false "-" 73 ↑0 (HE.mpr c.symm))) ↑0 fin
  ·exact mD mO qN (aI (λc=>hn false "*" 74 ↑0 (P9.mpr c.symm)) (aI (λc=>hn false "/" 75 ↑0 (Ra.mpr c.symm)) (aI (λc=>hn false "//" 76 ↑0 (QD.mpr c.symm)) (d1 λc=>hn false "%" 77 ↑0 (RF.mpr c.symm))))) ↑0 fin
 |some op=>
  obtain⟨b,w,hm,ht⟩:=CJ h;rcases hL with rfl|rfl|rfl|rfl <;> simp only[OPS,List.mem_cons,List.not_mem_nil,or_false,Prod.mk.injEq] at hm
  ·have e1:b=true/\w="or"/\op=64:=by simpa using hm
   obtain⟨rfl,rfl,rfl⟩:=e1;exact oZ i (.inl rfl) rfl ↑0 xP rfl ht QN (.inl rfl) hf hb hk hs0 ha h00
  ·have e1:b=true/\w="and"/\op=65:=by simpa using hm
   obtain⟨rfl,rfl,rfl⟩:=e1;exact oZ i (.inr (.inl rfl)) rfl ↑0 tu rfl ht L9 (.inl rfl) hf hb hk hs0 ha h00
  ·have e1:(b=false/\w="+"/\op=72)\/(b=false/\w="-"/\op=73):=by simpa using hm
   rcases e1 with⟨rfl,rfl,rfl⟩|⟨rfl,rfl,rfl⟩
   ·exact oZ i (.inr (.inr (.inl rfl))) rfl ↑0 uq rfl ht PX (.inr rfl) hf hb hk hs0 ha h00
   ·exact oZ i (.inr (.inr (.inl rfl))) rfl ↑0 um rfl ht HE (.inr rfl) hf hb hk hs0 ha h00
  ·have e1:(b=false/\w="*"/\op=74)\/(b=false/\w="/"/\op=75)\/(b=false/\w="//"/\op=76)\/(b=false/\w="%"/\op=77):=by simpa using hm
   rcases e1 with⟨rfl,rfl,rfl⟩|⟨rfl,rfl,rfl⟩|⟨rfl,rfl,rfl⟩|⟨rfl,rfl,rfl⟩
   ·exact oZ i (.inr (.inr (.inr rfl))) rfl ↑0 kY rfl ht P9 (.inr rfl) hf hb hk hs0 ha h00
   ·exact oZ i (.inr (.inr (.inr rfl))) rfl ↑0 kT rfl ht Ra (.inr rfl) hf hb hk hs0 ha h00
   ·exact oZ i (.inr (.inr (.inr rfl))) rfl ↑0 kU rfl ht QD (.inr rfl) hf hb hk hs0 ha h00
   ·exact oZ i (.inr (.inr (.inr rfl))) rfl ↑0 kM rfl ht RF (.inr rfl) hf hb hk hs0 ha h00
theorem qv{ps:List Pt}(h:iP ps)(hk:k<7):iP (ps++[.leaf [UInt8.ofNat k]]):=λp hp=>by
 rcases List.mem_append.mp hp with hp|hp
 ·exact h p hp
 ·exact⟨k,hk,List.mem_singleton.mp hp⟩
theorem Fg(hk:1<=k/\k<=4){p:Nat}{t:Tok}{r:List Tok}(ht:t.kind=k){x:Except Fault α}{Q:α->St->List Fr->Prop}(h:Sm e z q ⟨t.halt_,r⟩ (⟨f,l++[.leaf (Ba k t.bytes)]⟩::G) x Q):Sm e z (.w (199+k)::q) ⟨p,t::r⟩ (⟨f,l⟩::G) x Q:=by exact Si ((cK (e:=e) (s:=⟨p,t::r⟩) hk).mp ⟨t,r,rfl,ht⟩) ↑2 (by rw[Qs hk ht];exact h)
theorem Hm{x:Except Fault α}{Q:α->St->List Fr->Prop}(h:∀ps,len (optN s).2<=len s->cJ ps=maybe short (optN s).1->cy ps=[]->Sm e z q (optN s).2 (⟨f,l++ps⟩::G) x Q):Sm e z (.w IP::q) s (⟨f,l⟩::G) x Q:=by
 by_cases c:lk e s=202
 ·obtain⟨t,r,e1,e2⟩:=(cK (k:=3) ↑0).mpr c;obtain⟨p,ts⟩:=s;have e1:ts=t::r:=e1;subst e1;have eo:optN ⟨p,t::r⟩=(some t.bytes,⟨t.halt_,r⟩):=if_pos e2;rw[eo] at h;refine mX pX c ↑0 (d9 (Fg (k:=3) ↑0 e2 ?_));have:=h [.leaf [1],.leaf (short t.bytes)] (Nat.le_succ _) (by show[1]++(short t.bytes++[])=1::short t.bytes;rw[List.append_nil];rfl) rfl;rw[List.append_assoc];exact this
 ·have eo:optN s=(none,s):=by
   obtain⟨p,ts⟩:=s;cases ts with
   |nil=>rfl
   |cons t r=>exact if_neg λk=>c ((cK (k:=3) ↑0).mp ⟨t,r,rfl,k⟩)
  rw[eo] at h;exact mD Ci Hv (d1 λk=>c k.symm) ↑0 (d9 (h [.leaf [0]] (Nat.le_refl _) rfl rfl))
theorem A4{x:Except Fault α}{Q:α->St->List Fr->Prop}(h:len (pU s).2<=len s->Sm e z q (pU s).2 (⟨f,l++[.leaf (kind (pU s).1)]⟩::G) x Q):Sm e z (.w Bk::q) s (⟨f,l⟩::G) x Q:=by
 cases ho:oneOf ROUNDS s with
 |none=>
  have eo:pU s=(0,s):=by unfold pU;rw[ho]
  rw[eo] at h;have hn:=iI ho;exact mD xu Ck (aI (λc=>hn "near" ↑0 (nP.mpr c.symm)) (aI (λc=>hn "down" ↑0 (nA.mpr c.symm)) (aI (λc=>hn "up" ↑0 (Eb.mpr c.symm)) (aI (λc=>hn "cut" ↑0 (vB.mpr c.symm)) (aI (λc=>hn "nearaway" ↑0 (jO.mpr c.symm)) (aI (λc=>hn "nearcut" ↑0 (nD.mpr c.symm)) (aI (λc=>hn "away" ↑0 (B4.mpr c.symm)) (aI (λc=>hn "five" ↑0 (Cj.mpr c.symm)) (d0))))))))) ↑0 (d9 (h (Nat.le_refl _)))
 |some k=>
  have eo:pU s=(k+1,s.skip):=by unfold pU;rw[ho]
  rw[eo] at h;have hk:k<8:=eE ho;have hw:=λw=>eW ho (w:=w);clear ho eo
  match k,hk,hw,h with
  |0,_,hw,h=>exact have c:=hw "near" rfl;mX pG (nP.mp c) ↑0 (bo c nP (.inl rfl) λhl=>d9 (h (by show len s.skip<=_;omega)))
  |1,_,hw,h=>exact have c:=hw "down" rfl;mX pZ (nA.mp c) ↑0 (bo c nA (.inl rfl) λhl=>d9 (h (by show len s.skip<=_;omega)))
  |2,_,hw,h=>exact have c:=hw "up" rfl;mX uk (Eb.mp c) ↑0 (bo c Eb (.inl rfl) λhl=>d9 (h (by show len s.skip<=_;omega)))
  |3,_,hw,h=>exact have c:=hw "cut" rfl;mX qY (vB.mp c) ↑0 (bo c vB (.inl rfl) λhl=>d9 (h (by show len s.skip<=_;omega)))
  |4,_,hw,h=>exact have c:=hw "nearaway" rfl;mX jf (jO.mp c) ↑0 (bo c jO (.inl rfl) λhl=>d9 (h (by show len s.skip<=_;omega)))
  |5,_,hw,h=>exact have c:=hw "nearcut" rfl;mX j9 (nD.mp c) ↑0 (bo c nD (.inl rfl) λhl=>d9 (h (by show len s.skip<=_;omega)))
  |6,_,hw,h=>exact have c:=hw "away" rfl;mX pQ (B4.mp c) ↑0 (bo c B4 (.inl rfl) λhl=>d9 (h (by show len s.skip<=_;omega)))
  |7,_,hw,h=>exact have c:=hw "five" rfl;mX ph (Cj.mp c) ↑0 (bo c Cj (.inl rfl) λhl=>d9 (h (by show len s.skip<=_;omega)))
theorem xc(i:FD e z fu)(a:Nat)(x:Expr)(m:List Mark)(p:Pt)(s0 s:St)(f:Fm)(l:List Pt)(G:List Fr)(hf:24*len s+14<=fu+1)(hb:yb p=Expr.bytes x)(hk:yk p=m.map yt)(hs0:∀b,st p b=s0)(ha:s0.here=a)(h00:len s<len s0):Sm e z [.w vd] s (⟨f,l++[p]⟩::G) (castIn z (fu+1) a x m s) (PQ Expr.bytes s0 s f l G):=by
 unfold castIn;by_cases c:s.key "as"=true
 ·refine mT c (mX xU (Nl.mp c) ↑0 (bJ (A8 (bo c Nl (.inl rfl) λhl=>cP ((wL e z fu).1 _ _ _ _ ↑2) λt q h2 hb2 hk2 zq=>Hm λps h3 hb3 hk3=>A4 λh4=>cO rfl ?_))));refine mW (i.ca a (.as_ x t.1 (optN t.2.2).1 (pU (optN t.2.2).2).1) (marked 52 a (pU (optN t.2.2).2).2 (m++t.2.1)) _ s0 (pU (optN t.2.2).2).2 f l G ↑2 ?_ (s_ ?_ (by rw[hs0];omega) (by rw[hs0];exact ha)) (λ_=>hs0 _) ha ↑2) (Ao ↑2)
  ·show kind 52++cJ ([]++[p]++[q]++ps++[.leaf (kind (pU (optN t.2.2).2).1)])=_;rw[iY,vn,hb3,iY,iY,hb,hb2];show kind 52++((([]++x.bytes)++t.1.bytes++_)++kind _)=kind 52++(x.bytes++(t.1.bytes++(_++kind _)));rw[List.nil_append,List.append_assoc,List.append_assoc]
  ·show cy ([]++[p]++[q]++ps++[.leaf (kind (pU (optN t.2.2).2).1)])=_;rw[ig,u5,hk3,ig,ig,hk,hk2,List.map_append];show([]++_++_)++[]++[]=_;rw[List.append_nil,List.append_nil,List.nil_append]
 ·exact mF c (mD zW EB (d1 λh=>c (Nl.mpr h.symm)) ↑0 (mN ⟨rfl,Nat.le_refl _,p,rfl,hb,hk,hs0⟩))
theorem iW:∀(ps:List Pt)(b:UInt8),eB (ps++[.leaf [b]])=eB ps ||| 2 ^ b.toNat
 |[],b=>by simp[eB]
 | .leaf []::r,b=>iW r b
 | .leaf (c::_)::r,b=>by
  show 2 ^ c.toNat ||| eB (r++[.leaf [b]])=(2 ^ c.toNat ||| eB r) ||| 2 ^ b.toNat;rw[iW r b,Nat.or_assoc]
 | .aY _ _ _::r,b=>iW r b
theorem Ga:∀a<128,∀k<7,withFlag a k=a ||| 2 ^ (UInt8.ofNat k).toNat:=↑1
theorem B'(ho:oneOf FLAGS s=some k){x:Except Fault α}{Q:α->St->List Fr->Prop}(h:len s.skip+1=len s->Sm e z q s.skip (⟨f,l++[.leaf [UInt8.ofNat k]]⟩::G) x Q):Sm e z (.w Cn::q) s (⟨f,l⟩::G) x Q:=by
 have hk:k<7:=eE ho;have hw:=λw=>eW ho (w:=w);clear ho
 match k,hk,hw,h with
 |0,_,hw,h=>exact have c:=hw "invalid" rfl;mX sN (mG.mp c) ↑0 (bo c mG (.inl rfl) λhl=>d9 (h hl))
 |1,_,hw,h=>exact have c:=hw "small" rfl;mX xW (xh.mp c) ↑0 (bo c xh (.inl rfl) λhl=>d9 (h hl))
 |2,_,hw,h=>exact have c:=hw "zero" rfl;mX yG (AX.mp c) ↑0 (bo c AX (.inl rfl) λhl=>d9 (h hl))
 |3,_,hw,h=>exact have c:=hw "overflow" rfl;mX pS (kg.mp c) ↑0 (bo c kg (.inl rfl) λhl=>d9 (h hl))
 |4,_,hw,h=>exact have c:=hw "underflow" rfl;mX mV (iV.mp c) ↑0 (bo c iV (.inl rfl) λhl=>d9 (h hl))
 |5,_,hw,h=>exact have c:=hw "inexact" rfl;mX qH (m9.mp c) ↑0 (bo c m9 (.inl rfl) λhl=>d9 (h hl))
 |6,_,hw,h=>exact have c:=hw "stack" rfl;mX wg (yh.mp c) ↑0 (bo c yh (.inl rfl) λhl=>d9 (h hl))
theorem Bv(ho:oneOf FLAGS s=none){Q:α->St->List Fr->Prop}:Sm e z (.w Cn::q) s G (.error (bad z s)) Q:=by have hn:=iI ho;exact Fs (nt ↑0) ((O5 _).trans (bC (aI (λc=>hn "invalid" ↑0 (mG.mpr c.symm)) (aI (λc=>hn "small" ↑0 (xh.mpr c.symm)) (aI (λc=>hn "zero" ↑0 (AX.mpr c.symm)) (aI (λc=>hn "overflow" ↑0 (kg.mpr c.symm)) (aI (λc=>hn "underflow" ↑0 (iV.mpr c.symm)) (aI (λc=>hn "inexact" ↑0 (m9.mpr c.symm)) (aI (λc=>hn "stack" ↑0 (yh.mpr c.symm)) (all_nil)))))))))) rfl
theorem Hw:∀(fu a:Nat)(s cc:St)(ps:List Pt)(f:Fm)(l:List Pt)(G:List Fr),iP ps->eB ps=a->a<128->len s+1<=fu->Sm e z [.w Cn,.w xS,.fin,.w 108] s (⟨.set cc,ps⟩::⟨f,l⟩::G) (onlyIn z fu a s) λr s' G'=>s'=r.2/\len r.2<len s/\G'=⟨f,l++[.leaf (kind r.1)]⟩::G
 |0,a,s,cc,ps,f,l,G,_,_,_,h=>by omega
 |fu+1,a,s,cc,ps,f,l,G,ho0,ha,ha2,hf=>by
  unfold onlyIn;cases ho:oneOf FLAGS s with
  |none=>exact Bv ho
  |some k=>
   have hk:k<7:=eE ho;have e1:eB (ps++[.leaf [UInt8.ofNat k]])=withFlag a k:=by rw[iW,ha,Ga a ha2 k hk]
   refine B' ho λhl=>?_;by_cases c:s.skip.sign ","=true
   ·exact mT c (mX qb (eI.mp c) ↑0 (bo c eI (.inr rfl) λhl2=>mW (Hw fu (withFlag a k) s.skip.skip cc _ f l G (qv ho0 hk) e1 (H_ a ha2 k hk).1 ↑2) λr s' G' ⟨h1,h2,h3⟩=>⟨h1,↑2,h3⟩))
   ·exact mF c (mD qP xE (d1 λh=>c (eI.mpr h.symm)) ↑0 (Dz (λ_=>qv ho0 hk) (cV hX ↑0 (.inr rfl) λs2 h2=>mN ⟨rfl,by show len s2<len s;omega,by rw[<-e1];rfl⟩)))
theorem Mj{n:Bytes×St}{g:Option Bytes×Bytes×St->Except Fault α}{Q:α->St->List Fr->Prop}(h:∀(r:Option Bytes×Bytes×St)(p:Pt),len r.2.2<=len n.2->yb p=maybe short r.1++short r.2.1->yk p=[]->Sm e z q r.2.2 (⟨f,l++[p]⟩::G) (g r) Q):
  Sm e z (.w OK::q) n.2 (⟨f,l++[.leaf (short n.1)]⟩::G) ((if n.2.sign "."=true then(do
    let(k,z)<-EwTree.take z 1 n.2.skip
    return (some n.1,k,z)) else .ok (none,n.1,n.2):Except Fault (Option Bytes×Bytes×St))>>=g) Q:=by
 by_cases c:n.2.sign "."=true
 ·rw[if_pos c];refine mX EW (mj.mp c) ↑0 (bJ (d9 (A8 (bo c mj (.inr rfl) λhl=>?_))));have e1:((EwTree.take z 1 n.2.skip>>=λy=>Except.ok (some n.1,y.1,y.2))>>=g)=(EwTree.take z 1 n.2.skip>>=λy=>g (some n.1,y.1,y.2)):=by
   cases EwTree.take z 1 n.2.skip <;> rfl
  show Sm e z _ _ _ ((EwTree.take z 1 n.2.skip>>=λy=>Except.ok (some n.1,y.1,y.2))>>=g) Q;rw[e1];refine cN (k:=1) ↑0 λb hb=>cO rfl (h (some n.1,b.1,b.2) _ (by show len b.2<=_;omega) ?_ rfl);show[]++([1]++(short n.1++(short b.1++[])))=1::short n.1++short b.1;rw[List.append_nil];rfl
 ·rw[if_neg c];refine mD IM O7 (d1 λh=>c (mj.mpr h.symm)) ↑0 (bJ (d9 (A8 (cO rfl (h (none,n.1,n.2) _ (Nat.le_refl _) ?_ rfl)))));show[]++([0]++(short n.1++[]))=[0]++short n.1;rw[List.append_nil];rfl
theorem HM(i:FD e z fu)(hf:24*len s+14<=fu):Sm e z [.bg .count,.w rN,.fin,.w 108] s (⟨f,l⟩::G) (if s.sign ")"=true then(.ok ([],[],s.skip):Except Fault ((List (Bytes×Expr))×List Mark×St)) else fieldsIn z fu s) (Uq s f l G):=by
 refine bJ ?_;by_cases c:s.sign ")"=true
 ·have hn:lk e s≠200:=by rw[hX.mp c];decide
  exact mT c (mD k8 rl (d1 λh=>hn h.symm) ↑0 (Dz nofun (bo c hX (.inr rfl) λhl=>mN ⟨rfl,by show len s.skip<len s;omega,[],_,_,rfl,rfl,rfl,rfl⟩)))
 ·refine mF c ?_;by_cases c2:lk e s=200
  ·exact mX pN c2 ↑0 (mW (i.fi s _ [] f l G hf) λa s' G' ⟨h1,h2,qs,cb,ch,h3,h4⟩=>⟨h1,h2,qs,cb,ch,h3,h4⟩)
  ·obtain⟨fu,rfl⟩:∃k,fu=k+1:=⟨fu - 1,↑2⟩
   unfold fieldsIn;rw[qw (e:=e) (k:=1) ↑0 c2];refine mD k8 rl (d1 λh=>c2 h.symm) ↑0 (Dz nofun ?_);exact Rx ↑0 (λh=>c (hX.mpr h))
theorem KC(i:FD e z fu)(s:St)(f:Fm)(l:List Pt)(G:List Fr)(hf:24*len s+13<=fu+1+11):Sm e z [.w DS] s (⟨f,l⟩::G) (exprIn z (fu+1) 11 s) (PP Expr.bytes s f l G):=by
 unfold exprIn;refine mF ↑0 (mF ↑0 (mF ↑0 (mF ↑0 (mF ↑0 (mF ↑0 (mF ↑0 (mF ↑0 ?_)))))));obtain⟨p0,ts⟩:=s;cases ts with
 |nil=>exact Fs (s:=⟨p0,[]⟩) (nt ↑0) (by cases e <;> rfl) rfl
 |cons t r=>
  have hz:len ⟨t.halt_,r⟩+1=len ⟨p0,t::r⟩:=rfl;dsimp only;by_cases k3:t.kind=3
  ·refine mT k3 (mX sW ((cK (k:=3) ↑0).mp ⟨t,r,rfl,k3⟩) ↑0 (bJ (Fg (k:=3) ↑0 k3 (aX ?_ rfl ↑2))));show kind 32++(short t.bytes++[])=_;rw[List.append_nil];rfl
  refine mF k3 ?_;by_cases k4:t.kind=4
  ·refine mT k4 (mX vP ((cK (k:=4) ↑0).mp ⟨t,r,rfl,k4⟩) ↑0 (bJ (Fg (k:=4) ↑0 k4 (aX ?_ rfl ↑2))));show kind 33++(long t.bytes++[])=_;rw[List.append_nil];rfl
  refine mF k4 ?_;by_cases k1:t.kind=1
  ·refine mT k1 (mX vY ((cK (k:=1) ↑0).mp ⟨t,r,rfl,k1⟩) ↑0 (mD zC Gk d0 ↑0 (bJ (Fg (k:=1) ↑0 k1 (aX ?_ rfl ↑2)))));show kind 37++(short t.bytes++[])=_;rw[List.append_nil];rfl
  refine mF k1 ?_;by_cases k2:t.kind=2
  ·refine mT k2 (mX v9 ((cK (k:=2) ↑0).mp ⟨t,r,rfl,k2⟩) ↑0 (bJ (Fg (k:=2) ↑0 k2 (aX ?_ rfl ↑2))));show kind 38++(short t.bytes++[])=_;rw[List.append_nil];rfl
  refine mF k2 ?_;generalize hs:(⟨p0,t::r⟩:St)=s at*;have hsk:s.skip=⟨t.halt_,r⟩:=by rw[<-hs];rfl
  rw[<-hsk] at hz ⊢;by_cases c1:s.key "true"=true
  ·exact mT c1 (mX xK (B8.mp c1) ↑0 (bJ (bo c1 B8 (.inl rfl) λhl=>aX rfl rfl ↑2)))
  refine mF c1 ?_;by_cases c2:s.key "false"=true
  ·exact mT c2 (mX tZ (vZ.mp c2) ↑0 (bJ (bo c2 vZ (.inl rfl) λhl=>aX rfl rfl ↑2)))
  refine mF c2 ?_;by_cases c3:s.key "flags"=true
  ·exact mT c3 (mX tX (eV.mp c3) ↑0 (bJ (bo c3 eV (.inl rfl) λhl=>aX rfl rfl ↑2)))
  refine mF c3 ?_;by_cases c4:s.key "only"=true
  ·refine mT c4 (mX xG (BH.mp c4) ↑0 (bJ (bo c4 BH (.inl rfl) λhl=>cV kZ ↑0 (.inr rfl) λs1 h1=>mB (r:=[.bg .set,.w K4,.fin,.w 108]) (Q:=λr s' G'=>s'=r.2/\len r.2<len s1/\G'=⟨.kind 39 s,[]++[.leaf (kind r.1)]⟩::⟨f,l⟩::G) (bJ ?_) λa s2 G2 ⟨e1,e2,e3⟩=>?_)))
   ·by_cases c:s1.sign ")"=true
    ·exact mT c (mX BB (hX.mp c) ↑0 (Dz (λ_=>nofun) (bo c hX (.inr rfl) λhl=>mN ⟨rfl,by show len s1.skip<len s1;omega,rfl⟩)))
    ·exact mF c (mD D_ Lc (d1 λh=>c (hX.mpr h.symm)) ↑0 (Hw fu 0 s1 _ [] _ _ _ nofun rfl ↑0 ↑2))
   ·subst e1 e3;refine aX ?_ rfl ↑2;show kind 39++(kind a.1++[])=_;rw[List.append_nil];rfl
  refine mF c4 ?_;by_cases c5:s.key "make"=true
  ·refine mT c5 (mX wx (B_.mp c5) ↑0 (bJ (bo c5 B_ (.inl rfl) λhl=>cN (k:=1) ↑0 λn hn=>Mj λq p h2 hb hk=>cV kZ ↑0 (.inr rfl) λs1 h1=>mB (r:=[.bg .count,.w rN,.fin,.w 108]) (HM i ↑2) λa s2 G2 ⟨e1,e2,qs,cb,ch,e3,e4,e5,e6⟩=>?_)));subst e1 e3;refine aX ?_ ?_ ↑2
   ·show kind 42++(yb p++((count qs.length++cJ qs)++[]))=kind 42++(maybe short q.1++(short q.2.1++(count (a.1.map _).length++woven _ _)));rw[hb,e4,e5,List.append_nil,List.length_map,List.append_assoc]
   ·show yk p++(([]++cy qs)++[])=_;rw[hk,e6,List.append_nil];rfl
  refine mF c5 ?_;by_cases c6:s.sign "("=true
  ·refine mT c6 (mX B3 (kZ.mp c6) ↑0 (bJ (bo c6 kZ (.inr rfl) λhl=>cP (i.ex 0 s.skip _ _ _ ↑0 ↑2) λa p h2 hb hk zp=>cV hX ↑0 (.inr rfl) λs1 h1=>cO rfl (mN ⟨rfl,by show len s1<len s;omega,_,rfl,?_,?_,λ_=>rfl⟩))))
   ·show[]++(yb p++[])=_;rw[List.append_nil,hb];rfl
   ·show yk p++[]=_;rw[List.append_nil,hk]
  refine mF c6 ?_;by_cases c7:s.sign "["=true
  ·refine mT c7 (mX A1 (oj.mp c7) ↑0 (bJ (bo c7 oj (.inr rfl) λhl=>?_)));by_cases c8:s.skip.sign "]"=true
   ·exact mT c8 (mX y' (v_.mp c8) ↑0 (bJ (cO rfl (bo c8 v_ (.inr rfl) λhl2=>aX rfl rfl ↑2))))
   refine mF c8 (mD AY HG (d1 λh=>c8 (v_.mpr h.symm)) ↑0 (cP (i.ex 0 s.skip _ _ _ ↑0 ↑2) λa p h2 hb hk zp=>?_));by_cases c9:a.2.2.sign ".."=true
   ·refine mT c9 (mX nO (Mx.mp c9) ↑0 (Ul (bo c9 Mx (.inr rfl) λhl2=>cP (i.ex 0 a.2.2.skip _ _ _ ↑0 ↑2) λb q h3 hb2 hk2 zq=>cV v_ ↑0 (.inr rfl) λs1 h1=>aX ?_ ?_ ↑2)))
    ·show kind 41++(yb p++(yb q++[]))=kind 41++(a.1.bytes++b.1.bytes);rw[hb,hb2,List.append_nil]
    ·show yk p++(yk q++[])=_;rw[hk,hk2,List.append_nil,List.map_append]
   refine mF c9 (mD pC uc (d1 λh=>c9 (Mx.mpr h.symm)) ↑0 (bJ (A8 ?_)));by_cases c10:a.2.2.sign ","=true
   ·refine mT c10 (mX d_ (eI.mp c10) ↑0 (bo c10 eI (.inr rfl) λhl2=>?_));rw[ie ↑0];have e0:∀k:List Expr×List Mark×St->Except Fault (Expr×List Mark×St),((exprsIn z "" fu a.2.2.skip>>=λr=>eat z (r.2.2.sign "]") r.2.2>>=λs'=>Except.ok (r.1,r.2.1,s'))>>=k)=(exprsIn z "" fu a.2.2.skip>>=λr=>eat z (r.2.2.sign "]") r.2.2>>=λs'=>k (r.1,r.2.1,s')):=by
     intro k;cases exprsIn z "" fu a.2.2.skip with
     |error er=>rfl
     |ok b=>
      show(eat z (b.2.2.sign "]") b.2.2>>=λs'=>Except.ok (b.1,b.2.1,s'))>>=k=_;show _=(eat z (b.2.2.sign "]") b.2.2>>=λs'=>k (b.1,b.2.1,s'))
      cases eat z (b.2.2.sign "]") b.2.2 <;> rfl
    rw[e0];refine mB (r:=[.w cE,.w bM]) (i.li a.2.2.skip _ _ _ ↑2) λb s2 G2 ⟨e1,e2,qs,e3,e4,e5,e6⟩=>?_;subst e1 e3;refine cO rfl (cV v_ ↑0 (.inr rfl) λs3 h3=>aX ?_ ?_ ↑2)
    ·show kind 40++((count ([]++[p]++qs).length++cJ ([]++[p]++qs))++[])=kind 40++(count (b.1.length+1)++(a.1.bytes++(exprsBytes b.1).flatten));rw[vn,e5,iY,hb,List.append_nil,List.length_append,e4];show kind 40++(count (1+b.1.length)++_)=_;rw[Nat.add_comm];rfl
    ·show cy ([]++[p]++qs)++[]=_;rw[u5,e6,ig,hk,List.append_nil,List.map_append];rfl
   ·refine mF c10 (mD eD fA (d1 λh=>c10 (eI.mpr h.symm)) ↑0 (cO rfl (cV v_ ↑0 (.inr rfl) λs3 h3=>aX ?_ ?_ ↑2)))
    ·show kind 40++((count 1++(yb p++[]))++[])=kind 40++(count 1++(a.1.bytes++[]));rw[hb,List.append_nil,List.append_nil]
    ·show(yk p++[])++[]=_;rw[hk,List.append_nil,List.append_nil]
  refine mF c7 ?_;have hbad:bad z s=(2,t.place):=by rw[<-hs];rfl
  rw[<-hbad];have nk:∀k,1<=k/\k<=4->t.kind≠k->199+k≠lk e s:=by
   intro k hk ht c;obtain⟨t',r',h1,h2⟩:=(cK hk).mpr c.symm;rw[<-hs] at h1;obtain⟨rfl,rfl⟩:=List.cons.inj h1;exact ht h2
  exact Fs (nt ↑0) ((JR _).trans (bC (aI (nk 3 ↑0 k3) (aI (nk 4 ↑0 k4) (aI (λc=>c1 (B8.mpr c.symm)) (aI (λc=>c2 (vZ.mpr c.symm)) (aI (λc=>c3 (eV.mpr c.symm)) (aI (nk 1 ↑0 k1) (aI (nk 2 ↑0 k2) (aI (λc=>c4 (BH.mpr c.symm)) (aI (λc=>c6 (kZ.mpr c.symm)) (aI (λc=>c7 (oj.mpr c.symm)) (aI (λc=>c5 (B_.mpr c.symm)) all_nil))))))))))))) rfl
theorem vv(i:FD e z fu){a op tok:Nat}{x:Expr}{m:List Mark}{p:Pt}{s0:St}(hr:row jS tok=some [.bg (.kind op),.take,.w tok,.w Bs,.fin])(c:s.is k w=true)(hl:s.is k w=true↔lk e s=tok)(hk:k=0\/k=5)(h0:len s<len s0)(hf:24*len s0+13<=fu+1+4)(hb:yb p=Expr.bytes x)(hm:yk p=m.map yt)(hs0:∀b,st p b=s0)(ha:s0.here=a):Sm e z [.w jS] s (⟨f,l++[p]⟩::G) (exprIn z fu 5 s.skip>>=λr=>.ok (.bin op x r.1,marked op a r.2.2 (m++r.2.1),r.2.2)) (PP Expr.bytes s0 f l G):=by
 refine mX hr (hl.mp c) ↑0 (bJ (A8 (bo c hl hk λhlen=>cP (i.ex 5 s.skip _ _ _ ↑2 ↑2) λb q h2 hb2 hk2 zq=>aX ?_ ?_ ↑2 (hs0 _) ha)))
 ·show kind op++(yb p++(yb q++[]))=kind op++(x.bytes++b.1.bytes);rw[hb,hb2,List.append_nil]
 ·show yk p++(yk q++[])=_;rw[hm,hk2,List.append_nil,List.map_append]
theorem xe(i:FD e z fu)(L:Nat)(s:St)(f:Fm)(l:List Pt)(G:List Fr)(hL:L<=11)(hf:24*len s+13<=fu+1+L):Sm e z (NQ L) s (⟨f,l⟩::G) (exprIn z (fu+1) L s) (PP Expr.bytes s f l G):=by
 match L,hL,hf with
 |11,_,hf=>exact KC i s f l G hf
 |0,_,hf=>
  unfold exprIn;refine mT rfl ?_;by_cases c:s.key "if"=true
  ·refine mT c (mX pH (zb.mp c) ↑0 (bJ (bo c zb (.inl rfl) λhl=>cP (i.ex 0 s.skip _ _ _ ↑0 ↑2) λa p h1 hb1 hk1 zp=>cV Ny ↑0 (.inl rfl) λs2 h2=>cP (i.ex 0 s2 _ _ _ ↑0 ↑2) λb q h3 hb2 hk2 zq=>cV ju ↑0 (.inl rfl) λs4 h4=>cP (i.ex 0 s4 _ _ _ ↑0 ↑2) λd o h5 hb3 hk3 zo=>aX ?_ ?_ ↑2)))
   ·show kind 51++(yb p++(yb q++(yb o++[])))=kind 51++(a.1.bytes++(b.1.bytes++d.1.bytes));rw[hb1,hb2,hb3,List.append_nil]
   ·show yk p++(yk q++(yk o++[]))=_;rw[hk1,hk2,hk3,List.append_nil,List.map_append,List.map_append]
  ·exact mF c (mD rB wK (d1 λh=>c (zb.mpr h.symm)) ↑0 (i.ex 1 s f l G ↑0 ↑2))
 |1,_,hf=>
  unfold exprIn;exact mF ↑0 (mT ↑0 (cP (i.ex 2 s f l G ↑0 ↑2) λa p h hb hk zp=>mW (i.mo 1 _ a.1 _ p s a.2.2 f l G (.inl rfl) ↑2 hb hk zp rfl h) (uJ h)))
 |2,_,hf=>
  unfold exprIn;exact mF ↑0 (mT ↑0 (mD G7 OQ d0 ↑0 (cP (i.ex 3 s f l G ↑0 ↑2) λa p h hb hk zp=>mW (i.mo 2 _ a.1 _ p s a.2.2 f l G (.inr (.inl rfl)) ↑2 hb hk zp rfl h) (uJ h))))
 |3,_,hf=>
  unfold exprIn;refine mF ↑0 (mF ↑0 (mT rfl ?_));by_cases c:s.key "not"=true
  ·refine mT c (mX uo (G9.mp c) ↑0 (bJ (bo c G9 (.inl rfl) λhl=>cP (i.ex 3 s.skip _ _ _ ↑0 ↑2) λa p h1 hb1 hk1 zp=>aX ?_ ?_ ↑2)))
   ·show kind 47++(yb p++[])=kind 47++a.1.bytes;rw[hb1,List.append_nil]
   ·show yk p++[]=_;rw[hk1,List.append_nil]
  ·exact mF c (mD zL D6 (d1 λh=>c (G9.mpr h.symm)) ↑0 (i.ex 4 s f l G ↑0 ↑2))
 |4,_,hf=>
  unfold exprIn;refine mF ↑0 (mF ↑0 (mF ↑0 (mT rfl (cP (i.ex 5 s f l G ↑0 ↑2) λa p h1 hb1 hk1 zp=>?_))));dsimp only;cases h:opIn 4 a.2.2 with
  |none=>
   have hn:=λw op hm=>CA h (b:=false) (w:=w) (op:=op) hm;exact mD we Bf (aI (λc=>hn "==" 66 ↑0 (Q7.mpr c.symm)) (aI (λc=>hn "!=" 67 ↑0 (Qv.mpr c.symm)) (aI (λc=>hn "<" 68 ↑0 (Qn.mpr c.symm)) (aI (λc=>hn "<=" 69 ↑0 (Qa.mpr c.symm)) (aI (λc=>hn ">" 70 ↑0 (RX.mpr c.symm)) (d1 λc=>hn ">=" 71 ↑0 (R3.mpr c.symm))))))) ↑0 (mN ⟨rfl,h1,p,rfl,hb1,hk1,zp⟩)
  |some op=>
   obtain⟨b,w,hm,ht⟩:=CJ h;simp only[OPS,List.mem_cons,List.not_mem_nil,or_false,Prod.mk.injEq] at hm;have e1:(b=false/\w="=="/\op=66)\/(b=false/\w="!="/\op=67)\/(b=false/\w="<"/\op=68)\/(b=false/\w="<="/\op=69)\/(b=false/\w=">"/\op=70)\/(b=false/\w=">="/\op=71):=by simpa using hm
   rcases e1 with⟨rfl,rfl,rfl⟩|⟨rfl,rfl,rfl⟩|⟨rfl,rfl,rfl⟩|⟨rfl,rfl,rfl⟩|⟨rfl,rfl,rfl⟩|⟨rfl,rfl,rfl⟩
   ·exact vv i t6 ht Q7 (.inr rfl) h1 hf hb1 hk1 zp rfl
   ·exact vv i uz ht Qv (.inr rfl) h1 hf hb1 hk1 zp rfl
   ·exact vv i t8 ht Qn (.inr rfl) h1 hf hb1 hk1 zp rfl
   ·exact vv i uu ht Qa (.inr rfl) h1 hf hb1 hk1 zp rfl
   ·exact vv i uA ht RX (.inr rfl) h1 hf hb1 hk1 zp rfl
   ·exact vv i tW ht R3 (.inr rfl) h1 hf hb1 hk1 zp rfl
 |5,_,hf=>
  unfold exprIn;exact mF ↑0 (mF ↑0 (mF ↑0 (mF ↑0 (mT rfl (mD Gb OO d0 ↑0 (cP (i.ex 6 s f l G ↑0 ↑2) λa p h hb hk zp=>mW (i.ca _ a.1 _ p s a.2.2 f l G ↑2 hb hk zp rfl h) (uJ h)))))))
 |6,_,hf=>
  unfold exprIn;exact mF ↑0 (mT ↑0 (mD Lb Ru d0 ↑0 (cP (i.ex 7 s f l G ↑0 ↑2) λa p h hb hk zp=>mW (i.mo 6 _ a.1 _ p s a.2.2 f l G (.inr (.inr (.inl rfl))) ↑2 hb hk zp rfl h) (uJ h))))
 |7,_,hf=>
  unfold exprIn;exact mF ↑0 (mT ↑0 (mD zO Ek d0 ↑0 (cP (i.ex 8 s f l G ↑0 ↑2) λa p h hb hk zp=>mW (i.mo 7 _ a.1 _ p s a.2.2 f l G (.inr (.inr (.inr rfl))) ↑2 hb hk zp rfl h) (uJ h))))
 |8,_,hf=>
  unfold exprIn;refine mF ↑0 (mF ↑0 (mF ↑0 (mF ↑0 (mF ↑0 (mT rfl ?_)))));by_cases c1:s.sign "-"=true
  ·refine mT c1 (mX Ah (HE.mp c1) ↑0 (bJ (bo c1 HE (.inr rfl) λhl=>cP (i.ex 8 s.skip _ _ _ ↑0 ↑2) λa p h1 hb1 hk1 zp=>aX ?_ ?_ ↑2)))
   ·show kind 46++(yb p++[])=kind 46++a.1.bytes;rw[hb1,List.append_nil]
   ·show yk p++[]=_;rw[hk1,List.append_nil]
  refine mF c1 ?_;by_cases c2:s.key "spawn"=true
  ·refine mT c2 (mX sj (wJ.mp c2) ↑0 (bJ (bo c2 wJ (.inl rfl) λhl=>cP (i.ex 10 s.skip _ _ _ ↑0 ↑2) λa p h1 hb1 hk1 zp=>aX ?_ ?_ ↑2)))
   ·show kind 48++(yb p++[])=kind 48++a.1.bytes;rw[hb1,List.append_nil]
   ·show yk p++[]=_;rw[hk1,List.append_nil]
  refine mF c2 ?_;by_cases c3:s.key "resume"=true
  ·refine mT c3 (mX px (qA.mp c3) ↑0 (bJ (bo c3 qA (.inl rfl) λhl=>cP (i.ex 10 s.skip _ _ _ ↑0 ↑2) λa p h1 hb1 hk1 zp=>?_)));by_cases c4:a.2.2.key "giving"=true
   ·refine mT c4 (mX pz (sL.mp c4) ↑0 (bo c4 sL (.inl rfl) λhl2=>d9 (cP (i.ex 8 a.2.2.skip _ _ _ ↑0 ↑2) λb q h3 hb2 hk2 zq=>aX ?_ ?_ ↑2)))
    ·show kind 49++(yb p++([1]++(yb q++[])))=kind 49++(a.1.bytes++(1::b.1.bytes));rw[hb1,hb2,List.append_nil];rfl
    ·show yk p++([]++(yk q++[]))=_;rw[hk1,hk2,List.append_nil,List.map_append];rfl
   ·refine mF c4 (mD BD FY (d1 λh=>c4 (sL.mpr h.symm)) ↑0 (d9 (aX ?_ ?_ ↑2)))
    ·show kind 49++(yb p++([0]++[]))=kind 49++(a.1.bytes++[0]);rw[hb1];rfl
    ·show yk p++([]++[])=_;rw[hk1];simp
  refine mF c3 ?_;by_cases c5:s.key "picture"=true
  ·refine mT c5 (mX nz (oy.mp c5) ↑0 (bJ (bo c5 oy (.inl rfl) λhl=>cN (k:=4) ↑0 λt ht=>cV Jb ↑0 (.inl rfl) λs2 h2=>cP (i.ex 10 s2 _ _ _ ↑0 ↑2) λa p h1 hb1 hk1 zp=>aX ?_ ?_ ↑2)))
   ·show kind 50++(long t.1++(yb p++[]))=kind 50++(long t.1++a.1.bytes);rw[hb1,List.append_nil]
   ·show[]++(yk p++[])=_;rw[hk1,List.append_nil];rfl
  ·exact mF c5 (mD Cc Ip (aI (λh=>c1 (HE.mpr h.symm)) (aI (λh=>c2 (wJ.mpr h.symm)) (aI (λh=>c3 (qA.mpr h.symm)) (d1 λh=>c5 (oy.mpr h.symm))))) ↑0 (i.ex 9 s f l G ↑0 ↑2))
 |9,_,hf=>
  unfold exprIn;refine mF ↑0 (mF ↑0 (mF ↑0 (mF ↑0 (mF ↑0 (mF ↑0 (mT rfl (cP (i.ex 10 s f l G ↑0 ↑2) λa p h1 hb1 hk1 zp=>?_)))))));by_cases c:a.2.2.sign "^"=true
  ·refine mT c (mX Bp (Pj.mp c) ↑0 (bJ (A8 (bo c Pj (.inr rfl) λhl=>cP (i.ex 8 a.2.2.skip _ _ _ ↑0 ↑2) λb q h2 hb2 hk2 zq=>aX ?_ ?_ ↑2 (zp _)))))
   ·show kind 78++(yb p++(yb q++[]))=kind 78++(a.1.bytes++b.1.bytes);rw[hb1,hb2,List.append_nil]
   ·show yk p++(yk q++[])=_;rw[hk1,hk2,List.append_nil,List.map_append]
  ·exact mF c (mD EL Kv (d1 λh=>c (Pj.mpr h.symm)) ↑0 (mN ⟨rfl,h1,p,rfl,hb1,hk1,zp⟩))
 |10,_,hf=>
  unfold exprIn;exact mF ↑0 (mF ↑0 (mF ↑0 (mF ↑0 (mF ↑0 (mF ↑0 (mF ↑0 (mT rfl (mD Jr MR d0 ↑0 (cP (i.ex 11 s f l G ↑0 ↑2) λa p h hb hk zp=>mW (i.po _ a.1 _ p s a.2.2 f l G ↑2 hb hk zp rfl h) (uJ h))))))))))
theorem wj(e:Bool)(z:Fault):∀fu,FD e z fu
 |0=>⟨λL s f l G hL h=>↑2,λ_ _ _ _ _ _ s _ _ _ _ h=>↑2,λ_ _ _ _ _ s _ _ _ h=>↑2,λ_ _ _ _ _ s _ _ _ h=>↑2,λs _ _ _ h=>↑2,λs _ _ _ _ _ h=>↑2⟩
 |fu+1=>let i:=wj e z fu;⟨xe i,xm i,xc i,xp i,xl i,xf i⟩
theorem ba{β γ:Type}(x:Except Fault α)(f:α->Except Fault β)(g:β->Except Fault γ):((x>>=f)>>=g)=(x>>=λa=>f a>>=g):=by cases x <;> rfl
theorem bi{β:Type}{c:Prop}[Decidable c](x y:Except Fault α)(g:α->Except Fault β):((if c then x else y)>>=g)=if c then x>>=g else y>>=g:=by split <;> rfl
theorem AJ(h:24*len s+13<=fu):Sm e z [.w cE] s (⟨f,l⟩::G) (exprIn z fu 0 s) (PP Expr.bytes s f l G):=(wj e z fu).ex 0 s f l G ↑0 h
theorem Ko(h:2*len s+1<=fu):Sm e z [.w kh] s (⟨f,l⟩::G) (sortIn z fu s) (PP Srt.bytes s f l G):=(wL e z fu).1 s f l G h
def PA{α:Type}(B:α->Bytes)(s:St)(f:Fm)(l:List Pt)(G:List Fr)(a:α×List Mark×St)(s':St)(G':List Fr):Prop:=s'=a.2.2/\len a.2.2<=len s/\∃ps,G'=⟨f,l++ps⟩::G/\cJ ps=B a.1/\cy ps=a.2.1.map yt
theorem cA{β:Type}{y:Sym}{B:α->Bytes}{x:Except Fault (α×List Mark×St)}{g:α×List Mark×St->Except Fault β}{R:β->St->List Fr->Prop}(hx:Sm e z [y] s (⟨f,l⟩::G) x (PA B s f l G))(h:∀(a:α×List Mark×St)(ps:List Pt),len a.2.2<=len s->cJ ps=B a.1->cy ps=a.2.1.map yt->Sm e z q a.2.2 (⟨f,l++ps⟩::G) (g a) R):Sm e z (y::q) s (⟨f,l⟩::G) (x>>=g) R:=
 mC hx λa s' G' ⟨h1,h2,p,h3,h4,h5⟩=>by subst h1 h3;exact h a p h2 h4 h5
theorem Q9(h:2*len s<=fu):Sm e z [.w Aw] s (⟨f,l⟩::G) (maySort z fu s) (PA (maybe Srt.bytes) s f l G):=by
 unfold maySort;by_cases c:s.sign ":"=true
 ·refine mT c (mX tE (Ec.mp c) ↑0 (bo c Ec (.inr rfl) λhl=>d9 (mM (Ko ↑2) λa s' G' ⟨h1,h2,p,h3,h4,h5,_⟩=>?_)));refine⟨h1,by show len a.2.2<=len s;omega,[.leaf [1],p],by rw[h3,List.append_assoc];rfl,?_,?_⟩
  ·show[1]++(yb p++[])=1::a.1.bytes;rw[h4,List.append_nil];rfl
  ·show[]++(yk p++[])=_;rw[h5,List.append_nil];rfl
 ·exact mF c (mD ur zj (d1 λh=>c (Ec.mpr h.symm)) ↑0 (d9 (mN ⟨rfl,Nat.le_refl _,[.leaf [0]],rfl,rfl,rfl⟩)))
theorem LS(c:s.key "let"=true){B:α->Bytes}{mk:Bytes->Option Srt->Expr->α}(hB:∀n t x,B (mk n t x)=kind k++(short n++(maybe Srt.bytes t++x.bytes)))(hf:24*len s+13<=fu+24):
  Sm e z [.bg (.kind k),.w QQ,.fin] s (⟨f,l⟩::G) (letIn z fu s.skip>>=λr=>.ok (mk r.1.1 r.1.2.1 r.1.2.2,marked k s.here r.2.2 r.2.1,r.2.2)) (PP B s f l G):=by
 refine bJ (mD Lh Q8 d0 ↑0 (bo c yO (.inl rfl) λhl=>?_));unfold letIn;rw[ba];refine cN (k:=1) ↑0 λn hn=>?_;rw[ba];refine cA (Q9 ↑2) λt ps h1 hb1 hk1=>?_;rw[ba];refine cV IB ↑0 (.inr rfl) λs2 h2=>?_;rw[ba];refine cP (AJ ↑2) λx p h3 hb3 hk3 zp=>aX ?_ ?_ ↑2
 ·show kind k++cJ ([]++[.leaf (short n.1)]++ps++[p])=B (mk n.1 t.1 x.1);rw[hB,iY,vn,hb1,hb3];show kind k++(((short n.1++[])++_)++_)=_;rw[List.append_nil,List.append_assoc]
 ·show cy ([]++[.leaf (short n.1)]++ps++[p])=_;rw[ig,u5,hk1,hk3,List.map_append];rfl
theorem PH{g:Nat->Except Fault α}{Q:α->St->List Fr->Prop}(h:∀k,len s.skip+1=len s->Sm e z q s.skip (⟨f,l++[.leaf (kind k)]⟩::G) (g k) Q):
  Sm e z (.w zr::q) s (⟨f,l⟩::G) (match oneOf (ROUNDS.take 4) s with|some k=>g k|none=>.error (bad z s)) Q:=by
 cases ho:oneOf (ROUNDS.take 4) s with
 |none=>
  have hn:=iI ho;exact Fs (nt ↑0) ((zE _).trans (bC (aI (λc=>hn "near" ↑0 (nP.mpr c.symm)) (aI (λc=>hn "down" ↑0 (nA.mpr c.symm)) (aI (λc=>hn "up" ↑0 (Eb.mpr c.symm)) (aI (λc=>hn "cut" ↑0 (vB.mpr c.symm)) (all_nil))))))) rfl
 |some k=>
  have hk:k<4:=eE ho;have hw:=λw=>eW ho (w:=w);clear ho
  match k,hk,hw with
  |0,_,hw=>exact have c:=hw "near" rfl;mX oz (nP.mp c) ↑0 (bo c nP (.inl rfl) λhl=>d9 (h 0 hl))
  |1,_,hw=>exact have c:=hw "down" rfl;mX nJ (nA.mp c) ↑0 (bo c nA (.inl rfl) λhl=>d9 (h 1 hl))
  |2,_,hw=>exact have c:=hw "up" rfl;mX rH (Eb.mp c) ↑0 (bo c Eb (.inl rfl) λhl=>d9 (h 2 hl))
  |3,_,hw=>exact have c:=hw "cut" rfl;mX pA (vB.mp c) ↑0 (bo c vB (.inl rfl) λhl=>d9 (h 3 hl))
theorem Kk{g:Nat->Except Fault α}{Q:α->St->List Fr->Prop}(h:∀k,len s.skip+1=len s->Sm e z q s.skip (⟨f,l++[.leaf (kind k)]⟩::G) (g k) Q):
  Sm e z (.w EZ::q) s (⟨f,l⟩::G) (match oneOf ["in","out","both"] s with|some k=>g k|none=>.error (bad z s)) Q:=by
 cases ho:oneOf ["in","out","both"] s with
 |none=>
  have hn:=iI ho;exact Fs (nt ↑0) ((EN _).trans (bC (aI (λc=>hn "in" ↑0 (KA.mpr c.symm)) (aI (λc=>hn "out" ↑0 (FV.mpr c.symm)) (aI (λc=>hn "both" ↑0 (BW.mpr c.symm)) (all_nil)))))) rfl
 |some k=>
  have hk:k<3:=eE ho;have hw:=λw=>eW ho (w:=w);clear ho
  match k,hk,hw with
  |0,_,hw=>exact have c:=hw "in" rfl;mX vW (KA.mp c) ↑0 (bo c KA (.inl rfl) λhl=>d9 (h 0 hl))
  |1,_,hw=>exact have c:=hw "out" rfl;mX uh (FV.mp c) ↑0 (bo c FV (.inl rfl) λhl=>d9 (h 1 hl))
  |2,_,hw=>exact have c:=hw "both" rfl;mX ra (BW.mp c) ↑0 (bo c BW (.inl rfl) λhl=>d9 (h 2 hl))
theorem GQ:∀(fu a:Nat)(s cc:St)(ps:List Pt)(f:Fm)(l:List Pt)(G:List Fr){α:Type}{q:List Sym}{g:Nat×St->Except Fault α}{Q:α->St->List Fr->Prop},iP ps->eB ps=a->a<128->len s+1<=fu->(∀r:Nat×St,¬r.2.sign ","=true->¬r.2.sign "{"=true->g r= .error (bad z r.2))->
  (∀r:Nat×St,len r.2<=len s->Sm e z q r.2 (⟨f,l++[.leaf (kind r.1)]⟩::G) (g r) Q)->Sm e z (.w D0::.fin::q) s (⟨.set cc,ps⟩::⟨f,l⟩::G) (g (trapIn fu a s)) Q
 |0,a,s,cc,ps,f,l,G,_,_,_,_,_,_,_,h,_,_=>by omega
 |fu+1,a,s,cc,ps,f,l,G,_,_,g,_,ho0,ha,ha2,hf,hg,h=>by
  unfold trapIn;cases ho:oneOf FLAGS s with
  |some k=>
   have hk:k<7:=eE ho;have e1:eB (ps++[.leaf [UInt8.ofNat k]])=withFlag a k:=by rw[iW,ha,Ga a ha2 k hk]
   have hw:∃w,s.key w=true/\w∈FLAGS:=⟨FLAGS[k],eW ho (List.getElem?_eq_getElem hk),List.getElem_mem hk⟩
   have n1:(113:Nat)≠lk e s/\(111:Nat)≠lk e s:=by
    obtain⟨w,hw,hm⟩:=hw;have hlt:lk e s<100:=by
     obtain⟨i,hi⟩:=Option.isSome_iff_exists.mp ((by decide+kernel:∀w∈FLAGS,(KEYWORDS.findIdx? λx=>x==word w).isSome=true) w hm);have h1:=(aA (e:=e) (s:=s) hi).mp hw;have h2:=(List.findIdx?_eq_some_iff_getElem.mp hi).1;have h3:KEYWORDS.length=80:=↑1
     omega
    omega
   refine mD oQ vC (aI n1.1 (d1 n1.2)) ↑0 (B' ho λhl=>?_);exact GQ fu (withFlag a k) s.skip cc _ f l G (qv ho0 hk) e1 (H_ a ha2 k hk).1 ↑2 hg λr hr=>h r ↑2
  |none=>
   have hset:done (.set cc) s ps= .leaf (kind a):=by rw[<-ha];rfl
   by_cases c1:s.sign ","=true
   ·exact mX vI (eI.mp c1) ↑0 (Dz (λ_=>ho0) (by rw[hset];exact h (a,s) (Nat.le_refl _)))
   by_cases c2:s.sign "{"=true
   ·exact mX xQ (FU.mp c2) ↑0 (Dz (λ_=>ho0) (by rw[hset];exact h (a,s) (Nat.le_refl _)))
   ·refine mD oQ vC (aI (λh=>c1 (eI.mpr h.symm)) (d1 λh=>c2 (FU.mpr h.symm))) ↑0 ?_;show Sm e z _ s _ (g (a,s)) _;rw[hg (a,s) c1 c2];exact Bv ho
theorem M0{g:Mode×St->Except Fault α}{Q:α->St->List Fr->Prop}(hf:len s+1<=fu)(hg:∀r:Mode×St,¬r.2.sign ","=true->¬r.2.sign "{"=true->g r= .error (bad z r.2))(h:∀(a:Mode×St)(p:Pt),len a.2<len s->yb p=a.1.bytes->yk p=[]->Sm e z q a.2 (⟨f,l++[p]⟩::G) (g a) Q):Sm e z (.w FI::q) s (⟨f,l⟩::G) (modeIn z fu s>>=g) Q:=by
 unfold modeIn;by_cases c1:s.key "rounding"=true
 ·rw[if_pos c1];refine mX p9 (jF.mp c1) ↑0 (bJ (bo c1 jF (.inl rfl) λhl=>d9 ?_));have:=PH (e:=e) (z:=z) (s:=s.skip) (f:=.row s) (l:=[]++[.leaf [0]]) (G:=⟨f,l⟩::G) (q:=.fin::q) (g:=λk=>g (.rounding k,s.skip.skip)) (Q:=Q) λk hl2=>cO rfl (h (.rounding k,s.skip.skip) _ (by show len s.skip.skip<len s;omega) (by show[]++([0]++(kind k++[]))=_;rw[List.append_nil];rfl) rfl);cases ho:oneOf (ROUNDS.take 4) s.skip with
  |none=>rw[ho] at this;exact this
  |some k=>rw[ho] at this;exact this
 rw[if_neg c1];by_cases c2:s.key "precision"=true
 ·rw[if_pos c2];refine mX l_ (iE.mp c2) ↑0 (bJ (bo c2 iE (.inl rfl) λhl=>d9 ?_));have e1:((EwTree.take z 3 s.skip).map (λ(x:Bytes×St)=>(Mode.precision x.1,x.2))>>=g)=(EwTree.take z 3 s.skip>>=λx=>g (.precision x.1,x.2)):=by cases EwTree.take z 3 s.skip <;> rfl
  rw[e1];exact cN (k:=3) ↑0 λa ha=>cO rfl (h (.precision a.1,a.2) _ (by show len a.2<len s;omega) (by show[]++([1]++(short a.1++[]))=_;rw[List.append_nil];rfl) rfl)
 rw[if_neg c2];by_cases c3:s.key "trap"=true
 ·rw[if_pos c3];refine mX yK (AQ.mp c3) ↑0 (bJ (bo c3 AQ (.inl rfl) λhl=>d9 (bJ ?_)));obtain⟨fu,rfl⟩:∃k,fu=k+1:=⟨fu - 1,↑2⟩
  cases ho:oneOf FLAGS s.skip with
  |none=>exact Bv ho
  |some k=>
   have hk:k<7:=eE ho;show Sm e z _ _ _ (g (.trap (trapIn (fu+1) 0 s.skip).1,(trapIn (fu+1) 0 s.skip).2)) Q;have e1:trapIn (fu+1) 0 s.skip=trapIn fu (withFlag 0 k) s.skip.skip:=by
    conv=>lhs;unfold trapIn
    rw[ho]
   rw[e1];refine B' ho λhl2=>?_;refine GQ (g:=λr=>g (.trap r.1,r.2)) fu (withFlag 0 k) s.skip.skip _ _ (.row s) _ _ (qv (ps:=[]) nofun hk) (by rw[iW,Ga 0 ↑0 k hk];rfl) (H_ 0 ↑0 k hk).1 ↑2 (λr h1 h2=>hg (.trap r.1,r.2) h1 h2) λr hr=>?_;exact cO rfl (h (.trap r.1,r.2) _ (by show len r.2<len s;omega) (by show[]++([2]++(kind r.1++[]))=_;rw[List.append_nil];rfl) rfl)
 rw[if_neg c3];by_cases c4:s.key "flush"=true
 ·rw[if_pos c4];refine mX ym (vM.mp c4) ↑0 (bJ (bo c4 vM (.inl rfl) λhl=>d9 ?_));have:=Kk (e:=e) (z:=z) (s:=s.skip) (f:=.row s) (l:=[]++[.leaf [3]]) (G:=⟨f,l⟩::G) (q:=.fin::q) (g:=λk=>g (.flush k,s.skip.skip)) (Q:=Q) λk hl2=>cO rfl (h (.flush k,s.skip.skip) _ (by show len s.skip.skip<len s;omega) (by show[]++([3]++(kind k++[]))=_;rw[List.append_nil];rfl) rfl);cases ho:oneOf ["in","out","both"] s.skip with
  |none=>rw[ho] at this;exact this
  |some k=>rw[ho] at this;exact this
 rw[if_neg c4];exact Fs (nt ↑0) ((Nh _).trans (bC (aI (λh=>c1 (jF.mpr h.symm)) (aI (λh=>c2 (iE.mpr h.symm)) (aI (λh=>c3 (AQ.mpr h.symm)) (aI (λh=>c4 (vM.mpr h.symm)) all_nil)))))) rfl
theorem CI:∀(fu:Nat)(s:St)(f:Fm)(l:List Pt)(G:List Fr){α:Type}{q:List Sym}{g:List Mode×St->Except Fault α}{Q:α->St->List Fr->Prop},len s+2<=fu->(∀r:List Mode×St,¬r.2.sign "{"=true->g r= .error (bad z r.2))->
  (∀(a:List Mode×St)(ps:List Pt),len a.2<len s->ps.length=a.1.length->cJ ps=a.1.flatMap Mode.bytes->cy ps=[]->Sm e z q a.2 (⟨f,l++ps⟩::G) (g a) Q)->Sm e z (.w FI::.w vQ::q) s (⟨f,l⟩::G) (modesIn z fu s>>=g) Q
 |0,s,f,l,G,_,_,_,_,h,_,_=>by omega
 |fu+1,s,f,l,G,_,q,g,Q,hf,hg,h=>by
  unfold modesIn;rw[ba];refine M0 ↑2 (λr h1 h2=>?_) λa p ha hb hk=>?_
  ·dsimp only;rw[bi,if_neg h1];exact hg ([r.1],r.2) h2
  ·dsimp only;rw[bi];by_cases c:a.2.sign ","=true
   ·rw[if_pos c];refine mX pR (eI.mp c) ↑0 (bo c eI (.inr rfl) λhl=>?_);rw[ba];refine CI fu a.2.skip f (l++[p]) G ↑2 (λr h2=>hg (a.1::r.1,r.2) h2) λb ps h3 h4 h5 h6=>?_;have:=h (a.1::b.1,b.2) (p::ps) (by show len b.2<len s;omega) (by show ps.length+1=b.1.length+1;rw[h4]) (by show yb p++cJ ps=a.1.bytes++b.1.flatMap Mode.bytes;rw[hb,h5]) (by show yk p++cy ps=[];rw[hk,h6];rfl);rw[List.append_assoc];exact this
   ·rw[if_neg c];refine mD tq w_ (d1 λh=>c (eI.mpr h.symm)) ↑0 ?_;exact h ([a.1],a.2) [p] ha rfl (by show yb p++[]=a.1.bytes++[];rw[hb]) (by show yk p++[]=[];rw[hk];rfl)
def NS(z:Fault)(fu a:Nat)(r:Expr×List Mark×St):Except Fault (Stmt×List Mark×St):=if endsCall r.1=true then .ok (.call r.1,marked 98 a r.2.2 r.2.1,r.2.2) else eat z (r.2.2.sign "=") r.2.2>>=λs=>exprIn z fu 0 s>>=λy=>.ok (.assign r.1 y.1,marked 97 a y.2.2 (r.2.1++y.2.1),y.2.2)
def AZ(x:Expr):Nat:=if endsCall x=true then iy else qh
theorem ql{fv:Nat}:∀(fu a:Nat)(x:Expr)(m:List Mark)(p:Pt)(s s0:St)(f:Fm)(l:List Pt)(G:List Fr),len s<len s0->24*len s+14<=fu->24*len s+14<=fv->yb p=Expr.bytes x->yk p=m.map yt->(∀b,st p b=s0)->s0.here=a->Sm e z [.w (AZ x)] s (⟨f,l++[p]⟩::G) (postIn z fu a x m s>>=NS z fv a) (PP Stmt.bytes s0 f l G)
 |0,_,_,_,_,_,_,_,_,_,_,h,_,_,_,_,_=>by omega
 |fu+1,a,x,m,p,s,s0,f,l,G,h0,hf,hv,hb,hk,hs,ha=>by
  have i:=wj e z fu;unfold postIn;rw[bi];have ne1:∀y:Expr,endsCall y=false->AZ y=qh:=λy h=>if_neg (by rw[h];decide);by_cases c1:s.sign "("=true
  ·rw[if_pos c1];have hr:row (AZ x) 107=some [.w Nt,.w iy]:=by
    unfold AZ;split
    ·exact lN
    ·exact Ca
   have h1000:1000<=AZ x:=by unfold AZ;split <;> decide
   refine mX hr (kZ.mp c1) h1000 (mD zV G8 d0 ↑0 (bJ (A8 (bo c1 kZ (.inr rfl) λhl=>?_))));rw[ba];refine mB (r:=[.bg .count,.w fV,.fin,.w 108]) (Ie i ↑2) λb s2 G2 ⟨e1,e2,qs,cb,ch,e3,e4,e5,e6⟩=>?_;subst e1 e3;refine cO rfl (ql fu a (.call x b.1) _ _ b.2.2 s0 f l G ↑2 ↑2 ↑2 ?_ (s_ ?_ (by rw[hs];omega) (by rw[hs];exact ha)) (λ_=>hs _) ha)
   ·show kind 43++(yb p++((count qs.length++cJ qs)++[]))=kind 43++(x.bytes++(count b.1.length++(exprsBytes b.1).flatten));rw[hb,e4,e5,List.append_nil]
   ·show yk p++(([]++cy qs)++[])=_;rw[hk,e6,List.append_nil,List.map_append];rfl
  rw[if_neg c1,bi];by_cases c2:s.sign "["=true
  ·rw[if_pos c2];have hr:row (AZ x) 109=some [.w JE,.w qh]:=by
    unfold AZ;split
    ·exact lC
    ·exact AK
   have h1000:1000<=AZ x:=by unfold AZ;split <;> decide
   refine mX hr (oj.mp c2) h1000 (mD vE Dt d0 ↑0 (bJ (A8 (bo c2 oj (.inr rfl) λhl=>?_))));rw[ba];refine cP (AJ ↑2) λb q h2 hb2 hk2 zq=>?_;rw[ba];refine cV v_ ↑0 (.inr rfl) λs3 h3=>cO rfl (ql fu a (.index x b.1) _ _ s3 s0 f l G ↑2 ↑2 ↑2 ?_ (s_ ?_ (by rw[hs];omega) (by rw[hs];exact ha)) (λ_=>hs _) ha)
   ·show kind 44++(yb p++(yb q++[]))=kind 44++(x.bytes++b.1.bytes);rw[hb,hb2,List.append_nil]
   ·show yk p++(yk q++[])=_;rw[hk,hk2,List.append_nil,List.map_append]
  rw[if_neg c2,bi];by_cases c3:s.sign "."=true
  ·rw[if_pos c3];have hr:row (AZ x) 115=some [.w GG,.w qh]:=by
    unfold AZ;split
    ·exact lB
    ·exact Cm
   have h1000:1000<=AZ x:=by unfold AZ;split <;> decide
   refine mX hr (mj.mp c3) h1000 (mD sT zd d0 ↑0 (bJ (A8 (bo c3 mj (.inr rfl) λhl=>?_))));rw[ba];refine cN (k:=1) ↑0 λb h2=>cO rfl (ql fu a (.field x b.1) _ _ b.2 s0 f l G ↑2 ↑2 ↑2 ?_ (s_ ?_ (by rw[hs];omega) (by rw[hs];exact ha)) (λ_=>hs _) ha)
   ·show kind 45++(yb p++(short b.1++[]))=kind 45++(x.bytes++short b.1);rw[hb,List.append_nil]
   ·show yk p++([]++[])=_;rw[hk];simp
  rw[if_neg c3];show Sm e z _ _ _ (NS z fv a (x,m,s)) _;unfold NS AZ;dsimp only;by_cases c4:endsCall x=true
  ·rw[if_pos c4,if_pos c4];refine mD ny rq (aI (λh=>c1 (kZ.mpr h.symm)) (aI (λh=>c2 (oj.mpr h.symm)) (d1 λh=>c3 (mj.mpr h.symm)))) ↑0 (bJ (A8 (aX ?_ ?_ h0 (hs _) ha)))
   ·show kind 98++(yb p++[])=kind 98++x.bytes;rw[hb,List.append_nil]
   ·show yk p++[]=_;rw[hk,List.append_nil]
  ·rw[if_neg c4,if_neg c4];by_cases c5:s.sign "="=true
   ·refine mX AU (IB.mp c5) ↑0 (bJ (A8 (cV IB ↑0 (.inr rfl) λs1 h1=>cP (AJ ↑2) λy q h2 hb2 hk2 zq=>aX ?_ ?_ ↑2 (hs _) ha)))
    ·show kind 97++(yb p++(yb q++[]))=kind 97++(x.bytes++y.1.bytes);rw[hb,hb2,List.append_nil]
    ·show yk p++(yk q++[])=_;rw[hk,hk2,List.append_nil,List.map_append]
   ·rw[show eat z (s.sign "=") s= .error (bad z s) from if_neg c5];exact Fs (nt ↑0) ((Kb _).trans (bC (aI (λh=>c1 (kZ.mpr h.symm)) (aI (λh=>c2 (oj.mpr h.symm)) (aI (λh=>c3 (mj.mpr h.symm)) (aI (λh=>c5 (IB.mpr h.symm)) all_nil)))))) rfl
def bb(b:Block):Bytes:=count b.length++b.bytes
structure Pr(e:Bool)(z:Fault)(fu:Nat):Prop where
 t:∀s f l G,24*len s+14<=fu->Sm e z [.w oO] s (⟨f,l⟩::G) (stmtIn z fu s) (PP Stmt.bytes s f l G)
 b:∀s f l G,24*len s+14<=fu->Sm e z [.w CO] s (⟨f,l⟩::G) (blockIn z fu s) (PP bb s f l G)
 l:∀s cc ps G,24*len s+15<=fu->Sm e z [.w kO,.w 112] s (⟨.count cc,ps⟩::G) (stmtsIn z fu s) λa s' G'=>s'=a.2.2/\len a.2.2<len s/\∃qs,G'=⟨.count cc,ps++qs⟩::G/\qs.length=a.1.length/\cJ qs=a.1.bytes/\cy qs=a.2.1.map yt
 r:∀s cc ps f l G,s.key "if"=true->24*len s+14<=fu+24->Sm e z [.w r8,.w eM] s (⟨.count cc,ps⟩::⟨f,l⟩::G) (branchesIn z fu s.skip) λa s' G'=>s'=a.2.2/\len a.2.2<len s/\∃qs rs cb ch,G'=⟨f,l++[.aY (.count cb) ch (ps++qs)]++rs⟩::G/\qs.length=a.1.length/\cJ qs++cJ rs=a.1.bytes/\cy qs++cy rs=a.2.1.map yt
 c:∀s cc ps f l G,24*len s+14<=fu->Sm e z [.w wk,.fin,.w Bd,.w 112] s (⟨.count cc,ps⟩::⟨f,l⟩::G) (casesIn z fu s) λa s' G'=>s'=a.2.2/\len a.2.2<len s/\∃qs rs cb ch,G'=⟨f,l++[.aY (.count cb) ch (ps++qs)]++rs⟩::G/\qs.length=a.1.length/\cJ qs++cJ rs=a.1.bytes/\cy qs++cy rs=a.2.1.map yt
theorem tb(i:Pr e z fu)(s:St)(f:Fm)(l:List Pt)(G:List Fr)(hf:24*len s+14<=fu+1):Sm e z [.w CO] s (⟨f,l⟩::G) (blockIn z (fu+1) s) (PP bb s f l G):=by
 unfold blockIn;refine mD E6 KQ d0 ↑0 (bJ (cV FU ↑0 (.inr rfl) λs1 h1=>?_));have h:=i.l s1 s [] (⟨f,l⟩::G) ↑2;have:=mB (q:=[.fin]) (k:=λr=>.ok r) (R:=PP bb s f l G) h λa s2 G2 ⟨e1,e2,qs,e3,e4,e5,e6⟩=>by
  subst e1 e3;refine cO rfl (mN ⟨rfl,by show len a.2.2<len s;omega,_,rfl,?_,?_,λ_=>rfl⟩)
  ·show count ([]++qs).length++cJ ([]++qs)=count a.1.length++a.1.bytes;rw[List.nil_append,e4,e5]
  ·show cy ([]++qs)=_;rw[List.nil_append,e6]
 have e0:(stmtsIn z fu s1>>=λr=>Except.ok r)=stmtsIn z fu s1:=by cases stmtsIn z fu s1 <;> rfl
 rw[e0] at this;exact this
theorem tl(i:Pr e z fu)(s cc:St)(ps:List Pt)(G:List Fr)(hf:24*len s+15<=fu+1):Sm e z [.w kO,.w 112] s (⟨.count cc,ps⟩::G) (stmtsIn z (fu+1) s) λa s' G'=>s'=a.2.2/\len a.2.2<len s/\∃qs,G'=⟨.count cc,ps++qs⟩::G/\qs.length=a.1.length/\cJ qs=a.1.bytes/\cy qs=a.2.1.map yt:=by
 unfold stmtsIn;by_cases c:s.sign "}"=true
 ·exact mT c (mX pO (Fb.mp c) ↑0 (bo c Fb (.inr rfl) λhl=>mN ⟨rfl,by show len s.skip<len s;omega,[],by rw[List.append_nil],rfl,rfl,rfl⟩))
 ·refine mF c (mD rj vU (d1 λh=>c (Fb.mpr h.symm)) ↑0 (cP (i.t s _ _ _ ↑2) λa p h1 hb hk zp=>mB (q:=[]) (i.l a.2.2 cc (ps++[p]) G ↑2) λb s2 G2 ⟨e1,e2,qs,e3,e4,e5,e6⟩=>?_));subst e1 e3;refine mN ⟨rfl,by show len b.2.2<len s;omega,p::qs,by rw[List.append_assoc];rfl,by show qs.length+1=b.1.length+1;rw[e4],?_,?_⟩
  ·show yb p++cJ qs=a.1.bytes++b.1.bytes;rw[hb,e5]
  ·show yk p++cy qs=_;rw[hk,e6,List.map_append]
theorem tr(i:Pr e z fu)(s cc:St)(ps:List Pt)(f:Fm)(l:List Pt)(G:List Fr)(c:s.key "if"=true)(hf:24*len s+14<=fu+1+24):Sm e z [.w r8,.w eM] s (⟨.count cc,ps⟩::⟨f,l⟩::G) (branchesIn z (fu+1) s.skip) λa s' G'=>s'=a.2.2/\len a.2.2<len s/\∃qs rs cb ch,G'=⟨f,l++[.aY (.count cb) ch (ps++qs)]++rs⟩::G/\qs.length=a.1.length/\cJ qs++cJ rs=a.1.bytes/\cy qs++cy rs=a.2.1.map yt:=by
 unfold branchesIn;refine mD Bq G5 d0 ↑0 (bJ (bo c zb (.inl rfl) λhl=>cP (AJ ↑2) λx p h1 hb1 hk1 zp=>cP (i.b _ _ _ _ ↑2) λb q h2 hb2 hk2 zq=>cO rfl ?_));have r1:yb (.aY (Fk.row.at s) b.2.2 ([]++[p]++[q]))=x.1.bytes++(count b.1.length++b.1.bytes):=by
  show[]++(yb p++(yb q++[]))=_;rw[hb1,hb2,List.append_nil];rfl
 have r2:yk (.aY (Fk.row.at s) b.2.2 ([]++[p]++[q]))=(x.2.1++b.2.1).map yt:=by
  show yk p++(yk q++[])=_;rw[hk1,hk2,List.append_nil,List.map_append]
 generalize (Pt.aY (Fk.row.at s) b.2.2 ([]++[p]++[q]))=w at r1 r2;by_cases c1:b.2.2.key "else"=true
 ·refine mT c1 (mX h7 (ju.mp c1) ↑0 (bo c1 ju (.inl rfl) λhl1=>?_));by_cases c2:b.2.2.skip.key "if"=true
  ·refine mT c2 (mX nM (zb.mp c2) ↑0 (mB (q:=[]) (i.r b.2.2.skip cc (ps++[w]) f l G c2 ↑2) λd s2 G2 ⟨e1,e2,qs,rs,cb,ch,e3,e4,e5,e6⟩=>?_));subst e1 e3;refine mN ⟨rfl,by show len d.2.2<len s;omega,w::qs,rs,_,_,by rw[List.append_assoc ps];rfl,by show qs.length+1=d.1.length+1;rw[e4],?_,?_⟩
   ·show(yb w++cJ qs)++cJ rs=x.1.bytes++(count b.1.length++(b.1.bytes++d.1.bytes));rw[r1,List.append_assoc,e5,List.append_assoc,List.append_assoc]
   ·show(yk w++cy qs)++cy rs=_;rw[r2,List.append_assoc,e6];show _=(x.2.1++(b.2.1++d.2.1)).map yt;rw[<-List.append_assoc,<-List.map_append]
  ·refine mF c2 (mD p7 ue (d1 λh=>c2 (zb.mpr h.symm)) ↑0 (cO rfl (d9 (cP (i.b _ _ _ _ ↑2) λd o h3 hb3 hk3 zo=>mN ⟨rfl,by show len d.2.2<len s;omega,[w],[.leaf [1],o],_,_,by rw[List.append_assoc];rfl,rfl,?_,?_⟩))))
   ·show(yb w++[])++([1]++(yb o++[]))=x.1.bytes++(count b.1.length++(b.1.bytes++(1::(count d.1.length++d.1.bytes))));rw[r1,hb3,List.append_nil,List.append_nil,List.append_assoc,List.append_assoc];rfl
   ·show(yk w++[])++([]++(yk o++[]))=_;rw[r2,hk3,List.append_nil,List.append_nil,List.nil_append,<-List.map_append,List.append_assoc]
 ·refine mF c1 (mD ly pY (d1 λh=>c1 (ju.mpr h.symm)) ↑0 (cO rfl (d9 (mN ⟨rfl,by show len b.2.2<len s;omega,[w],[.leaf [0]],_,_,rfl,rfl,?_,?_⟩))))
  ·show(yb w++[])++([0]++[])=x.1.bytes++(count b.1.length++(b.1.bytes++[0]));rw[r1,List.append_nil,List.append_assoc,List.append_assoc];rfl
  ·show(yk w++[])++([]++[])=_;rw[r2];simp
theorem tc(i:Pr e z fu)(s cc:St)(ps:List Pt)(f:Fm)(l:List Pt)(G:List Fr)(hf:24*len s+14<=fu+1):Sm e z [.w wk,.fin,.w Bd,.w 112] s (⟨.count cc,ps⟩::⟨f,l⟩::G) (casesIn z (fu+1) s) λa s' G'=>s'=a.2.2/\len a.2.2<len s/\∃qs rs cb ch,G'=⟨f,l++[.aY (.count cb) ch (ps++qs)]++rs⟩::G/\qs.length=a.1.length/\cJ qs++cJ rs=a.1.bytes/\cy qs++cy rs=a.2.1.map yt:=by
 unfold casesIn;by_cases c1:s.key "is"=true
 ·refine mT c1 (mX BG (N5.mp c1) ↑0 (bJ (bo c1 N5 (.inl rfl) λhl=>cP (Ko ↑2) λt p h1 hb1 hk1 zp=>cN (k:=1) ↑0 λn hn=>cP (i.b _ _ _ _ ↑2) λb q h2 hb2 hk2 zq=>cO rfl ?_)));have r1:yb (.aY (Fk.row.at s) b.2.2 ([]++[p]++[.leaf (Ba 1 n.1)]++[q]))=t.1.bytes++(short n.1++(count b.1.length++b.1.bytes)):=by
   show[]++(yb p++(short n.1++(yb q++[])))=_;rw[hb1,hb2,List.append_nil];rfl
  have r2:yk (.aY (Fk.row.at s) b.2.2 ([]++[p]++[.leaf (Ba 1 n.1)]++[q]))=(t.2.1++b.2.1).map yt:=by
   show yk p++([]++(yk q++[]))=_;rw[hk1,hk2,List.append_nil,List.map_append];rfl
  generalize (Pt.aY (Fk.row.at s) b.2.2 ([]++[p]++[.leaf (Ba 1 n.1)]++[q]))=w at r1 r2;refine mB (q:=[]) (i.c b.2.2 cc (ps++[w]) f l G ↑2) λd s2 G2 ⟨e1,e2,qs,rs,cb,ch,e3,e4,e5,e6⟩=>?_;subst e1 e3;refine mN ⟨rfl,by show len d.2.2<len s;omega,w::qs,rs,_,_,by rw[List.append_assoc ps];rfl,by show qs.length+1=d.1.length+1;rw[e4],?_,?_⟩
  ·show(yb w++cJ qs)++cJ rs=t.1.bytes++(short n.1++(count b.1.length++(b.1.bytes++d.1.bytes)));rw[r1,List.append_assoc,e5,List.append_assoc,List.append_assoc,List.append_assoc]
  ·show(yk w++cy qs)++cy rs=_;rw[r2,List.append_assoc,e6];show _=(t.2.1++(b.2.1++d.2.1)).map yt;rw[<-List.append_assoc,<-List.map_append]
 refine mF c1 (mD Fp K0 (d1 λh=>c1 (N5.mpr h.symm)) ↑0 (cO rfl ?_));by_cases c2:s.key "else"=true
 ·refine mT c2 (mX yB (ju.mp c2) ↑0 (bo c2 ju (.inl rfl) λhl=>d9 (cP (i.b _ _ _ _ ↑2) λb q h2 hb2 hk2 zq=>cV Fb ↑0 (.inr rfl) λs3 h3=>mN ⟨rfl,by show len s3<len s;omega,[],[.leaf [1],q],_,_,by rw[List.append_nil,List.append_assoc];rfl,rfl,?_,?_⟩)))
  ·show[]++([1]++(yb q++[]))=1::(count b.1.length++b.1.bytes);rw[hb2,List.append_nil];rfl
  ·show[]++([]++(yk q++[]))=_;rw[hk2,List.append_nil];rfl
 ·exact mF c2 (mD Jp N9 (d1 λh=>c2 (ju.mpr h.symm)) ↑0 (d9 (cV Fb ↑0 (.inr rfl) λs3 h3=>mN ⟨rfl,by show len s3<len s;omega,[],[.leaf [0]],_,_,by rw[List.append_nil],rfl,rfl,rfl⟩)))
theorem Tp(h:24*len s<=fu):Sm e z [.w T'] s (⟨f,l⟩::G) (if s.key "to"=true then(exprIn z fu 0 s.skip).map λ(z:Expr×List Mark×St)=>(some z.1,z.2) else .ok (none,[],s):Except Fault ((Option Expr)×List Mark×St)) (PA (maybe Expr.bytes) s f l G):=by
 by_cases c:s.key "to"=true
 ·refine mT c (mX J4 (Nd.mp c) ↑0 (bo c Nd (.inl rfl) λhl=>d9 (mM (AJ ↑2) λa s' G' ⟨h1,h2,p,h3,h4,h5,_⟩=>?_)));refine⟨h1,by show len a.2.2<=len s;omega,[.leaf [1],p],by rw[h3,List.append_assoc];rfl,?_,?_⟩
  ·show[1]++(yb p++[])=1::a.1.bytes;rw[h4,List.append_nil];rfl
  ·show[]++(yk p++[])=_;rw[h5,List.append_nil];rfl
 ·exact mF c (mD NI TH (d1 λh=>c (Nd.mpr h.symm)) ↑0 (d9 (mN ⟨rfl,Nat.le_refl _,[.leaf [0]],rfl,rfl,rfl⟩)))
theorem NP{g:Option Bytes×St->Except Fault α}{Q:α->St->List Fr->Prop}(h:∀(a:Option Bytes×St)(ps:List Pt),len a.2<=len s->cJ ps=maybe short a.1->cy ps=[]->Sm e z q a.2 (⟨f,l++ps⟩::G) (g a) Q):
  Sm e z (.w Mf::q) s (⟨f,l⟩::G) ((if s.key "into"=true then(EwTree.take z 1 s.skip).map λ(x:Bytes×St)=>(some x.1,x.2) else .ok (none,s):Except Fault (Option Bytes×St))>>=g) Q:=by
 by_cases c:s.key "into"=true
 ·rw[if_pos c];have e1:((EwTree.take z 1 s.skip).map (λ(x:Bytes×St)=>(some x.1,x.2))>>=g)=(EwTree.take z 1 s.skip>>=λx=>g (some x.1,x.2)):=by cases EwTree.take z 1 s.skip <;> rfl
  rw[e1];refine mX y_ (AW.mp c) ↑0 (bo c AW (.inl rfl) λhl=>d9 (cN (k:=1) ↑0 λa ha=>?_));have:=h (some a.1,a.2) [.leaf [1],.leaf (short a.1)] (by show len a.2<=len s;omega) (by show[1]++(short a.1++[])=_;rw[List.append_nil];rfl) rfl;rw[List.append_assoc];exact this
 ·rw[if_neg c];exact mD G6 Oo (d1 λh=>c (AW.mpr h.symm)) ↑0 (d9 (h (none,s) [.leaf [0]] (Nat.le_refl _) rfl rfl))
theorem Kh{x:Except Fault α}{Q:α->St->List Fr->Prop}(h:∀ps,len (AG s).2<=len s->cJ ps=maybe long (AG s).1->cy ps=[]->Sm e z q (AG s).2 (⟨f,l++ps⟩::G) x Q):Sm e z (.w uy::q) s (⟨f,l⟩::G) x Q:=by
 by_cases c:lk e s=203
 ·obtain⟨t,r,e1,e2⟩:=(cK (k:=4) ↑0).mpr c;obtain⟨p,ts⟩:=s;have e1:ts=t::r:=e1;subst e1;have eo:AG ⟨p,t::r⟩=(some t.bytes,⟨t.halt_,r⟩):=if_pos e2;rw[eo] at h;refine mX jw c ↑0 (d9 (Fg (k:=4) ↑0 e2 ?_));have:=h [.leaf [1],.leaf (long t.bytes)] (Nat.le_succ _) (by show[1]++(long t.bytes++[])=1::long t.bytes;rw[List.append_nil];rfl) rfl;rw[List.append_assoc];exact this
 ·have eo:AG s=(none,s):=by
   obtain⟨p,ts⟩:=s;cases ts with
   |nil=>rfl
   |cons t r=>exact if_neg λk=>c ((cK (k:=4) ↑0).mp ⟨t,r,rfl,k⟩)
  rw[eo] at h;exact mD pW uC (d1 λk=>c k.symm) ↑0 (d9 (h [.leaf [0]] (Nat.le_refl _) rfl rfl))
theorem tt(i:Pr e z fu)(s:St)(f:Fm)(l:List Pt)(G:List Fr)(hf:24*len s+14<=fu+1):Sm e z [.w oO] s (⟨f,l⟩::G) (stmtIn z (fu+1) s) (PP Stmt.bytes s f l G):=by
 unfold stmtIn;by_cases c1:s.key "let"=true
 ·exact mT c1 (mX p_ (yO.mp c1) ↑0 (LS c1 (B:=Stmt.bytes) (mk:=λn t x=>Stmt.let_ n t x) (λn t x=>rfl) ↑2))
 refine mF c1 ?_;by_cases c2:s.key "flags"=true
 ·refine mT c2 (mX lW (eV.mp c2) ↑0 (bJ (bo c2 eV (.inl rfl) λhl=>cV IB ↑0 (.inr rfl) λs1 h1=>cP (AJ ↑2) λa p h2 hb hk zp=>aX ?_ ?_ ↑2)))
  ·show kind 99++(yb p++[])=kind 99++a.1.bytes;rw[hb,List.append_nil]
  ·show yk p++[]=_;rw[hk,List.append_nil]
 refine mF c2 ?_;by_cases c3:s.key "if"=true
 ·refine mT c3 (mX tU (zb.mp c3) ↑0 (bJ (bJ (mB (r:=[.w r8,.w eM]) (i.r s _ [] _ _ _ c3 ↑2) λa s2 G2 ⟨e1,e2,qs,rs,cb,ch,e3,e4,e5,e6⟩=>?_))));subst e1 e3;refine aX ?_ ?_ ↑2
  ·show kind 100++((count ([]++qs).length++cJ ([]++qs))++cJ rs)=kind 100++(count a.1.length++a.1.bytes);rw[List.nil_append,e4,List.append_assoc,e5]
  ·show cy ([]++qs)++cy rs=_;rw[List.nil_append,e6]
 refine mF c3 ?_;by_cases c4:s.key "while"=true
 ·refine mT c4 (mX kz (xq.mp c4) ↑0 (bJ (bo c4 xq (.inl rfl) λhl=>cP (AJ ↑2) λa p h2 hb hk zp=>cP (i.b _ _ _ _ ↑2) λb q h3 hb2 hk2 zq=>aX ?_ ?_ ↑2)))
  ·show kind 101++(yb p++(yb q++[]))=kind 101++(a.1.bytes++(count b.1.length++b.1.bytes));rw[hb,hb2,List.append_nil];rfl
  ·show yk p++(yk q++[])=_;rw[hk,hk2,List.append_nil,List.map_append]
 refine mF c4 ?_;by_cases c5:s.key "for"=true
 ·refine mT c5 (mX pL (IF.mp c5) ↑0 (bJ (bo c5 IF (.inl rfl) λhl=>cN (k:=1) ↑0 λn hn=>cV KA ↑0 (.inl rfl) λs1 h1=>cP (AJ ↑2) λa p h2 hb hk zp=>cA (Tp ↑2) λt ps h3 hb3 hk3=>cP (i.b _ _ _ _ ↑2) λb q h4 hb2 hk2 zq=>aX ?_ ?_ ↑2)))
  ·show kind 102++cJ ([]++[.leaf (short n.1)]++[p]++ps++[q])=kind 102++(short n.1++(a.1.bytes++(maybe Expr.bytes t.1++(count b.1.length++b.1.bytes))));rw[iY,vn,iY,hb,hb2,hb3];show kind 102++((((short n.1++[])++_)++_)++_)=_;rw[List.append_nil,List.append_assoc,List.append_assoc];rfl
  ·show cy ([]++[.leaf (short n.1)]++[p]++ps++[q])=_;rw[ig,u5,ig,hk,hk2,hk3,List.map_append,List.map_append];show(([]++_)++_)++_=_;rw[List.nil_append,List.append_assoc]
 refine mF c5 ?_;by_cases c6:s.key "match"=true
 ·refine mT c6 (mX lK (vV.mp c6) ↑0 (bJ (bo c6 vV (.inl rfl) λhl=>cP (AJ ↑2) λa p h2 hb hk zp=>cV FU ↑0 (.inr rfl) λs1 h1=>bJ (mB (r:=[.w wk,.fin,.w Bd,.w 112]) (i.c s1 _ [] _ _ _ ↑2) λb s2 G2 ⟨e1,e2,qs,rs,cb,ch,e3,e4,e5,e6⟩=>?_))));subst e1 e3;refine aX ?_ ?_ ↑2
  ·show kind 103++(yb p++((count ([]++qs).length++cJ ([]++qs))++cJ rs))=kind 103++(a.1.bytes++(count b.1.length++b.1.bytes));rw[List.nil_append,e4,List.append_assoc,e5,hb]
  ·show yk p++(([]++cy ([]++qs))++cy rs)=_;rw[List.nil_append,List.nil_append,e6,hk,List.map_append]
 refine mF c6 ?_;by_cases c7:s.key "return"=true
 ·refine mT c7 (mX jP (qD.mp c7) ↑0 (bJ (bo c7 qD (.inl rfl) λhl=>cP (AJ ↑2) λa p h2 hb hk zp=>aX ?_ ?_ ↑2)))
  ·show kind 104++(yb p++[])=kind 104++a.1.bytes;rw[hb,List.append_nil]
  ·show yk p++[]=_;rw[hk,List.append_nil]
 refine mF c7 ?_;by_cases c8:s.key "leave"=true
 ·exact mT c8 (mX kx (yl.mp c8) ↑0 (bJ (bo c8 yl (.inl rfl) λhl=>aX rfl rfl ↑2)))
 refine mF c8 ?_;by_cases c9:s.key "break"=true
 ·exact mT c9 (mX lA (wU.mp c9) ↑0 (bJ (bo c9 wU (.inl rfl) λhl=>aX rfl rfl ↑2)))
 refine mF c9 ?_;by_cases c10:s.key "next"=true
 ·exact mT c10 (mX mQ (Bi.mp c10) ↑0 (bJ (bo c10 Bi (.inl rfl) λhl=>aX rfl rfl ↑2)))
 refine mF c10 ?_;by_cases c11:s.key "with"=true
 ·refine mT c11 (mX mL (Cd.mp c11) ↑0 (bJ (bo c11 Cd (.inl rfl) λhl=>bJ (CI fu s.skip _ _ _ ↑2 (λr h=>?_) λa ps h1 h2 hb hk=>cO rfl (cP (i.b _ _ _ _ ↑2) λb q h3 hb2 hk2 zq=>aX ?_ ?_ ↑2)))))
  ·obtain⟨fu,rfl⟩:∃k,fu=k+1:=⟨fu - 1,↑2⟩
   dsimp only;unfold blockIn;rw[show eat z (r.2.sign "{") r.2= .error (bad z r.2) from if_neg h];rfl
  ·show kind 108++((count ([]++ps).length++cJ ([]++ps))++(yb q++[]))=kind 108++(count a.1.length++(a.1.flatMap Mode.bytes++(count b.1.length++b.1.bytes)));rw[List.nil_append,h2,hb,hb2,List.append_nil,List.append_assoc];rfl
  ·show([]++cy ([]++ps))++(yk q++[])=_;rw[List.nil_append,List.nil_append,hk,hk2,List.append_nil];rfl
 refine mF c11 ?_;by_cases c12:s.key "try"=true
 ·refine mT c12 (mX pE (Jq.mp c12) ↑0 (bJ (bo c12 Jq (.inl rfl) λhl=>cP (i.b _ _ _ _ ↑2) λa p h2 hb hk zp=>?_)));by_cases d1':a.2.2.key "catch"=true
  ·refine mT d1' (mX jT (wc.mp d1') ↑0 (bo d1' wc (.inl rfl) λhl2=>d9 (cN (k:=1) ↑0 λn hn=>cP (i.b _ _ _ _ ↑2) λb q h3 hb2 hk2 zq=>?_)));by_cases d2':b.2.2.key "finally"=true
   ·refine mT d2' (mX fG (ej.mp d2') ↑0 (bo d2' ej (.inl rfl) λhl3=>d9 (cP (i.b _ _ _ _ ↑2) λd o h4 hb4 hk4 zo=>aX ?_ ?_ ↑2)))
    ·show kind 109++(yb p++([1]++(short n.1++(yb q++([1]++(yb o++[]))))))=kind 109++(count a.1.length++(a.1.bytes++(1::(short n.1++(count b.1.length++(b.1.bytes++(1::(count d.1.length++d.1.bytes))))))));rw[hb,hb2,hb4,List.append_nil];unfold bb;simp only[List.append_assoc,List.cons_append,List.nil_append]
    ·show yk p++([]++([]++(yk q++([]++(yk o++[])))))=_;rw[hk,hk2,hk4,List.append_nil,List.map_append,List.map_append];rfl
   ·refine mF d2' (mD Ax Fo (d1 λh=>d2' (ej.mpr h.symm)) ↑0 (d9 (aX ?_ ?_ ↑2)))
    ·show kind 109++(yb p++([1]++(short n.1++(yb q++([0]++[])))))=kind 109++(count a.1.length++(a.1.bytes++(1::(short n.1++(count b.1.length++(b.1.bytes++[0]))))));rw[hb,hb2];unfold bb;simp only[List.append_assoc,List.cons_append,List.nil_append]
    ·show yk p++([]++([]++(yk q++([]++[]))))=_;rw[hk,hk2,List.map_append];simp
  ·refine mF d1' ?_;by_cases d3':a.2.2.key "finally"=true
   ·refine mX iG (ej.mp d3') ↑0 (d9 (mX fG (ej.mp d3') ↑0 (cV ej ↑0 (.inl rfl) λs1 h1=>d9 (cP (i.b _ _ _ _ ↑2) λb q h3 hb2 hk2 zq=>aX ?_ ?_ ↑2))))
    ·show kind 109++(yb p++([0]++([1]++(yb q++[]))))=kind 109++(count a.1.length++(a.1.bytes++(0::1::(count b.1.length++b.1.bytes))));rw[hb,hb2,List.append_nil];unfold bb;simp only[List.append_assoc,List.cons_append,List.nil_append]
    ·show yk p++([]++([]++(yk q++[])))=_;rw[hk,hk2,List.append_nil,List.map_append];rfl
   ·rw[show eat z (a.2.2.key "finally") a.2.2= .error (bad z a.2.2) from if_neg d3'];exact Fs (nt ↑0) ((yp _).trans (bC (aI (λh=>d1' (wc.mpr h.symm)) (aI (λh=>d3' (ej.mpr h.symm)) all_nil)))) rfl
 refine mF c12 ?_;by_cases c13:s.key "raise"=true
 ·refine mT c13 (mX lx (wo.mp c13) ↑0 (bJ (bo c13 wo (.inl rfl) λhl=>cP (AJ ↑2) λa p h2 hb hk zp=>aX ?_ ?_ ↑2)))
  ·show kind 110++(yb p++[])=kind 110++a.1.bytes;rw[hb,List.append_nil]
  ·show yk p++[]=_;rw[hk,List.append_nil]
 refine mF c13 ?_;by_cases c14:s.key "say"=true
 ·refine mT c14 (mX qa (Gy.mp c14) ↑0 (bJ (bo c14 Gy (.inl rfl) λhl=>bJ (mB (r:=[.w cE,.w bM]) ((wj e z fu).li s.skip _ _ _ ↑2) λa s2 G2 ⟨e1,e2,qs,e3,e4,e5,e6⟩=>?_))));subst e1 e3;refine cO rfl (aX ?_ ?_ ↑2)
  ·show kind 111++((count ([]++qs).length++cJ ([]++qs))++[])=kind 111++(count a.1.length++(exprsBytes a.1).flatten);rw[List.nil_append,e4,e5,List.append_nil]
  ·show([]++cy ([]++qs))++[]=_;rw[List.nil_append,List.nil_append,e6,List.append_nil]
 refine mF c14 ?_;by_cases c15:s.key "yield"=true
 ·refine mT c15 (mX km (vR.mp c15) ↑0 (bJ (bo c15 vR (.inl rfl) λhl=>cP (AJ ↑2) λa p h2 hb hk zp=>NP λn ps h3 hb3 hk3=>aX ?_ ?_ ↑2)))
  ·show kind 112++(yb p++cJ ps)=kind 112++(a.1.bytes++maybe short n.1);rw[hb,hb3]
  ·show yk p++cy ps=_;rw[hk,hk3,List.append_nil]
 refine mF c15 ?_;by_cases c16:s.key "post"=true
 ·refine mT c16 (mX nQ (AF.mp c16) ↑0 (bJ (bo c16 AF (.inl rfl) λhl=>cP (AJ ↑2) λa p h1 hb1 hk1 zp=>cV Ec ↑0 (.inr rfl) λs2 h2=>cP (AJ ↑2) λb q h3 hb2 hk2 zq=>cV NR ↑0 (.inl rfl) λs4 h4=>cP (AJ ↑2) λd o h5 hb3 hk3 zo=>Kh λps h6 hb4 hk4=>?_)));refine aX (x:=Stmt.post a.1 b.1 d.1 (AG d.2.2).1) (m:=a.2.1++(b.2.1++d.2.1)) ?_ ?_ ↑2
  ·show kind 113++(yb p++(yb q++(yb o++cJ ps)))=kind 113++(a.1.bytes++(b.1.bytes++(d.1.bytes++maybe long (AG d.2.2).1)));rw[hb1,hb2,hb3,hb4]
  ·show yk p++(yk q++(yk o++cy ps))=_;rw[hk1,hk2,hk3,hk4,List.append_nil,List.map_append,List.map_append]
 refine mF c16 ?_;by_cases c17:lk e s=200
 ·refine mX mq c17 ↑0 (mD zC Gk d0 ↑0 (bJ (cN (k:=1) ↑0 λn hn=>cO rfl ?_)));exact ql (fv:=fu) fu s.here (.name n.1) (marked 37 s.here n.2 []) _ n.2 s f l G ↑2 ↑2 ↑2 (by show kind 37++(short n.1++[])=_;rw[List.append_nil];rfl) (s_ rfl (by show len n.2<len s;omega) rfl) (λ_=>rfl) rfl
 ·rw[qw (e:=e) (k:=1) ↑0 c17];exact Fs (nt ↑0) ((AA _).trans (bC (aI (λh=>c1 (yO.mpr h.symm)) (aI (λh=>c17 h.symm) (aI (λh=>c2 (eV.mpr h.symm)) (aI (λh=>c3 (zb.mpr h.symm)) (aI (λh=>c4 (xq.mpr h.symm)) (aI (λh=>c5 (IF.mpr h.symm)) (aI (λh=>c6 (vV.mpr h.symm)) (aI (λh=>c7 (qD.mpr h.symm)) (aI (λh=>c8 (yl.mpr h.symm)) (aI (λh=>c9 (wU.mpr h.symm)) (aI (λh=>c10 (Bi.mpr h.symm)) (aI (λh=>c11 (Cd.mpr h.symm)) (aI (λh=>c12 (Jq.mpr h.symm)) (aI (λh=>c13 (wo.mpr h.symm)) (aI (λh=>c14 (Gy.mpr h.symm)) (aI (λh=>c15 (vR.mpr h.symm)) (aI (λh=>c16 (AF.mpr h.symm)) all_nil))))))))))))))))))) rfl
theorem Ht(e:Bool)(z:Fault):∀fu,Pr e z fu
 |0=>⟨λs _ _ _ h=>↑2,λs _ _ _ h=>↑2,λs _ _ _ h=>↑2,λs cc ps f l G c h=>by
   obtain⟨p,ts⟩:=s;cases ts with
   |nil=>cases c
   |cons t r=>
    have:1<=len ⟨p,t::r⟩:=Nat.succ_pos _;omega,λs _ _ _ _ _ h=>↑2⟩
 |fu+1=>let i:=Ht e z fu;⟨tt i,tb i,tl i,tr i,tc i⟩
def Ug(s:St)(ps:List Pt)(f:Fm)(l:List Pt)(G:List Fr)(a:List (Bytes×Srt)×List Mark×St)(s':St)(G':List Fr):Prop:=s'=a.2.2/\len a.2.2<len s/\∃qs cb ch,G'=⟨f,l++[.aY (.count cb) ch (ps++qs)]⟩::G/\qs.length=a.1.length/\cJ qs=(a.1.flatMap λ(x:Bytes×Srt)=>short x.1++x.2.bytes)/\cy qs=a.2.1.map yt
theorem DL{c:String}(hc:∀s:St,s.sign c=true↔lk e s=n)(hn:n<1000):∀(fu:Nat)(s cc:St)(ps:List Pt)(f:Fm)(l:List Pt)(G:List Fr),2*len s+2<=fu->Sm e z [.w Kj,.w tY,.fin,.w n] s (⟨.count cc,ps⟩::⟨f,l⟩::G) (partsIn z c fu s) (Ug s ps f l G)
 |0,s,_,_,_,_,_,h=>by omega
 |fu+1,s,cc,ps,f,l,G,hf=>by
  unfold partsIn;refine mD Fc KO d0 ↑0 (bJ (cN (k:=1) ↑0 λm hm=>cV Ec ↑0 (.inr rfl) λs1 h1=>cP (Ko ↑2) λa p h2 hb hk zp=>cO rfl ?_));have e1:yb (.aY (Fk.row.at s) a.2.2 ([]++[.leaf (Ba 1 m.1)]++[p]))=short m.1++a.1.bytes:=by
   show[]++(short m.1++(yb p++[]))=_;rw[List.append_nil,hb];rfl
  have e2:yk (.aY (Fk.row.at s) a.2.2 ([]++[.leaf (Ba 1 m.1)]++[p]))=a.2.1.map yt:=by
   show[]++(yk p++[])=_;rw[List.append_nil,hk];rfl
  generalize (Pt.aY (Fk.row.at s) a.2.2 ([]++[.leaf (Ba 1 m.1)]++[p]))=q at e1 e2;by_cases c1:a.2.2.sign ","=true
  ·refine mT c1 (mX mU (eI.mp c1) ↑0 (bo c1 eI (.inr rfl) λhl=>mB (q:=[]) (DL hc hn fu a.2.2.skip cc (ps++[q]) f l G ↑2) λb s2 G2 ⟨f1,f2,qs,cb,ch,f3,f4,f5,f6⟩=>?_));subst f1 f3;refine mN ⟨rfl,by show len b.2.2<len s;omega,q::qs,_,_,by rw[List.append_assoc];rfl,by show qs.length+1=b.1.length+1;rw[f4],?_,?_⟩
   ·show yb q++cJ qs=(short m.1++a.1.bytes)++_;rw[e1,f5];rfl
   ·show yk q++cy qs=_;rw[e2,f6,List.map_append]
  ·refine mF c1 (mD pq ua (d1 λh=>c1 (eI.mpr h.symm)) ↑0 (cO rfl (cV (k:=5) (hc _) hn (.inr rfl) λs2 h3=>mN ⟨rfl,by show len s2<len s;omega,[q],_,_,rfl,rfl,?_,?_⟩)))
   ·show yb q++[]=(short m.1++a.1.bytes)++[];rw[e1]
   ·show yk q++[]=_;rw[e2,List.append_nil]
theorem zY{c:String}(hc:∀s:St,s.sign c=true↔lk e s=n)(hn:n<1000)(hn2:n≠200)(hf:2*len s+2<=fu):Sm e z [.bg .count,.w qV,.fin,.w n] s (⟨f,l⟩::G) (if s.sign c=true then(.ok ([],[],s.skip):Except Fault ((List (Bytes×Srt))×List Mark×St)) else partsIn z c fu s) (Ug s [] f l G):=by
 refine bJ ?_;by_cases c1:s.sign c=true
 ·have hn3:lk e s≠200:=by rw[(hc s).mp c1];exact hn2
  exact mT c1 (mD qJ yL (d1 λh=>hn3 h.symm) ↑0 (cO rfl (bo (k:=5) c1 (hc s) (.inr rfl) λhl=>mN ⟨rfl,by show len s.skip<len s;omega,[],_,_,rfl,rfl,rfl,rfl⟩)))
 ·refine mF c1 ?_;by_cases c2:lk e s=200
  ·exact mX t9 c2 ↑0 (DL hc hn fu s _ [] f l G hf)
  ·obtain⟨fu,rfl⟩:∃k,fu=k+1:=⟨fu - 1,↑2⟩
   unfold partsIn;rw[qw (e:=e) (k:=1) ↑0 c2];refine mD qJ yL (d1 λh=>c2 h.symm) ↑0 (cO rfl ?_);exact Rx hn (λh=>c1 ((hc s).mpr h))
theorem Di:∀(fu:Nat)(s cc:St)(ps:List Pt)(f:Fm)(l:List Pt)(G:List Fr),len s+1<=fu->Sm e z [.w 200,.w kD,.fin,.w 110] s (⟨.count cc,ps⟩::⟨f,l⟩::G) (namesIn z "]" fu s) λa s' G'=>s'=a.2/\len a.2<len s/\∃qs cb ch,G'=⟨f,l++[.aY (.count cb) ch (ps++qs)]⟩::G/\qs.length=a.1.length/\cJ qs=a.1.flatMap short/\cy qs=[]
 |0,s,_,_,_,_,_,h=>by omega
 |fu+1,s,cc,ps,f,l,G,hf=>by
  unfold namesIn;refine cN (k:=1) ↑0 λm hm=>?_;by_cases c1:m.2.sign ","=true
  ·refine mT c1 (mX pj (eI.mp c1) ↑0 (bo c1 eI (.inr rfl) λhl=>mB (q:=[]) (Di fu m.2.skip _ _ f l G ↑2) λb s2 G2 ⟨f1,f2,qs,cb,ch,f3,f4,f5,f6⟩=>?_));subst f1 f3;refine mN ⟨rfl,by show len b.2<len s;omega,.leaf (short m.1)::qs,_,_,by rw[List.append_assoc];rfl,by show qs.length+1=b.1.length+1;rw[f4],?_,?_⟩
   ·show short m.1++cJ qs=short m.1++_;rw[f5];rfl
   ·show[]++cy qs=_;rw[f6];rfl
  ·exact mF c1 (mD qW wV (d1 λh=>c1 (eI.mpr h.symm)) ↑0 (cO rfl (cV v_ ↑0 (.inr rfl) λs2 h3=>mN ⟨rfl,by show len s2<len s;omega,[.leaf (short m.1)],_,_,rfl,rfl,rfl,rfl⟩)))
theorem Hd{g:List Bytes×St->Except Fault α}{Q:α->St->List Fr->Prop}(hf:len s<=fu)(h:∀(a:List Bytes×St)(p:Pt),len a.2<=len s->yb p=count a.1.length++a.1.flatMap short->yk p=[]->Sm e z q a.2 (⟨f,l++[p]⟩::G) (g a) Q):
  Sm e z (.w xB::q) s (⟨f,l⟩::G) ((if s.sign "["=true then namesIn z "]" fu s.skip else .ok ([],s))>>=g) Q:=by
 by_cases c:s.sign "["=true
 ·rw[if_pos c];refine mX qc (oj.mp c) ↑0 (bo c oj (.inr rfl) λhl=>bJ (mB (r:=[.w 200,.w kD,.fin,.w 110]) (Di fu s.skip _ [] f l G ↑2) λa s2 G2 ⟨f1,f2,qs,cb,ch,f3,f4,f5,f6⟩=>?_));subst f1 f3;exact h a _ ↑2 (by show count ([]++qs).length++cJ ([]++qs)=_;rw[List.nil_append,f4,f5]) (by show cy ([]++qs)=[];rw[List.nil_append,f6])
 ·rw[if_neg c];exact mD qE yg (d1 λh=>c (oj.mpr h.symm)) ↑0 (bJ (cO rfl (h ([],s) _ (Nat.le_refl _) rfl rfl)))
theorem Qr(h:2*len s<=fu):Sm e z [.w Ho] s (⟨f,l⟩::G) (if s.sign "->"=true then(sortIn z fu s.skip).map λ(z:Srt×List Mark×St)=>(some z.1,z.2) else .ok (none,[],s):Except Fault ((Option Srt)×List Mark×St)) (PA (maybe Srt.bytes) s f l G):=by
 by_cases c:s.sign "->"=true
 ·refine mT c (mX oY (ES.mp c) ↑0 (bo c ES (.inr rfl) λhl=>d9 (mM (Ko ↑2) λa s' G' ⟨h1,h2,p,h3,h4,h5,_⟩=>?_)));refine⟨h1,by show len a.2.2<=len s;omega,[.leaf [1],p],by rw[h3,List.append_assoc];rfl,?_,?_⟩
  ·show[1]++(yb p++[])=1::a.1.bytes;rw[h4,List.append_nil];rfl
  ·show[]++(yk p++[])=_;rw[h5,List.append_nil];rfl
 ·exact mF c (mD so zy (d1 λh=>c (ES.mpr h.symm)) ↑0 (d9 (mN ⟨rfl,Nat.le_refl _,[.leaf [0]],rfl,rfl,rfl⟩)))
theorem Oj(hf:24*len s+14<=fu):Sm e z [.w jn] s (⟨f,l⟩::G) (declIn z fu s) (PP Decl.bytes s f l G):=by
 unfold declIn;by_cases c1:s.key "let"=true
 ·exact mT c1 (mX lz (yO.mp c1) ↑0 (LS c1 (B:=Decl.bytes) (mk:=λn t x=>Decl.let_ n t x) (λn t x=>rfl) ↑2))
 refine mF c1 ?_;by_cases c2:s.key "record"=true
 ·refine mT c2 (mX iS (qB.mp c2) ↑0 (bJ (bo c2 qB (.inl rfl) λhl=>cN (k:=1) ↑0 λn hn=>cV FU ↑0 (.inr rfl) λs1 h1=>mB (r:=[.bg .count,.w qV,.fin,.w 112]) (zY (λs=>Fb) ↑0 ↑0 ↑2) λa s2 G2 ⟨f1,f2,qs,cb,ch,f3,f4,f5,f6⟩=>?_)));subst f1 f3;refine aX ?_ ?_ ↑2
  ·show kind 129++(short n.1++((count ([]++qs).length++cJ ([]++qs))++[]))=kind 129++(short n.1++(count a.1.length++_));rw[List.nil_append,f4,f5,List.append_nil]
  ·show[]++(([]++cy ([]++qs))++[])=_;rw[List.nil_append,List.nil_append,List.nil_append,f6,List.append_nil]
 refine mF c2 ?_;by_cases c3:s.key "account"=true
 ·refine mT c3 (mX hZ (fg.mp c3) ↑0 (bJ (bo c3 fg (.inl rfl) λhl=>cN (k:=1) ↑0 λn hn=>cN (k:=2) ↑0 λd hd=>aX ?_ rfl ↑2)));show kind 130++(short n.1++(short d.1++[]))=_;rw[List.append_nil];rfl
 refine mF c3 ?_;by_cases c4:s.key "fn"=true
 ·refine mT c4 (mX nW (EO.mp c4) ↑0 (bJ (bo c4 EO (.inl rfl) λhl=>cN (k:=1) ↑0 λn hn=>Hd ↑2 λns p h1 hb1 hk1=>cV kZ ↑0 (.inr rfl) λs1 h2=>mB (r:=[.bg .count,.w qV,.fin,.w 108]) (zY (λs=>hX) ↑0 ↑0 ↑2) λa s2 G2 ⟨f1,f2,qs,cb,ch,f3,f4,f5,f6⟩=>?_)));subst f1 f3;refine cA (Qr ↑2) λt ps h3 hb3 hk3=>cP ((Ht e z fu).b _ _ _ _ ↑2) λb q h4 hb4 hk4 zq=>aX ?_ ?_ ↑2
  ·show kind 131++cJ ([]++[.leaf (short n.1)]++[p]++[.aY (.count cb) ch ([]++qs)]++ps++[q])=kind 131++(short n.1++(count ns.1.length++(ns.1.flatMap short++((count a.1.length++_)++(maybe Srt.bytes t.1++(count b.1.length++b.1.bytes))))));rw[iY,vn,iY,iY,hb1,hb3,hb4];show kind 131++(((((short n.1++[])++_)++(count ([]++qs).length++cJ ([]++qs)))++_)++_)=_;rw[List.nil_append,f4,f5,List.append_nil];unfold bb;simp only[List.append_assoc]
  ·show cy ([]++[.leaf (short n.1)]++[p]++[.aY (.count cb) ch ([]++qs)]++ps++[q])=_;rw[ig,u5,ig,ig,hk1,hk3,hk4,List.map_append,List.map_append];show((([]++[])++([]++cy ([]++qs)))++_)++_=_;rw[List.nil_append,List.nil_append,List.nil_append,List.nil_append,f6,List.append_assoc]
 refine mF c4 ?_;exact Fs (nt ↑0) ((t5 _).trans (bC (aI (λh=>c1 (yO.mpr h.symm)) (aI (λh=>c2 (qB.mpr h.symm)) (aI (λh=>c3 (fg.mpr h.symm)) (aI (λh=>c4 (EO.mpr h.symm)) all_nil)))))) rfl
theorem N_:lk e s=204->s.toks=[]/\e=false:=by
 intro c;obtain⟨p,ts⟩:=s;cases ts with
 |nil=>
  cases e
  ·exact⟨rfl,rfl⟩
  ·cases c
 |cons t r=>
  have c:lZ t=204:=c;have hl:KEYWORDS.length=80:=↑1
  have hs:SIGNS.length=25:=↑1
  unfold lZ at c;split at c
  ·split at c
   ·rename_i j hj;have:=(List.findIdx?_eq_some_iff_getElem.mp hj).1;omega
   ·cases c
  split at c
  ·split at c
   ·rename_i j hj;have:=(List.findIdx?_eq_some_iff_getElem.mp hj).1;omega
   ·cases c
  split at c
  ·cases c
  split at c
  ·cases c
  split at c
  ·cases c
  split at c <;> cases c
theorem CC:∀(g:Nat)(s cc:St)(ps:List Pt)(G:List Fr){α:Type}{q:List Sym}{k:List Decl×List Mark×St->Except Fault α}{Q:α->St->List Fr->Prop},24*len s+14<=fu->len s<g->(e=true->∀r,k r= .error z)->
  (e=false->∀(a:List Decl×List Mark×St)(qs:List Pt),len a.2.2<=len s->qs.length=a.1.length->cJ qs=a.1.flatMap Decl.bytes->cy qs=a.2.1.map yt->Sm e z q a.2.2 (⟨.count cc,ps++qs⟩::G) (k a) Q)->Sm e z (.w ib::q) s (⟨.count cc,ps⟩::G) (declsIn z fu g s>>=k) Q
 |0,s,_,_,_,_,_,_,_,_,h,_,_=>by omega
 |g+1,s,cc,ps,G,_,q,k,Q,hf,hg,hk,h=>by
  by_cases c:s.toks=[]
  ·have e0:declsIn z fu (g+1) s= .ok ([],[],s):=by
    obtain⟨p,ts⟩:=s;have c:ts=[]:=c;subst c;rfl
   rw[e0];show Sm e z _ _ _ (k ([],[],s)) Q;cases e with
   |false=>
    have hl:lk false s=204:=by unfold lk;rw[c];rfl
    have:=h rfl ([],[],s) [] (Nat.le_refl _) rfl rfl rfl;rw[List.append_nil] at this;exact mX jQ hl ↑0 this
   |true=>
    have hl:lk true s=205:=by unfold lk;rw[c];rfl
    rw[hk rfl];have hb:bad z s=z:=by unfold bad;rw[c]
    refine mD gc iC (d1 (by rw[hl];decide)) ↑0 ?_;have:=Fs (e:=true) (z:=z) (s:=s) (G:=⟨.count cc,ps⟩::G) (n:=jn) (q:=[.w ib]++q) (Q:=Q) (nt ↑0) (by rw[hl];rfl) rfl;rw[hb] at this;exact this
  ·have e0:declsIn z fu (g+1) s=declIn z fu s>>=λr=>declsIn z fu g r.2.2>>=λr2=>.ok (r.1::r2.1,r.2.1++r2.2.1,r2.2.2):=by
    obtain⟨p,ts⟩:=s;cases ts with
    |nil=>exact absurd rfl c
    |cons t r=>rfl
   rw[e0,ba];refine mD gc iC (d1 λh=>c (N_ h.symm).1) ↑0 (cP (Oj hf) λa p h1 hb hk1 zp=>?_);rw[ba];refine CC g a.2.2 cc (ps++[p]) G ↑2 ↑2 (λhe r=>hk he _) λhe b qs h9 h2 h3 h4=>?_;have:=h he (a.1::b.1,a.2.1++b.2.1,b.2.2) (p::qs) (by show len b.2.2<=len s;omega) (by show qs.length+1=b.1.length+1;rw[h2]) (by show yb p++cJ qs=a.1.bytes++b.1.flatMap Decl.bytes;rw[hb,h3]) (by show yk p++cy qs=_;rw[hk1,h4,List.map_append]);rw[List.append_assoc];exact this
theorem Gd:∀(fu:Nat)(s cc:St)(ps:List Pt)(G:List Fr),len s<fu->Sm e z [.w O2] s (⟨.count cc,ps⟩::G) (usesIn z fu s) λa s' G'=>s'=a.2/\len a.2<=len s/\∃qs,G'=⟨.count cc,ps++qs⟩::G/\qs.length=a.1.length/\cJ qs=a.1.flatMap short/\cy qs=[]
 |0,s,_,_,_,h=>by omega
 |fu+1,s,cc,ps,G,hf=>by
  unfold usesIn;by_cases c:s.key "use"=true
  ·refine mT c (mX BM (Io.mp c) ↑0 (bo c Io (.inl rfl) λhl=>cN (k:=1) ↑0 λn hn=>mB (q:=[]) (Gd fu n.2 _ _ G ↑2) λb s2 G2 ⟨f1,f2,qs,f3,f4,f5,f6⟩=>?_));subst f1 f3;refine mN ⟨rfl,by show len b.2<=len s;omega,.leaf (short n.1)::qs,by rw[List.append_assoc];rfl,by show qs.length+1=b.1.length+1;rw[f4],?_,?_⟩
   ·show short n.1++cJ qs=short n.1++_;rw[f5];rfl
   ·show[]++cy qs=_;rw[f6];rfl
  ·exact mF c (mD G4 MO (d1 λh=>c (Io.mpr h.symm)) ↑0 (mN ⟨rfl,Nat.le_refl _,[],by rw[List.append_nil],rfl,rfl,rfl⟩))
theorem MI(b:Bytes):Sm (tokens b).2.isSome ((tokens b).2.getD (3,b.length)) [.w dA] ⟨0,(tokens b).1⟩ [⟨.row ⟨0,(tokens b).1⟩,[]⟩] (EwTree.read b) λa _ G'=>∃p,G'=[⟨.row ⟨0,(tokens b).1⟩,[p]⟩]/\yb p=a.1.bytes/\yk p=a.2.map yt:=by
 unfold EwTree.read;generalize hx:tokens b=x;dsimp only;have hl:len ⟨0,x.1⟩=x.1.length:=rfl;refine mD zN EH d0 ↑0 (bJ (cV Ib ↑0 (.inl rfl) λs1 h1=>cN (k:=1) ↑0 λn h2=>bJ (mC (Gd _ _ _ [] _ ↑2) λu s2 G2 ⟨f1,f2,qs,f3,f4,f5,f6⟩=>?_)));subst f1 f3;refine cO rfl (bJ (CC _ u.2 _ [] _ ↑2 ↑2 (λhe r=>?_) λhe a rs h9 h3 h4 h5=>cO rfl ?_))
 ·cases hx2:x.2 with
  |none=>rw[hx2] at he;cases he
  |some er=>rfl
 ·cases hx2:x.2 with
  |some er=>rw[hx2] at he;cases he
  |none=>
   refine cO rfl (mN ⟨_,rfl,?_,s_ ?_ (by show len a.2.2<len ⟨0,x.1⟩;omega) rfl⟩)
   ·show kind 144++(short n.1++((count ([]++qs).length++cJ ([]++qs))++((count ([]++rs).length++cJ ([]++rs))++[])))=kind 144++(short n.1++(count u.1.length++(u.1.flatMap short++(count a.1.length++a.1.flatMap Decl.bytes))));rw[List.nil_append,List.nil_append,f4,f5,h3,h4,List.append_nil,List.append_assoc]
   ·show[]++(cy ([]++qs)++(cy ([]++rs)++[]))=_;simp only[List.nil_append,List.append_nil,f6,h5]
end
section
open PySem (Str)
local macro_rules
 |`(tactic|omega)=>`(tactic|first|lia|omega (splitMinMax:=true))
noncomputable def Pd:List Str:=[⟨#[60,112,114,111,103,114,97,109,62]⟩,⟨#[60,117,115,101,115,62]⟩,⟨#[60,100,101,99,108,97,114,97,116,105,111,110,115,62]⟩,⟨#[60,100,101,99,108,97,114,97,116,105,111,110,62]⟩,⟨#[60,108,101,116,62]⟩,⟨#[60,116,111,108,100,32,115,111,114,116,62]⟩,⟨#[60,115,111,114,116,32,110,97,109,101,115,62]⟩,⟨#[60,109,111,114,101,32,110,97,109,101,115,62]⟩,⟨#[60,102,105,101,108,100,115,62]⟩,⟨#[60,109,111,114,101,32,102,105,101,108,100,115,62]⟩,⟨#[60,102,105,101,108,100,62]⟩,⟨#[60,114,101,115,117,108,116,62]⟩,⟨#[60,115,111,114,116,62]⟩,⟨#[60,111,102,32,115,111,114,116,62]⟩,⟨#[60,115,111,114,116,115,62]⟩,⟨#[60,109,111,114,101,32,115,111,114,116,115,62]⟩,⟨#[60,111,102,32,97,32,109,111,100,117,108,101,62]⟩,⟨#[60,98,108,111,99,107,62]⟩,⟨#[60,115,116,97,116,101,109,101,110,116,115,62]⟩,⟨#[60,115,116,97,116,101,109,101,110,116,62]⟩]
noncomputable def K':List Str:=[⟨#[60,99,104,97,105,110,62]⟩,⟨#[60,99,97,108,108,101,100,32,99,104,97,105,110,62]⟩,⟨#[60,109,111,114,101,32,98,114,97,110,99,104,101,115,62]⟩,⟨#[60,98,101,104,105,110,100,32,101,108,115,101,62]⟩,⟨#[60,98,114,97,110,99,104,62]⟩,⟨#[60,116,111,62]⟩,⟨#[60,99,97,115,101,115,62]⟩,⟨#[60,101,108,115,101,62]⟩,⟨#[60,98,101,104,105,110,100,32,116,114,121,62]⟩,⟨#[60,102,105,110,97,108,108,121,62]⟩,⟨#[60,105,110,116,111,62]⟩,⟨#[60,112,111,115,116,101,100,32,116,101,120,116,62]⟩,⟨#[60,109,111,114,101,32,109,111,100,101,115,62]⟩,⟨#[60,109,111,100,101,62]⟩,⟨#[60,100,105,114,101,99,116,105,111,110,62]⟩,⟨#[60,116,114,97,112,112,101,100,62]⟩,⟨#[60,102,108,117,115,104,101,100,62]⟩,⟨#[60,102,108,97,103,62]⟩,⟨#[60,101,120,112,114,101,115,115,105,111,110,115,62]⟩,⟨#[60,109,111,114,101,32,101,120,112,114,101,115,115,105,111,110,115,62]⟩]
noncomputable def JZ:List Str:=[⟨#[60,101,120,112,114,101,115,115,105,111,110,62]⟩,⟨#[60,109,111,114,101,32,111,114,62]⟩,⟨#[60,98,111,116,104,62]⟩,⟨#[60,109,111,114,101,32,97,110,100,62]⟩,⟨#[60,110,101,103,97,116,101,100,62]⟩,⟨#[60,99,111,109,112,97,114,101,100,62]⟩,⟨#[60,99,97,115,116,62]⟩,⟨#[60,109,111,114,101,32,97,115,62]⟩,⟨#[60,100,105,103,105,116,115,62]⟩,⟨#[60,114,111,117,110,100,105,110,103,62]⟩,⟨#[60,115,117,109,62]⟩,⟨#[60,109,111,114,101,32,115,117,109,62]⟩,⟨#[60,112,114,111,100,117,99,116,62]⟩,⟨#[60,109,111,114,101,32,112,114,111,100,117,99,116,62]⟩,⟨#[60,115,105,103,110,101,100,62]⟩,⟨#[60,103,105,118,105,110,103,62]⟩,⟨#[60,112,111,119,101,114,62]⟩,⟨#[60,112,111,115,116,62]⟩,⟨#[60,109,111,114,101,32,112,111,115,116,62]⟩,⟨#[60,99,97,108,108,62]⟩]
noncomputable def JX:List Str:=[⟨#[60,105,110,100,101,120,62]⟩,⟨#[60,109,101,109,98,101,114,62]⟩,⟨#[60,110,97,109,101,62]⟩,⟨#[60,102,105,114,115,116,62]⟩,⟨#[60,102,108,97,103,115,62]⟩,⟨#[60,109,111,114,101,32,102,108,97,103,115,62]⟩,⟨#[60,108,105,115,116,101,100,62]⟩,⟨#[60,109,111,114,101,32,108,105,115,116,101,100,62]⟩,⟨#[60,109,97,100,101,62]⟩,⟨#[60,115,101,116,116,105,110,103,115,62]⟩,⟨#[60,109,111,114,101,32,115,101,116,116,105,110,103,115,62]⟩,⟨#[60,115,101,116,116,105,110,103,62]⟩]
noncomputable def Rp:List Str:=Pd++K'++JZ++JX
def sgn(b:Bytes):Str:=if b=[37] then⟨#[112,101,114,99,101,110,116]⟩ else TW.vm b
noncomputable def UL:List Str:=[⟨#[78,65,77,69]⟩,⟨#[67,79,68,69]⟩,⟨#[78,85,77,66,69,82]⟩,⟨#[84,69,88,84]⟩,⟨#[69,78,68]⟩,⟨#[70,65,85,76,84]⟩]
def nm(n:Nat):Str:=if n<100 then(KEYWORDS.map TW.vm).getD n ⟨#[]⟩ else if n<200 then(SIGNS.map sgn).getD (n - 100) ⟨#[]⟩ else if n<1000 then UL.getD (n - 200) ⟨#[]⟩ else Rp.getD (n - 1000) ⟨#[]⟩
def enc(s:Str):Nat:=s.cps.toList.foldl (λa c=>a*256+c) 1
noncomputable def VC:List Nat:=List.range 80++(List.range 25).map (λi=>100+i)++(List.range 6).map (λi=>200+i)++[299]++(List.range 72).map (λi=>1000+i)
def xn:List Nat->Bool
 |[]=>true
 |a::l=>l.all (λb=>!(Nat.beq a b))&&xn l
theorem nq:∀{l:List Nat},xn l=true->l.Nodup
 |[],_=>List.nodup_nil
 |a::l,h=>by
  have h:=(Bool.and_eq_true _ _).mp h;refine List.nodup_cons.mpr ⟨λm=>?_,nq h.2⟩;have:=List.all_eq_true.mp h.1 a m;rw[Nat.beq_refl] at this;cases this
theorem GH:xn (VC.map λn=>enc (nm n))=true:=↑1
theorem lR{f:α->Nat}:∀{l:List α},(l.map f).Nodup->∀a∈l,∀b∈l,f a=f b->a=b
 |[],_,_,h,_,_,_=>by cases h
 |x::l,hn,a,ha,b,hb,e=>by
  rw[List.map_cons,List.nodup_cons] at hn;rcases List.mem_cons.mp ha with h1|ha
  ·rcases List.mem_cons.mp hb with h2|hb
   ·rw[h1,h2]
   ·rw[h1] at e;exact absurd (List.mem_map.mpr ⟨b,hb,e.symm⟩) hn.1
  ·rcases List.mem_cons.mp hb with h2|hb
   ·rw[h2] at e;exact absurd (List.mem_map.mpr ⟨a,ha,e⟩) hn.1
   ·exact lR hn.2 a ha b hb e
theorem xT{a b:Nat}(ha:a∈VC)(hb:b∈VC)(h:nm a=nm b):a=b:=lR (nq GH) a ha b hb (congrArg enc h)
def flat(i:Nat):List (List (Nat×List Sym))->List ((Nat×Nat)×List Sym)
 |[]=>[]
 |g::G=>g.map (λy=>((i,y.1),y.2))++flat (i+1) G
noncomputable def FT:List ((Nat×Nat)×List Sym):=flat 1000 cM
def cZ:List ((Nat×Nat)×List Sym)->Nat->Nat->Option (List Sym)
 |[],_,_=>none
 |p::r,x,l=>if p.1.1=x/\p.1.2=l then some p.2 else cZ r x l
theorem uS:∀(a b:List ((Nat×Nat)×List Sym))(x l:Nat),cZ (a++b) x l=(cZ a x l).or (cZ b x l)
 |[],b,x,l=>rfl
 |p::a,b,x,l=>by
  show(if p.1.1=x/\p.1.2=l then some p.2 else cZ (a++b) x l)=(if p.1.1=x/\p.1.2=l then some p.2 else cZ a x l).or (cZ b x l);split
  ·rfl
  ·exact uS a b x l
theorem uT:∀(g:List (Nat×List Sym))(i x l:Nat),cZ (g.map λy=>((i,y.1),y.2)) x l=if i=x then aH g l else none
 |[],i,x,l=>by split <;> rfl
 |y::g,i,x,l=>by
  show(if i=x/\y.1=l then some y.2 else cZ (g.map λy=>((i,y.1),y.2)) x l)=if i=x then(if Nat.beq y.1 l=true then some y.2 else aH g l) else none;rw[uT g i x l];by_cases h:i=x
  ·rw[if_pos h,if_pos h];by_cases h2:y.1=l
   ·rw[if_pos ⟨h,h2⟩,if_pos (by rw[h2];exact Nat.beq_refl l)]
   ·rw[if_neg λc=>h2 c.2,if_neg λc=>h2 (Nat.eq_of_beq_eq_true c)]
  ·rw[if_neg λc=>h c.1,if_neg h,if_neg h]
theorem qU:∀(G:List (List (Nat×List Sym)))(i x l:Nat),cZ (flat i G) x l=if i<=x then(RO G (x - i)).bind (λg=>aH g l) else none
 |[],i,x,l=>by show none=_;split <;> rfl
 |g::G,i,x,l=>by
  show cZ (g.map (λy=>((i,y.1),y.2))++flat (i+1) G) x l=_;rw[uS,uT,qU G (i+1) x l];by_cases h:i=x
  ·subst h;rw[if_pos rfl,if_neg ↑2,if_pos (Nat.le_refl _),Nat.sub_self];show(aH g l).or none=aH g l;cases aH g l <;> rfl
  ·rw[if_neg h];by_cases h2:i<=x
   ·rw[if_pos h2,if_pos ↑2,show x - i=(x - (i+1))+1 by omega];rfl
   ·rw[if_neg h2,if_neg ↑2];rfl
theorem z8(x l:Nat):cZ FT x l=row x l:=by
 unfold FT row;rw[qU];by_cases h:1000<=x
 ·rw[if_pos h,if_pos (Nat.ble_eq_true_of_le h)];cases RO cM (x - 1000) <;> rfl
 ·rw[if_neg h,if_neg λc=>h (Nat.le_of_ble_eq_true c)]
def lX(n:Nat):Bool:=Nat.blt n 80||(Nat.ble 100 n&&Nat.blt n 125)||(Nat.ble 200 n&&Nat.blt n 206)||Nat.beq n 299||(Nat.ble 1000 n&&Nat.blt n (1000+72))
theorem cz(h:lX n=true):n∈VC:=by
 unfold lX at h;simp only[Bool.or_eq_true,Bool.and_eq_true] at h;unfold VC;simp only[List.mem_append,List.mem_map,List.mem_range,List.mem_singleton];rcases h with(((h|h)|h)|h)|h
 ·exact .inl (.inl (.inl (.inl (by have:=Nat.le_of_ble_eq_true h;omega))))
 ·have h1:=Nat.le_of_ble_eq_true h.1;have h2:n+1<=125:=Nat.le_of_ble_eq_true h.2;exact .inl (.inl (.inl (.inr ⟨n - 100,↑2,↑2⟩)))
 ·have h1:=Nat.le_of_ble_eq_true h.1;have h2:n+1<=206:=Nat.le_of_ble_eq_true h.2;exact .inl (.inl (.inr ⟨n - 200,↑2,↑2⟩))
 ·exact .inl (.inr (Nat.eq_of_beq_eq_true h))
 ·have h1:=Nat.le_of_ble_eq_true h.1;have h2:n+1<=1000+72:=Nat.le_of_ble_eq_true h.2;exact .inr ⟨n - 1000,↑2,↑2⟩
def Q1:Sym->Bool
 | .w x=>lX x
 |_=>true
theorem P7:(FT.all λp=>lX p.1.1&&lX p.1.2&&p.2.all Q1)=true:=↑1
theorem J2:xn (FT.map λp=>p.1.1*4096+p.1.2)=true:=↑1
theorem GK{t:Tok}(g:TW.Good t):lZ t∈VC/\nm (lZ t)=TW.bN t:=by
 rcases g with⟨h0,hm⟩|⟨h1,h4⟩|⟨h5,hm⟩
 ·obtain⟨i,hi⟩:∃i,(KEYWORDS.findIdx? λx=>x==t.bytes)=some i:=by
   cases h:KEYWORDS.findIdx? λx=>x==t.bytes with
   |some i=>exact⟨i,rfl⟩
   |none=>
    have:=List.findIdx?_eq_none_iff.mp h t.bytes hm;simp at this
  obtain⟨hl,hb,_⟩:=List.findIdx?_eq_some_iff_getElem.mp hi;have hb:KEYWORDS[i]=t.bytes:=by simpa using hb
  have h80:KEYWORDS.length=80:=↑1
  have e:lZ t=i:=by unfold lZ;rw[if_pos h0,hi]
  rw[e];refine⟨cz (by unfold lX;simp;omega),?_⟩;unfold nm TW.bN;rw[if_pos ↑2,if_pos h0,List.getD_eq_getElem?_getD,List.getElem?_map,List.getElem?_eq_getElem hl,hb];rfl
 ·have e:lZ t=199+t.kind:=by
   unfold lZ;rw[if_neg ↑2,if_neg ↑2];split
   ·omega
   split
   ·omega
   split
   ·omega
   split <;> omega
  rw[e];unfold TW.bN;have:t.kind=1\/t.kind=2\/t.kind=3\/t.kind=4:=↑2
  rcases this with h|h|h|h
  ·rw[h];exact⟨cz ↑0,(by decide+kernel:nm 200=Str.ofString "NAME")⟩
  ·rw[h];exact⟨cz ↑0,(by decide+kernel:nm 201=Str.ofString "CODE")⟩
  ·rw[h];exact⟨cz ↑0,(by decide+kernel:nm 202=Str.ofString "NUMBER")⟩
  ·rw[h];exact⟨cz ↑0,(by decide+kernel:nm 203=Str.ofString "TEXT")⟩
 ·obtain⟨i,hi⟩:∃i,(SIGNS.findIdx? λx=>x==t.bytes)=some i:=by
   cases h:SIGNS.findIdx? λx=>x==t.bytes with
   |some i=>exact⟨i,rfl⟩
   |none=>
    have:=List.findIdx?_eq_none_iff.mp h t.bytes hm;simp at this
  obtain⟨hl,hb,_⟩:=List.findIdx?_eq_some_iff_getElem.mp hi;have hb:SIGNS[i]=t.bytes:=by simpa using hb
  have h25:SIGNS.length=25:=↑1
  have e:lZ t=100+i:=by unfold lZ;rw[if_neg ↑2,if_pos h5,hi]
  rw[e];refine⟨cz (by unfold lX;simp;omega),?_⟩;unfold nm TW.bN;rw[if_neg ↑2,if_pos ↑2,if_neg ↑2,if_neg ↑2,if_neg ↑2,if_neg ↑2,if_neg ↑2,List.getD_eq_getElem?_getD,List.getElem?_map,show 100+i - 100=i by omega,List.getElem?_eq_getElem hl,hb];show sgn t.bytes=_;unfold sgn;split
  ·decide+kernel
  ·rfl
end
end MA
namespace MA
open EwTree RT TW
inductive Ct:Bytes->Bytes->Prop
 |nil:Ct [] []
 |SU{c:UInt8} {y x:Bytes}:Ct y x->Ct (92::c::y) ((if c=110 then 10 else c)::x)
 |one{c:UInt8} {y x:Bytes}:c≠92->Ct y x->Ct (c::y) (c::x)
theorem i':∀(m k p:Nat)(b:Bytes)(x:Bytes×Nat×Bytes),b.length<=m->k<=1024->itemsIn k p b= .ok x->∃y,b=y++34::x.2.2/\x.2.1=p+y.length+1/\Ct y x.1/\x.1.length+k<=1024
 |0,k,p,b,x,hb,hk,h=>by
  have:b=[]:=List.eq_nil_of_length_eq_zero ↑2;subst this;unfold itemsIn at h;cases h
 |m+1,k,p,b,x,hb,hk,h=>by
  cases b with
  |nil=>unfold itemsIn at h;cases h
  |cons c r=>
   have hb:r.length<=m:=by simpa using hb
   unfold itemsIn at h;split at h
   ·rename_i hc;cases h;exact⟨[],by rw[hc];rfl,rfl,.nil,by show 0+k<=1024;omega⟩
   split at h
   ·cases h
   rename_i hc1 hk1;have hk1:k<1024:=Nat.lt_of_not_le hk1;split at h
   ·cases h
   split at h
   ·rename_i hc2 hc;have two:∀(a d:UInt8)(s:Bytes),r=d::s->(if d=110 then 10 else d)=a->((itemsIn (k+1) (p+2) s).map λ(x:Bytes×Nat×Bytes)=>(a::x.1,x.2))= .ok x->∃y,c::r=y++34::x.2.2/\x.2.1=p+y.length+1/\Ct y x.1/\x.1.length+k<=1024:=by
     intro a d s er ea hx;cases q:itemsIn (k+1) (p+2) s with
     |error e=>rw[q] at hx;cases hx
     |ok w=>
      rw[q] at hx;cases hx;obtain⟨y,h1,h2,h3,h4⟩:=i' m (k+1) (p+2) s w (by rw[er] at hb;simp at hb;omega) ↑2 q;refine⟨92::d::y,by rw[hc,er,h1];rfl,by show w.2.1=_;rw[h2];simp only[List.length_cons];omega,?_,by show w.1.length+1+k<=1024;omega⟩;rw[<-ea];exact .SU h3
    split at h
    ·exact two 34 34 _ rfl ↑0 h
    ·exact two 92 92 _ rfl ↑0 h
    ·exact two 10 110 _ rfl ↑0 h
    ·cases h
   ·rename_i hc;split at h
    ·cases q:itemsIn (k+1) (p+1) r with
     |error e=>rw[q] at h;cases h
     |ok w=>
      rw[q] at h;cases h;obtain⟨y,h1,h2,h3,h4⟩:=i' m (k+1) (p+1) r w hb ↑2 q;exact⟨c::y,by rw[h1];rfl,by show w.2.1=_;rw[h2];simp only[List.length_cons];omega,.one hc h3,by show w.1.length+1+k<=1024;omega⟩
    ·cases h
structure OV(b:Bytes)(t:Tok):Prop where
 lo:t.place<t.halt_
 hi:t.halt_<=b.length
 raw:1<=t.kind->t.kind<=3->t.bytes=(b.drop t.place).take (t.halt_ - t.place)/\t.bytes.length<256
 txt:t.kind=4->Ct ((b.drop (t.place+1)).take (t.halt_ - 1 - (t.place+1))) t.bytes/\t.bytes.length<=1024/\t.place+1<=t.halt_ - 1
theorem B9{w:Bytes}(h:isNumber w=true):w.length<256:=by unfold isNumber at h;have h:=(Bool.and_eq_true _ _).mp h;have h:=(Bool.and_eq_true _ _).mp h.2;have:w.length<=255:=of_decide_eq_true h.1;omega
theorem Ih{w:Bytes}(h:isCode w=true):w.length<256:=by unfold isCode at h;have h:=(Bool.and_eq_true _ _).mp h;have h:=(Bool.and_eq_true _ _).mp h.2;have h:=(Bool.and_eq_true _ _).mp h.2;have:w.length<=8:=of_decide_eq_true h.2;omega
theorem eA(f:UInt8->Bool):∀(b:Bytes),b.take (b.takeWhile f).length=b.takeWhile f
 |[]=>rfl
 |c::b=>by
  rw[List.takeWhile_cons];split
  ·rw[List.length_cons,List.take_succ_cons,eA f b]
  ·rfl
theorem D1{p:Nat}{b:Bytes}{t:Tok}{s:Bytes}(h:tokenIn p b= .ok (t,s)):(1<=t.kind->t.kind<=3->t.bytes=b.take (t.halt_ - p)/\t.bytes.length<256)/\
  (t.kind=4->Ct ((b.drop 1).take (t.halt_ - 1 - (p+1))) t.bytes/\t.bytes.length<=1024/\p+1<=t.halt_ - 1):=by
 unfold tokenIn at h;cases b with
 |nil=>cases h
 |cons c r=>
  dsimp only at h;split at h
  ·split at h
   ·cases h;exact⟨λh=>absurd (show 1<=0 from h) ↑0,λh=>absurd (show 0=4 from h) ↑0⟩
   ·split at h
    ·rename_i hl;cases h;refine⟨λ_ _=>⟨?_,?_⟩,λh=>absurd (show 1=4 from h) ↑0⟩
     ·show _=List.take (p+((c::r).takeWhile isWordByte).length - p) (c::r);rw[Nat.add_sub_cancel_left,eA]
     ·have:((c::r).takeWhile isWordByte).length<=31:=hl;show((c::r).takeWhile isWordByte).length<256;omega
    ·cases h
  split at h
  ·split at h
   ·rename_i hl;cases h;refine⟨λ_ _=>⟨?_,Ih hl⟩,λh=>absurd (show 2=4 from h) ↑0⟩;show _=List.take (p+((c::r).takeWhile isCodeByte).length - p) (c::r);rw[Nat.add_sub_cancel_left,eA]
   ·cases h
  split at h
  ·split at h
   ·rename_i hl;cases h;refine⟨λ_ _=>⟨?_,B9 hl⟩,λh=>absurd (show 3=4 from h) ↑0⟩;show _=List.take (p+(List.take _ (c::r)).length - p) (c::r);rw[Nat.add_sub_cancel_left,List.length_take];exact List.take_eq_take_iff.mpr ↑2
   ·cases h
  split at h
  ·cases q:itemsIn 0 (p+1) r with
   |error e=>rw[q] at h;cases h
   |ok x=>
    rw[q] at h;cases h;obtain⟨y,h1,h2,h3,h4⟩:=i' r.length 0 (p+1) r x (Nat.le_refl _) ↑0 q;refine⟨λ_ h=>absurd (show 4<=3 from h) ↑0,λ_=>⟨?_,h4,?_⟩⟩
    ·show Ct (List.take (x.2.1 - 1 - (p+1)) r) x.1;rw[h2,show p+1+y.length+1 - 1 - (p+1)=y.length by omega,h1,List.take_left];exact h3
    ·show p+1<=x.2.1 - 1;omega
  ·split at h
   ·cases h;exact⟨λ_ h=>absurd (show 5<=3 from h) ↑0,λh=>absurd (show 5=4 from h) ↑0⟩
   ·cases h
theorem Mr:∀(n p:Nat)(b:Bytes),b.length<=n->∀t∈(Tn p b).1,∃i s,i<=b.length/\tokenIn (p+i) (b.drop i)= .ok (t,s):=by
 intro n;induction n with
 |zero=>
  intro p b hb;have:b=[]:=List.eq_nil_of_length_eq_zero ↑2;subst this;rw[gT];intro t h;cases h
 |succ n ih=>
  intro p b hb t ht;cases b with
  |nil=>rw[gT] at ht;cases ht
  |cons c r=>
   simp only[List.length_cons] at hb;cases h1:isBlank c with
   |true=>
    rw[iK h1] at ht;obtain⟨i,s,hi,e⟩:=ih (p+1) r ↑2 t ht;exact⟨i+1,s,by simp only[List.length_cons];omega,by rw[List.drop_succ_cons,<-e];congr 1;omega⟩
   |false=>
    by_cases h2:c=35
    ·subst h2;rw[kP,List.takeWhile_cons,if_pos ↑0,List.length_cons,List.drop_succ_cons] at ht;obtain⟨i,s,hi,e⟩:=ih (p+((r.takeWhile isSeen).length+1)) (r.drop (r.takeWhile isSeen).length) (by rw[List.length_drop];omega) t ht;have hl:(r.takeWhile isSeen).length<=r.length:=by have:=dj isSeen r;omega
     rw[List.length_drop] at hi;refine⟨i+((r.takeWhile isSeen).length+1),s,by simp only[List.length_cons];omega,?_⟩;rw[List.drop_drop] at e;rw[show i+((r.takeWhile isSeen).length+1)=((r.takeWhile isSeen).length+i)+1 by omega,List.drop_succ_cons,<-e];congr 1;omega
    ·rw[m7 h1 h2] at ht;cases e:tokenIn p (c::r) with
     |error z=>rw[e] at ht;cases ht
     |ok x=>
      obtain⟨u,s⟩:=x;obtain⟨q1,q2,q3,q4⟩:=iT e;rw[e] at ht;rcases List.mem_cons.mp ht with rfl|ht
      ·exact⟨0,s,Nat.zero_le _,e⟩
      ·have hs:s.length<=r.length:=by rw[q4,List.length_drop,List.length_cons];omega
       obtain⟨i,s',hi,e'⟩:=ih u.halt_ s ↑2 t ht;simp only[List.length_cons] at q3;have hsl:s.length=r.length+1 - (u.halt_ - p):=by rw[q4,List.length_drop,List.length_cons]
       refine⟨(u.halt_ - p)+i,s',by simp only[List.length_cons];omega,?_⟩;rw[<-List.drop_drop,<-q4,<-e'];congr 1;omega
theorem Tt(b:Bytes):∀t∈(Tn 0 b).1,OV b t:=by
 intro t ht;obtain⟨i,s,hi,e⟩:=Mr b.length 0 b (Nat.le_refl _) t ht;rw[Nat.zero_add] at e;obtain⟨q1,q2,q3,q4⟩:=iT e;obtain⟨r1,r2⟩:=D1 e;rw[List.length_drop] at q3;refine⟨↑2,↑2,λh1 h2=>?_,λh=>?_⟩
 ·rw[q1];exact r1 h1 h2
 ·obtain⟨a1,a2,a3⟩:=r2 h;rw[q1];refine⟨?_,a2,a3⟩;rw[<-List.drop_drop];exact a1
mutual
def Jw:Pt->Nat
 | .leaf b=>b.length+1
 | .aY _ _ l=>5+d6 l
def d6:List Pt->Nat
 |[]=>0
 |p::r=>Jw p+d6 r
end
theorem ij:∀l r:List Pt,d6 (l++r)=d6 l+d6 r
 |[],r=>(Nat.zero_add _).symm
 |p::l,r=>by show Jw p+d6 (l++r)=Jw p+d6 l+d6 r;rw[ij l r,Nat.add_assoc]
def gw:List Fr->Nat
 |[]=>0
 |fr::G=>5+d6 fr.parts+gw G
def sw:List Tok->Nat
 |[]=>0
 |t::r=>t.bytes.length+3+sw r
def MH:Sym->Bool
 | .bW b=>Nat.ble b.length 1
 |_=>true
theorem Tj:(FT.all λp=>p.2.all MH)=true:=↑1
theorem uI:∀{L:List ((Nat×Nat)×List Sym)}{x l:Nat}{r:List Sym},cZ L x l=some r->∃p∈L,p.2=r
 |[],_,_,_,h=>by cases h
 |p::L,x,l,r,h=>by
  unfold cZ at h;split at h
  ·exact⟨p,List.mem_cons_self ..,Option.some.inj h⟩
  ·obtain⟨q,hq,e⟩:=uI h;exact⟨q,List.mem_cons_of_mem _ hq,e⟩
theorem L_{x l:Nat}{r:List Sym}(h:row x l=some r):∀y∈r,MH y=true:=by rw[<-z8] at h;obtain⟨p,hp,rfl⟩:=uI h;exact List.all_eq_true.mp (List.all_eq_true.mp Tj p hp)
theorem SF(t:Tok):d6 (lf t)<=t.bytes.length+3:=by
 unfold lf;split
 ·exact Nat.zero_le _
 ·split
  ·show(t.bytes.length+1+1)+1+0<=_;omega
  ·show(t.bytes.length+1)+1+0<=_;omega
theorem Mi{e:Bool}{z:Fault}{n:Nat}{K:List Sym}{s:St}{G:List Fr}{o:Out}(h:Runs e z n K s G o):(∀y∈K,MH y=true)->∀G',o= .ok G'->gw G'<=gw G+5*n+sw s.toks:=by
 induction h with
 |halt s G=>intro _ G' e;cases e;omega
 |@bg n f K s G o _ ih=>
  intro hk G' e;have:=ih (λy hy=>hk y (List.mem_cons_of_mem _ hy)) G' e;have e1:gw (⟨f.at s,[]⟩::G)=5+0+gw G:=rfl;omega
 |@bW n b K s f l G o _ ih=>
  intro hk G' e;have h1:=ih (λy hy=>hk y (List.mem_cons_of_mem _ hy)) G' e;have h2:b.length<=1:=Nat.le_of_ble_eq_true (hk (.bW b) (List.mem_cons_self ..));have e1:gw (⟨f,l++[.leaf b]⟩::G)=5+d6 (l++[.leaf b])+gw G:=rfl;have e2:gw (⟨f,l⟩::G)=5+d6 l+gw G:=rfl;have e3:d6 [Pt.leaf b]=b.length+1+0:=rfl;rw[ij] at e1;omega
 |@take n p K s f h l r G o _ ih=>
  intro hk G' e;have h1:=ih (λy hy=>hk y (List.mem_cons_of_mem _ hy)) G' e;have e1:gw (⟨f.tk p,l++[p]⟩::⟨h,r⟩::G)=5+d6 (l++[p])+(5+d6 r+gw G):=rfl;have e2:gw (⟨f,l⟩::⟨h,r++[p]⟩::G)=5+d6 l+(5+d6 (r++[p])+gw G):=rfl;rw[ij] at e1 e2;omega
 |@turn n k K s f l G o _ ih=>
  intro hk G' e;have h1:=ih (λy hy=>hk y (List.mem_cons_of_mem _ hy)) G' e;have e1:gw (⟨f.turn k,l⟩::G)=gw (⟨f,l⟩::G):=rfl;omega
 |@fin n K s f h l r G o _ _ ih=>
  intro hk G' e;have h1:=ih (λy hy=>hk y (List.mem_cons_of_mem _ hy)) G' e;have e1:gw (⟨h,r++[done f s l]⟩::G)=5+d6 (r++[done f s l])+gw G:=rfl;have e2:gw (⟨f,l⟩::⟨h,r⟩::G)=5+d6 l+(5+d6 r+gw G):=rfl;have e3:d6 [done f s l]<=5+d6 l:=by
   unfold done;split
   ·show 1+1+0<=_;omega
   ·show 5+d6 l+0<=_;omega
  rw[ij] at e1;omega
 |@pass n K t p ts f l G o _ ih=>
  intro hk G' e;have h1:=ih (λy hy=>hk y (List.mem_cons_of_mem _ hy)) G' e;have e1:gw (⟨f,l++lf t⟩::G)=5+d6 (l++lf t)+gw G:=rfl;have e2:gw (⟨f,l⟩::G)=5+d6 l+gw G:=rfl;have e3:sw (t::ts)=t.bytes.length+3+sw ts:=rfl;have h2:=SF t;rw[ij] at e1;dsimp only at h1 ⊢;omega
 |@go n x r K s G o _ h2 _ ih=>
  intro hk G' e;have h1:=ih (λy hy=>(List.mem_append.mp hy).elim (λz=>L_ h2 y z) λz=>hk y (List.mem_cons_of_mem _ z)) G' e;omega
 |@SH n x r K s G o _ _ h2 _ ih=>
  intro hk G' e;have h1:=ih (λy hy=>(List.mem_append.mp hy).elim (λz=>L_ h2 y z) λz=>hk y (List.mem_cons_of_mem _ z)) G' e;omega
 |no _ _ _=>intro _ G' e;cases e
theorem Ll{y x:Bytes}(h:Ct y x):x.length<=y.length:=by
 induction h with
 |nil=>exact Nat.le_refl _
 |SU _ ih=>simp only[List.length_cons];omega
 |one _ _ ih=>simp only[List.length_cons];omega
theorem Gx{p:Nat}{b:Bytes}{t:Tok}{s:Bytes}(h:tokenIn p b= .ok (t,s)):t.bytes.length<=t.halt_ - p:=by
 unfold tokenIn at h;cases b with
 |nil=>cases h
 |cons c r=>
  dsimp only at h;split at h
  ·split at h
   ·cases h;dsimp only;omega
   ·split at h
    ·cases h;dsimp only;omega
    ·cases h
  split at h
  ·split at h
   ·cases h;dsimp only;omega
   ·cases h
  split at h
  ·split at h
   ·cases h;dsimp only;omega
   ·cases h
  split at h
  ·cases q:itemsIn 0 (p+1) r with
   |error e=>rw[q] at h;cases h
   |ok x=>
    rw[q] at h;cases h;obtain⟨y,h1,h2,h3,h4⟩:=i' r.length 0 (p+1) r x (Nat.le_refl _) ↑0 q;have:=Ll h3;show x.1.length<=x.2.1 - p;omega
  ·split at h
   ·cases h;dsimp only;omega
   ·cases h
theorem PJ:∀(n:Nat)(p:Nat)(b:Bytes),b.length<=n->sw (Tn p b).1<=4*b.length:=by
 intro n;induction n with
 |zero=>
  intro p b hb;have:b=[]:=List.eq_nil_of_length_eq_zero ↑2;subst this;rw[gT];exact Nat.le_refl _
 |succ n ih=>
  intro p b hb;cases b with
  |nil=>rw[gT];exact Nat.le_refl _
  |cons c r=>
   simp only[List.length_cons] at hb ⊢;cases h1:isBlank c with
   |true=>rw[iK h1];have:=ih (p+1) r ↑2;omega
   |false=>
    by_cases h2:c=35
    ·subst h2;rw[kP,List.takeWhile_cons,if_pos ↑0,List.length_cons,List.drop_succ_cons];have:=ih (p+((r.takeWhile isSeen).length+1)) (r.drop (r.takeWhile isSeen).length) (by rw[List.length_drop];omega);rw[List.length_drop] at this;omega
    ·rw[m7 h1 h2];cases e:tokenIn p (c::r) with
     |error z=>exact Nat.zero_le _
     |ok x=>
      obtain⟨u,s⟩:=x;obtain⟨q1,q2,q3,q4⟩:=iT e;have h3:=Gx e;simp only[List.length_cons] at q3;have hs:s.length=r.length+1 - (u.halt_ - p):=by rw[q4,List.length_drop,List.length_cons]
      have:=ih u.halt_ s ↑2;show u.bytes.length+3+sw (Tn u.halt_ s).1<=_;omega
theorem machine{b:Bytes}(hl:(Tn 0 b).1.length<=65536)(hw:sw (Tn 0 b).1<=4*65536):
  (∀er,EwTree.read b= .error er->∃n,n<=2400000/\Runs (Tn 0 b).2.isSome ((Tn 0 b).2.getD (3,b.length)) n [.w dA] ⟨0,(Tn 0 b).1⟩ [⟨.row ⟨0,(Tn 0 b).1⟩,[]⟩] (.fault er))/\
  ∀a,EwTree.read b= .ok a->∃n p,n<=2400000/\Runs (Tn 0 b).2.isSome ((Tn 0 b).2.getD (3,b.length)) n [.w dA] ⟨0,(Tn 0 b).1⟩ [⟨.row ⟨0,(Tn 0 b).1⟩,[]⟩] (.ok [⟨.row ⟨0,(Tn 0 b).1⟩,[p]⟩])/\yb p=a.1.bytes/\yk p=a.2.map yt/\Jw p<=15900000:=by
 have h:=MI b;rw[E4] at h;have hb:bs [.w dA]<=100/\ds [.w dA]<=100:=↑1
 have hlen:len ⟨0,(Tn 0 b).1⟩=(Tn 0 b).1.length:=rfl;refine⟨λer e=>?_,λa e=>?_⟩
 ·rw[e] at h;obtain⟨n,hn,hr⟩:=h;exact⟨n,↑2,hr []⟩
 ·rw[e] at h;obtain⟨s',G',n,hn,⟨p,rfl,h1,h2⟩,hr⟩:=h;have hrun:=hr 0 [] _ (.halt s' _);rw[Nat.zero_add] at hrun;have hn':n<=2400000:=↑2
  refine⟨n,p,hn',hrun,h1,h2,?_⟩;have:=Mi hrun (λy hy=>by rw[List.mem_singleton.mp hy];rfl) _ rfl;have e1:gw [⟨.row ⟨0,(Tn 0 b).1⟩,[p]⟩]=5+(Jw p+0)+0:=rfl;have e2:gw [⟨.row ⟨0,(Tn 0 b).1⟩,[]⟩]=5+0+0:=rfl;dsimp only at this;omega
end MA
end
local macro_rules
 |`(tactic|omega)=>`(tactic|first|lia|omega (splitMinMax:=true))
namespace L2
open PySem PySem.Spec PyProof.Rows
def eO(H:Hp)(n:Nat)(fl:Value)(h:Heap)(e:Addr):Prop:=
 ∃(oe:Obj)(vs:Array Value)(T:Addr)(oT:Obj)(ts:Array Value),h.get? e=some oe/\oe.data= .fields vs/\vs[1]?=some (.ref T)/\n<=T/\H T=none/\T≠e/\h.get? T=some oT/\oT.data= .fields ts/\ts[3]?=some fl
def Ou(h:Heap)(e:Addr):Prop:=∃(oe:Obj)(vs:Array Value),h.get? e=some oe/\oe.data= .fields vs/\vs[1]?=some .none
def DW(H:Hp)(n:Nat)(L:Addr)(h:Heap)(e:Addr):Prop:=Ou h e\/eO H n .none h e\/eO H n (rawInt L) h e
structure Flew(H:Hp)(n:Nat)(fs:List Addr)(e:Addr)(h h':Heap):Prop where
 keep:∀b o,h.get? b=some o->b∉fs->b≠e->(b<n\/H b≠none\/∀ts,o.data≠.fields ts)->h'.get? b=some o
 slot:∀b o,h.get? b=some o->b∈fs->∃sl,h'.get? b=some {o with slots:=sl}
 exc:∀o,h.get? e=some o->∃vs,h'.get? e=some {o with data:=.fields vs}
 there:∀b o,h.get? b=some o->∃o',h'.get? b=some o'
theorem Flew.refl{H:Hp}{n:Nat}{fs:List Addr}{e:Addr}{h:Heap}{oe:Obj}{vs:Array Value}(he:h.get? e=some oe)(hd:oe.data= .fields vs):Flew H n fs e h h:=
 ⟨λ_ _ q _ _ _=>q,λ_ o q _=>⟨o.slots,q⟩,λo q=>by
  rw[he] at q;cases q;exact⟨vs,by rw[he];obtain⟨_,_,_,_⟩:=oe;cases hd;rfl⟩,λ_ o q=>⟨o,q⟩⟩
theorem Flew.trans{H:Hp}{n:Nat}{fs:List Addr}{e:Addr}{h h1 h2:Heap}(a:Flew H n fs e h h1)(b:Flew H n fs e h1 h2):Flew H n fs e h h2 where
 keep:=λc o q hc he hk=>b.keep c o (a.keep c o q hc he hk) hc he hk
 slot:=λc o q hc=>by
  obtain⟨s1,e1⟩:=a.slot c o q hc;obtain⟨s2,e2⟩:=b.slot c _ e1 hc;exact⟨s2,e2⟩
 exc:=λo q=>by
  obtain⟨v1,e1⟩:=a.exc o q;obtain⟨v2,e2⟩:=b.exc _ e1;exact⟨v2,e2⟩
 there:=λc o q=>by
  obtain⟨o1,e1⟩:=a.there c o q;exact b.there c o1 e1
theorem iM{o:Obj}{vs:Array Value}(hd:o.data= .fields vs):o={o with data:=.fields vs}:=by obtain⟨_,_,_,_⟩:=o;cases hd;rfl
section
variable{M:Model}{A:Around}{E:Value->Shared->Prop}{s:Shared}{H:Hp}{n:Nat}{fs:List Addr}{e:Addr}{Q:Unit->Shared->Prop}
theorem xa{h:Heap}{a:Addr}{o:Obj}{vs:Array Value}(f:Array Value->Array Value)(ho:h.get? a=some o)(hd:o.data= .fields vs):(h.update a (Obj.mapFields f)).get? a=some {o with data:=.fields (f vs)}:=by have z:=Heap.get?_update_self (Obj.mapFields f) ho (Obj.isFreed_of_fields (Obj.data_mapFields hd f));rw[z];obtain⟨oc,od,odt,osl⟩:=o;cases hd;rfl
theorem xC{fl fl':Value}(hx:eO H n fl s.heap e)(hQ:∀h',eO H n fl' h' e->Flew H n fs e s.heap h'->Q () {s with heap:=h'})(hfs:∀T oT ts,s.heap.get? T=some oT->oT.data= .fields ts->T∉fs)(f:Option Addr)(hf:(f.elim Value.none λg=>rawInt g)=fl'):wpAny M A (setFlight (.ref e) f) Q E s:=by
 obtain⟨oe,vs,T,oT,ts,he,hd,h1,hn,hT0,hTe,hT,hdT,h3⟩:=hx;have hsz:3<ts.size:=(Array.getElem?_eq_some_iff.mp h3).1;unfold setFlight;refine wpAny_bind (wpAny_field he hd h1 ?_);rw[if_pos (show(Value.ref T != Value.none)=true from by simp)];refine wpAny_setField hT hdT hsz ?_;rw[hf];have hT':=xa (λa=>a.setIfInBounds 3 fl') hT hdT;have other:∀b,b≠T->(s.heap.update T (Obj.mapFields λa=>a.setIfInBounds 3 fl')).get? b=s.heap.get? b:=λb hb=>Heap.get?_update_other _ _ (Ne.symm hb);refine hQ _ ⟨oe,vs,T,_,_,(other e (Ne.symm hTe)).trans he,hd,h1,hn,hT0,hTe,hT',rfl,?_⟩ ⟨λb o q hb hbe hk=>?_,λb o q hb=>?_,λo q=>?_,λb o q=>?_⟩
 ·rw[Array.getElem?_setIfInBounds_self_of_lt hsz]
 ·refine(other b λz=>?_).trans q;subst z;rw[hT] at q;cases q;rcases hk with k|k|k
  ·exact absurd k (Nat.not_lt.mpr hn)
  ·exact k hT0
  ·exact k ts hdT
 ·refine⟨o.slots,(other b λz=>?_).trans q⟩;subst z;rw[hT] at q;cases q;exact hfs b oT ts hT hdT hb
 ·rw[he] at q;cases q;exact⟨vs,by rw[other e (Ne.symm hTe),he,<-iM hd]⟩
 ·by_cases z:b=T
  ·subst z;exact⟨_,hT'⟩
  ·exact⟨o,(other b z).trans q⟩
end
section
variable{M:Model}{A:Around}{E:Value->Shared->Prop}{s:Shared}{H:Hp}{n:Nat}{e:Addr}{Q:Unit->Shared->Prop}{base:Heap}{env:Env}{outer:List Env}{L:Addr}
theorem vj{h:Heap}{l:List Env}(hl:h.FunFrames base l){T:Addr}{oT:Obj}{ts:Array Value}(hT:h.get? T=some oT)(hd:oT.data= .fields ts):T∉lU l:=λhm=>by
 obtain⟨_,o,ho,hnf⟩:=hl.mem hm;rw[hT] at ho;cases ho;exact hnf ts hd
theorem uO{oe:Obj}{vs:Array Value}{head:Value}{had:Bool}(hfr:A.frames=some (env::outer))(hl:s.heap.FunFrames base (env::outer))(hf:env.frame=some L)(he:s.heap.get? e=some oe)(hd:oe.data= .fields vs)(h1:1<vs.size)(hn:n<=s.heap.objs.size)(hH:∀b,s.heap.objs.size<=b->H b=none)(hQ:∀h',eO H n (rawInt L) h' e->Flew H n (lU (env::outer)) e s.heap h'->Q () {s with heap:=h'}):
  wpAny M A (do let a<-frameOf env;let pl<-entryPlaceOf L had;let b<-EntryCells.newEntry head a .none (rawInt L) .none pl;setField (.ref e) 1 b) Q E s:=by
 have hef:e∉lU (env::outer):=vj hl he hd;refine wpAny_bind (wpAny_frameOf_fun hfr hl hf λg1 hs=>?_);refine wpAny_bind (wpAny_entryPlaceOf λpl hpl=>?_);unfold EntryCells.newEntry newFields;refine wpAny_bind (wpAny_newObj_type ?_ (hpl.sizeOk5 _ _ _ _ _));have e1:g1.get? e=some oe:=(hs.2.1 e hef).trans he;generalize hob:({cls:=Value.type "traceback",dict:=none,data:=Data.fields ([head,Value.ref L,Value.none,rawInt L,Value.none]++(if pl.isEmpty then List.replicate 6 Value.none else pl)).toArray}:Obj)=ob;have hobd:∃ts:Array Value,ob.data= .fields ts/\ts[3]?=some (rawInt L):=by
  rw[<-hob];refine⟨_,rfl,?_⟩;simp
 obtain⟨ts,hts,h3⟩:=hobd;have e2:(g1.push ob).get? e=some oe:=Heap.get?_push_of_some _ e1;refine wpAny_setField e2 hd h1 ?_;have hsz:g1.objs.size=s.heap.objs.size:=hs.1;have hTe:g1.objs.size≠e:=Nat.ne_of_gt (Heap.lt_size e1);have hT:((g1.push ob).update e (Obj.mapFields λa=>a.setIfInBounds 1 (Value.ref g1.objs.size))).get? g1.objs.size=some ob:=
  (Heap.get?_update_other _ _ (Ne.symm hTe)).trans (Heap.get?_push_at rfl (by rw[Obj.isFreed_of_fields hts]))
 have he':=xa (λa=>a.setIfInBounds 1 (Value.ref g1.objs.size)) e2 hd;have keep:∀b o,b≠e->g1.get? b=some o->((g1.push ob).update e (Obj.mapFields λa=>a.setIfInBounds 1 (Value.ref g1.objs.size))).get? b=some o:=λb o hbe q=>
  (Heap.get?_update_other _ _ (Ne.symm hbe)).trans (Heap.get?_push_of_some _ q)
 refine hQ _ ⟨_,_,g1.objs.size,ob,ts,he',rfl,by rw[Array.getElem?_setIfInBounds_self_of_lt h1],↑2,hH _ ↑2,hTe,hT,hts,h3⟩ ⟨λb o q hb hbe _=>keep b o hbe ((hs.2.1 b hb).trans q),λb o q hb=>?_,λo q=>?_,λb o q=>?_⟩
 ·obtain⟨sl,z⟩:=hs.2.2 b o q;exact⟨sl,keep b _ (λz=>hef (z▸hb)) z⟩
 ·rw[he] at q;cases q;exact⟨_,he'⟩
 ·by_cases z:b=e
  ·subst z;exact⟨_,he'⟩
  ·obtain⟨sl,q2⟩:=hs.2.2 b o q;exact⟨_,keep b _ z q2⟩
theorem yR(hfr:A.frames=some (env::outer))(hl:s.heap.FunFrames base (env::outer))(hf:env.frame=some L)(hx:DW H n L s.heap e)(hn:n<=s.heap.objs.size)(hH:∀b,s.heap.objs.size<=b->H b=none)(hQ:∀h',eO H n (rawInt L) h' e->Flew H n (lU (env::outer)) e s.heap h'->Q () {s with heap:=h'}):wpAny M A (noteFrame (.ref e) env) Q E s:=by
 unfold noteFrame;simp only[hf];rcases hx with⟨oe,vs,he,hd,h1⟩|hx|hx
 ·refine wpAny_bind (wpAny_field he hd h1 ?_);rw[if_neg ↑0];exact uO hfr hl hf he hd (Array.getElem?_eq_some_iff.mp h1).1 hn hH hQ
 ·obtain⟨oe,vs,T,oT,ts,he,hd,h1,hnT,hT0,hTe,hT,hdT,h3⟩:=hx;refine wpAny_bind (wpAny_field he hd h1 ?_);rw[if_pos (show(Value.ref T != Value.none)=true from by simp)];refine wpAny_bind (wpAny_field hT hdT h3 ?_);rw[if_neg (show ¬((Value.none==rawInt L)=true) from by simp[rawInt])];refine wpAny_bind (wpAny_setField hT hdT (Array.getElem?_eq_some_iff.mp h3).1 ?_);have hT':=xa (λa=>a.setIfInBounds 3 Value.none) hT hdT;have other:∀b,b≠T->(s.heap.update T (Obj.mapFields λa=>a.setIfInBounds 3 Value.none)).get? b=s.heap.get? b:=λb hb=>Heap.get?_update_other _ _ (Ne.symm hb);have hTf:T∉lU (env::outer):=vj hl hT hdT;have fw:Flew H n (lU (env::outer)) e s.heap (s.heap.update T (Obj.mapFields λa=>a.setIfInBounds 3 Value.none)):=by
   refine⟨λb o q hb hbe hk=>?_,λb o q hb=>?_,λo q=>?_,λb o q=>?_⟩
   ·refine(other b λz=>?_).trans q;subst z;rw[hT] at q;cases q;rcases hk with k|k|k
    ·exact absurd k (Nat.not_lt.mpr hnT)
    ·exact k hT0
    ·exact k ts hdT
   ·exact⟨o.slots,(other b λz=>hTf (z▸hb)).trans q⟩
   ·rw[he] at q;cases q;exact⟨vs,by rw[other e (Ne.symm hTe),he,<-iM hd]⟩
   ·by_cases z:b=T
    ·subst z;exact⟨_,hT'⟩
    ·exact⟨o,(other b z).trans q⟩
  refine uO hfr (hl.of_keeps λb o q hnf=>⟨o,(other b λz=>?_).trans q,rfl⟩) hf ((other e (Ne.symm hTe)).trans he) hd (Array.getElem?_eq_some_iff.mp h1).1 (by rw[Heap.size_after_update];exact hn)
   (λb hb=>hH b (by rw[Heap.size_after_update] at hb;exact hb)) λh' a b=>hQ h' a (fw.trans b)
  subst z;rw[hT] at q;cases q;exact hnf ts hdT
 ·obtain⟨oe,vs,T,oT,ts,he,hd,h1,hnT,hT0,hTe,hT,hdT,h3⟩:=id hx;refine wpAny_bind (wpAny_field he hd h1 ?_);rw[if_pos (show(Value.ref T != Value.none)=true from by simp)];refine wpAny_bind (wpAny_field hT hdT h3 ?_);rw[if_pos (show(rawInt L==rawInt L)=true from by first|(simp;done)|exact beq_self_eq_true _)];exact wpAny_pure (hQ s.heap hx (Flew.refl he hd))
theorem eO.Gi{fl:Value}{h h':Heap}{fs:List Addr}(hl:h.FunFrames base (env::outer))(fw:Flew H n (lU (env::outer)) e h h'):∀T oT ts,h'.get? T=some oT->oT.data= .fields ts->T∉lU (env::outer):=λT oT ts hT hd hm=>by
 obtain⟨_,o,ho,hnf⟩:=hl.mem hm;obtain⟨sl,q⟩:=fw.slot T o ho hm;rw[hT] at q;cases q;exact hnf ts hd
theorem Au(hfr:A.frames=some (env::outer))(hl:s.heap.FunFrames base (env::outer))(hf:env.frame=some L)(hx:DW H n L s.heap e)(hn:n<=s.heap.objs.size)(hH:∀b,s.heap.objs.size<=b->H b=none)(hQ:∀h',eO H n .none h' e->Flew H n (lU (env::outer)) e s.heap h'->Q () {s with heap:=h'}):wpAny M A (noteFrame (.ref e) env) (λ_ s2=>wpAny M A (setFlight (.ref e) none) Q E s2) E s:=by refine yR hfr hl hf hx hn hH λh1 a1 f1=>?_;refine xC (s:={s with heap:=h1}) (fs:=lU (env::outer)) a1 (λh2 a2 f2=>hQ h2 a2 (f1.trans f2)) (eO.Gi (fl:=.none) (fs:=[]) hl f1) none rfl
theorem En(hfr:A.frames=some (env::outer))(hl:s.heap.FunFrames base (env::outer))(hf:env.frame=some L)(hx:DW H n L s.heap e)(hn:n<=s.heap.objs.size)(hH:∀b,s.heap.objs.size<=b->H b=none)(hQ:∀h',eO H n .none h' e->Flew H n (lU (env::outer)) e s.heap h'->Q () {s with heap:=h'}):wpAny M A (leaving env (.ref e)) Q E s:=wpAny_bind (Au hfr hl hf hx hn hH hQ)
end
end L2
namespace XM
open PySem PySem.W
section
open Sem (wp)
structure Line(B:String)(bm:List Value):Prop where
 b:bm.contains (.type B)=true
 base:bm.contains (.type "BaseException")=true
 attr:bm.contains (.type "AttributeError")=false
 name:bm.contains (.type "NameError")=false
section
variable{prog:Program}{w:World}{A:Around}{E:Value->Shared->Prop}{h:Heap}{g:Array GenState}{d:Drawn}{t:Nat}{os:OsState}
variable{nm q:Str}{C N:Addr}{bs bm bmB:List Value}{hdct:Bool}{sn:List Str}{sub:List Value}{ab:Bool}{col:Option Bool}{dd:Option Addr}{k0 k1 k2 k3 k5:Option Value}{B newId initId:String}
theorem Fe{M:Model}(F:ExcBaseFacts B newId initId bmB)(l:Line B bm){rest:List Value}{Q:Unit->Shared->Prop}(hC:h.get? C=some (excClassObj nm q C N bs bm hdct sn sub ab col dd k0 k1 k2 k3 k5 newId))(z:Q () ⟨h,g,d,t,os⟩):wpAny M A (checkBuiltinCall newId ⟨.ref C::rest,[]⟩) Q E ⟨h,g,d,t,os⟩:=by
 have c1:(Value.ref C::bm).contains (.type B)=true:=by
  rw[List.contains_cons,l.b,Bool.or_true]
 have c2:=F.noStar;simp only[checkBuiltinCall,F.newKind,F.newSplit,F.newRow];repeat (first
  |refine wpAny_loadPart_at hC ?_
  |(refine wpAny_isSubtype_exc hC ?_;rw[c1])
  |refine wpAny_staticBase_exc hC ?_
  |refine wpAny_madeBy_exc hC ?_
  |simp only[bne_self_eq_false,Bool.false_eq_true,if_false]
  |wp_step)
 exact z
theorem Hg{R:Result->Shared->Prop}(F:ExcBaseFacts B newId initId bmB)(l:Line B bm){rest:List Value}(hC:h.get? C=some (excClassObj nm q C N bs bm hdct sn sub ab col dd k0 k1 k2 k3 k5 newId))(z:R (.ok (.ret (.ref (h.objs.size+1))))
   ⟨(h.push {cls:=.type "tuple",data:=.seq rest.toArray}).push {cls:=.ref C,data:=.fields #[.ref h.objs.size,.none,.none,.none,.bool false,.none]},g,d,t,os⟩)(hz:rest.length<=sizeLine):codeAny (model prog w) A (.builtin newId ⟨.ref C::rest,[]⟩) R ⟨h,g,d,t,os⟩:=by
 have c0:=F.ends;have c1:(Value.ref C::bm).contains (.type B)=true:=by
  rw[List.contains_cons,l.b,Bool.or_true]
 have c2:(Value.ref C::bm).contains (.type "AttributeError")=false:=by
  rw[List.contains_cons,l.attr];rfl
 have c3:(Value.ref C::bm).contains (.type "NameError")=false:=by
  rw[List.contains_cons,l.name];rfl
 refine codeAny_builtinAt F.entry ?_;unfold Builtin.«BaseException.__new__»;refine wpAt_bind ?_;show wpAt _ _ _ (stack>>=_) _ _ _;refine wpAt_bind (wpAt_stack λp below=>wpAt_of_wpAny ?_)
 wp_walk
 refine wpAt_of_wpAny ?_;rw[F.owner];repeat (first
  |with_reducible refine wpAny_madeHere_exc F.canon hC ?_
  |with_reducible refine wpAny_loadPart_at hC ?_
  |(with_reducible refine wpAny_isSubtype_exc hC ?_;first|rw[c1]|rw[c2]|rw[c3])
  |wp_step)
 show R _ _;rw[Heap.size_push];exact z
theorem QO(F:ExcBaseFacts B newId initId bmB)(l:Line B bm){rest:List Value}{fI:Addr}{oI:Obj}{Q:Fin->Shared->Prop}(hC:h.get? C=some (excClassObj nm q C N bs bm hdct sn sub ab col dd k0 k1 k2 k3 k5 newId))(hi:Looks (model prog w) h (typeLookup (.ref C) "__init__") (some (.ref fI)))(hfI:h.get? fI=some oI)(hfc:oI.cls= .type "function")(hz:rest.length<=sizeLine)(z:wpAny (model prog w) A (call (.ref fI) (.ref (h.objs.size+1)::rest)) (λr s'=>r= .none/\Q (.done (.ret (.ref (h.objs.size+1)))) s') E
   ⟨(h.push {cls:=.type "tuple",data:=.seq rest.toArray}).push {cls:=.ref C,data:=.fields #[.ref h.objs.size,.none,.none,.none,.bool false,.none]},g,d,t,os⟩):
  wpAny (model prog w) A (Builtin.«type.__call__» ⟨.ref C::rest,[]⟩) Q E ⟨h,g,d,t,os⟩:=by
 repeat (first
  |with_reducible refine wpAny_loadPart_at hC ?_
  |with_reducible refine wpAny_madeBy_exc hC ?_
  |wp_step)
 refine codeAny_call_builtin_code (Code.quiet_builtin _ F.quiet) (Fe F l hC ?_);refine Hg F l hC ?_ hz;show wpAny _ _ _ _ _ _;have kp:∀b o,h.get? b=some o->((h.push {cls:=.type "tuple",data:=.seq rest.toArray}).push {cls:=.ref C,data:=.fields #[.ref h.objs.size,.none,.none,.none,.bool false,.none]}).get? b=some o:=λb o e=>
  Heap.get?_push_of_some _ (Heap.get?_push_of_some _ e)
 have hget:((h.push {cls:=.type "tuple",data:=.seq rest.toArray}).push {cls:=.ref C,data:=.fields #[.ref h.objs.size,.none,.none,.none,.bool false,.none]}).get? (h.objs.size+1)=
   some {cls:=.ref C,data:=.fields #[.ref h.objs.size,.none,.none,.none,.bool false,.none]}:=by heap_get
 have hC1:=kp _ _ hC;have cC:(Value.ref C::bm).contains (.ref C)=true:=by simp
 unfold isInstance;repeat (first
  |with_reducible refine wpAny_loadPart_at hget ?_
  |(with_reducible refine wpAny_isSubtype_exc hC1 ?_;rw[cC])
  |wp_step)
 show wpAny _ _ (typeLookup (.ref C) _) _ _ _;refine hi _ _ _ _ kp ?_;refine wpAny_holding (wpAny_bind ?_);unfold bindSpecial;refine wpAny_bind (wpAny_typeOf (T:="function") ⟨_,kp _ _ hfI,hfc⟩ ?_);rw[if_pos ↑0];refine wpAny_pure (wpAny_bind (wpAny_mono z (λr s' hr=>?_) λ_ _ x=>x));obtain⟨rfl,hQ⟩:=hr
 wp_walk
 exact hQ
theorem made(F:ExcBaseFacts B newId initId bmB)(l:Line B bm){rest:List Value}{fI:Addr}{oI:Obj}{Q:Value->Shared->Prop}(hC:h.get? C=some (excClassObj nm q C N bs bm hdct sn sub ab col dd k0 k1 k2 k3 k5 newId))(hi:Looks (model prog w) h (typeLookup (.ref C) "__init__") (some (.ref fI)))(hfI:h.get? fI=some oI)(hfc:oI.cls= .type "function")(hz:rest.length<=sizeLine)(z:wpAny (model prog w) (A.under (.builtin "type.__call__" ⟨.ref C::rest,[]⟩)) (call (.ref fI) (.ref (h.objs.size+1)::rest)) (λr s'=>r= .none/\Q (.ref (h.objs.size+1)) s') E
   ⟨(h.push {cls:=.type "tuple",data:=.seq rest.toArray}).push {cls:=.ref C,data:=.fields #[.ref h.objs.size,.none,.none,.none,.bool false,.none]},g,d,t,os⟩):
  wpAny (model prog w) A (call (.ref C) rest) Q E ⟨h,g,d,t,os⟩:=by
 have f1:=tc_lookup;have f2:=tc_bind (.ref C);have f3:(⟨h,g,d,t,os⟩:Shared).TypeIs (.ref C) "type":=⟨_,hC,rfl⟩
 refine wpAny_call (codeAny_of_tree ?_);show wpAny _ _ (callAny (.ref C) _) _ _ _;repeat (any_goals (first
  |assumption
  |with_reducible refine wpAny_loadPart_at hC ?_
  |wp_step))
 refine⟨rfl,?_⟩;exact codeAny_call_builtin_at (Code.quiet_builtin _ ↑1) entry_typeCall (wpAny_check_type_call_sub hC (QO F l hC hi hfI hfc hz z))
theorem raises{M:Model}{s:Shared}{env:Env}{x:Sem Value}{Q:Flow->Shared->Prop}(hbase:bm.contains (.type "BaseException")=true)(hh:A.handled=none)(z:wpAny M A x (λv s₁=>∃(e:Addr)(oe:Obj)(vs:Array Value),v= .ref e/\s₁.heap.get? C=some (excClassObj nm q C N bs bm hdct sn sub ab col dd k0 k1 k2 k3 k5 newId)/\
   s₁.heap.get? e=some oe/\oe.cls= .ref C/\oe.data= .fields vs/\vs[1]?=some .none/\E (.ref e) s₁) E s):wpAny M A (raiseStmt env (some x) none) Q E s:=by
 have cB:(Value.ref C::bm).contains (.type "BaseException")=true:=by
  rw[List.contains_cons,hbase,Bool.or_true]
 unfold raiseStmt;refine wpAny_bind (wpAny_mono z (λv s₁ h₁=>?_) λ_ _ x=>x);obtain⟨e,oe,vs,rfl,hC,he,hcl,hd,h1,hE⟩:=h₁;obtain⟨oc,od,odt,osl⟩:=oe;cases hcl;cases hd;obtain⟨hp,g,d,tk,os⟩:=s₁;repeat (first
  |with_reducible refine wpAny_loadPart_at he ?_
  |with_reducible refine wpAny_loadPart_at hC ?_
  |(with_reducible refine wpAny_isSubtype_exc hC ?_;rw[cB])
  |with_reducible refine wpAny_field he rfl h1 ?_
  |wp_step)
 exact wpAny_raiseNew_none hh hE
end
end
section
open Builtin Builtin.ObjectAttr
def dO:List Value->Bool
 |[]=>false
 |v::r=>(match v with| .ref _=>dO r|_=>false)||decide (v::r=[.type "Exception",.type "BaseException",.type "object"])
theorem lO{v:Value}{r:List Value}(e:dO (v::r)=true):(∃c,v= .ref c/\dO r=true)\/v::r=[.type "Exception",.type "BaseException",.type "object"]:=by
 unfold dO at e;rw[Bool.or_eq_true] at e;rcases e with e|e
 ·cases v <;> first|exact .inl ⟨_,rfl,e⟩|cases e
 ·exact .inr (of_decide_eq_true e)
theorem lq(self:Value):∀(l:List Value),dO l=true->refuseLoop self "__setattr__" l=pure ()
 |[],e=>by cases e
 |v::r,e=>by
  rcases lO e with⟨c,rfl,e'⟩|e'
  ·rw[refuseLoop_ref];exact lq self r e'
  ·rw[e'];exact PySem.F.store_Exception.passes self
theorem oN:∀(l:List Value),dO l=true->l.contains (.type "object")=true
 |[],e=>by cases e
 |v::r,e=>by
  rcases lO e with⟨c,rfl,e'⟩|e'
  ·rw[List.contains_cons,oN r e',Bool.or_true]
  ·rw[e'];decide+kernel
theorem pd{prog:Program}{w:World}{A:Around}{K:Frag}{s:Shared}{x C:Addr}{R:Result->Shared->Prop}{obj:Obj}{dobj:Option Obj}{field:Str}{tok:Tok}{val:Value}{cd:ClassData}(KX:K.In s.heap)(J:InstAt s.heap x obj C dobj)(cls:clsIn K C=some cd)(line:dO cd.mro=true)(free:takerIn K C field=some none)(go:∀had,wpAny (model prog w) A.in1 (storeInOwnDict (.ref x) (.ref C) (.str field tok) field val had) (λfin s'=>match fin with| .done f=>R (.ok f) s'| .again c'=>c'.quiet=true/\codeAny (model prog w) A c' R s') (λe s'=>R (.error e) s') s):
  codeAny (model prog w) A (.call (.builtin "object.__setattr__") ⟨[.ref x,.str field tok,val],[]⟩) R s:=by
 have facts:=PySem.F.store_Exception;have full:cd.mro.isEmpty=false:=by
  cases q:cd.mro with
  |nil=>rw[q] at line;cases line
  |cons _ _=>rfl
 have isObj:Looks (model prog w) s.heap (isInstance (.ref x) (.type "object")) true:=by
  refine J.type.andThen (looks_mroIn KX ?_);unfold mroIn;rw[cls,Option.bind_some,if_neg (by rw[full];decide),oN _ line]
 refine codeAny_call_builtin facts.slot.plain facts.entry ?_;refine @check_slot (model prog w) _ _ s "object.__setattr__" "object" "__setattr__" (.ref x) [.str field tok,val] [] _ facts.kind facts.split isObj (facts.args (.ref x) (.str field tok) val) ?_;obtain⟨attr,found,taken⟩:=Option.bind_eq_some_iff.mp free;have lmro:Looks (model prog w) s.heap (mroOf (.ref C)) cd.mro:=(looks_clsIn KX cls).andThen .now;have ltak:Looks (model prog w) s.heap (storeTaker? attr) none:=by
  cases attr with
  |none=>exact .now
  |some v=>
   obtain⟨b,hb,hbn⟩:=Option.map_eq_some_iff.mp taken;refine(looks_takesIn KX hb).andThen ?_;cases b
   ·exact .now
   ·cases hbn
 rw[osa_eq,refuse_eq];refine wpAny_bind (wpAny_bind (J.type.here (wpAny_bind (lmro.here ?_))));rw[lq (.ref x) _ line];exact wpAny_pure (wpAny_bind (J.type.here (wpAny_bind ((looks_findIn KX found).here (wpAny_bind (ltak.here (go _)))))))
section
variable{prog:Program}{w:World}{A:Around}{E:Value->Shared->Prop}{s:Shared}{K:Frag}{x dx C:Addr}{mA:Str->Option Value}{name:Str}{v:Value}{vs:Array Value}{sl:Array (Option Value)}
theorem Ey{Q:Unit->Shared->Prop}(X:K.In s.heap)(hx:s.heap.get? x=some ⟨.ref C,none,.fields vs,sl⟩)(hs:findIn K (.ref C) "__setattr__"=some (some (.builtin "object.__setattr__"))){cd0:ClassData}(hp0:clsIn K C=some cd0)(hp:dO cd0.mro=true)(ht:takerIn K C name=some none)(hh:hasDictIn K C=true)(z:∀h',h'.Ns1 s.heap.objs.size (λy=>if y=name then some v else none)->h'.get? x=some ⟨.ref C,some s.heap.objs.size,.fields vs,sl⟩->(∀b o,b≠x->s.heap.get? b=some o->h'.get? b=some o)->Q () {s with heap:=h',toks:=s.toks+2}):
  wpAny (model prog w) A (setAttr (.ref x) name v) Q E s:=by
 have J:PySem.W.InstAt s.heap x ⟨.ref C,none,.fields vs,sl⟩ C none:=⟨hx,rfl,rfl,trivial⟩
 refine PySem.W.set_plain X J hs (pd (s:={s with toks:=s.toks+1}) X J hp0 hp ht λb=>?_);obtain⟨cd,hc,hd'⟩:=PySem.W.any_some hh;refine wpAny_bind (wpAny_pure (wpAny_bind (wpAny_bind (wpAny_loadPart hx (wpAny_bind (PySem.W.Looks.here (s:={s with toks:=s.toks+1}) (PySem.W.looks_clsIn X hc) ?_))))));rw[hd'];have hx1:(s.heap.push {cls:=.type "dict",data:=.dict #[]}).get? x=some ⟨.ref C,none,.fields vs,sl⟩:=Heap.get?_push_of_some _ hx;have hxs:x≠s.heap.objs.size:=Nat.ne_of_lt (Heap.lt_size hx);show wpAny _ _ (do
  let d<-alloc {cls:=.type "dict",data:=.dict #[]}
  update x λo=>{o with dict:=some d}
  dictMade (.ref C) x d) _ _ _
 refine wpAny_bind (wpAny_alloc' (wpAny_bind (wpAny_update' hx1 ?_)));refine wpAny_pure (a:=some s.heap.objs.size) (wpAny_bind (wpAny_pure (wpAny_bind ?_)));have gx:((s.heap.push {cls:=.type "dict",data:=.dict #[]}).update x λo=>{o with dict:=some s.heap.objs.size}).get? x=some ⟨.ref C,some s.heap.objs.size,.fields vs,sl⟩:=Heap.get?_update_self _ hx1 rfl;have gd:((s.heap.push {cls:=.type "dict",data:=.dict #[]}).update x λo=>{o with dict:=some s.heap.objs.size}).get? s.heap.objs.size=some {cls:=.type "dict",data:=.dict #[]}:=
  (Heap.get?_update_other _ _ hxs).trans (Heap.get?_push_at rfl rfl)
 have nd:((s.heap.push {cls:=.type "dict",data:=.dict #[]}).update x λo=>{o with dict:=some s.heap.objs.size}).Ns s.heap.objs.size (λ_=>none):=
  ⟨_,#[],_,gd,rfl,λe he=>absurd he (by simp),λ_=>rfl⟩
 refine wpAny_nsSet1 (s:={s with heap:=_,toks:=s.toks+1}) (Heap.Ns1.of_empty nd) λh' hn2 hs2=>?_;obtain⟨oD,esD,epD,hoD,hdD,hcD⟩:=hn2.count (PySem.Within.cons name v PySem.Within.nil);refine wpAny_bind (wpAny_lookBehind hoD (by rw[hdD];exact pastItsLine_dict (Nat.le_trans hcD (by rw[List.length_cons,List.length_nil,sizeLine_eq];omega))) ?_);refine wpAny_pure (z _ hn2 ((hs2.2 x hxs).trans gx) λb o hb e=>?_);exact(hs2.2 b (Nat.ne_of_lt (Heap.lt_size e))).trans ((Heap.get?_update_other _ _ (Ne.symm hb)).trans (Heap.get?_push_of_some _ e))
theorem Iy{ns:List Str}{Q:Unit->Shared->Prop}(X:K.In s.heap)(hx:s.heap.get? x=some ⟨.ref C,some dx,.fields vs,sl⟩)(hn:s.heap.Ns1 dx mA)(hne:dx≠x)(hs:findIn K (.ref C) "__setattr__"=some (some (.builtin "object.__setattr__"))){cd0:ClassData}(hp0:clsIn K C=some cd0)(hp:dO cd0.mro=true)(ht:takerIn K C name=some none)(hh:hasDictIn K C=true)(hw:PySem.Within mA ns)(hsz:ns.length<=sizeLine)(z:∀h',h'.Ns1 dx (λy=>if y=name then some v else mA y)->Heap.SameBut dx s.heap h'->Q () {s with heap:=h',toks:=s.toks+2}):
  wpAny (model prog w) A (setAttr (.ref x) name v) Q E s:=by
 have J:∃od,PySem.W.InstAt s.heap x ⟨.ref C,some dx,.fields vs,sl⟩ C (some od):=by
  obtain⟨o,_,_,ho,_⟩:=hn;exact⟨o,hx,rfl,rfl,ho⟩
 obtain⟨od,J⟩:=J;refine PySem.W.set_plain X J hs (pd (s:={s with toks:=s.toks+1}) X J hp0 hp ht λb=>?_);obtain⟨cd,hc,hd'⟩:=PySem.W.any_some hh;refine wpAny_bind (wpAny_pure (wpAny_bind (wpAny_bind (wpAny_loadPart hx (wpAny_bind (PySem.W.Looks.here (s:={s with toks:=s.toks+1}) (PySem.W.looks_clsIn X hc) ?_))))));rw[hd'];refine wpAny_pure (a:=some dx) (wpAny_bind (wpAny_pure (wpAny_bind ?_)));refine wpAny_nsSet1 (s:={s with toks:=s.toks+1}) hn λh' hn2 hs2=>?_;obtain⟨oD,esD,epD,hoD,hdD,hcD⟩:=hn2.count (PySem.Within.cons name v hw);refine wpAny_bind (wpAny_lookBehind hoD (by rw[hdD];exact pastItsLine_dict (Nat.le_trans hcD (by rw[List.length_cons];omega))) ?_);exact wpAny_pure (z _ hn2 hs2)
theorem KD{expr:Bool}{ox:Obj}{od:Option Obj}{Q:Value->Shared->Prop}(X:K.In s.heap)(I:PySem.W.InstAt s.heap x ox C od)(hga:findIn K (.ref C) "__getattribute__"=some (some (.builtin "BaseException.__getattribute__")))(hgt:findIn K (.ref C) "__getattr__"=some none)(hsub:mroIn K C (.type "BaseException")=some true)(hf:findObj K C od name=some (.value v))(hv:handedIn v=true)(z:Q v {s with toks:=s.toks+1}):
  wpAny (model prog w) A (getAttr (.ref x) name expr) Q E s:=by
 obtain⟨hp,g,d,t,os⟩:=s;have L0:=I.type (M:=model prog w);have L1:=looks_findIn (M:=model prog w) X hga;have L2:=looks_findIn (M:=model prog w) X hgt;have L3:=looks_find (M:=model prog w) X I hf;have L4:Looks (model prog w) hp (isInstance (.ref x) (.type "BaseException")) true:=L0.andThen (looks_mroIn X hsub);unfold getAttr getAttrBy;refine wpAny_bind (wpAny_mkText (wpAny_holding (wpAny_bind (L0.at (wpAny_bind (L1.at ?_))))));have ne:(onTheHeap (Value.ref C)&&Value.builtin "BaseException.__getattribute__"==Value.builtin "object.__getattribute__")=false:=by
  rw[show(Value.builtin "BaseException.__getattribute__"==Value.builtin "object.__getattribute__")=false from ↑1,Bool.and_false]
 show wpAny _ _ (if(onTheHeap (Value.ref C)&&Value.builtin "BaseException.__getattribute__"==Value.builtin "object.__getattribute__")=true then _ else getAttrByItsOwn _ _ _ _ _ _) _ _ _;rw[ne,if_neg ↑0];unfold getAttrByItsOwn;refine wpAny_bind (L2.at (wpAny_bind (wpAny_attempt (wpAny_holding ?_))));unfold callGetattribute;rw[show(expr&&onTheHeap (Value.builtin "BaseException.__getattribute__"))=false from Bool.and_false _,if_neg ↑0];unfold boundAndCalled;rw[PySem.F.excAttr_ValueError.ga.bind];refine wpAny_bind (wpAny_pure ?_);show wpAny _ _ (call (.builtin "BaseException.__getattribute__") [.ref x,.str name t]) _ _ _;refine wpAny_call (codeAny_call_builtin PySem.F.excAttr_ValueError.ga.plain PySem.F.entry_bexc_ga ?_);refine @check_slot (model prog w) _ _ ⟨hp,g,d,t+1,os⟩ "BaseException.__getattribute__" "BaseException" "__getattribute__" (.ref x) [.str name t] [] _ ↑1 ↑1 L4 (PySem.F.args_bexc_ga (.ref x) (.str name t)) ?_;unfold Builtin.«object.__getattribute__»;refine wpAny_bind (wpAny_pure ?_);refine wpAny_bind (wpAny_pure ?_);refine wpAny_bind (L0.at (wpAny_bind (L3.at ?_)));refine wpAny_pure ?_;show wpAny _ _ (handedOut v) _ _ _;rw[handedOut_of hv];exact wpAny_pure z
end
end
end XM
namespace L2
open PySem PySem.Spec PyProof.Rows
def jE(e C:Addr)(dx:Option Addr):HO:=.ext λh=>∃(vs:Array Value)(sl:Array (Option Value)),h.get? e=some ⟨.ref C,dx,.fields vs,sl⟩
def eQ(e C:Addr)(dx:Option Addr):HO:=.ext λh=>∃(vs:Array Value)(sl:Array (Option Value)),h.get? e=some ⟨.ref C,dx,.fields vs,sl⟩/\vs[1]?=some .none
def xX(d:Addr)(fs:List (Str×V)):HO:=.ext λh=>∃mA,h.Ns1 d mA/\(∀f,d7 (fs.lookup f) (mA f))/\PySem.Within mA (fs.map (·.1))/\fs.length<=1000
section
variable{P:Program}{w:World}{H:Hp}{h:Heap}{e C d:Addr}{dx:Option Addr}{vs:Array Value}{sl:Array (Option Value)}{fs:List (Str×V)}{mA:Str->Option Value}
theorem DY(q:h.get? e=some ⟨.ref C,dx,.fields vs,sl⟩):bL P w H h e (jE e C dx):=
 ⟨⟨vs,sl,q⟩,⟨_,q⟩,λ_ _ ⟨vs,sl,z⟩ k=>⟨vs,sl,k _ z⟩⟩
theorem Cz(q:h.get? e=some ⟨.ref C,dx,.fields vs,sl⟩)(q1:vs[1]?=some .none):bL P w H h e (eQ e C dx):=
 ⟨⟨vs,sl,q,q1⟩,⟨_,q⟩,λ_ _ ⟨vs,sl,z,z1⟩ k=>⟨vs,sl,k _ z,z1⟩⟩
theorem Ge(n:h.Ns1 d mA)(r:∀f,d7 (fs.lookup f) (mA f))(wi:PySem.Within mA (fs.map (·.1)))(l:fs.length<=1000):bL P w H h d (xX d fs):=
 ⟨⟨mA,n,r,wi,l⟩,let⟨o,_,_,q,_⟩:=n;⟨o,q⟩,λ_ _ ⟨mA,n,r⟩ k=>⟨mA,n.at k,r⟩⟩
theorem sr(aZ:gy P w H h)(q:H e=some (jE e C dx)):∃vs sl,h.get? e=some ⟨.ref C,dx,.fields vs,sl⟩:=(aZ e _ q).1
theorem sY(aZ:gy P w H h)(q:H e=some (eQ e C dx)):∃vs sl,h.get? e=some ⟨.ref C,dx,.fields vs,sl⟩/\vs[1]?=some .none:=(aZ e _ q).1
theorem DV(aZ:gy P w H h)(q:H d=some (xX d fs)):∃mA,h.Ns1 d mA/\(∀f,d7 (fs.lookup f) (mA f))/\PySem.Within mA (fs.map (·.1))/\fs.length<=1000:=(aZ d _ q).1
end
def Dn(H:Hp)(e:Addr):Prop:=∃C dx,H e=some (jE e C dx)
section
variable{X:Cx}{σ:St}{H:Hp}{s:Shared}{e:Addr}{h':Heap}
theorem Inv.flew(I:Inv X [] σ H s)(hpn:X.pn=[])(he:Dn H e)(fw:Flew H X.m8.heap.objs.size (lU X.stack) e s.heap h'):Inv X [] σ H {s with heap:=h'}:=by
 obtain⟨C,dx,he⟩:=he;obtain⟨vs,sl,hge⟩:=sr I.aZ he
 let isR:Addr->Bool:=λb=>match s.heap.get? b with|some o=>(match o.data with| .fields _=>true|_=>false)|none=>false
 let ch:List Addr:=(List.range s.heap.objs.size).filter λb=>decide (X.m8.heap.objs.size<=b)&&((H b).isNone&&isR b)
 have mem:∀b∈ch,X.m8.heap.objs.size<=b/\H b=none/\∃o ts,s.heap.get? b=some o/\o.data= .fields ts:=λb hb=>by
  have q:=(List.mem_filter.mp hb).2;simp only[Bool.and_eq_true,decide_eq_true_eq,Option.isNone_iff_eq_none] at q;refine⟨q.1,q.2.1,?_⟩;have z:isR b=true:=q.2.2;dsimp only[isR] at z;split at z
  ·rename_i o ho;split at z
   ·rename_i ts hd;exact⟨o,ts,ho,hd⟩
   ·cases z
  ·cases z
 have nmem:∀b o,s.heap.get? b=some o->b∉ch->H b=none->b<X.m8.heap.objs.size\/H b≠none\/∀ts,o.data≠.fields ts:=λb o q hb n=>by
  by_cases h1:X.m8.heap.objs.size<=b
  ·right;right;intro ts hd;apply hb;refine List.mem_filter.mpr ⟨List.mem_range.mpr (Heap.lt_size q),?_⟩;have z:isR b=true:=by dsimp only[isR];rw[q];dsimp only;rw[hd]
   rw[decide_eq_true h1,n,z];rfl
  ·exact .inl (Nat.lt_of_not_le h1)
 have ne:∀b,H b=none->b≠e:=λb n z=>by rw[z,he] at n;cases n
 have inS:∀b,b∈X.fs->b∈lU X.stack:=λb hb=>by
  rcases I.ok.OT with z|⟨z,hf⟩
  ·rw[z];exact hb
  ·rw[z];unfold lU;rw[List.filterMap_cons,hf];exact List.mem_cons_of_mem _ hb
 obtain⟨m0,⟨oL,esL,epL,hoL,hdL,rL⟩,_⟩:=id I.loc;have dictL:∀ts,oL.data≠.fields ts:=λts z=>by rw[hdL] at z;cases z
 have locK:∃sl,h'.get? X.env.locals=some {oL with slots:=sl}:=by
  by_cases hb:X.env.locals∈lU X.stack
  ·exact fw.slot _ _ hoL hb
  ·exact⟨oL.slots,fw.keep _ _ hoL hb (ne _ I.free) (.inr (.inr dictL))⟩
 refine I.step (g':=s.gens) (d':=s.drawn) (t':=s.toks) (ch:=ch) (λb hb=>?_) (λb o h1 h2 h3 q n=>?_) (λb o h1 h2 h3 q n=>fw.slot b o q (inS b h2)) (λ_ _ _ _ n=>n) (λb o _ q=>fw.there b o q)
  (λ_ _ q=>q) (λ_ _ _ q=>q) (λb ps q=>⟨#[],by rw[q];simp⟩) (λm hm=>?_) (λb u q=>?_) I.bare
 ·obtain⟨h1,h2,o,ts,h3,h4⟩:=mem b hb;refine⟨.inr h1,λz=>?_,λx c hc z=>?_,λp hp=>?_⟩
  ·subst z;rw[hoL] at h3;cases h3;exact dictL ts h4
  ·subst z;obtain⟨v,o',q1,q2⟩:=I.cell x c hc;rw[h3] at q1;cases q1;rw[h4] at q2;cases q2
  ·rw[hpn] at hp;exact absurd hp (by simp)
 ·refine fw.keep b o q (λhb=>?_) (ne b n) (nmem b o q h3 n);rcases List.mem_cons.mp (I.wH b hb) with z|z
  ·exact h1 z
  ·exact h2 z
 ·obtain⟨o',es',ep',ho',r'⟩:=hm;rw[hoL] at ho';cases ho';obtain⟨sl,z⟩:=locK;exact⟨_,es',ep',z,r'⟩
 ·have tr:∀c v,H c=some v->c≠e->∀o,s.heap.get? c=some o->h'.get? c=some o:=λc v hc hce o ho=>fw.keep c o ho (λhb=>by rw[I.xZ c hb] at hc;cases hc) hce (.inr (.inl (by rw[hc];exact λz=>by cases z)));by_cases hbe:b=e
  ·subst hbe;rw[he] at q;cases q;obtain⟨vs',z⟩:=fw.exc _ hge;exact DY z
  ·refine(I.aZ b u q).Af (λc v hc r=>?_) (λ_ r=>r) λ_ _ r=>r;rcases hc with z|z
   ·rw[z] at r ⊢;exact tr b u q hbe _ r
   ·refine tr c _ z (λy=>?_) _ r;rw[y,he] at z;cases z
end
def Nz(X:Cx)(R:St->Addr->Hp->Prop):Value->Shared->Prop:=λv s'=>∃(e:Addr)(σ:St)(H:Hp),v= .ref e/\Inv X [] σ H s'/\DW H X.m8.heap.objs.size X.env.locals s'.heap e/\Dn H e/\R σ e H
abbrev xw(X:Cx)(R:St->Addr->Hp->Prop):Cx:=X.lg (Nz X R)
def g_(P:Program)(w:World):yz:=λouter H s E v s'=>∃(e:Addr)(H':Hp),v= .ref e/\s'.os=s.os/\AllBare s'.gens/\Un (lU outer) [] H H' s.heap s'.heap/\gy P w H' s'.heap/\
 eO H' s.heap.objs.size .none s'.heap e/\Dn H' e/\E (.ref e) none H'
structure Top(X:Cx):Prop where
 st:X.stack=X.env::X.outer
 fr:X.env.frame=some X.env.locals
 pn:X.pn=[]
section
variable{X:Cx}{R:St->Addr->Hp->Prop}
theorem eO.mono{H:Hp}{n m:Nat}{fl:Value}{h:Heap}{e:Addr}(x:eO H n fl h e)(k:m<=n):eO H m fl h e:=by obtain⟨oe,vs,T,oT,ts,a,b,c,d,r⟩:=x;exact⟨oe,vs,T,oT,ts,a,b,c,Nat.le_trans k d,r⟩
theorem wy(T:Top X):PassesOwn (model X.prog X.w) X.A X.env (Nz X R):=by
 rintro v s' ⟨e,σ,H,rfl,I,fl,he,r⟩;have hl:s'.heap.FunFrames X.base (X.env::X.outer):=by have:=I.stack;rw[T.st] at this;exact this
 refine yR (by rw[I.ok.frames,T.st]) hl T.fr fl I.sz (λb hb=>I.aZ.fresh hb) λh1 a1 f1=>?_;have I1:=I.flew T.pn he (by rw[T.st];exact f1);obtain⟨oe,vs,Tb,oT,ts,q1,q2,q3,q4⟩:=id a1;show wpAny _ _ (do
  if(<-field (.ref e) 1)==.none then unsupported "frame.own-activation:exception-without-traceback"
  setFlight (.ref e) X.env.frame) _ _ _
 refine wpAny_bind (wpAny_field (s:={s' with heap:=h1}) q1 q2 q3 ?_);rw[if_neg (show ¬((Value.ref Tb==Value.none)=true) from by simp),T.fr];refine xC (s:={s' with heap:=h1}) (fs:=lU (X.env::X.outer)) a1 (λh2 a2 f2=>?_) (eO.Gi (fl:=.none) (fs:=[]) hl f1) (some X.env.locals) rfl;have I2:=Inv.flew (s:={s' with heap:=h1}) I1 T.pn he (by rw[T.st];exact f2);exact⟨e,σ,H,rfl,I2,.inr (.inr a2),he,r⟩
theorem wW{E:XK}{US:List (Addr×Obj)}{σ:St}{H:Hp}{s s':Shared}{v:Value}(I:Inv X US σ H s)(hq:g_ X.prog X.w X.stack H s E v s')(hE:∀e H',E (.ref e) none H'->R σ e H'):Nz X R v s':=by obtain⟨e,H',rfl,os,bare,un,aZ,fl,he,z⟩:=hq;have I1:=I.L6 os un aZ bare (ch:=[]) (λb z=>absurd z (by simp));exact⟨e,σ,H',rfl,I1.qt (pins':=[]) (λp hp=>absurd hp (by simp)),.inr (.inl (fl.mono I.sz)),he,hE e H' z⟩
theorem uP{E:XK}(hE:∀σ e H',E (.ref e) none H'->R σ e H'):Passes (g_ X.prog X.w) (xw X R) E:=λUS σ H s v s' I hq=>wW I.dY hq (hE σ)
end
section
variable{P:Program}{w:World}{K:Frag}{mg:Str->Option Value}{base:Heap}
theorem E7{N:List Str}{qual:Str}{scope:Scope}{f:Addr}{cd:Value}{A:Around}{outer:List Env}{s:Shared}{H:Hp}{E:XK}{R:St->Addr->Hp->Prop}{v:Value}{s':Shared}(h:Nz (iL (g_ P w) P w K mg base N qual scope f cd A outer s H E) R v s')(hR:∀σ e H',R σ e H'->E (.ref e) none H'):(iL (g_ P w) P w K mg base N qual scope f cd A outer s H E).xe v s':=by
 obtain⟨e,σ,H',rfl,I,fl,he,r⟩:=h;have T:Top (iL (g_ P w) P w K mg base N qual scope f cd A outer s H E):=⟨rfl,rfl,rfl⟩
 refine En (base:=base) (L:=s.heap.objs.size) (env:=envOfC qual scope s.heap.objs.size f cd) (outer:=outer) I.ok.frames I.stack rfl fl I.sz (λb hb=>I.aZ.fresh hb) λh1 a1 f1=>?_;have I1:=I.flew T.pn he f1;exact⟨e,H',rfl,I1.os,I1.bare,I1.base,I1.aZ,a1,he,hR σ e H' r⟩
theorem jW.uD{x qual:Str}{st:Stmt}{f:Addr}{fd:FuncData}{N ps:List Str}{k:Nat}{sp:Sp}(F:jW K x qual st f fd)(S:ax N ps (aq st))(len:∀vs H Q E,sp vs H Q E->vs.length=ps.length)(hbody:∀(UT:Value)(A:Around)(outer:List Env)(s:Shared)(H:Hp)(vs:List V)(Q:VK)(E:XK),bB k (A.deeper (envOfC qual (aq st) s.heap.objs.size f UT))->sp vs H Q E->
   ∃t,tN (xw (iL (g_ P w) P w K mg base N qual (aq st) f UT A outer s H E) λ_ e H'=>E (.ref e) none H') (bX st) t/\t {nx:=λ_ H'=>Q .bF H',rt:=Q} (start N vs) H):bY P w K mg base (g_ P w) (k+1) f fd ps sp:=by
 obtain⟨oc,od,kV,doc,pm,an,UT,ct,osl,rfl,lk,hcd⟩:=F.ex;refine L5 lk hcd S len λA outer s H vs Q E hr hsp=>?_;obtain⟨t,h,q⟩:=hbody UT A outer s H vs Q E hr hsp;refine⟨t,λUS s1 σ H1 D I hw=>wpAny_mono (h US s1 σ H1 D (I.lg _) hw) (λ_ _ z=>z.dY) λv s2 z=>E7 z λ_ _ _ y=>y,q⟩
end
structure sZ(K:Frag)(C:Addr):Prop where
 sa:PySem.W.findIn K (.ref C) "__setattr__"=some (some (.builtin "object.__setattr__"))
 po:∃cd,PySem.W.clsIn K C=some cd/\XM.dO cd.mro=true
 hd:PySem.W.hasDictIn K C=true
 ga:PySem.W.findIn K (.ref C) "__getattribute__"=some (some (.builtin "BaseException.__getattribute__"))
 gt:PySem.W.findIn K (.ref C) "__getattr__"=some none
 sub:PySem.W.mroIn K C (.type "BaseException")=some true
structure IS(K:Frag)(C f:Addr):Prop where
 at_:∃(nm q:Str)(N:Addr)(bs bm:List Value)(hdct:Bool)(sn:List Str)(sub:List Value)(ab:Bool)(col:Option Bool)(dd:Option Addr)(k0 k1 k2 k3 k5:Option Value),
  K.lookup C=some (excClassObj nm q C N bs bm hdct sn sub ab col dd k0 k1 k2 k3 k5 "Exception.__new__")/\XM.Line "Exception" bm
 init:PySem.W.findIn K (.ref C) "__init__"=some (some (.ref f))
 fn:PySem.W.isFn K (.ref f)=true
 kp:PySem.W.keepIn K (.ref C)=true
section
variable{X:Cx}{US:List (Addr×Obj)}{σ:St}{H:Hp}{s:Shared}{e C d:Addr}{fs:List (Str×V)}{f:Str}{A:Around}{E:Value->Shared->Prop}
theorem BC{y:V}{u:Value}{Q:Unit->Shared->Prop}(I:Inv X US σ H s)(he:H e=some (eQ e C none))(c:sZ X.K C)(n:aE X.K C f)(ry:RelV y u)(h:∀d s',H d=none->Inv X US σ (upd (upd H d (xX d [(f,y)])) e (eQ e C (some d))) s'->Q () s'):wpAny (model X.prog X.w) A (setAttr (.ref e) f u) Q E s:=by
 obtain⟨vs,sl,q,q1⟩:=sY I.aZ he;obtain⟨cd0,cd1,cd2⟩:=c.po;refine XM.Ey I.d5 q c.sa cd1 cd2 n.IH c.hd λh' n1 g1 kp=>?_;have hf:H s.heap.objs.size=none:=I.aZ.fresh (Nat.le_refl _);have hne:e≠s.heap.objs.size:=Nat.ne_of_lt (Heap.lt_size q);refine h s.heap.objs.size _ hf ?_;have u1:Un X.fs [] H (upd H s.heap.objs.size (xX s.heap.objs.size [(f,y)])) s.heap (s.heap):=Un.laid (λ_ _ z=>z) (Nat.le_refl _) hf;have hmu:Pw (upd H s.heap.objs.size (xX s.heap.objs.size [(f,y)]) e):=by rw[ah hne,he];exact True.intro
 have u2:Un X.fs [] (upd H s.heap.objs.size (xX s.heap.objs.size [(f,y)])) (upd (upd H s.heap.objs.size (xX s.heap.objs.size [(f,y)])) e (eQ e C (some s.heap.objs.size))) s.heap h':=
  Un.write hmu (.inl rfl) (λb o hb z=>kp b o hb z) ⟨_,g1⟩
 have aZ:gy X.prog X.w (upd (upd H s.heap.objs.size (xX s.heap.objs.size [(f,y)])) e (eQ e C (some s.heap.objs.size))) h':=λb o z=>by
  by_cases hb:b=e
  ·subst hb;rw[ag] at z;cases z;exact Cz g1 q1
  ·rw[ah hb] at z;by_cases hb2:b=s.heap.objs.size
   ·subst hb2;rw[ag] at z;cases z;refine Ge n1 (λg=>?_) (λg hg=>?_) (by simp)
    ·show d7 (List.lookup g [(f,y)]) (if g=f then some u else none);by_cases gf:g=f
     ·subst gf;simp only[List.lookup,beq_self_eq_true,if_true];exact ry
     ·simp only[List.lookup,beq_eq_false_iff_ne.mpr gf,if_neg gf];trivial
    ·by_cases gf:g=f
     ·subst gf;simp
     ·simp[gf] at hg
   ·rw[ah hb2] at z;refine(I.aZ b o z).Af (λc v hc r=>kp c v ?_ r) (λc r=>?_) λc xs r=>?_
    ·rcases hc with y|y
     ·rw[y];exact hb
     ·exact λw'=>by rw[w',he] at y;cases y
    ·rw[ah (dB r he (by intro w';cases w')),ah (au r hf)];exact r
    ·rw[ah (dB r he (by intro w';cases w')),ah (au r hf)];exact r
 exact I.un (t':=s.toks+2) (u1.trans u2) aZ
theorem Ew{y:V}{u:Value}{Q:Unit->Shared->Prop}(I:Inv X US σ H s)(he:H e=some (eQ e C (some d)))(hd:H d=some (xX d fs))(c:sZ X.K C)(n:aE X.K C f)(hl:fs.length<1000)(ry:RelV y u)(h:∀s',Inv X US σ (upd H d (xX d (aV f y fs))) s'->Q () s'):wpAny (model X.prog X.w) A (setAttr (.ref e) f u) Q E s:=by
 obtain⟨vs,sl,q,q1⟩:=sY I.aZ he;obtain⟨mA,n1,r,wi,_⟩:=DV I.aZ hd;have hz:(fs.map (·.1)).length<=sizeLine:=by rw[List.length_map,sizeLine_eq];omega
 have hne:d≠e:=λz=>by
  subst z;obtain⟨o,_,_,ho,hdt,_⟩:=id n1;rw[q] at ho;cases ho;cases hdt
 obtain⟨cd0,cd1,cd2⟩:=c.po;refine XM.Iy I.d5 q n1 hne c.sa cd1 cd2 n.IH c.hd wi hz λh' n2 sb=>h _ ?_;have hdo:∃o,h'.get? d=some o:=let⟨o,_,_,e',_⟩:=n2;⟨o,e'⟩;refine I.write (x:=d) (e:=d) (by rw[hd];exact True.intro) (.inl rfl) (λb q hb z=>(sb.2 b hb).trans z) hdo ?_;refine Ge n2 (λg=>?_) (λg hg=>?_) (by have:=aG f y fs;omega)
 ·show d7 ((aV f y fs).lookup g) (if g=f then some u else mA g);rw[az];by_cases q:g=f
  ·rw[if_pos q,if_pos q];exact ry
  ·rw[if_neg q,if_neg q];exact r g
 ·by_cases q:g=f
  ·rw[q];exact(gj f y fs).1
  ·refine(gj f y fs).2 g (wi g λz=>hg ?_);show(if g=f then some u else mA g)=none;rw[if_neg q];exact z
theorem TK{b:Bool}{v:V}{Q:Value->Shared->Prop}(I:Inv X US σ H s)(he:H e=some (jE e C (some d)))(hd:H d=some (xX d fs))(c:sZ X.K C)(n:aE X.K C f)(l:fs.lookup f=some v)(h:∀u s',Inv X US σ H s'->RelV v u->Q u s'):wpAny (model X.prog X.w) A (getAttr (.ref e) f b) Q E s:=by
 obtain⟨vs,sl,q⟩:=sr I.aZ he;obtain⟨mA,n1,r,_,_⟩:=DV I.aZ hd;obtain⟨u,hu,ru⟩:=d7.some_of (v:=v) (o:=mA f) (by rw[<-l];exact r f);obtain⟨od,ho,hl⟩:=vq n1;have J:PySem.W.InstAt s.heap e ⟨.ref C,some d,.fields vs,sl⟩ C (some od):=⟨q,rfl,rfl,ho⟩
 exact XM.KD I.d5 J c.ga c.gt c.sub (PySem.W.findObj_own c.hd n rfl (by rw[hl,hu])) (u_ ru) (h u _ (I.tok _) ru)
end
def Q6(K:Frag)(ta tv:TE)(f:Str):TS:=λD σ H=>tv σ H λy H1=>ta σ H1 λx H2=>∃e C,x= .ref e/\sZ K C/\aE K C f/\
  ((H2 e=some (eQ e C none)/\∀d,H2 d=none->D.nx σ (upd (upd H2 d (xX d [(f,y)])) e (eQ e C (some d))))\/
   ∃d fs,H2 e=some (eQ e C (some d))/\H2 d=some (xX d fs)/\fs.length<1000/\D.nx σ (upd H2 d (xX d (aV f y fs))))
def Df(K:Frag)(ta:TE)(f:Str):TE:=λσ H Q=>ta σ H λx H1=>∃e C d fs v,x= .ref e/\H1 e=some (jE e C (some d))/\H1 d=some (xX d fs)/\sZ K C/\aE K C f/\fs.lookup f=some v/\Q v H1
section
variable{X:Cx}{o e value:Expr}{f:Str}{pos pos' apos:Pos}{ta tv:TE}
theorem wb(ha:PE X o ta)(hv:PE X value tv)(hs:swapsWith value (some (.Attribute o f pos')) pos.line X.env=pure false):PS X (.Assign [.Attribute o f pos'] value pos) (Q6 X.K ta tv f):=by
 intro US s σ H D I h;refine plainObj_wpAny_Assign_Attribute (br (hv US s σ H _ I h) λu s1 ⟨y,H1,I1,ry,q⟩=>br (ha US s1 σ H1 _ I1 q) λov s2 ⟨x,H2,I2,rx,a,C,ex,c,n,q2⟩=>?_) hs;subst ex;obtain rfl:ov=Value.ref a:=rx;rcases q2 with⟨z1,z2⟩|⟨d,fs,z1,z2,z3,z4⟩
 ·exact BC I2 z1 c n ry λd s3 hd I3=>⟨σ,_,I3,z2 d hd⟩
 ·exact Ew I2 z1 z2 c n z3 ry λs3 I3=>⟨σ,_,I3,z4⟩
theorem yn(he:PE X e ta)(hb:attributeBase e f X.env (eval e X.env)=eval e X.env):PE X (.Attribute e f pos) (Df X.K ta f):=by intro US s σ H Q I h;refine DU hb (br (he US s σ H _ I h) λu s1 ⟨x,H1,I1,rx,a,C,d,fs,v,ex,ea,ed,c,n,l,q⟩=>?_);subst ex;obtain rfl:u=Value.ref a:=rx;exact TK I1 ea ed c n l λu' s2 I2 ru=>⟨v,H1,I2,ru,q⟩
end
structure F_(K:Frag)(C:Addr)(m:Str)(f:Addr):Prop where
 sp:PySem.W.specialIn K (.ref C) "__getattribute__"=some (some (.builtin "type.__getattribute__"))
 rd:PySem.W.readsIn K C (.type "type")=true
 at_:PySem.W.findCls K (.ref C) (.type "type") m=some (.val (.ref f))
 kp:PySem.W.keepIn K (.ref f)=true
section
variable{X:Cx}{CX:yz}{k:Nat}{f C:Addr}{fd:FuncData}{ps:List Str}{sp:Sp}{dvs:List V}{ds:List Value}{E:XK}{x m:Str}{p pos apos:Pos}{e o:Expr}{es:List Expr}{ta:TE}{t:TA}
theorem x_{pl:Sem Bool}(hg:Gl X x)(hm:X.mg x=some (.ref C))(c:F_ X.K C m f)(F:bY X.prog X.w X.K X.mg X.base CX k f fd ps sp)(hr:bB k X.A)(hb:Binds X.K fd ps ds)(hd:Vals dvs ds)(hx:Passes CX X E)(ha:PA X (e::es) t)(hdb:(x==("__debug__":Str))=false:=by decide)(hst:starEach (e::es) X.env=(false,eval e X.env)::starEach es X.env:=by rfl)(hpl:(backTo pos (starEach es X.env)).any (·.1)=false:=by rfl)(ht:eval (.Call (.Attribute (.Name x p) m apos) (e::es) [] pos) X.env=(do
   let ov<-eval (.Name x p) X.env
   standAt apos.atName
   let(f,first)<-holding [ov] (getMethod ov m pl)
   callWith pos f first (backTo pos (starEach (e::es) X.env)) (backToKw pos (keywordEach [] X.env))):=by rfl):
  PE X (.Call (.Attribute (.Name x p) m apos) (e::es) [] pos) (ik sp dvs E t):=by
 intro US s σ H Q I h;refine PySem.W.methodCall_KW (pl:=pl) (dZ I hg hm ?_ hdb) ht;refine PySem.W.method_cls I.d5 c.sp (PySem.W.cls_value I.d5 c.rd c.at_ rfl ?_);have I1:=I.tok (s.toks+1);refine PySem.W.callWith_K (first:=[]) (h₀:=X.base) I.ok.mod.D' c.kp (br (ha pos US _ σ H _ I1 h) λus s2 ⟨vs,H2,I2,r,q2⟩=>⟨I2.d5,?_⟩) hst hpl;exact mY (us:=us) (vs:=vs) F hr hb hd hx I2 r q2
def xV(C:Addr)(sp:Sp)(dvs:List V)(E:XK)(t:TA):TE:=λσ H Q=>t σ H λvs H1=>vs.length<=1000/\∀e,H1 e=none->sp (.ref e::(vs++dvs)) (upd H1 e (eQ e C none)) (λv H2=>v= .bF/\Q (.ref e) H2) E
theorem vb{US:List (Addr×Obj)}{σ:St}{H:Hp}{s:Shared}{Q:VK}{us:List Value}{vs:List V}(M:IS X.K C f)(F:bY X.prog X.w X.K X.mg X.base CX k f fd ps sp)(hr:bB (k+1) X.A)(hb:Binds X.K fd ps ds)(hd:Vals dvs ds)(hx:Passes CX X E)(I:Inv X US σ H s)(r:Vals vs us)(hl:vs.length<=1000)(h:∀e,H e=none->sp (.ref e::(vs++dvs)) (upd H e (eQ e C none)) (λv H2=>v= .bF/\Q (.ref e) H2) E):wpAny (model X.prog X.w) X.A (call (.ref C) us) (EP X US σ Q) X.xe s:=by
 have hq:=h (s.heap.objs.size+1) (I.aZ.fresh (Nat.le_succ _));obtain⟨nm,q,N,bs,bm,hdct,sn,sub,ab,col,dd,k0,k1,k2,k3,k5,hC,ln⟩:=M.at_;obtain⟨oI,hoI,hoc⟩:∃oI,X.K.lookup f=some oI/\oI.cls= .type "function":=by
  have z:=beq_iff_eq.mp M.fn;obtain⟨o,ho,z⟩:=Option.map_eq_some_iff.mp z;exact⟨o,ho,z⟩
 have hu:us.length<=sizeLine:=by rw[<-r.length,sizeLine_eq];omega
 have g1:((s.heap.push {cls:=.type "tuple",data:=.seq us.toArray}).push {cls:=.ref C,data:=.fields #[.ref s.heap.objs.size,.none,.none,.none,.bool false,.none]}).get? (s.heap.objs.size+1)=
   some ⟨.ref C,none,.fields #[.ref s.heap.objs.size,.none,.none,.none,.bool false,.none],#[]⟩:=by
  have:=Heap.get?_push_size (s.heap.push {cls:=.type "tuple",data:=.seq us.toArray}) (o:={cls:=.ref C,data:=.fields #[.ref s.heap.objs.size,.none,.none,.none,.bool false,.none]}) rfl
  rwa [Heap.size_push] at this
 have I2:Inv X US σ (upd H (s.heap.objs.size+1) (eQ (s.heap.objs.size+1) C none)) {s with heap:=(s.heap.push {cls:=.type "tuple",data:=.seq us.toArray}).push {cls:=.ref C,data:=.fields #[.ref s.heap.objs.size,.none,.none,.none,.bool false,.none]}}:=
  I.laid (t':=s.toks) (λb u z=>Heap.get?_push_of_some _ (Heap.get?_push_of_some _ z)) (Nat.le_succ _) (Cz g1 rfl)
 have r2:Vals (V.ref (s.heap.objs.size+1)::(vs++dvs)) (Value.ref (s.heap.objs.size+1)::(us++ds)):=.cons rfl (r.append hd);have hl2:(Value.ref (s.heap.objs.size+1)::us++ds).length=ps.length:=by
  have e:=r2.length;rw[F.len _ _ _ _ hq] at e;exact e.symm
 obtain⟨hh,g,d,t,os⟩:=s;refine XM.made PySem.F.excBase_Exception ln (I.d5 _ _ hC) (PySem.W.looks_findIn I.d5 M.init) (I.d5 _ _ hoI) hoc hu ?_;refine wpAny_call (codeAny_mono (F.run _ X.stack _ _ ⟨Value.ref (hh.objs.size+1)::us,[]⟩ (Value.ref (hh.objs.size+1)::(us++ds)) _ _ E (hr.make C us [])
  (I2.Fi.make C us []) (hb _ (Value.ref (hh.objs.size+1)::us) I2.d5 hl2) r2 hq) λr s' hq'=>?_)
 cases r with
 |error e=>exact hx US σ _ _ e s' I2 hq'
 |ok fl=>
  cases fl with
  |ret u=>
   obtain⟨v,H',I3,rv,ev,q3⟩:=I2.after hq';subst ev;exact⟨rv,⟨V.ref (hh.objs.size+1),H',I3,rfl,q3⟩⟩
  |next=>exact False.elim hq'
  |brk=>exact False.elim hq'
  |cont=>exact False.elim hq'
theorem HX(M:IS X.K C f)(F:bY X.prog X.w X.K X.mg X.base CX k f fd ps sp)(hr:bB (k+1) X.A)(hg:Gl X x)(hm:X.mg x=some (.ref C))(hb:Binds X.K fd ps ds)(hd:Vals dvs ds)(hx:Passes CX X E)(ha:PA X (e::es) t)(hdb:(x==("__debug__":Str))=false:=by decide)(he:starEach (e::es) X.env=(false,eval e X.env)::starEach es X.env:=by rfl)(hpl:(backTo pos (starEach es X.env)).any (·.1)=false:=by rfl):
  PE X (.Call (.Name x p) (e::es) [] pos) (xV C sp dvs E t):=by
 intro US s σ H Q I h;refine wpAny_Call_Name_kw (dZ I hg hm ?_ hdb);refine PySem.W.callWith_K (h₀:=X.base) I.ok.mod.D' M.kp (br (ha pos US s σ H _ I h) λus s1 ⟨vs,H1,I1,r,hl,q⟩=>⟨I1.d5,?_⟩) he hpl;exact vb M F hr hb hd hx I1 r hl q
theorem E3(M:IS X.K C f)(F:bY X.prog X.w X.K X.mg X.base CX k f fd ps sp)(hr:bB (k+1) X.A)(hg:Gl X x)(hm:X.mg x=some (.ref C))(hb:Binds X.K fd ps ds)(hd:Vals dvs ds)(hx:Passes CX X E)(hdb:(x==("__debug__":Str))=false:=by decide):PE X (.Call (.Name x p) [] [] pos) (xV C sp dvs E d8):=by intro US s σ H Q I h;refine wpAny_Call_Name_kw (dZ I hg hm ?_ hdb);exact PySem.W.callWith_K0 I.d5 M.kp (vb (us:=[]) M F hr hb hd hx I .nil h.1 h.2)
end
def Ms(K:Frag)(R:St->Addr->Hp->Prop)(te:TE):TS:=λ_ σ H=>te σ H λx H1=>∃e C f dx,x= .ref e/\H1 e=some (eQ e C dx)/\IS K C f/\R σ e (upd H1 e (jE e C dx))
theorem cj{X:Cx}{R:St->Addr->Hp->Prop}{e:Expr}{te:TE}{pos:Pos}(hh:X.A.handled=none)(he:PE (xw X R) e te):PS (xw X R) (.Raise (some e) none pos) (Ms X.K R te):=by
 intro US s σ H D I h;rw[arm_exec_Raise];refine wpAny_bind (wpAny_standAt ?_);show wpAny _ _ (raiseStmt _ (some (do let v<-eval e X.env;standAt pos;pure v)) none) _ _ _;have key:wpAny (model X.prog X.w) X.A (do let v<-eval e X.env;standAt pos;pure v) (λv s1=>∃(a C:Addr)(f:Addr)(dx:Option Addr)(H1:Hp),v= .ref a/\Inv X US σ H1 s1/\H1 a=some (eQ a C dx)/\IS X.K C f/\R σ a (upd H1 a (jE a C dx))) (Nz X R) s:=by
  refine wpAny_bind (br (he US s σ H _ I h) λu s1 ⟨x,H1,I1,rx,a,C,f,dx,ex,h1,h2,h3⟩=>wpAny_bind (wpAny_standAt (wpAny_pure ?_)));subst ex;obtain rfl:u=Value.ref a:=rx;exact⟨a,C,f,dx,H1,rfl,I1.dY,h1,h2,h3⟩
 unfold raiseStmt;refine wpAny_bind (wpAny_mono key (λv s1 z=>?_) λ_ _ z=>z);obtain⟨a,C,f,dx,H1,rfl,I1,h1,M,h3⟩:=z;obtain⟨nm,q,N,bs,bm,hdct,sn,sub,ab,col,dd,k0,k1,k2,k3,k5,hC,ln⟩:=M.at_;obtain⟨vs,sl,hge,hv1⟩:=sY I1.aZ h1;have r0:=XM.raises (M:=model X.prog X.w) (A:=X.A) (E:=Nz X R) (s:=s1) (env:=X.env) (x:=pure (.ref a)) (Q:=SP (xw X R) US D) (C:=C) (nm:=nm) (q:=q) (N:=N) (bs:=bs) (bm:=bm) (hdct:=hdct) (sn:=sn) (sub:=sub) (ab:=ab) (col:=col) (dd:=dd) (k0:=k0) (k1:=k1) (k2:=k2) (k3:=k3) (k5:=k5) (newId:="Exception.__new__") ln.base hh
  (wpAny_pure ⟨a,_,vs,rfl,I1.d5 _ _ hC,hge,rfl,rfl,hv1,?_⟩)
 ·exact r0
 ·have I2:Inv X US σ (upd H1 a (jE a C dx)) s1:=I1.write (x:=a) (e:=a) (h':=s1.heap) (t':=s1.toks) (by rw[h1];exact True.intro) (.inl rfl) (λb u _ z=>z) ⟨_,hge⟩ (DY hge);exact⟨a,σ,_,rfl,I2.qt (pins':=[]) (λp hp=>absurd hp (by simp)),.inl ⟨_,vs,hge,rfl,hv1⟩,⟨C,dx,ag⟩,h3⟩
abbrev sx(X:Cx)(e:Addr):Cx:={X with A:=X.A.mark (some (.ref e)),calm:=false,xe:=λ_ _=>False}
section
variable{X:Cx}{US:List (Addr×Obj)}{σ:St}{H:Hp}{s:Shared}{e:Addr}
theorem Inv.sx(I:Inv X US σ H s)(e:Addr):Inv (sx X e) US σ H s:=
 ⟨⟨I.ok.mod,I.ok.kind,I.ok.glob,I.ok.blt,I.ok.above,I.ok.inj,I.ok.has,I.ok.M',(λz=>by cases z),I.ok.frames,I.ok.OT,I.ok.Pn,I.ok.bs,I.ok.Fz,I.ok.Cg,I.ok.B6,I.ok.jY,I.ok.Jx⟩,
  I.os,I.bare,I.base,I.loc,I.cell,I.free,I.fj,I.pin,I.aZ,I.len⟩
theorem Inv.TC(I:Inv (L2.sx X e) US σ H s)(ok:X.Ok):Inv X US σ H s:=⟨ok,I.os,I.bare,I.base,I.loc,I.cell,I.free,I.fj,I.pin,I.aZ,I.len⟩
theorem Inv.RG{m':Str->Option Value}{h':Heap}{t':Nat}(I:Inv X US σ H s)(hn:h'.Ns X.env.locals m')(hs:Heap.SameBut X.env.locals s.heap h'):Inv X US (σ.map λ_=>none) H {s with heap:=h',toks:=t'}:=by
 have neL:∀b o,X.m8.heap.get? b=some o->b≠X.env.locals:=λb o q=>Nat.ne_of_lt (Nat.lt_of_lt_of_le (Heap.lt_size q) I.ok.above);refine⟨I.ok,I.os,I.bare,⟨λb o q n hb hx=>(hs.2 b (neL b o q)).trans (I.base.keep b o q n hb hx),λb o q n hb hx=>?_,I.base.free,λb o q hx=>?_,I.base.p6,I.base.mR,I.base.pF⟩,
  ⟨m',hn,λi x v _ e2 _=>?_⟩,λy c q=>?_,I.free,I.fj,λp hp=>?_,λb u q=>?_,by rw[List.length_map];exact I.len⟩
 ·obtain⟨sl,z⟩:=I.base.slot b o q n hb hx;exact⟨sl,(hs.2 b (neL b o q)).trans z⟩
 ·obtain⟨o',z⟩:=I.base.there b o q hx;exact⟨o',(hs.2 b (neL b o q)).trans z⟩
 ·rw[List.getElem?_map] at e2;cases z:σ[i]? with
  |none=>rw[z] at e2;cases e2
  |some y=>rw[z] at e2;cases e2
 ·obtain⟨w',z⟩:=I.cell y c q;exact⟨w',z.sameBut hs (I.Me y c q)⟩
 ·obtain⟨q,n,ne,nf,d⟩:=I.pin p hp;exact⟨(hs.2 p.1 ne).trans q,n,ne,nf,d⟩
 ·refine(I.aZ b u q).Af (λc v hc r=>(hs.2 c λz=>?_).trans r) (λ_ r=>r) λ_ _ r=>r;rcases hc with y|y
  ·rw[<-y,z,I.free] at q;cases q
  ·rw[z,I.free] at y;cases y
end
def TM(X:Cx)(st:Stmt)(t:TS):Prop:=∀(s:Shared)(σ:St)(H:Hp)(D:Ends),Inv X [] σ H s->t D σ H->wpAny (model X.prog X.w) X.A (exec st X.env) (SP X [] D) X.xe s
def JC(X:Cx)(st:List Stmt)(t:TS):Prop:=∀(s:Shared)(σ:St)(H:Hp)(D:Ends),Inv X [] σ H s->t D σ H->wpAny (model X.prog X.w) X.A (execs st X.env) (SP X [] D) X.xe s
section
variable{X:Cx}{st:Stmt}{rest:List Stmt}{t u:TS}
theorem PS.So(h:PS X st t):TM X st t:=λs σ H D I q=>h [] s σ H D I q
theorem tN.So(h:tN X rest t):JC X rest t:=λs σ H D I q=>h [] s σ H D I q
theorem nU(h1:TM X st t)(h2:JC X rest u):JC X (st::rest) (BU t u):=by
 intro s σ H D I h;refine wpAny_execs_cons (br (h1 s σ H {D with nx:=u D} I h) λf s1 q=>?_);cases f with
 |next=>
  obtain⟨σ',H',I',q⟩:=q;exact h2 s1 σ' H' D I' q
 |ret v=>exact q
 |brk=>exact q
 |cont=>exact q
end
theorem jW.Uo{P:Program}{w:World}{K:Frag}{mg:Str->Option Value}{base:Heap}{x qual:Str}{st:Stmt}{f:Addr}{fd:FuncData}{N ps:List Str}{k:Nat}{sp:Sp}(F:jW K x qual st f fd)(S:ax N ps (aq st))(len:∀vs H Q E,sp vs H Q E->vs.length=ps.length)(hbody:∀(UT:Value)(A:Around)(outer:List Env)(s:Shared)(H:Hp)(vs:List V)(Q:VK)(E:XK),bB k (A.deeper (envOfC qual (aq st) s.heap.objs.size f UT))->sp vs H Q E->
   ∃t,JC (iL bj P w K mg base N qual (aq st) f UT A outer s H E).LF (bX st) t/\t {nx:=λ_ H'=>Q .bF H',rt:=Q} (start N vs) H):bY P w K mg base bj (k+1) f fd ps sp:=by
 obtain⟨oc,od,kV,doc,pm,an,UT,ct,osl,rfl,lk,hcd⟩:=F.ex;refine⟨len,λA outer s H args us vs Q E hr e0 hb r hsp=>?_⟩;have KX:K.In s.heap:=e0.mod.D'.keeps λb o e=>(e0.bs b o e).1;have lim:s.heap.NoLimit:=e0.mod.nolimit.keeps λb o e=>(e0.bs b o e).1;refine codeAny_call_function hr.depth (KX _ _ lk) rfl S.co S.gen rfl (PySem.W.codeRec_of KX hcd) (hb _ _ _ _ ?_);refine wpAny_newFunctionEnv_cells S.kind (λ⟨n,v⟩ hy=>?_) λenv he s1 x=>?_
 ·rcases S.par n (List.of_mem_zip hy).1 with q|q
  ·exact .inl q
  ·exact .inr ⟨q,PySem.W.cellsFrom_some _ _ _ (.inl q)⟩
 ·subst he;refine⟨lim.keeps x.toInCall.keep,codeAny_func ?_⟩;obtain⟨t,ht,hq⟩:=hbody UT A outer s H vs Q E (hr.deeper _) hsp;have I:Inv (iL bj P w K mg base N qual (aq st) f UT A outer s H E) [] (start N vs) H s1:=n_ S hr.hd e0 (len _ _ _ _ hsp) r x;refine wpAny_mono (ht s1 (start N vs) H _ (I.lg _) hq) (λfl s' hs=>?_) λe s' hs=>hs.elim;have fin:∀{σ':St}{H':Hp}{v:V}{u:Value},Inv (iL bj P w K mg base N qual (aq st) f UT A outer s H E).LF [] σ' H' s'->RelV v u->Q v H'->CE outer P w H s Q u s':=
   λ{σ' H' v u} J rv q=>⟨v,H',J.os,J.bare,J.base,J.aZ,rv,q⟩
  cases fl with
  |ret u=>
   obtain⟨v,σ',H',J,rv,q⟩:=hs;exact fin J rv q
  |next=>
   obtain⟨σ',H',J,q⟩:=hs;exact fin (v:=V.bF) (u:=Value.none) J rfl q
  |brk=>
   obtain⟨_,_,_,q⟩:=hs;exact False.elim q
  |cont=>
   obtain⟨_,_,_,q⟩:=hs;exact False.elim q
def Th(K:Frag)(R:St->Addr->Hp->Prop)(C0:Addr)(i:Nat)(tb ts:TS):TS:=λD σ H=>tb D σ H/\
 ∀e σ' H',Dn H' e->R σ' e H'->(∃C dx,H' e=some (jE e C dx)/\PySem.W.exmOne K (.ref C) (.ref C0)=some true)/\ts {nx:=λ_ _=>False,rt:=D.rt} (σ'.set i (some (.ref e))) H'
theorem De{X:Cx}{R:St->Addr->Hp->Prop}{body suite:List Stmt}{b0:Stmt}{x n:Str}{np hpos pos:Pos}{tb ts:TS}{i:Nat}{C0:Addr}(T:Top X)(hb:tN (xw X R) body tb)(hs:∀e,tN (sx X e) (b0::suite) ts)(hnd:X.N.Nodup)(hi:X.N[i]?=some n)(hl:X.env.scope.names.lookup n=some .local)(hg:Gl X x)(hm:X.mg x=some (.ref C0))(hdb:(x==("__debug__":Str))=false:=by decide):
  TM X (.Try body [.ExceptHandler (some (.Name x np)) (some n) (b0::suite) hpos] [] [] pos) (Th X.K R C0 i tb ts):=by
 intro s σ H D I h;obtain⟨h1,h2⟩:=h;refine wpAny_Try_except (wpAny_mono (hb [] s σ H D (I.lg _) h1) (λf s1 q=>?_) λv s1 q=>?_)
 ·have q:=SP.dY q;cases f with
  |next=>exact wpAny_execs_nil q
  |ret v=>exact q
  |brk=>exact q
  |cont=>exact q
 ·obtain⟨e,σ',H',rfl,I1,fl,he,r⟩:=q;obtain⟨⟨C,dx,hC,hx⟩,h3⟩:=h2 e σ' H' he r;have hfr:s1.heap.FunFrames X.base (X.env::X.outer):=by have:=I1.stack;rw[T.st] at this;exact this
  refine Au (by rw[I1.ok.frames,T.st]) hfr T.fr fl I1.sz (λb hb=>I1.aZ.fresh hb) λg2 a2 f2=>?_;have I2:=I1.flew T.pn he (by rw[T.st];exact f2);have I3:=I2.sx e;refine wpAny_handleBy_cons (codeAny_handlers_test ?_) (by intro q;cases q);refine dZ (X:=L2.sx X e) I3 hg hm ?_ hdb;obtain⟨vs,sl,hge⟩:=sr I2.aZ hC;have LT:PySem.W.Looks (model X.prog X.w) g2 (typeOf (.ref e)) (⟨.ref C,dx,.fields vs,sl⟩:Obj).cls:=(PySem.W.Looks.ld hge).andThen .now;refine PySem.W.Looks.here (s:={s1 with heap:=g2}) (PySem.W.exm_one I2.d5 LT hx) ?_;refine codeAny_handlers_suite_as ?_;refine xC (s:={s1 with heap:=g2}) (fs:=lU (X.env::X.outer)) a2 (λg3 a3 f3=>?_) (eO.Gi (fl:=.none) (fs:=[]) hfr f2) none rfl;have I4:=(Inv.flew (s:={s1 with heap:=g2}) I2 T.pn he (by rw[T.st];exact f3)).sx e;refine lj (X:=L2.sx X e) I4 hnd hi (.inl hl) (v:=.ref e) rfl (λs5 I5=>?_) (.inr hl);refine wpAny_mono (hs e [] s5 _ H' _ I5 h3) (λf s6 q6=>?_) (λ_ _ z=>z.elim);cases f with
  |next=>obtain⟨_,_,_,z⟩:=q6;exact z.elim
  |brk=>obtain⟨_,_,_,z⟩:=q6;exact z.elim
  |cont=>obtain⟨_,_,_,z⟩:=q6;exact z.elim
  |ret u=>
   obtain⟨v,σ6,H6,I6,r6,z6⟩:=q6;obtain⟨m6,hn6,_⟩:=id I6.loc;have hp:(X.env.scope.kind==.class||(X.env.scope.kind==.module&&X.env.locals != X.env.globals))=false:=by rw[I.ok.kind];rfl
   refine wpAny_nameGoes hl hn6 hp λh' m' hn' sb=>?_;exact⟨v,_,H6,((I6.TC I.ok).RG hn' sb),r6,z6⟩
abbrev ER(R:St->Addr->Hp->Prop)(σ:St):XK:=λv _ H'=>∃e,v= .ref e/\R σ e H'
def Nm(sp:Sp)(R:St->Addr->Hp->Prop)(t:TA):TE:=λσ H Q=>t σ H λvs H1=>sp vs H1 Q (ER R σ)
structure Ok(P:Program)(w:World)(K:Frag)(mg:Str->Option Value)(base:Heap)(CX:yz)(k:Nat)(nm:Str)(ps:List Str)(sp:Sp):Prop where
 ex:∃(f:Addr)(fd:FuncData),bY P w K mg base CX k f fd ps sp/\Binds K fd ps []/\mg nm=some (.ref f)/\PySem.W.keepIn K (.ref f)=true
structure Def(K:Frag)(mg:Str->Option Value)(nm:Str)(st:Stmt)(ps:List Str):Prop where
 ex:∃(f:Addr)(fd:FuncData),jW K nm nm st f fd/\Binds K fd ps []/\mg nm=some (.ref f)
section
variable{P:Program}{w:World}{K:Frag}{mg:Str->Option Value}{base:Heap}{CX:yz}{k j:Nat}{nm:Str}{ps:List Str}{sp sp':Sp}{st:Stmt}
theorem Def.ok(d:Def K mg nm st ps)(h:∀f fd,jW K nm nm st f fd->bY P w K mg base CX k f fd ps sp):Ok P w K mg base CX k nm ps sp:=by obtain⟨f,fd,F,b,m⟩:=d.ex;exact⟨f,fd,h f fd F,b,m,F.kp⟩
end
section
variable{X:Cx}{CX:yz}{k:Nat}{ps:List Str}{sp:Sp}{E:XK}{x:Str}{p pos:Pos}{e:Expr}{es:List Expr}{t:TA}{R:St->Addr->Hp->Prop}
theorem qX(o:Ok X.prog X.w X.K X.mg X.base CX k x ps sp)(hr:bB k X.A)(hx:Passes CX X E)(ha:PA X (e::es) t)(hg:Gl X x:=by rfl)(hdb:(x==("__debug__":Str))=false:=by decide)(he:starEach (e::es) X.env=(false,eval e X.env)::starEach es X.env:=by rfl)(hpl:(backTo pos (starEach es X.env)).any (·.1)=false:=by rfl):PE X (.Call (.Name x p) (e::es) [] pos) (ik sp [] E t):=by obtain⟨f,fd,F,b,m,kp⟩:=o.ex;exact Lq F hr hg m kp b .nil hx ha hdb he hpl
theorem aM(o:Ok X.prog X.w X.K X.mg X.base bj k x ps sp)(hr:bB k X.A)(ha:PA X (e::es) t)(hg:Gl X x:=by rfl)(hdb:(x==("__debug__":Str))=false:=by decide)(he:starEach (e::es) X.env=(false,eval e X.env)::starEach es X.env:=by rfl)(hpl:(backTo pos (starEach es X.env)).any (·.1)=false:=by rfl):PE X (.Call (.Name x p) (e::es) [] pos) (ik sp [] E0 t):=
 qX o hr g9 ha hg hdb he hpl
theorem nL(o:Ok X.prog X.w X.K X.mg X.base (g_ X.prog X.w) k x ps sp)(hr:bB k X.A)(ha:PA (xw X R) (e::es) t)(hg:Gl X x:=by rfl)(hdb:(x==("__debug__":Str))=false:=by decide)(he:starEach (e::es) X.env=(false,eval e X.env)::starEach es X.env:=by rfl)(hpl:(backTo pos (starEach es X.env)).any (·.1)=false:=by rfl):PE (xw X R) (.Call (.Name x p) (e::es) [] pos) (Nm sp R t):=by
 intro US s σ H Q I h;obtain⟨f,fd,F,hb,m,kp⟩:=o.ex;refine wpAny_Call_Name_kw (dZ I hg m ?_ hdb);refine PySem.W.callWith_K (h₀:=X.base) I.ok.mod.D' kp (br (ha pos US s σ H _ I h) λus s1 ⟨vs,H1,I1,r,q⟩=>⟨I1.d5,?_⟩) he hpl;have hl:(us++[]).length=ps.length:=by rw[List.append_nil,<-r.length];exact F.len _ _ _ _ q
 have hb':=hb s1 us I1.d5 hl;rw[List.append_nil] at hb';refine wpAny_call (codeAny_mono (F.run X.A X.stack s1 H1 ⟨us,[]⟩ us vs Q (ER R σ) hr I1.Fi hb' r q) λr s' hq=>?_);cases r with
 |error v=>exact wW I1.dY hq λe H' ⟨e',z,y⟩=>by cases z;exact y
 |ok fl=>
  cases fl with
  |ret u=>exact I1.after hq
  |next=>exact False.elim hq
  |brk=>exact False.elim hq
  |cont=>exact False.elim hq
def Ph(X:Cx)(i k:Nat)(ps:List Str)(sp:Sp)(t:TA):TE:=λσ H Q=>∃(f:Addr)(fd:FuncData),σ[i]?=some (some (.ref f))/\bY X.prog X.w X.K X.mg X.base bj k f fd ps sp/\Binds X.K fd ps []/\PySem.W.keepIn X.K (.ref f)=true/\t σ H λvs H1=>sp vs H1 Q E0
theorem GB(i:Nat)(hr:bB k X.A)(ha:PA X (e::es) t)(hN:X.N[i]?=some x:=by rfl)(hv:MJ X.env.scope x:=by first|exact Or.inl rfl|exact Or.inr (Or.inl rfl)|exact Or.inr (Or.inr rfl))(hdb:(x==("__debug__":Str))=false:=by decide)(hcd:(x==("__classdict__":Str))=false:=by decide)(he:starEach (e::es) X.env=(false,eval e X.env)::starEach es X.env:=by rfl)(hpl:(backTo pos (starEach es X.env)).any (·.1)=false:=by rfl):
  PE X (.Call (.Name x p) (e::es) [] pos) (Ph X i k ps sp t):=by
 rintro US s σ H Q I ⟨f,fd,hs,F,hb,kp,h⟩;refine wpAny_Call_Name_kw (br (F1 (pos:=p) hN hv hdb hcd US s σ H (λv H1=>v= .ref f/\H1=H) I ⟨_,hs,rfl,rfl⟩) λu s0 ⟨v,H0,I0,ru,ev,eh⟩=>?_);subst ev;subst eh;obtain rfl:u=Value.ref f:=ru;refine PySem.W.callWith_K (h₀:=X.base) I0.ok.mod.D' kp (br (ha pos US s0 σ H0 _ I0 h) λus s1 ⟨vs,H1,I1,r,q⟩=>⟨I1.d5,?_⟩) he hpl;exact mY (dvs:=[]) (ds:=[]) F hr hb .nil (g9 (X:=X)) I1 r (by rw[List.append_nil];exact q)
end
def oB(P:Params):List DictEntry->List Str->Prop
 |[],[]=>True
 |e::r,x::l=>(∃t,e.key= .str x t)/\e.hash=PyData.keyHash P x/\oB P r l
 |_,_=>False
def o_:List DictEntry->List (Int×Str)->Prop
 |[],[]=>True
 |e::r,x::l=>(∃t,e.key= .int x.1 t)/\e.hash=hashInt x.1/\(∃t,e.val= .str x.2 t)/\o_ r l
 |_,_=>False
theorem oB.lit{P:Params}:∀{es:List DictEntry}{l:List Str},oB P es l->PySem.W.KeysLit P es
 |[],[],_=>True.intro
 |_::_,x::_,⟨⟨t,h1⟩,h2,r⟩=>⟨⟨x,t,h1,h2⟩,r.lit⟩
theorem oB.find{P:Params}(x:Str):∀{es:List DictEntry}{l:List Str},oB P es l->(es.find? λd=>Value.isStrOf x d.key).isSome=decide (x∈l)
 |[],[],_=>by simp
 |e::_,y::l,⟨⟨t,h1⟩,_,r⟩=>by
  rw[List.find?_cons,h1];have q:Value.isStrOf x (.str y t)=decide (x=y):=by
   by_cases z:x=y
   ·subst z;simp[Value.isStrOf]
   ·simp[Value.isStrOf,z,Ne.symm z]
  rw[q];by_cases z:x=y
  ·subst z;simp
  ·rw[decide_eq_false z,r.find x];simp[z]
theorem o_.find(k:Int):∀{es:List DictEntry}{l:List (Int×Str)},o_ es l->d7 ((TW.lk l k).map V.str) ((es.find? λd=>Value.isInt k d.key).map (·.val))
 |[],[],_=>True.intro
 |e::_,y::l,⟨⟨t,h1⟩,_,⟨t',h2⟩,r⟩=>by
  have ih:=r.find k;unfold TW.lk at ih ⊢;rw[List.find?_cons,List.find?_cons,h1];have q:Value.isInt k (.int y.1 t)=decide (y.1=k):=by
   by_cases z:y.1=k
   ·subst z;simp[Value.isInt]
   ·simp[Value.isInt,z,Ne.symm z]
  rw[q];by_cases z:y.1=k
  ·rw[decide_eq_true z];exact⟨t',h2⟩
  ·rw[decide_eq_false z];exact ih
theorem o_.ok:∀{es:List DictEntry}{l:List (Int×Str)},o_ es l->∀e∈es,∃k t,e.key= .int k t/\e.hash=hashInt k
 |[],_,_=>λe m=>by cases m
 |_::_,[],h=>by cases h
 |_::_,y::_,h=>λe m=>by
  obtain⟨⟨t,h1⟩,h2,_,r⟩:=h;cases m with
  |head=>exact⟨y.1,t,h1,h2⟩
  |tail _ m=>exact r.ok _ m
def Se(K:Frag)(P:Params)(a:Addr)(l:List Str):Prop:=∃es n,K.lookup a=some ⟨.type "dict",none,.dict es n,#[]⟩/\oB P es.toList l/\(a==sysModules)=false
def Sh(K:Frag)(a:Addr)(l:List (Int×Str)):Prop:=∃es n,K.lookup a=some ⟨.type "dict",none,.dict es n,#[]⟩/\o_ es.toList l/\(a==sysModules)=false
section
variable{X:Cx}
theorem find_eq{κ:Type}{is:κ->Value->Bool}{es:Array DictEntry}{k:κ}:findBy is es k=(es.toList.find? λd=>is k d.key).map (·.val):=by unfold findBy;rw[<-Array.find?_toList]
inductive UP(K:Frag)(P:Params)(x y:V)(H:Hp)(Q:VK):Prop
 |mk(z:Str) (a:Addr) (l:List Str) (_:x= .str z) (_:y= .ref a) (_:Se K P a l) (_:Q (.bl (decide (z∈l))) H)
theorem A3:jg X (compareOp .In) (UP X.K X.w.params):=by
 rintro US s σ H x y v u Q I rx ry ⟨z,a,l,rfl,rfl,⟨es,n,h1,h2,h3⟩,q⟩;obtain⟨t,rfl⟩:=(show ∃t,v=Value.str z t from rx)
 cases(show u=Value.ref a from ry);refine wpAny_in_of (strKind_is X.prog X.w z t) h3 (PySem.W.mapOf_K (prog:=X.prog) I.d5 h1 h2.lit) ?_;rw[find_eq,Option.isSome_map,h2.find z];exact⟨.bl _,H,I.tok _,rfl,q⟩
theorem Qu{a:Addr}{l:List (Int×Str)}{h:Heap}(X0:X.K.In h){es:Array DictEntry}{n:Nat}(h1:X.K.lookup a=some ⟨.type "dict",none,.dict es n,#[]⟩)(h2:o_ es.toList l):h.MapOf (PySem.intKind X.prog X.w) a (λk=>findBy Value.isInt es k):=
 ⟨_,es,n,X0 _ _ h1,⟨rfl,rfl,rfl⟩,rfl,λe he=>by
  obtain⟨k,t,e1,e2⟩:=h2.ok e (Array.mem_toList_iff.mpr he);exact⟨k,by rw[e1];exact intKind_is X.prog X.w k t,e2⟩,λ_=>rfl⟩
inductive UH(K:Frag)(x y:V)(H:Hp)(Q:VK):Prop
 |mk(k:Int) (a:Addr) (l:List (Int×Str)) (_:x= .int k) (_:y= .ref a) (_:Sh K a l) (_:Q (.bl (TW.lk l k).isSome) H)
theorem HH:jg X (compareOp .In) (UH X.K):=by
 rintro US s σ H x y v u Q I rx ry ⟨k,a,l,rfl,rfl,⟨es,n,h1,h2,h3⟩,q⟩;obtain⟨t,rfl⟩:=(show ∃t,v=Value.int k t from rx)
 cases(show u=Value.ref a from ry);refine wpAny_in_of (intKind_is X.prog X.w k t) h3 (Qu I.d5 h1 h2) ?_;have z:=h2.find k;rw[find_eq];have e:((es.toList.find? λd=>Value.isInt k d.key).map (·.val)).isSome=(TW.lk l k).isSome:=by
  cases q1:TW.lk l k with
  |none=>rw[q1] at z;rw[d7.none_of z];rfl
  |some x=>rw[q1] at z;obtain⟨u,hu,_⟩:=d7.some_of z;rw[hu];rfl
 rw[e];exact⟨.bl _,H,I.tok _,rfl,q⟩
inductive UM(K:Frag)(x y:V)(H:Hp)(Q:VK):Prop
 |mk(k:Int) (a:Addr) (l:List (Int×Str)) (z:Str) (_:x= .ref a) (_:y= .int k) (_:Sh K a l) (_:TW.lk l k=some z) (_:Q (.str z) H)
theorem Rv:Po X (UM X.K):=by
 rintro value UU US s σ H x y v u Q I rx ry ⟨k,a,l,z,rfl,rfl,⟨es,n,h1,h2,h3⟩,e,q⟩ hs;cases(show v=Value.ref a from rx);obtain⟨t,rfl⟩:=(show ∃t,u=Value.int k t from ry)
 have r:=h2.find k;rw[e] at r;obtain⟨w',hw,rw'⟩:=d7.some_of r;have hm:=Qu (X:=X) I.d5 h1 h2;exact tail_any hm.typeIs PySem.F.slot_dict_getitem.lookup (wpAny_getItem_of (intKind_is X.prog X.w k t) hm (by rw[find_eq];exact hw) ⟨.str z,H,I.tok _,rw',q⟩) hs
end
def GI(mg:Str->Option Value)(nm:Str)(i:Int):Prop:=∃t,mg nm=some (.int i t)
def GS(mg:Str->Option Value)(nm:Str)(x:Str):Prop:=∃t,mg nm=some (.str x t)
section
variable{X:Cx}{x:Str}{pos:Pos}
theorem cx{i:Int}(g:GI X.mg x i)(hg:Gl X x:=by rfl)(hd:(x==("__debug__":Str))=false:=by decide):PE X (.Name x pos) (tC (.int i)):=by obtain⟨t,e⟩:=g;exact xY hg e ⟨t,rfl⟩ hd
theorem To{z:Str}(g:GS X.mg x z)(hg:Gl X x:=by rfl)(hd:(x==("__debug__":Str))=false:=by decide):PE X (.Name x pos) (tC (.str z)):=by obtain⟨t,e⟩:=g;exact xY hg e ⟨t,rfl⟩ hd
theorem fQ{a:Addr}(e:X.mg x=some (.ref a))(hg:Gl X x:=by rfl)(hd:(x==("__debug__":Str))=false:=by decide):PE X (.Name x pos) (tC (.ref a)):=xY hg e rfl hd
end
structure rZ(k:Nat)(A:Around):Prop where
 dp:A.depth+3*k+5<recursionLimit
 un:A.units+16*k+200<cLine
theorem bB.h{k:Nat}{A:Around}(r:bB k A):rZ k A:=⟨r.dp,r.un⟩
theorem rZ.make{k:Nat}{A:Around}(r:rZ (k+1) A)(C:Addr)(us:List Value)(kw:List (Str×Value)):rZ k (A.under (.builtin "type.__call__" ⟨.ref C::us,kw⟩)):=
 ⟨by have:=r.dp;rw[tG];omega,by have:=r.un;rw[tJ];omega⟩
structure zU(P:Program)(w:World)(K:Frag)(mg:Str->Option Value)(base:Heap)(k:Nat)(f:Addr)(fd:FuncData)(ps:List Str)(sp:Sp):Prop where
 len:∀vs H Q E,sp vs H Q E->vs.length=ps.length
 run:∀(A:Around)(outer:List Env)(s:Shared)(H:Hp)(args:Args)(us:List Value)(vs:List V)(Q:VK)(E:XK),rZ k A->xi P w K mg base A outer s H->BindsTo s fd args (ps.zip us)->Vals vs us->sp vs H Q E->
  codeAny (model P w) A (.call (.ref f) args) (CR bj outer P w H s Q E) s
theorem zU.ok{P:Program}{w:World}{K:Frag}{mg:Str->Option Value}{base:Heap}{k:Nat}{f:Addr}{fd:FuncData}{ps:List Str}{sp:Sp}(F:zU P w K mg base k f fd ps sp):bY P w K mg base bj k f fd ps sp:=
 ⟨F.len,λA outer s H args us vs Q E hr=>F.run A outer s H args us vs Q E hr.h⟩
def Tv(P:Program)(w:World)(K:Frag)(mg:Str->Option Value)(base:Heap)(N:List Str)(qual:Str)(scope:Scope)(f:Addr)(cd:Value)(A:Around)(outer:List Env)(s:Shared)(H:Hp):Cx:=
 {iL bj P w K mg base N qual scope f cd A outer s H E0 with calm:=false,xe:=λ_ _=>False}
theorem jW.UR{P:Program}{w:World}{K:Frag}{mg:Str->Option Value}{base:Heap}{x qual:Str}{st:Stmt}{f:Addr}{fd:FuncData}{N ps:List Str}{k:Nat}{sp:Sp}(F:jW K x qual st f fd)(S:ax N ps (aq st))(len:∀vs H Q E,sp vs H Q E->vs.length=ps.length)(hbody:∀(UT:Value)(A:Around)(outer:List Env)(s:Shared)(H:Hp)(vs:List V)(Q:VK)(E:XK),sp vs H Q E->
   ∃t,tN (Tv P w K mg base N qual (aq st) f UT A outer s H) (bX st) t/\t {nx:=λ_ H'=>Q .bF H',rt:=Q} (start N vs) H):zU P w K mg base (k+1) f fd ps sp:=by
 obtain⟨oc,od,kV,doc,pm,an,UT,ct,osl,rfl,lk,hcd⟩:=F.ex;refine⟨len,λA outer s H args us vs Q E hr e0 hb r hsp=>?_⟩;have KX:K.In s.heap:=e0.mod.D'.keeps λb o e=>(e0.bs b o e).1;have lim:s.heap.NoLimit:=e0.mod.nolimit.keeps λb o e=>(e0.bs b o e).1;refine codeAny_call_function (by have:=hr.dp;omega) (KX _ _ lk) rfl S.co S.gen rfl (PySem.W.codeRec_of KX hcd) (hb _ _ _ _ ?_);refine wpAny_newFunctionEnv_cells S.kind (λ⟨n,v⟩ hy=>?_) λenv he s1 x=>?_
 ·rcases S.par n (List.of_mem_zip hy).1 with q|q
  ·exact .inl q
  ·exact .inr ⟨q,PySem.W.cellsFrom_some _ _ _ (.inl q)⟩
 ·subst he;refine⟨lim.keeps x.toInCall.keep,codeAny_func ?_⟩;obtain⟨t,ht,hq⟩:=hbody UT A outer s H vs Q E hsp;have e1:xi P w K mg base {A with handled:=none} outer s H:=⟨e0.frames,e0.mod,e0.bs,e0.Fz,e0.jY,e0.Jx,e0.aZ,e0.bare⟩
  have I0:Inv (iL bj P w K mg base N qual (aq st) f UT {A with handled:=none} outer s H E0) [] (start N vs) H s1:=n_ S rfl e1 (len _ _ _ _ hsp) r x;have I:Inv (Tv P w K mg base N qual (aq st) f UT A outer s H) [] (start N vs) H s1:=
   ⟨⟨I0.ok.mod,I0.ok.kind,I0.ok.glob,I0.ok.blt,I0.ok.above,I0.ok.inj,I0.ok.has,I0.ok.M',(λz=>by cases z),Around.frames_deeper e0.frames,I0.ok.OT,I0.ok.Pn,I0.ok.bs,I0.ok.Fz,I0.ok.Cg,I0.ok.B6,I0.ok.jY,I0.ok.Jx⟩,
    I0.os,I0.bare,I0.base,I0.loc,I0.cell,I0.free,I0.fj,I0.pin,I0.aZ,I0.len⟩
  refine wpAny_mono (ht [] s1 (start N vs) H _ I hq) (λfl s' hs=>?_) λe s' hs=>hs.elim;have fin:∀{σ':St}{H':Hp}{v:V}{u:Value},Inv (Tv P w K mg base N qual (aq st) f UT A outer s H) [] σ' H' s'->RelV v u->Q v H'->CE outer P w H s Q u s':=
   λ{σ' H' v u} J rv q=>⟨v,H',J.os,J.bare,J.base,J.aZ,rv,q⟩
  cases fl with
  |ret u=>
   obtain⟨v,σ',H',J,rv,q⟩:=hs;exact fin J rv q
  |next=>
   obtain⟨σ',H',J,q⟩:=hs;exact fin (v:=V.bF) (u:=Value.none) J rfl q
  |brk=>
   obtain⟨_,_,_,q⟩:=hs;exact False.elim q
  |cont=>
   obtain⟨_,_,_,q⟩:=hs;exact False.elim q
section
variable{X:Cx}{k:Nat}{f C:Addr}{fd:FuncData}{ps:List Str}{sp:Sp}{x:Str}{p pos:Pos}{e:Expr}{es:List Expr}{t:TA}
theorem F8(M:Mk X.K C f)(F:zU X.prog X.w X.K X.mg X.base k f fd ps sp)(hr:rZ (k+1) X.A)(hg:Gl X x)(hm:X.mg x=some (.ref C))(hb:Binds X.K fd ps [])(ha:PA X (e::es) t)(hdb:(x==("__debug__":Str))=false:=by decide)(he:starEach (e::es) X.env=(false,eval e X.env)::starEach es X.env:=by rfl)(hpl:(backTo pos (starEach es X.env)).any (·.1)=false:=by rfl):
  PE X (.Call (.Name x p) (e::es) [] pos) (uL C sp [] E0 t):=by
 intro US s σ H Q I h;refine wpAny_Call_Name_kw (dZ I hg hm ?_ hdb);refine PySem.W.callWith_K (h₀:=X.base) I.ok.mod.D' M.kp (br (ha pos US s σ H _ I h) λus s1 ⟨vs,H1,I1,r,q⟩=>⟨I1.d5,?_⟩) he hpl;have hq:=q (s1.heap.objs.size+1) s1.heap.objs.size (I1.aZ.fresh (Nat.le_succ _)) (I1.aZ.fresh (Nat.le_refl _)) (Nat.ne_of_lt (Nat.lt_succ_self _));rw[List.append_nil] at hq;have I2:=Inv.made (C:=C) I1;have r2:Vals (V.ref (s1.heap.objs.size+1)::vs) (Value.ref (s1.heap.objs.size+1)::us):=.cons rfl r;have hl:(Value.ref (s1.heap.objs.size+1)::us++[]).length=ps.length:=by
  rw[List.append_nil,<-r2.length];exact F.len _ _ _ _ hq
 have hb':=hb {s1 with heap:=(s1.heap.push PySem.W.emptyDict).push (PySem.W.instObj C s1.heap.objs.size)} (Value.ref (s1.heap.objs.size+1)::us) I2.d5 hl;rw[List.append_nil] at hb';refine wpAny_call (zz (f:=f) I1.d5 M.makes M.init (beq_iff_eq.mp M.fn) (codeAny_mono (F.run _ X.stack _ _ ⟨Value.ref (s1.heap.objs.size+1)::us,[]⟩ (Value.ref (s1.heap.objs.size+1)::us) _ _ E0 (hr.make C us [])
  (I2.Fi.make C us []) hb' r2 hq) λr s' hq'=>?_))
 cases r with
 |error e=>exact(show False from hq').elim
 |ok fl=>
  cases fl with
  |ret u=>
   obtain⟨v,H',I3,rv,ev,q3⟩:=I2.after hq';subst ev;exact⟨rv,⟨V.ref (s1.heap.objs.size+1),H',I3,rfl,q3⟩⟩
  |next=>exact False.elim hq'
  |brk=>exact False.elim hq'
  |cont=>exact False.elim hq'
end
theorem rV{o:Option (Option V)}{v:V}{Q:VK}{H:Hp}(h:o=some (some v))(q:Q v H):QT o Q H:=⟨v,h,q⟩
theorem rf{K:Frag}{H:Hp}{m:Str}{a C dx:Addr}{fs:List (Str×V)}{v:V}{Q:VK}(h1:H a=some (.ins C dx fs))(h2:rY K C)(h3:aE K C m)(h4:fs.lookup m=some v)(q:Q v H):QV K m Q (.ref a) H:=⟨a,C,dx,fs,v,rfl,h1,h2,h3,h4,q⟩
end L2
namespace TG
open PySem
def top(i:Nat):Stmt:=PySem.Challenge.pw_twigtext_s04_nodes.main.body.getD i (.Pass ⟨0,0,0,0⟩)
end TG
namespace L2
open PySem PySem.Spec PyProof.Rows
def UG(K:Frag)(H:Hp)(x:V)(t:Value):Prop:=m_ K H x t\/∃a xs,x= .ref a/\fN K H a xs/\t= .type "tuple"
def cv:V->Value
 | .ty n=>.type n
 | .ref a=>.ref a
 |_=>.none
theorem zS{α:Type}:∀(l:List α),(List.range l.length).filterMap (λk=>l[k]?)=l
 |[]=>rfl
 |a::l=>by
  rw[List.length_cons,List.range_succ_eq_map,List.filterMap_cons,List.filterMap_map];show a::(List.range l.length).filterMap (λk=>(a::l)[k+1]?)=a::l;have:(λk=>(a::l)[k+1]?)=λk=>l[k]?:=by funext k;simp
  rw[this,zS l]
theorem qO{α β:Type}{f g:α->Option β}:∀(l:List α),(∀x∈l,f x=g x)->l.filterMap f=l.filterMap g
 |[],_=>rfl
 |a::l,h=>by
  rw[List.filterMap_cons,List.filterMap_cons,h a (List.mem_cons_self ..),qO l λx hx=>h x (List.mem_cons_of_mem _ hx)]
theorem HQ{α:Type}(l:List α):((List.range l.length).map λ(k:Nat)=>((l.length:Int) - 1+ -1*(k:Int)).toNat).filterMap (λi=>l[i]?)=l.reverse:=by
 rw[List.filterMap_map];have e:∀(m:Nat),m<=l.length->(List.range m).filterMap ((λi=>l[i]?)∘λ(k:Nat)=>((l.length:Int) - 1+ -1*(k:Int)).toNat)=(List.range m).filterMap (λk=>l.reverse[k]?):=by
  intro m hm;apply qO;intro k hk;have hk:k<m:=List.mem_range.mp hk;show l[((l.length:Int) - 1+ -1*(k:Int)).toNat]?=l.reverse[k]?;rw[List.getElem?_reverse ↑2];congr 1;omega
 rw[e _ (Nat.le_refl _)];have:=zS l.reverse;rw[List.length_reverse] at this;exact this
section
variable{X:Cx}
inductive Oa(K:Frag)(vs:List V)(H:Hp)(Q:VK):Prop
 |mk(x c:V) (t:Value) (b:Bool) (_:vs=[x,c]) (_:(∃n,c= .ty n)\/∃a,c= .ref a) (_:UG K H x t) (_:PySem.W.kitOne K t (cv c)=some b) (_:Q (.bl b) H)
theorem h_:tK X (.builtin "isinstance") (Oa X.K):=by
 rintro US s σ H xs us Q I rv ⟨x,c,t,b,rfl,hc,ty,e,q⟩;obtain⟨u,u2,rfl,rx,rc⟩:=vals2 rv;have hu2:u2=cv c:=by
  rcases hc with⟨n,rfl⟩|⟨a,rfl⟩
  ·exact rc
  ·exact rc
 subst hu2;have fin:∀tk,EP X US σ Q (.bool b) {s with toks:=tk}:=λtk=>⟨.bl b,H,I.tok tk,rfl,q⟩
 rcases ty with ty|⟨a,xs,rfl,hx,rfl⟩
 ·exact E_ I rx ty e fin
 ·cases(show u=Value.ref a from rx);obtain⟨its,r,ht,hz⟩:=I.tuple hx;exact PySem.W.kia_one PySem.W.kitx_tuple I.d5 ht.typeIs e (λz=>nomatch z) fin
end
theorem Hb(its:List Value):slicePick its.toArray none none (some (-1))=its.reverse.toArray:=by
 unfold slicePick sliceBounds sliceRange;simp only[Option.getD_some,show ¬((-1:Int)>0) by decide,if_false,List.size_toArray];have hc:(if(its.length:Int) - 1> -1 then((its.length:Int) - 1 - -1 - -1 - 1) / (-(-1)) else 0)=(its.length:Int):=by
  split
  ·simp only[show(-(-1:Int))=1 from rfl,Int.ediv_one];omega
  ·omega
 rw[hc,Int.toNat_natCast];congr 1;have:=HQ its;simp only[List.getElem?_toArray];exact this
end L2
namespace HT
open PySem PySem.Spec PyProof.Rows
section
variable{prog:Program}{w:World}{A:Around}{E:Value->Shared->Prop}{s:Shared}
theorem nh{sl:Addr}{vs:Value}{n:Nat}{Q:Int×Int×Nat->Shared->Prop}(hs:s.heap.IsSliceOf sl .none .none vs)(ps:IsPart vs (some (-1)))(h:Q ((n:Int) - 1,-1,n) s):wpAny (model prog w) A (Builtin.Slice.sliceApplied (.ref sl) (pure (n:Int))) Q E s:=by
 obtain⟨os,hos,hcs,hds⟩:=id hs;unfold Builtin.Slice.sliceApplied Builtin.Slice.sliceFields;refine wpAny_bind (wpAny_bind (wpAny_field hos hds (x:=.none) rfl (wpAny_bind (wpAny_field hos hds (x:=.none) rfl (wpAny_bind (wpAny_field hos hds (x:=vs) rfl (wpAny_pure ?_)))))));refine wpAny_bind (ka ps ?_);show wpAny _ _ (if((-1:Int)==0)=true then _ else _) _ _ s;rw[if_neg ↑0];refine wpAny_bind (ka .none (wpAny_bind (ka .none (wpAny_bind (wpAny_pure ?_)))));show wpAny _ _ (pure ((n:Int) - 1,(-1:Int),Builtin.Slice.slicePlaces ((n:Int) - 1) (-1) (-1))) _ _ s;have e:Builtin.Slice.slicePlaces ((n:Int) - 1) (-1) (-1)=n:=by
  unfold Builtin.Slice.slicePlaces;rw[if_neg ↑0];split
  ·simp only[show(-(-1:Int))=1 from rfl,Int.ediv_one];omega
  ·omega
 rw[e];exact wpAny_pure h
theorem kj{t sl:Addr}{items:List Value}{vs:Value}{Q:Value->Shared->Prop}(ht:IsTup s.heap t items.toArray)(hs:s.heap.IsSliceOf sl .none .none vs)(ps:IsPart vs (some (-1)))(h:Q (.ref s.heap.objs.size) {s with heap:=s.heap.push {cls:=.type "tuple",data:=.seq items.reverse.toArray}})(hsz:items.length<=sizeLine):wpAny (model prog w) A (getItem (.ref t) (.ref sl)) Q E s:=by
 have htake:sizeOk (.seq items.reverse.toArray):=by
  show items.reverse.toArray.size<=sizeLine;rw[List.size_toArray,List.length_reverse];exact hsz
 obtain⟨os,hos,hcs,hds⟩:=id hs;have hTs:s.TypeIs (.ref sl) "slice":=⟨os,hos,hcs⟩
 unfold getItem
 try with_reducible refine wpAny_holding ?_
 first|refine wpAny_bind (wpAny_pure ?_)|skip
 refine wpAny_bind (wpAny_sequenceKey ht.typeIs ↑0 ?_);refine wpAny_bind (wpAny_callSpecial?_slot (name:=Str.ofString "__getitem__") ht.typeIs PyProof.Rows.slot_tuple_getitem
  (wpAny_call_entry PyProof.Rows.slot_tuple_getitem ht.typeIs entry_tuple_getitem ?_ (args_tuple_getitem _ _)))
 show wpAny _ _ (Builtin.Tuple.tupleItemsOf (.ref t)>>=_) _ _ s;refine wpAny_bind (tupleItemsOf_ ht ?_);refine wpAny_bind (wpAny_typeOf hTs ?_);rw[if_pos ↑0];refine wpAny_bind (nh hs ps ?_);have hno:¬((((items.toArray.size:Int) - 1)==0&&(-1:Int)==1&&items.toArray.size==items.toArray.size)=true):=by
  intro q;rw[Bool.and_eq_true,Bool.and_eq_true] at q;exact absurd q.1.2 ↑0
 show wpAny _ _ (if(((items.toArray.size:Int) - 1)==0&&(-1:Int)==1&&items.toArray.size==items.toArray.size)=true then _ else _) _ _ s;have hp:((List.range items.toArray.size).filterMap λ(k:Nat)=>items.toArray[(((items.toArray.size:Nat):Int) - 1+(k:Int)* -1).toNat]?).toArray=items.reverse.toArray:=by
  congr 1;have:=L2.HQ items;rw[List.filterMap_map] at this;rw[<-this];simp only[List.size_toArray,List.getElem?_toArray];apply L2.qO;intro k _;show items[_]?=items[_]?;congr 2;omega
 rw[if_neg hno,hp];first
  |exact wpAny_bind (m:=Builtin.Tuple.tupleExact _) (wpAny_newObj_type (wpAny_pure ⟨_,rfl,wpAny_pure h⟩) htake)
  |exact wpAny_bind (m:=Builtin.Tuple.tupleExact _) (wpAny_newObj_type (wpAny_bind (wpAny_pure (wpAny_pure ⟨_,rfl,wpAny_pure h⟩))) htake)
  |exact wpAny_bind (wpAny_bind (m:=Builtin.Tuple.tupleExact _) (wpAny_newObj_type (wpAny_pure (wpAny_pure ⟨_,rfl,wpAny_pure h⟩)) htake))
  |exact wpAny_bind (wpAny_bind (m:=Builtin.Tuple.tupleExact _) (wpAny_newObj_type (wpAny_pure ⟨_,rfl,wpAny_pure h⟩) htake))
end
end HT
namespace L2
open PySem PySem.Spec PyProof.Rows
section
variable{X:Cx}{e:Expr}{te:TE}{pos p2 p3 p4:Pos}{j:Nat}
def S3(K:Frag)(te:TE):TE:=λσ H Q=>te σ H λx H1=>∃a xs,x= .ref a/\((bh K H1 a xs/\∀p,H1 p=none->Q (.ref p) (upd H1 p (.lst xs.reverse)))\/(fN K H1 a xs/\∀p,H1 p=none->Q (.ref p) (upd H1 p (.tup xs.reverse))))
theorem Jg(he:PE X e te):PE X (.Subscript e (.Slice none none (some (.UnaryOp .USub (.Constant (.int 1) j p4) p3)) p2) pos) (S3 X.K te):=by
 intro US s σ H Q I h;refine Subscript_ (br (he US s σ H _ I h) λv s1 ⟨x,H1,I1,r1,a,xs,ex,q⟩=>?_);subst ex;cases(show v=Value.ref a from r1);refine wpAny_Slice ?_;rw[evalPart_none];refine wpAny_pure (wpAny_pure ?_);refine br (bT (X:=X) (gv ef (aw (X:=X) (i:=1) (j:=j) (pos:=p4))) US s1 σ H1 (λo H2=>o=some (-1)/\H2=H1) I1 ⟨1,rfl,⟨-1,rfl,rfl,rfl⟩⟩) λvs s3 ⟨o,H2,I3,ps,eo,eH⟩=>?_;subst eo;have I3:Inv X US σ H1 s3:=eH▸I3;have I4:Inv X US σ H1 {s3 with heap:=s3.heap.push {cls:=.type "slice",data:=.fields #[.none,.none,vs]}}:=I3.kept (t':=s3.toks) λb ob q=>Heap.get?_push_of_some _ q;have hsl:=Heap.IsSliceOf.new s3.heap .none .none vs;show wpAny (model X.prog X.w) X.A (subscriptTail e (.Slice none none (some (.UnaryOp .USub (.Constant (.int 1) j p4) p3)) p2) (.ref a) (.ref s3.heap.objs.size)) (EP X US σ Q) X.xe {s3 with heap:=s3.heap.push {cls:=.type "slice",data:=.fields #[.none,.none,vs]}};rcases q with⟨hx,q⟩|⟨hx,q⟩
 ·obtain⟨its,r,ht,hz⟩:=I4.list hx;have hlen:=r.length;refine tail_any (ops:=[.ref a,.ref s3.heap.objs.size]) ht.isList.typeIs slot_list_getitem.lookup ?_ (by with_unfolding_all rfl);refine wpAny_getItem_list_slice ht.isList hsl .none .none ps (by simp) ?_ (by rw[List.size_toArray] <;> omega);rw[Hb];refine⟨.ref _,_,I4.laid (t':=s3.toks) (o:=.lst xs.reverse) (λb ob q=>Heap.get?_push_of_some _ q) (Nat.le_refl _) ?_,rfl,q _ (I4.aZ.fresh (Nat.le_refl _))⟩;exact⟨by rw[List.length_reverse];exact hz,_,0,r.reverse,Heap.get?_push_size _ rfl⟩
 ·obtain⟨its,r,ht,hz⟩:=I4.tuple hx;have hlen:=r.length;refine tail_any (ops:=[.ref a,.ref s3.heap.objs.size]) ht.typeIs PyProof.Rows.slot_tuple_getitem.lookup ?_ (by with_unfolding_all rfl);refine HT.kj ht hsl ps ?_ ↑2;refine⟨.ref _,_,I4.laid (t':=s3.toks) (o:=.tup xs.reverse) (λb ob q=>Heap.get?_push_of_some _ q) (Nat.le_refl _) ?_,rfl,q _ (I4.aZ.fresh (Nat.le_refl _))⟩;exact⟨by rw[List.length_reverse];exact hz,_,r.reverse,IsTup.new _ _⟩
theorem my(l:Addr)(items:Array Value)(n:Nat)(b:Addr)(items2:Array Value)(n2:Nat)(dd:Option Addr)(sl:Array (Option Value))(hs0:¬(!items.isEmpty&&Builtin.List.listTooLong (items.size+items2.size))=true)(hs1:items.size<=sizeLine)(hs2:items.size+items2.size<=sizeLine+1):
  Meets (Builtin.«list.extend» ⟨[.ref l,.ref b],[]⟩) (λ_ R s=>s.heap.get? l=some {cls:=.type "list",dict:=none,data:=.seq items n,slots:=#[]}/\s.heap.get? b=some {cls:=.type "tuple",dict:=dd,data:=.seq items2 n2,slots:=sl}/\R (.ok (.ret Value.none)) {s with heap:=s.heap.update l (Obj.mapSeq λx=>x++items2),toks:=s.toks}):=
 .of_wp λprog w A R s h=>by
  obtain⟨hp,g,d,tk,os⟩:=s;obtain⟨hl,hb,h⟩:=h;have f1:=AutoSeq1.idx_int;have f2:=AutoSeq1.sub_tuple_tuple;have f3:=AutoSeq1.sub_list_list;have f4:=AutoSeq1.sub_tuple_list;have f5:=AutoSeq1.sub_list_tuple;have hz':(items++items2).size<=sizeLine+1:=by rw[Array.size_append];exact hs2
  wp_walk using (wpAny_updateSeq hl rfl (hz:=hs1) (_hz':=hz')),AutoSeq1.wpAny_loadPart' hl,AutoSeq1.wpAny_loadPart' hb;exact ⟨_,rfl,h⟩
def HW(K:Frag):V->List V->Hp->VK->Prop:=λx vs H Q=>∃l b xs zs,x= .ref l/\vs=[.ref b]/\H l=some (.lst xs)/\fN K H b zs/\xs.length+zs.length<=sizeLine/\Q .bF (upd H l (.lst (xs++zs)))
theorem rP:Sk X "list.extend" (HW X.K):=by
 intro US s σ H x vs v us Q I rx rv h;obtain⟨l,b,xs,zs,rfl,rfl,hH,hB,hz,q⟩:=h;cases rx;obtain⟨u,rfl,ru⟩:=rv.one;cases ru;obtain⟨z,its,n,r,hl,e⟩:=I.AH hH;obtain⟨its2,r2,ht,hz2⟩:=I.tuple hB;obtain⟨⟨cls2,dd2,data2,sl2⟩,e2,hc2,n2,hd2⟩:=id ht;simp only at hc2 hd2;subst hc2 hd2;have hl2:=r2.length;have hsz:its.toArray.size+its2.toArray.size<=sizeLine:=by rw[List.size_toArray,List.size_toArray];omega
 have hlong:¬(!its.toArray.isEmpty&&Builtin.List.listTooLong (its.toArray.size+its2.toArray.size))=true:=by
  rw[yZ hsz,Bool.and_false];exact Bool.false_ne_true
 refine call_meets F.slot_list_extend ⟨_,e,rfl⟩ F.entry_list_extend (F.args_list_extend_2 _ _)
  (my l its.toArray n b its2.toArray n2 dd2 sl2 hlong (by rw[List.size_toArray];omega) ↑2) ⟨e,e2,?_⟩
 refine⟨.bF,_,I.J1 (its':=its++its2) hH e (by simp) (r.append r2) ?_,rfl,q⟩;rw[List.length_append];omega
end
def pV(P:Params):List DictEntry->List (Str×V)->Prop
 |[],[]=>True
 |e::r,x::l=>(∃t,e.key= .str x.1 t)/\e.hash=PyData.keyHash P x.1/\RelV x.2 e.val/\pV P r l
 |_,_=>False
theorem pV.keys{P:Params}:∀{es:List DictEntry}{l:List (Str×V)},pV P es l->oB P es (l.map (·.1))
 |[],[],_=>True.intro
 |_::_,_::_,⟨h1,h2,_,r⟩=>⟨h1,h2,r.keys⟩
theorem pV.length{P:Params}:∀{es:List DictEntry}{l:List (Str×V)},pV P es l->es.length=l.length
 |[],[],_=>rfl
 |_::_,_::_,⟨_,_,_,r⟩=>congrArg (·+1) r.length
theorem pV.get{P:Params}:∀{es:List DictEntry}{l:List (Str×V)}{i:Nat}{k:Str}{v:V},pV P es l->l[i]?=some (k,v)->∃en t,es[i]?=some en/\en.key= .str k t
 |[],[],_,_,_,_,h=>by simp at h
 |e::_,x::_,0,_,_,⟨⟨t,h1⟩,_,_,_⟩,h=>by
  simp only[List.getElem?_cons_zero,Option.some.injEq] at h;subst h;exact⟨e,t,rfl,h1⟩
 |_::_,_::_,i+1,_,_,⟨_,_,_,r⟩,h=>by
  simp only[List.getElem?_cons_succ] at h ⊢;exact r.get h
def Pu(l:List (Str×V))(k:Str):Option V:=(l.find? λx=>decide (x.1=k)).map (·.2)
theorem pV.find{P:Params}(k:Str):∀{es:List DictEntry}{l:List (Str×V)},pV P es l->d7 (Pu l k) ((es.find? λd=>Value.isStrOf k d.key).map (·.val))
 |[],[],_=>True.intro
 |e::_,y::l,⟨⟨t,h1⟩,_,h2,r⟩=>by
  have ih:=r.find k;unfold Pu at ih ⊢;rw[List.find?_cons,List.find?_cons,h1];have q:Value.isStrOf k (.str y.1 t)=decide (y.1=k):=by
   by_cases z:y.1=k
   ·subst z;simp[Value.isStrOf]
   ·simp[Value.isStrOf,z,Ne.symm z]
  rw[q];by_cases z:y.1=k
  ·rw[decide_eq_true z];exact h2
  ·rw[decide_eq_false z];exact ih
def Pq(K:Frag)(P:Params)(a:Addr)(l:List (Str×V)):Prop:=∃es n,K.lookup a=some ⟨.type "dict",none,.dict es n,#[]⟩/\pV P es.toList l/\(a==sysModules)=false
section
variable{X:Cx}
theorem Sw:Po X (λx y H Q=>∃k a l v,x= .ref a/\y= .str k/\Pq X.K X.w.params a l/\Pu l k=some v/\Q v H):=by
 rintro value UU US s σ H x y v u Q I rx ry ⟨k,a,l,z,rfl,rfl,⟨es,n,h1,h2,h3⟩,e,q⟩ hs;cases(show v=Value.ref a from rx);obtain⟨t,rfl⟩:=(show ∃t,u=Value.str k t from ry)
 have r:=h2.find k;rw[e] at r;obtain⟨w',hw,rw'⟩:=d7.some_of r;have hm:=PySem.W.mapOf_K (prog:=X.prog) I.d5 h1 h2.keys.lit;exact tail_any hm.typeIs PySem.F.slot_dict_getitem.lookup (wpAny_getItem_of (strKind_is X.prog X.w k t) hm (by rw[find_eq];exact hw) ⟨z,H,I.tok _,rw',q⟩) hs
def RB(K:Frag)(P:Params)(d:Addr)(l:List (Str×V)):It:=
 ⟨λi H=>Pq K P d l/\i<l.length,λi H x H'=>H'=H/\∃k v,l[i]?=some (k,v)/\x= .str k,λi H=>Pq K P d l/\l.length<=i⟩
theorem NL{P:Program}{w:World}{K:Frag}{tg:Expr}{d:Addr}{l:List (Str×V)}{es:Array DictEntry}{ep:Nat}(it:Addr)(hk:K.lookup d=some ⟨.type "dict",none,.dict es ep,#[]⟩)(hes:pV w.params es.toList l):Turn P w K tg (RB K w.params d l) [it] it (λi h=>h.IsKeyIter it d i l.length ep) where
 mem:=by simp
 obj:=λi h st b hb=>by
  have e:b=it:=by simpa using hb
  subst e;obtain⟨oi,e,c,dd⟩:=st;exact⟨oi,e,λv z=>by rw[dd] at z;cases z⟩
 keep:=λi h h' st k=>st.at λoi e=>k it (by simp) oi e
 item:=by
  intro X hP hw hK hc i US s σ H E I hf st hg;subst hP hw hK;obtain⟨hd,hi⟩:=hg;obtain⟨f0,f1,f2,f3,f4,f5⟩:=hf it (by simp);have hgd:=I.d5 _ _ hk;obtain⟨⟨k,v⟩,hkv⟩:∃p,l[i]?=some p:=⟨l[i],List.getElem?_eq_getElem hi⟩
  obtain⟨en,t,hen,hkey⟩:=hes.get hkv;refine uf st hgd rfl (by rw[<-Array.length_toList];exact hes.length) (by rw[<-Array.getElem?_toList];exact hen) λh' st' sb=>?_;have I1:Inv X US σ H {s with heap:=h'}:=I.turned (t':=s.toks) (λb ob hb e=>(sb.2 b hb).trans e) f0 f1 f3 f4 f5;obtain⟨oi,e,c,dd⟩:=id st';exact⟨en.key,rfl,C9 (s:={s with heap:=h'}) e c dd ↑0 ⟨.str k,H,I1,by rw[hkey];exact⟨t,rfl⟩,⟨rfl,k,v,hkv,rfl⟩,st',λb hb=>(hf b hb).1⟩⟩
 done:=by
  intro X hP hw hK hc i US s σ H E I hf st hg;subst hP hw hK;obtain⟨hd,hi⟩:=hg;obtain⟨f0,f1,f2,f3,f4,f5⟩:=hf it (by simp);have hgd:=I.d5 _ _ hk;exact yr (I.ok.hd hc) st hgd rfl (by rw[<-Array.length_toList];exact hes.length) hi λh' eb=>⟨rfl,I.turned (t':=s.toks) (λb ob hb e=>eb b ob hb e) f0 f1 f3 f4 f5⟩
 self:=λA i s Q E st h=>wpAny_pyIter_keyiter st h
def UO(K:Frag)(P:Params)(td:TE):TI:=λσ H R=>td σ H λx H1=>∃d l,x= .ref d/\Pq K P d l/\R (RB K P d l) H1
theorem Ss{tg e:Expr}{td:TE}(he:PE X e td):PI X tg e (UO X.K X.w.params td):=by intro US s σ H R I h;refine br (he US s σ H _ I h) λu s1 ⟨x,H1,I1,rx,d,l,ex,⟨es,n,h1,h2,h3⟩,q⟩=>?_;subst ex;obtain rfl:u=Value.ref d:=rx;have hgd:=I1.d5 _ _ h1;refine ED h3 hgd ⟨rfl,rfl,rfl⟩ rfl (N8 (tk:=s1.toks) I1 _ (NL _ h1 h2) ⟨_,Heap.get?_push_size _ rfl,rfl,?_⟩ q);rw[<-h2.length,Array.length_toList] <;> rfl
theorem QC{K:Frag}{P:Params}{a:Addr}{l:List (Str×V)}{g:TG}{tb:TS}{D:Ends}{σ:St}{H:Hp}(hK:Pq K P a l)(Pv:Nat->St->Hp->Prop)(h0:Pv 0 σ H)(hs:∀i k v σ H,l[i]?=some (k,v)->Pv i σ H->g (.str k) σ H λσ2 H2=>tb {D with nx:=Pv (i+1),ct:=Pv (i+1),bk:=D.nx} σ2 H2)(hd:∀σ H,Pv l.length σ H->D.nx σ H):
  ∃W:Nat->Nat->St->Hp->Prop,(∃m,W 0 m σ H)/\∀i m σ H,W i m σ H->
   ((RB K P a l).stop i H/\D.nx σ H)\/((RB K P a l).go i H/\∃N:St->Hp->Prop,(∀σ' H',N σ' H'->∃m',m'<m/\W (i+1) m' σ' H')/\∀x H',(RB K P a l).Ly i H x H'->g x σ H' λσ2 H2=>tb {D with nx:=N,ct:=N,bk:=D.nx} σ2 H2):=by
 refine⟨λi m σ H=>m=l.length - i/\i<=l.length/\Pv i σ H,⟨l.length,by simp,Nat.zero_le _,h0⟩,?_⟩;rintro i m σ H ⟨rfl,hi,p⟩;by_cases hlt:i<l.length
 ·refine .inr ⟨⟨hK,hlt⟩,Pv (i+1),λσ' H' p'=>⟨l.length - (i+1),↑2,rfl,hlt,p'⟩,λx H' y=>?_⟩;obtain⟨rfl,k,v,hkv,rfl⟩:=y;exact hs i k v σ _ hkv p
 ·have e:i=l.length:=↑2
  subst e;exact .inl ⟨⟨hK,Nat.le_refl _⟩,hd σ H p⟩
end
end L2
namespace TG
open PySem PySem.Spec PyProof.Rows L2 TW
variable{P:Program}{w:World}{K:Frag}{mg:Str->Option Value}{base:Heap}
variable{H:Hp}{C:Addr}{ps:List Str}{fd:FuncData}{CT:Addr}{CF:Addr}{CG:Addr}{CW:Addr}
section
open EwTree (isSmall isBig isDigit isSeen isWordByte isCodeByte isMarkByte)
def iv(b:By):List V:=b.map λc=>V.int (c.toNat:Int)
theorem a_(b:By):(iv b).length=b.length:=List.length_map _
theorem Oh{b:By}{p:Nat}{c:UInt8}(h:b[p]?=some c):(iv b)[p]?=some (.int c.toNat):=by unfold iv;rw[List.getElem?_map,h];rfl
theorem dG{b:By}{p:Nat}{c:UInt8}(h:b[p]?=some c):vi (iv b) (p:Int)=some (.int c.toNat):=by have hp:p<b.length:=(List.getElem?_eq_some_iff.mp h).1;exact at_of (j:=p) rfl (Oh h)
inductive i_(p:Int->Bool)(vs:List V)(H:Hp)(Q:VK)(E:XK):Prop
 |mk(n:Int) (_:vs=[.int n]) (_:Q (.bl (p n)) H)
theorem gD(p:Int->Bool):∀vs H Q E,i_ p vs H Q E->vs.length=(["byte"]:List Str).length:=by rintro vs H Q E ⟨n,rfl,_⟩;rfl
theorem kS{lo hi n:Int}{Q:VK}(k:Q (.bl (decide (lo<=n)&&decide (n<=hi))) H):
  if decide (lo<=n)=true then DP (λi j=>.bl (decide (i<=j))) (.int n) (.int hi) H Q else Q (.bl false) H:=by
 by_cases h:lo<=n
 ·rw[decide_eq_true h] at k ⊢;rw[if_pos rfl];exact⟨n,hi,rfl,rfl,k⟩
 ·rw[decide_eq_false h] at k ⊢;rw[if_neg ↑0];exact k
theorem GU:ax ["byte"] ["byte"] (aq (top 10)):=↑3
theorem GJ(d:Def K mg "is_small" (top 10) ["byte"]):Ok P w K mg base bj 1 "is_small" ["byte"] (i_ iU):=d.ok λf fd F=>by
 refine F.ok GU (gD _) (λUT A outer s H vs Q E hr h=>?_);obtain⟨n,rfl,k⟩:=h;refine⟨_,ai (aB (kQ gZ gZ aw (pv 0) aw)),?_⟩;exact⟨_,rfl,_,_,rfl,rfl,_,rfl,kS k⟩
theorem OW:ax ["byte"] ["byte"] (aq (top 11)):=↑3
theorem NG(d:Def K mg "is_capital" (top 11) ["byte"]):Ok P w K mg base bj 1 "is_capital" ["byte"] (i_ t_):=d.ok λf fd F=>by
 refine F.ok OW (gD _) (λUT A outer s H vs Q E hr h=>?_);obtain⟨n,rfl,k⟩:=h;refine⟨_,ai (aB (kQ gZ gZ aw (pv 0) aw)),?_⟩;exact⟨_,rfl,_,_,rfl,rfl,_,rfl,kS k⟩
theorem Gq:ax ["byte"] ["byte"] (aq (top 12)):=↑3
theorem IA(d:Def K mg "is_digit" (top 12) ["byte"]):Ok P w K mg base bj 1 "is_digit" ["byte"] (i_ b_):=d.ok λf fd F=>by
 refine F.ok Gq (gD _) (λUT A outer s H vs Q E hr h=>?_);obtain⟨n,rfl,k⟩:=h;refine⟨_,ai (aB (kQ gZ gZ aw (pv 0) aw)),?_⟩;exact⟨_,rfl,_,_,rfl,rfl,_,rfl,kS k⟩
theorem JF:ax ["byte"] ["byte"] (aq (top 13)):=↑3
theorem Ld(d:Def K mg "is_printable" (top 13) ["byte"]):Ok P w K mg base bj 1 "is_printable" ["byte"] (i_ g8):=d.ok λf fd F=>by
 refine F.ok JF (gD _) (λUT A outer s H vs Q E hr h=>?_);obtain⟨n,rfl,k⟩:=h;refine⟨_,ai (aB (kQ gZ gZ aw (pv 0) aw)),?_⟩;exact⟨_,rfl,_,_,rfl,rfl,_,rfl,kS k⟩
theorem KJ:ax ["byte"] ["byte"] (aq (top 14)):=↑3
theorem JK(d:Def K mg "in_word" (top 14) ["byte"])(o1:Ok P w K mg base bj 1 "is_small" ["byte"] (i_ iU))(o2:Ok P w K mg base bj 1 "is_digit" ["byte"] (i_ b_)):
  Ok P w K mg base bj 2 "in_word" ["byte"] (i_ gY):=d.ok λf fd F=>by
 refine F.ok KJ (gD _) (λUT A outer s H vs Q E hr h=>?_);obtain⟨n,rfl,k⟩:=h;refine⟨_,ai (aB (yE (aM o1 hr (aa (pv 0) ao)) (yE (aM o2 hr (aa (pv 0) ao)) (gU (dU cU (pv 0) aw (aK _)))))),?_⟩;refine⟨_,rfl,n,rfl,_,rfl,aT (λh1=>?_) λh1=>?_⟩
 ·have e:gY n=true:=by unfold gY;rw[h1];rfl
  rw[e] at k;exact k
 ·refine⟨_,rfl,n,rfl,_,rfl,aT (λh2=>?_) λh2=>?_⟩
  ·have e:gY n=true:=by unfold gY;rw[h2];simp
   rw[e] at k;exact k
  ·refine⟨_,rfl,rfl,?_⟩;have e:gY n=decide (n=95):=by
    unfold gY;rw[Bool.not_eq_true] at h1 h2;rw[h1,h2];rfl
   rw[e] at k;have e2:decide (V.int n=V.int 95)=decide (n=95):=by
    by_cases z:n=95
    ·subst z;simp
    ·simp[z]
   rw[e2];exact k
theorem KP:ax ["byte"] ["byte"] (aq (top 15)):=↑3
theorem Ky(d:Def K mg "in_code" (top 15) ["byte"])(o1:Ok P w K mg base bj 1 "is_capital" ["byte"] (i_ t_))(o2:Ok P w K mg base bj 1 "is_digit" ["byte"] (i_ b_)):
  Ok P w K mg base bj 2 "in_code" ["byte"] (i_ oH):=d.ok λf fd F=>by
 refine F.ok KP (gD _) (λUT A outer s H vs Q E hr h=>?_);obtain⟨n,rfl,k⟩:=h;refine⟨_,ai (aB (yE (aM o1 hr (aa (pv 0) ao)) (gU (aM o2 hr (aa (pv 0) ao))))),?_⟩;refine⟨_,rfl,n,rfl,_,rfl,aT (λh1=>?_) λh1=>?_⟩
 ·have e:oH n=true:=by unfold oH;rw[h1];rfl
  rw[e] at k;exact k
 ·refine⟨_,rfl,n,rfl,?_⟩;have e:oH n=b_ n:=by
   unfold oH;rw[Bool.not_eq_true] at h1;rw[h1];rfl
  rw[e] at k;exact k
theorem J3:ax ["byte"] ["byte"] (aq (top 16)):=↑3
theorem Kp(d:Def K mg "in_mark" (top 16) ["byte"])(o1:Ok P w K mg base bj 2 "in_word" ["byte"] (i_ gY))(o2:Ok P w K mg base bj 1 "is_capital" ["byte"] (i_ t_)):
  Ok P w K mg base bj 3 "in_mark" ["byte"] (i_ o8):=d.ok λf fd F=>by
 refine F.ok J3 (gD _) (λUT A outer s H vs Q E hr h=>?_);obtain⟨n,rfl,k⟩:=h;refine⟨_,ai (aB (yE (aM o1 hr (aa (pv 0) ao)) (gU (aM o2 (hr.mono ↑0) (aa (pv 0) ao))))),?_⟩;refine⟨_,rfl,n,rfl,_,rfl,aT (λh1=>?_) λh1=>?_⟩
 ·have e:o8 n=true:=by unfold o8;rw[h1];rfl
  rw[e] at k;exact k
 ·refine⟨_,rfl,n,rfl,?_⟩;have e:o8 n=t_ n:=by
   unfold o8;rw[Bool.not_eq_true] at h1;rw[h1];rfl
  rw[e] at k;exact k
theorem bA{X:Cx}{e:Expr}{te:TE}{p pos:Pos}(ln:X.mg "len"=none)(he:PE X e te)(hg:Gl X "len":=by rfl)(hst:starEach [e] X.env=(false,eval e X.env)::starEach [] X.env:=by rfl)(hpl:(backTo pos (starEach [] X.env)).any (·.1)=false:=by rfl):
  PE X (.Call (.Name "len" p) [e] [] pos) (Ma (yM X.K) (bQ te d8)):=
 dX (e:=e) (es:=[]) (pos:=pos) xy hg ln PySem.boot_len (aa he ao hst) ↑0 ↑0 hst hpl
theorem Qw{j:Nat}{xs:List V}(h:decide ((j:Int)<((xs.length:Nat):Int))=true):j<xs.length:=by have:=of_decide_eq_true h;omega
theorem R_{j:Nat}{xs:List V}(h:¬decide ((j:Int)<((xs.length:Nat):Int))=true):xs.length<=j:=by have:¬((j:Int)<((xs.length:Nat):Int)):=λz=>h (decide_eq_true z);omega
inductive iw(K:Frag)(vs:List V)(H:Hp)(Q:VK)(E:XK):Prop
 |mk(a:Addr) (b:By) (p:Nat) (_:vs=[.ref a,.int p]) (_:bh K H a (iv b)) (_:Q (.int (cQ b p)) H)
theorem KH:ax ["text","place"] ["text","place"] (aq (top 17)):=↑3
theorem Ln(d:Def K mg "byte_at" (top 17) ["text","place"])(ln:mg "len"=none):Ok P w K mg base bj 1 "byte_at" ["text","place"] (iw K):=d.ok λf fd F=>by
 refine F.ok KH (by rintro vs H Q E ⟨a,b,p,rfl,_⟩;rfl) (λUT A outer s H vs Q E hr h=>?_);obtain⟨a,b,p,rfl,hS,k⟩:=h;refine⟨_,aj (aR (aD oG (pv 1) (bA ln (pv 0)) (aK _)) (ai (aB (bx aW (pv 0) (pv 1) (λ_ _=>rfl)))) aL) (ai (aB (gv ef aw))),?_⟩;refine⟨_,rfl,_,rfl,a,_,rfl,.inl hS,_,_,rfl,rfl,_,rfl,aT (λh1=>?_) λh1=>?_⟩
 ·have hp:p<b.length:=by rw[<-a_];exact Qw h1
  have hg:b[p]?=some b[p]:=List.getElem?_eq_getElem hp;refine⟨_,rfl,_,rfl,a,_,_,_,rfl,rfl,hS,dG hg,?_⟩;rw[cn hg] at k;exact k
 ·have hn:b[p]?=none:=List.getElem?_eq_none_iff.mpr (by rw[<-a_];exact R_ h1);rw[ip hn] at k;exact⟨_,rfl,k⟩
inductive Fits(P:Program)(w:World)(K:Frag)(mg:Str->Option Value)(base:Heap)(f:Addr)(q:UInt8->Bool):Prop
 |mk(fd:FuncData) (pI:Int->Bool) (_:bY P w K mg base bj 3 f fd ["byte"] (i_ pI)) (_:Binds K fd ["byte"] []) (_:PySem.W.keepIn K (.ref f)=true) (_:∀c:UInt8,pI c.toNat=q c)
inductive lh(P:Program)(w:World)(K:Frag)(mg:Str->Option Value)(base:Heap)(vs:List V)(H:Hp)(Q:VK)(E:XK):Prop
 |mk(a:Addr) (b:By) (p:Nat) (f:Addr) (q:UInt8->Bool) (_:vs=[.ref a,.int p,.ref f]) (_:bh K H a (iv b)) (_:p<=b.length) (_:Fits P w K mg base f q) (_:Q (.int (aJ q b p)) H)
theorem FZ:ax ["text","place","fits"] ["text","place","fits"] (aq (top 18)):=↑3
theorem NA(d:Def K mg "run_end" (top 18) ["text","place","fits"])(ln:mg "len"=none):Ok P w K mg base bj 4 "run_end" ["text","place","fits"] (lh P w K mg base):=d.ok λf fd F=>by
 refine F.ok FZ (by rintro vs H Q E ⟨a,b,p,f,q,rfl,_⟩;rfl) (λUT A outer s H vs Q E hr h=>?_);obtain⟨a,b,p,g,q,rfl,hS,hp,⟨gd,pI,FG,bG,kG,eG⟩,k⟩:=h;refine⟨_,aj (fz PassesOwn.never (nI (aD oG (pv 1) (bA ln (pv 0)) (aK _))
  (ja (da (GB (k:=3) (ps:=["byte"]) (sp:=i_ pI) 2 hr (aa (bx aW (pv 0) (pv 1) (λ_ _=>rfl)) ao))))).pt
  (ai (iu (i:=1) FZ.nd rfl (Or.inl rfl) aw gA))) (ai (aB (pv 1))),?_⟩
 refine⟨λm σ H'=>∃j:Nat,m=b.length - j/\σ=[some (.ref a),some (.int j),some (.ref g)]/\H'=H/\j<=b.length/\aJ q b j=aJ q b p,⟨_,p,rfl,rfl,rfl,hp,rfl⟩,?_⟩;rintro m σ H' ⟨j,rfl,rfl,rfl,hj,e⟩;refine⟨_,rfl,_,rfl,a,_,rfl,.inl hS,_,_,rfl,rfl,_,rfl,aT (λh1=>?_) λh1=>?_⟩
 ·have hjl:j<b.length:=by rw[<-a_];exact Qw h1
  have hg:b[j]?=some b[j]:=List.getElem?_eq_getElem hjl;refine⟨g,gd,rfl,FG,bG,kG,_,rfl,_,rfl,a,_,_,_,rfl,rfl,hS,dG hg,_,rfl,_,rfl,aT (λh2=>?_) λh2=>?_⟩
  ·rw[eG] at h2;refine⟨λσ' H2=>σ'=[some (.ref a),some (.int ((j+1:Nat):Int)),some (.ref g)]/\H2=H',λσ' H2 ⟨z1,z2⟩=>⟨b.length - (j+1),↑2,j+1,rfl,z1,z2,↑2,?_⟩,_,rfl,_,_,rfl,rfl,rfl,rfl⟩;rw[<-uU hg h2];exact e
  ·rw[eG,Bool.not_eq_true] at h2;refine⟨_,rfl,?_⟩;rw[<-e,Eh hg h2] at k;exact k
 ·have hn:b[j]?=none:=List.getElem?_eq_none_iff.mpr (by rw[<-a_];exact R_ h1);refine dD ⟨_,rfl,?_⟩;rw[<-e,Ir hn] at k;exact k
theorem fits_of{nm:Str}{pI:Int->Bool}{q:UInt8->Bool}{j:Nat}(o:Ok P w K mg base bj j nm ["byte"] (i_ pI))(hj:j<=3)(e:∀c:UInt8,pI c.toNat=q c):∃f,mg nm=some (.ref f)/\Fits P w K mg base f q:=by obtain⟨f,fd,F,b,m,kp⟩:=o.ex;exact⟨f,m,fd,pI,F.mono hj,b,kp,e⟩
end
section
open EwTree (depthNow depthStep)
theorem O9:∀(xs ys:List Int),PyData.eqvAll (xs.map PyData.int) (ys.map PyData.int)=decide (xs=ys)
 |[],[]=>by simp[PyData.eqvAll]
 |[],y::ys=>by simp[PyData.eqvAll]
 |x::xs,[]=>by simp[PyData.eqvAll]
 |x::xs,y::ys=>by
  rw[List.map_cons,List.map_cons,PyData.eqvAll,O9 xs ys];by_cases h:x=y
  ·subst h;simp[PyData.eqv]
  ·simp[PyData.eqv,h]
theorem Rj:∀(xs:List Int),PyData.canLayAll0 (xs.map PyData.int)=true/\PyData.depthAll (xs.map PyData.int)<=1
 |[]=>by simp[PyData.canLayAll0,PyData.depthAll]
 |x::xs=>by
  have ih:=Rj xs;simp only[List.map_cons,PyData.canLayAll0,PyData.depthAll,PyData.canLay0,PyData.depth,ih.1,Bool.and_self,true_and];omega
theorem qj(xs:List Int):SeqAt.shaped (.list (xs.map PyData.int))=true:=by unfold SeqAt.shaped;have h:=Rj xs;rw[show PyData.canLay0 (.list (xs.map PyData.int))=PyData.canLayAll0 (xs.map PyData.int) from by rw[PyData.canLay0],h.1,Bool.true_and];refine decide_eq_true ?_;rw[PyData.depth];omega
theorem RL{K:Frag}:∀(xs:List Int),qR K H (xs.map V.int) (xs.map PyData.int)
 |[]=>.nil
 |x::xs=>.cons (.int x) (RL xs)
inductive R6(K:Frag)(x y:V)(H:Hp)(Q:VK):Prop
 |mk(a b:Addr) (xs ys:List Int) (_:x= .ref a) (_:y= .ref b) (_:bh K H a (xs.map V.int)) (_:bh K H b (ys.map V.int)) (_:Q (.bl (decide (xs=ys))) H)
inductive QB(K:Frag)(x y:V)(H:Hp)(Q:VK):Prop
 |mk(a b:Addr) (xs ys:List Int) (_:x= .ref a) (_:y= .ref b) (_:bh K H a (xs.map V.int)) (_:bh K H b (ys.map V.int)) (_:Q (.bl (!decide (xs=ys))) H)
theorem oo{X:Cx}(hu:X.A.units+64<cLine):jg X (compareOp .Eq) (R6 X.K):=by
 rintro US s σ H x y v u Q I rx ry ⟨a,b,xs,ys,rfl,rfl,h1,h2,q⟩;refine M3 hu US s σ H _ _ v u Q I rx ry ⟨_,_,.lst h1 (RL xs),.lst h2 (RL ys),qj xs,qj ys,?_⟩;have e:PyData.eqv (.list (xs.map PyData.int)) (.list (ys.map PyData.int))=decide (xs=ys):=by rw[PyData.eqv];exact O9 xs ys
 rw[e];exact q
theorem Gu{X:Cx}(hu:X.A.units+64<cLine):jg X (compareOp .NotEq) (QB X.K):=by
 rintro US s σ H x y v u Q I rx ry ⟨a,b,xs,ys,rfl,rfl,h1,h2,q⟩;refine M7 hu US s σ H _ _ v u Q I rx ry ⟨_,_,.lst h1 (RL xs),.lst h2 (RL ys),qj xs,qj ys,?_⟩;have e:PyData.eqv (.list (xs.map PyData.int)) (.list (ys.map PyData.int))=decide (xs=ys):=by rw[PyData.eqv];exact O9 xs ys
 rw[e];exact q
theorem zX{X:Cx}:QA X (KS X.K):=by
 intro US s σ H x y v u Q I rx ry h;obtain⟨p,xs,i,z,rfl,rfl,hq,he,q⟩:=h;cases rx;obtain⟨t,rfl⟩:=ry;obtain⟨its,r,pl,hz⟩:=I.list hq;obtain⟨j,h1,h2,h3,h4,h5⟩:=qo he;obtain⟨w',ew,rw'⟩:=r.get h2;have hl:=r.length;have hn:=n8;have fin:EP X US σ Q w' s:=⟨z,H,I,rw',q⟩
 by_cases h0:0<=i
 ·have hj:i.toNat=j:=by
   rw[seqIndex_of h0 h5] at h1;exact Option.some.inj h1
  exact wpAny_getItem_list pl.isList h0 ↑2 (by rw[hj];simpa using ew) fin
 ·have hj:(i+(its.toArray.size:Int)).toNat=j:=by
   rw[seqIndex_neg ↑2 h4] at h1;rw[List.size_toArray,<-hl];exact Option.some.inj h1
  exact wpAny_getItem_list_neg pl.isList ↑2 (by rw[List.size_toArray] <;> omega) ↑2 (by rw[hj];simpa using ew) fin
theorem xH(x:Str):∀(l:List Str),Dq (.str x) (l.map V.str)=decide (x∈l)
 |[]=>rfl
 |y::l=>by
  have ih:=xH x l;unfold Dq at ih ⊢;rw[List.map_cons,List.any_cons,ih];by_cases h:y=x
  ·subst h;simp[Eo]
  ·have h':¬x=y:=λz=>h z.symm;simp[Eo,h,h']
theorem rF:∀(l:List Str),(l.map V.str).all iQ=true
 |[]=>rfl
 |y::l=>by rw[List.map_cons,List.all_cons,rF l];rfl
def nv(l:List Nat):List V:=l.map λ(n:Nat)=>V.int (n:Int)
theorem gC(k:Nat)(r:List Nat):nv (k::r).reverse=nv r.reverse++[.int k]:=by unfold nv;simp
theorem Lg(l:List Nat):nv l=(l.map λ(n:Nat)=>(n:Int)).map V.int:=by unfold nv;rw[List.map_map];rfl
theorem i7(xs:List V)(v:V):vi (xs++[v]) (-1)=some v:=by
 unfold vi FF;rw[List.length_append,List.length_singleton,if_neg ↑0,if_pos ↑2];have:((-1:Int)+((xs.length+1:Nat):Int)).toNat=xs.length:=↑2
 rw[this];simp
theorem xt(xs:List V)(v:V):FF (xs++[v]).length (-1)=some xs.length:=by unfold FF;rw[List.length_append,List.length_singleton,if_neg ↑0,if_pos ↑2];congr 1;omega
theorem qQ(xs:List V)(v u:V):(xs++[v]).set xs.length u=xs++[u]:=by simp
theorem FO(xs:List V)(v:V):(xs++[v])[(xs++[v]).length - 1]?=some v/\(xs++[v]).dropLast=xs:=by simp
def dI(l:List Nat):Int:=(depthNow l:Nat)
theorem kX(k:Nat)(r:List Nat):dI (k::r)=(r.length:Int)+k+(r.foldr (λ(a b:Nat)=>a+b) 0:Nat):=by unfold dI depthNow;simp only[List.length_cons,List.foldr_cons];omega
def FA(a:Addr)(H H':Hp):Prop:=∀b o,H b=some o->b≠a->H' b=some o
inductive yH(vs:List V)(H:Hp)(Q:VK)(E:XK):Prop
 |mk(a:Addr) (k:Nat) (r:List Nat) (_:vs=[.ref a]) (_:H a=some (.lst (nv (k::r).reverse))) (_:Q (.int (0 - (k:Int))) (upd H a (.lst (nv (0::r).reverse))))
theorem HU:ax ["numbers","grown"] ["numbers"] (aq (top 8)):=↑3
theorem NJ(d:Def K mg "growth_by_clearing" (top 8) ["numbers"]):Ok P w K mg base bj 1 "growth_by_clearing" ["numbers"] yH:=d.ok λf fd F=>by
 refine F.ok HU (by rintro vs H Q E ⟨a,k,r,rfl,_⟩;rfl) (λUT A outer s H vs Q E hr h=>?_);obtain⟨a,k,r,rfl,h1,q⟩:=h;rw[gC] at h1 q;refine⟨_,aj (aN (i:=1) HU.nd rfl (Or.inl rfl) (bz jC aw (bx aW (pv 0) (gv ef aw) (λ_ _=>rfl))))
  (aj (Ox aw (NM (pv 0) (gv ef aw) set_list)) (ai (aB (pv 1)))),?_⟩
 refine⟨_,rfl,_,rfl,a,_,_,_,rfl,rfl,bh.of h1,i7 _ _,_,_,rfl,rfl,_,rfl,_,rfl,a,_,_,_,rfl,rfl,h1,xt _ _,_,rfl,?_⟩;rw[qQ];exact q
inductive LX(vs:List V)(H:Hp)(Q:VK)(E:XK):Prop
 |mk(a:Addr) (k:Nat) (r:List Nat) (x:Str) (_:vs=[.ref a,.str x]) (_:H a=some (.lst (nv (k::r).reverse))) (_:r.length<1000000) (_:∀H',H' a=some (.lst (nv (qk (if x="}" then 3 else 2) (k::r)).reverse))->FA a H H'->Q (.int (dI (qk (if x="}" then 3 else 2) (k::r)) - dI (k::r))) H')
theorem Bm:ax ["numbers","look","grown"] ["numbers","look"] (aq (top 7)):=↑3
theorem y9(k k2:Nat)(r2:List Nat)(g:Int)(r:List Nat)(hd:(match r with|[]=>[0]|k2::r2=>k2::r2)=k2::r2)(hg:g=(if r=[] then 0 - (k:Int) else 0 - (k:Int) - 1)):
  qk 3 (k::r)=0::r2/\g+(0 - (k2:Int))=dI (0::r2) - dI (k::r)/\qk 2 (k::r)=(k2+1)::r2/\g+1=dI ((k2+1)::r2) - dI (k::r):=by
 cases r with
 |nil=>
  injection hd with h1 h2;subst h1;subst h2;rw[if_pos rfl] at hg;refine⟨rfl,?_,rfl,?_⟩ <;> simp only[kX,List.length_nil,List.foldr_nil] <;> omega
 |cons a b=>
  injection hd with h1 h2;subst h1;subst h2;rw[if_neg (by simp)] at hg;refine⟨rfl,?_,rfl,?_⟩ <;> simp only[kX,List.length_cons,List.foldr_cons] <;> omega
theorem MW(d:Def K mg "growth_by_closing" (top 7) ["numbers","look"])(oc:Ok P w K mg base bj 1 "growth_by_clearing" ["numbers"] yH):Ok P w K mg base bj 2 "growth_by_closing" ["numbers","look"] LX:=d.ok λf fd F=>by
 refine F.ok Bm (by rintro vs H Q E ⟨a,k,r,x,rfl,_⟩;rfl) (λUT A outer s H vs Q E hr h=>?_);obtain⟨a,k,r,x,rfl,h1,hlen,q⟩:=h;rw[gC] at h1;have hp:=FO (nv r.reverse) (.int k);refine⟨_,aj (aN (i:=2) Bm.nd rfl (Or.inl rfl) (bz jC aw (tH PySem.F.plainAttrs_list PySem.F.slot_list_pop PySem.F.type_list_pop rS (pv 0))))
  (aj (aR (aD (oo hr.units) (pv 0) (bE ao) (aK _))
   (ai (aS (fW PySem.F.plainAttrs_list PySem.F.slot_list_append PySem.F.type_list_append cH (pv 0) (aa aw ao))))
   (ai (iu (i:=2) Bm.nd rfl (Or.inl rfl) aw Mp)))
  (aj (aR (aD cU (pv 1) bZ (aK _)) (ai (aB (bz cD (pv 2) (aM oc hr (aa (pv 0) ao))))) aL)
  (aj (DB (pv 0) (gv ef aw) zX aw gA set_list)
  (ai (aB (bz cD (pv 2) aw)))))),?_⟩
 refine⟨_,rfl,.inl ⟨rfl,_,bh.of h1⟩,a,_,_,rfl,rfl,h1,hp.1,_,_,rfl,rfl,?_⟩;rw[hp.2];refine⟨_,rfl,Nat.zero_le _,λe he=>?_⟩;have hne:e≠a:=λz=>by rw[z,ag] at he;cases he
 have s1:(upd (upd H a (.lst (nv r.reverse))) e (.lst [])) a=some (.lst (nv r.reverse)):=by rw[ah (Ne.symm hne),ag]
 have he0:H e=none:=by rw[ah hne] at he;exact he
 have go:∀(k2:Nat)(r2:List Nat)(H2:Hp)(g:Int),H2 a=some (.lst (nv (k2::r2).reverse))->FA a H H2->qk 3 (k::r)=0::r2->g+(0 - (k2:Int))=dI (0::r2) - dI (k::r)->qk 2 (k::r)=(k2+1)::r2->g+1=dI ((k2+1)::r2) - dI (k::r)->
   BU (Hk (rK (AD Sq (df 1) (tC (.str "}")))) (p8 (AD (DP λi j=>.int (i+j)) (df 2) (ik yH [] E0 (bQ (df 0) d8)))) zG)
    (BU (LZ (df 0) (Um (rU λi=>.int (-i)) (tC (.int 1))) (tC (.int 1)) (KS K) (SD λi j=>i+j) LK) (p8 (AD (DP λi j=>.int (i+j)) (df 2) (tC (.int 1)))))
    {nx:=λ_ H'=>Q .bF H',rt:=Q} [some (.ref a),some (.str x),some (.int g)] H2:=by
  intro k2 r2 H2 g hH2 fr e3 d3 e2 d2;refine⟨_,rfl,rfl,_,rfl,aT (λhx=>?_) λhx=>?_⟩
  ·have hx:x="}":=by have:=of_decide_eq_true hx;injection this
   rw[if_pos hx,e3,<-d3] at q;refine⟨_,rfl,_,rfl,a,k2,r2,rfl,hH2,_,_,rfl,rfl,?_⟩;exact q _ ag λb o hb hba=>by rw[ah hba];exact fr b o hb hba
  ·have hx:¬x="}":=λz=>hx (decide_eq_true (by rw[z]));rw[if_neg hx,e2,<-d2] at q;rw[gC] at hH2;refine⟨_,rfl,_,rfl,a,_,_,_,rfl,rfl,bh.of hH2,i7 _ _,_,_,rfl,rfl,a,_,_,_,rfl,rfl,hH2,xt _ _,_,rfl,_,_,rfl,rfl,?_⟩;refine q _ ?_ λb o hb hba=>by rw[ah hba];exact fr b o hb hba
   rw[ag,qQ,gC];rfl
 refine⟨a,e,r.reverse.map (λ(n:Nat)=>(n:Int)),[],rfl,rfl,bh.of (by rw[s1,Lg]),bh.of ag,_,rfl,aT (λhx=>?_) λhx=>?_⟩
 ·have hx:=of_decide_eq_true hx;have hr0:r=[]:=by
   have:=congrArg List.length hx;simp at this;exact this
  subst hr0;refine⟨_,rfl,.inl ⟨rfl,_,bh.of s1⟩,a,_,_,rfl,rfl,s1,(by show 0<sizeLine;decide),?_⟩;obtain⟨t1,t2,t3,t4⟩:=y9 k 0 [] _ [] rfl rfl;refine go 0 [] _ _ (by rw[ag];rfl) (λb o hb hba=>?_) t1 t2 t3 t4;rw[ah hba,ah (au hb he0),ah hba];exact hb
 ·have hr0:r≠[]:=λz=>hx (decide_eq_true (by rw[z];rfl));obtain⟨k2,r2,rfl⟩:∃k2 r2,r=k2::r2:=by
   cases r with
   |nil=>exact absurd rfl hr0
   |cons x y=>exact⟨x,y,rfl⟩
  refine⟨_,rfl,_,_,rfl,rfl,?_⟩;obtain⟨t1,t2,t3,t4⟩:=y9 k k2 r2 _ (k2::r2) rfl rfl;rw[if_neg hr0] at t2 t4;refine go k2 r2 _ _ s1 (λb o hb hba=>?_) t1 t2 t3 t4;rw[ah (au hb he0),ah hba];exact hb
def GT(K:Frag)(mg:Str->Option Value)(nm:Str)(l:List V):Prop:=∃a,mg nm=some (.ref a)/\∀H,fN K H a l
def GD(K:Frag)(P:Params)(mg:Str->Option Value)(nm:Str)(l:List Str):Prop:=∃a,mg nm=some (.ref a)/\Se K P a l
theorem MV{x:Str}(h:x∈jm):eP x=1:=by unfold eP;rw[if_pos h]
theorem MT{x:Str}(h1:¬x∈jm)(h:x∈gQ):eP x=(if x="}" then 3 else 2):=by unfold eP;rw[if_neg h1,if_pos h]
theorem NV{x:Str}(h1:¬x∈jm)(h2:¬x∈gQ)(h:x∈oE):eP x=4:=by unfold eP;rw[if_neg h1,if_neg h2,if_pos h]
theorem MZ{x:Str}(h1:¬x∈jm)(h2:¬x∈gQ)(h3:¬x∈oE)(h:x∈jX):eP x=5:=by unfold eP;rw[if_neg h1,if_neg h2,if_neg h3,if_pos h]
theorem MN{x:Str}(h1:¬x∈jm)(h2:¬x∈gQ)(h3:¬x∈oE)(h:¬x∈jX):eP x=0:=by unfold eP;rw[if_neg h1,if_neg h2,if_neg h3,if_neg h]
inductive L8(vs:List V)(H:Hp)(Q:VK)(E:XK):Prop
 |mk(a:Addr) (l:List Nat) (x:Str) (_:vs=[.ref a,.str x]) (_:H a=some (.lst (nv l.reverse))) (_:l≠[]) (_:l.length<1000000) (_:∀H',H' a=some (.lst (nv (qk (eP x) l).reverse))->FA a H H'->Q (.int (dI (qk (eP x) l) - dI l)) H')
theorem Ng:ax ["numbers","look"] ["numbers","look"] (aq (top 6)):=↑3
theorem Mu(d:Def K mg "growth" (top 6) ["numbers","look"])(g1:GT K mg "OPENING" (jm.map V.str))(g2:GT K mg "CLOSING" (gQ.map V.str))(g3:GD K w.params mg "RISING" oE)(g4:GD K w.params mg "CLEARING" jX)(oc:Ok P w K mg base bj 2 "growth_by_closing" ["numbers","look"] LX)(ol:Ok P w K mg base bj 1 "growth_by_clearing" ["numbers"] yH):Ok P w K mg base bj 3 "growth" ["numbers","look"] L8:=d.ok λf fd F=>by
 refine F.ok Ng (by rintro vs H Q E ⟨a,l,x,rfl,_⟩;rfl) (λUT A outer s H vs Q E hr h=>?_);obtain⟨a,l,x,rfl,h1,hne,hlen,q⟩:=h;obtain⟨a1,m1,t1⟩:=g1;obtain⟨a2,m2,t2⟩:=g2;obtain⟨a3,m3,t3⟩:=g3;obtain⟨a4,m4,t4⟩:=g4;obtain⟨k,r,rfl⟩:∃k r,l=k::r:=by
  cases l with
  |nil=>exact absurd rfl hne
  |cons x y=>exact⟨x,y,rfl⟩
 have hlr:r.length<1000000:=by simp at hlen;omega
 refine⟨_,aj (aR (aD eY (pv 1) (fQ m1) (by with_unfolding_all rfl))
   (aj (aS (fW PySem.F.plainAttrs_list PySem.F.slot_list_append PySem.F.type_list_append cH (pv 0) (aa aw ao))) (ai (aB aw))) aL)
  (aj (aR (aD eY (pv 1) (fQ m2) (by with_unfolding_all rfl)) (ai (aB (aM oc hr (aa (pv 0) (aa (pv 1) ao))))) aL)
  (aj (aR (aD A3 (pv 1) (fQ m3) (by with_unfolding_all rfl)) (aj (DB (pv 0) (gv ef aw) zX aw gA set_list) (ai (aB aw))) aL)
  (aj (aR (aD A3 (pv 1) (fQ m4) (by with_unfolding_all rfl)) (ai (aB (aM ol (hr.mono ↑0) (aa (pv 0) ao)))) aL)
  (ai (aB aw))))),?_⟩
 refine⟨_,rfl,a1,_,rfl,.inr (t1 _),rfl,rF _,_,rfl,?_⟩;rw[xH];refine aT (λz1=>?_) λz1=>?_
 ·have z1:=of_decide_eq_true (p:=x∈jm) z1;rw[MV z1] at q;refine⟨_,rfl,.inl ⟨rfl,_,bh.of h1⟩,a,_,_,rfl,rfl,h1,?_,?_⟩
  ·unfold nv;rw[List.length_map,List.length_reverse,sizeLine_eq];omega
  ·have e:(1:Int)=dI (qk 1 (k::r)) - dI (k::r):=by
    show(1:Int)=dI (0::k::r) - dI (k::r);simp only[kX,List.length_cons,List.foldr_cons];omega
   rw[<-e] at q;refine q _ ?_ λb o hb hba=>by rw[ah hba];exact hb
   rw[ag];show some (HO.lst (nv (k::r).reverse++[V.int 0]))=some (HO.lst (nv (0::k::r).reverse));rw[gC 0 (k::r)];rfl
 have z1:¬x∈jm:=λz=>z1 (decide_eq_true z);refine⟨_,rfl,a2,_,rfl,.inr (t2 _),rfl,rF _,_,rfl,?_⟩;rw[xH];refine aT (λz2=>?_) λz2=>?_
 ·have z2:=of_decide_eq_true (p:=x∈gQ) z2;rw[MT z1 z2] at q;exact⟨_,rfl,_,rfl,a,k,r,x,rfl,h1,hlr,q⟩
 have z2:¬x∈gQ:=λz=>z2 (decide_eq_true z);refine⟨_,rfl,x,a3,oE,rfl,rfl,t3,_,rfl,aT (λz3=>?_) λz3=>?_⟩
 ·have z3:=of_decide_eq_true z3;rw[NV z1 z2 z3] at q;rw[gC] at h1;refine⟨_,rfl,_,rfl,a,_,_,_,rfl,rfl,bh.of h1,i7 _ _,_,_,rfl,rfl,a,_,_,_,rfl,rfl,h1,xt _ _,?_⟩;have e:(1:Int)=dI (qk 4 (k::r)) - dI (k::r):=by
   show(1:Int)=dI ((k+1)::r) - dI (k::r);simp only[kX];omega
  rw[<-e] at q;refine q _ ?_ λb o hb hba=>by rw[ah hba];exact hb
  rw[ag,qQ];show some (HO.lst (nv r.reverse++[V.int ((k:Int)+1)]))=some (HO.lst (nv ((k+1)::r).reverse));rw[gC (k+1) r];rfl
 have z3:¬x∈oE:=λz=>z3 (decide_eq_true z);refine⟨_,rfl,x,a4,jX,rfl,rfl,t4,_,rfl,aT (λz4=>?_) λz4=>?_⟩
 ·have z4:=of_decide_eq_true z4;rw[MZ z1 z2 z3 z4] at q;refine⟨_,rfl,a,k,r,rfl,h1,?_⟩;have e:0 - (k:Int)=dI (qk 5 (k::r)) - dI (k::r):=by
   show 0 - (k:Int)=dI (0::r) - dI (k::r);simp only[kX];omega
  rw[<-e] at q;exact q _ ag λb o hb hba=>by rw[ah hba];exact hb
 ·have z4:¬x∈jX:=λz=>z4 (decide_eq_true z);rw[MN z1 z2 z3 z4] at q;show Q (.int 0) _;have e:(0:Int)=dI (qk 0 (k::r)) - dI (k::r):=by
   show(0:Int)=dI (k::r) - dI (k::r);omega
  rw[<-e] at q;exact q _ h1 λb o hb _=>hb
def tf(kd:Int)(lk:Str)(st en:Int):List (Str×V):=aV "end" (.int en) (aV "start" (.int st) (aV "look" (.str lk) (aV "kind" (.int kd) [])))
theorem DE(kd:Int)(lk:Str)(st en:Int):(tf kd lk st en).lookup ("kind":Str)=some (.int kd):=by unfold tf;rw[az,if_neg ↑1,az,if_neg ↑1,az,if_neg ↑1,az,if_pos rfl]
theorem DA(kd:Int)(lk:Str)(st en:Int):(tf kd lk st en).lookup ("look":Str)=some (.str lk):=by unfold tf;rw[az,if_neg ↑1,az,if_neg ↑1,az,if_pos rfl]
theorem ku(kd:Int)(lk:Str)(st en:Int):(tf kd lk st en).lookup ("start":Str)=some (.int st):=by unfold tf;rw[az,if_neg ↑1,az,if_pos rfl]
theorem xo(kd:Int)(lk:Str)(st en:Int):(tf kd lk st en).lookup ("end":Str)=some (.int en):=by unfold tf;rw[az,if_pos rfl]
def eJ(C:Addr)(H:Hp)(r:Addr)(t:EwTree.Tok):Prop:=∃dx,H r=some (.ins C dx (tf t.kind (bN t) t.place t.halt_))
structure wX(K:Frag)(C:Addr):Prop where
 cl:rY K C
 nk:aE K C "kind"
 nl:aE K C "look"
 ns:aE K C "start"
 ne:aE K C "end"
def LA(K:Frag)(C:Addr):Sp:=λvs H Q _=>∃(a:Addr)(rs:List Addr)(ts:List EwTree.Tok),vs=[.ref a]/\bh K H a (rs.map V.ref)/\Paired (λr t=>eJ C H r t) rs ts/\(∀t∈ts,Good t)/\ts.length<1000000 - 10/\
 ∀H',aF H H'->Q (.int ((cS ts).2:Nat)) H'
theorem jt:ax ["found","numbers","together","greatest","token"] ["found"] (aq (top 5)):=↑3
theorem take_snoc{α:Type}:∀{l:List α}{i:Nat}{x:α},l[i]?=some x->l.take (i+1)=l.take i++[x]
 |[],i,x,h=>by simp at h
 |a::l,0,x,h=>by
  have e:a=x:=Option.some.inj h;subst e;rfl
 |a::l,i+1,x,h=>by
  have ih:=take_snoc (l:=l) (i:=i) (x:=x) h;show a::l.take (i+1)=a::l.take i++[x];rw[ih];rfl
theorem JT(c:Nat)(l:List Nat)(h:l≠[]):(qk c l).length<=l.length+1:=by
 unfold qk;split
 ·simp
 ·split
  ·simp
  ·rename_i k r e;have:=congrArg List.length e;simp at this ⊢;omega
 ·split
  ·simp
  ·rename_i k r e;have:=congrArg List.length e;simp at this ⊢;omega
 ·split
  ·simp
  ·simp
 ·simp
 ·omega
theorem z7:∀(n:Nat)(ts:List EwTree.Tok),(∀t∈ts,Good t)->n<=ts.length->(cS (ts.take n)).1.length<=n+1
 |0,ts,_,_=>by rw[List.take_zero];exact Nat.le_refl _
 |n+1,ts,g,h=>by
  have hn:n<ts.length:=↑2
  have e:=take_snoc (List.getElem?_eq_getElem hn);have gn:∀t∈ts.take n,Good t:=λt ht=>g t (List.mem_of_mem_take ht);rw[e,mv,eS (g _ (List.getElem_mem hn))];have:=z7 n ts g ↑2;have:=JT (eP (bN ts[n])) (cS (ts.take n)).1 (Cu _ gn);dsimp only;omega
theorem Pb(d:Def K mg "depth" (top 5) ["found"])(T:wX K C)(mx:mg "max"=none)(og:Ok P w K mg base bj 3 "growth" ["numbers","look"] L8):Ok P w K mg base bj 4 "depth" ["found"] (LA K C):=d.ok λf fd F=>by
 refine F.ok jt (by rintro vs H Q E ⟨a,rs,ts,rfl,_⟩;rfl) (λUT A outer s H vs Q E hr h=>?_);obtain⟨a,rs,ts,rfl,hS,hT,hg,hlen,q⟩:=h;refine⟨_,aj (aN (i:=1) jt.nd rfl (Or.inl rfl) (bE (aa aw ao))) (aj (aN (i:=2) jt.nd rfl (Or.inl rfl) aw) (aj (aN (i:=3) jt.nd rfl (Or.inl rfl) aw)
  (aj (rM PassesOwn.never rfl (qr (pv 0)) (fK (i:=4) jt.nd rfl (Or.inl rfl))
   (aj (iu (i:=2) jt.nd rfl (Or.inl rfl) (aM og hr (aa (pv 1) (aa (ay (pv 4) rfl) ao))) gA)
   (ai (aN (i:=3) jt.nd rfl (Or.inl rfl) (dX (vp rfl) (by rfl) mx boot_max (aa (pv 3) (aa (pv 2) ao)))))))
  (ai (aB (pv 3)))))),?_⟩
 refine⟨(by show 1<=sizeLine;decide),λnl hnl=>?_⟩;have s0:aF H (upd H nl (.lst [.int 0])):=λb o e=>by rw[ah (au e hnl)];exact e
 have hlr:rs.length=ts.length:=Paired.length hT;refine⟨_,rfl,a,rfl,⟨_,s0.seq hS⟩,yX (K:=K) (a:=a) (xs:=rs.map V.ref) (λi σ H'=>∃v4:Option V,σ=[some (.ref a),some (.ref nl),some (.int (dI (cS (ts.take i)).1)),some (.int ((cS (ts.take i)).2:Nat)),v4]/\
   H' nl=some (.lst (nv (cS (ts.take i)).1.reverse))/\aF H H')
  ⟨none,rfl,by rw[ag];rfl,s0⟩ (λi σ H' _ ⟨_,_,_,s1⟩=>s1.seq hS) ?_ ?_⟩
 ·rintro i y σ H' hi ⟨v4,rfl,hn,s1⟩;obtain⟨r,hr',rfl⟩:∃r,rs[i]?=some r/\y=V.ref r:=by
   rw[List.getElem?_map] at hi;cases e:rs[i]? with
   |none=>rw[e] at hi;cases hi
   |some z=>rw[e] at hi;exact⟨z,rfl,(Option.some.inj hi).symm⟩
  obtain⟨t,ht,dx,hat⟩:=jz hT hr';have hil:i<ts.length:=(List.getElem?_eq_some_iff.mp ht).1;have gt:Good t:=hg t (List.mem_of_getElem? ht);have gi:∀u∈ts.take i,Good u:=λu hu=>hg u (List.mem_of_mem_take hu);have hne:=Cu _ gi;have hln:=z7 i ts hg ↑2;refine⟨_,rfl,_,rfl,rV rfl (rf (s1 _ _ hat) T.cl T.nl (DA _ _ _ _) ⟨nl,_,_,rfl,hn,hne,↑2,λH2 h2 fr=>?_⟩)⟩;have e1:(cS (ts.take (i+1))).1=qk (eP (bN t)) (cS (ts.take i)).1:=by rw[take_snoc ht,mv,eS gt]
  have e2:(cS (ts.take (i+1))).2=max (cS (ts.take i)).2 (depthNow (cS (ts.take (i+1))).1):=by
   rw[e1,take_snoc ht,mv,eS gt]
  refine⟨_,_,rfl,rfl,_,rfl,_,rfl,_,_,rfl,?_⟩;refine⟨some (.ref r),?_,by rw[e1];exact h2,λb o hb=>fr b o (s1 b o hb) λz=>by rw[z,hnl] at hb;cases hb⟩;have v2:dI (cS (ts.take i)).1+(dI (qk (eP (bN t)) (cS (ts.take i)).1) - dI (cS (ts.take i)).1)=dI (cS (ts.take (i+1))).1:=by rw[e1];omega
  have v3:(if dI (cS (ts.take i)).1+(dI (qk (eP (bN t)) (cS (ts.take i)).1) - dI (cS (ts.take i)).1)>((cS (ts.take i)).2:Int) then dI (cS (ts.take i)).1+(dI (qk (eP (bN t)) (cS (ts.take i)).1) - dI (cS (ts.take i)).1) else((cS (ts.take i)).2:Int))=(((cS (ts.take (i+1))).2:Nat):Int):=by
   rw[v2,e2];unfold dI;split <;> omega
  rw[v3];show[some (V.ref a),some (V.ref nl),some (V.int (dI (cS (ts.take i)).1+(dI (qk (eP (bN t)) (cS (ts.take i)).1) - dI (cS (ts.take i)).1))),_,_]=_;rw[v2]
 ·rintro σ H' ⟨v4,rfl,_,s1⟩;refine⟨_,rfl,?_⟩;rw[List.length_map,hlr,List.take_length];exact q H' s1
end
section
open EwTree (isSmall isBig isDigit isSeen isWordByte isCodeByte isMarkByte)
theorem bt(a b:Int):decide (V.int a=V.int b)=decide (a=b):=by
 by_cases h:a=b
 ·subst h;simp
 ·simp[h]
theorem fJ(b:By):iv b=(b.map λ(c:UInt8)=>(c.toNat:Int)).map V.int:=by unfold iv;rw[List.map_map];rfl
theorem qM{b:By}:decide ((b.map λ(c:UInt8)=>(c.toNat:Int))=[])=decide (b=[]):=by cases b <;> simp
theorem rQ{b:By}{i j:Nat}(hj:j<=b.length)(hij:i<=j):gN (iv b) (some (i:Int)) (some (j:Int))=iv (cut b i j):=by unfold gN cut iv;rw[HT.k_,HT.k_,List.length_map,Nat.min_eq_left hj,Nat.min_eq_left ↑2,List.map_take,List.map_drop]
theorem Dl{b:By}{i:Nat}(hi:i<=b.length):gN (iv b) (some (i:Int)) none=iv (b.drop i):=by unfold gN iv;rw[HT.k_,HT.Jn,List.length_map,Nat.min_eq_left hi,List.take_of_length_le (by rw[List.length_drop,List.length_map];omega),List.map_drop]
structure va(P:Program)(w:World)(K:Frag)(mg:Str->Option Value)(base:Heap)(k:Nat)(nm:Str)(C:Addr)(ps:List Str)(sp:Sp):Prop where
 ex:∃(f:Addr)(fd:FuncData),Mk K C f/\bY P w K mg base bj k f fd ps sp/\Binds K fd ps []/\mg nm=some (.ref C)
structure wR(K:Frag)(mg:Str->Option Value)(nm qual:Str)(st:Stmt)(C:Addr)(ps:List Str):Prop where
 ex:∃(f:Addr)(fd:FuncData),Mk K C f/\jW K "__init__" qual st f fd/\Binds K fd ps []/\mg nm=some (.ref C)
theorem wR.new{P:Program}{w:World}{K:Frag}{mg:Str->Option Value}{base:Heap}{k:Nat}{nm qual:Str}{st:Stmt}{sp:Sp}(d:wR K mg nm qual st C ps)(h:∀f fd,jW K "__init__" qual st f fd->bY P w K mg base bj k f fd ps sp):
  va P w K mg base k nm C ps sp:=by
 obtain⟨f,fd,M,F,b,m⟩:=d.ex;exact⟨f,fd,M,h f fd F,b,m⟩
theorem eK{X:Cx}{k:Nat}{sp:Sp}{x:Str}{p pos:Pos}{e:Expr}{es:List Expr}{t:TA}(o:va X.prog X.w X.K X.mg X.base k x C ps sp)(hr:bB (k+1) X.A)(ha:PA X (e::es) t)(hg:Gl X x:=by rfl)(hdb:(x==("__debug__":Str))=false:=by decide)(he:starEach (e::es) X.env=(false,eval e X.env)::starEach es X.env:=by rfl)(hpl:(backTo pos (starEach es X.env)).any (·.1)=false:=by rfl):PE X (.Call (.Name x p) (e::es) [] pos) (uL C sp [] E0 t):=by obtain⟨f,fd,M,F,b,m⟩:=o.ex;exact La M F hr hg m b .nil g9 ha hdb he hpl
abbrev Hq:Stmt:=inClass (top 64) 0
inductive Gm(C:Addr)(vs:List V)(H:Hp)(Q:VK)(E:XK):Prop
 |mk(p dx:Addr) (kd:Int) (lk:Str) (st en:Int) (_:vs=[.ref p,.int kd,.str lk,.int st,.int en]) (_:H p=some (.ins C dx [])) (_:∀H',H' p=some (.ins C dx (tf kd lk st en))->FA p H H'->Q .bF H')
theorem OH:ax ["self","kind","look","start","end"] ["self","kind","look","start","end"] (aq Hq):=↑3
theorem Uj{p:Addr}{o1 o2 o3 o4:HO}:FA p H (upd (upd (upd (upd H p o1) p o2) p o3) p o4):=λb o hb hp=>by
 rw[ah hp,ah hp,ah hp,ah hp];exact hb
theorem KR(d:wR K mg "Token" "Token.__init__" Hq C ["self","kind","look","start","end"])(T:wX K C):va P w K mg base 1 "Token" C ["self","kind","look","start","end"] (Gm C):=d.new λf fd F=>by
 refine F.ok OH (by rintro vs H Q E ⟨p,dx,kd,lk,st,en,rfl,_⟩;rfl) (λUT A outer s H vs Q E hr h=>?_);obtain⟨p,dx,kd,lk,st,en,rfl,h1,k⟩:=h;refine⟨_,aj (bD (pv 0) (pv 1) rfl) (aj (bD (pv 0) (pv 2) rfl) (aj (bD (pv 0) (pv 3) rfl) (ai (bD (pv 0) (pv 4) rfl)))),?_⟩;refine⟨_,rfl,_,rfl,p,C,dx,[],rfl,h1,T.cl,T.nk,(by show 0<1000;decide),_,rfl,_,rfl,p,C,dx,_,rfl,ag,T.cl,T.nl,Nat.lt_of_le_of_lt (aG _ _ _) (by show 1<1000;decide),
  _,rfl,_,rfl,p,C,dx,_,rfl,ag,T.cl,T.ns,Nat.lt_of_le_of_lt (aG _ _ _) (Nat.lt_of_le_of_lt (Nat.succ_le_succ (aG _ _ _)) (by show 2<1000;decide)),
  _,rfl,_,rfl,p,C,dx,_,rfl,ag,T.cl,T.ne,Nat.lt_of_le_of_lt (aG _ _ _) (Nat.lt_of_le_of_lt (Nat.succ_le_succ (aG _ _ _)) (Nat.lt_of_le_of_lt (Nat.succ_le_succ (Nat.succ_le_succ (aG _ _ _))) (by show 3<1000;decide))),?_⟩
 exact k _ ag Uj
abbrev Iw:Stmt:=inClass (top 29) 0
abbrev Gr:Stmt:=inClass (top 29) 1
def nf(d f e m:Addr):List (Str×V):=aV "mark" (.ref m) (aV "exponent" (.ref e) (aV "fraction" (.ref f) (aV "digits" (.ref d) [])))
theorem je(d f e m:Addr):(nf d f e m).lookup ("digits":Str)=some (.ref d):=by unfold nf;rw[az,if_neg ↑1,az,if_neg ↑1,az,if_neg ↑1,az,if_pos rfl]
theorem oU(d f e m:Addr):(nf d f e m).lookup ("fraction":Str)=some (.ref f):=by unfold nf;rw[az,if_neg ↑1,az,if_neg ↑1,az,if_pos rfl]
theorem fF(d f e m:Addr):(nf d f e m).lookup ("exponent":Str)=some (.ref e):=by unfold nf;rw[az,if_neg ↑1,az,if_pos rfl]
theorem qy(d f e m:Addr):(nf d f e m).lookup ("mark":Str)=some (.ref m):=by unfold nf;rw[az,if_pos rfl]
theorem Cy(d f e m:Addr):(nf d f e m).lookup ("size":Str)=none:=by unfold nf;rw[az,if_neg ↑1,az,if_neg ↑1,az,if_neg ↑1,az,if_neg ↑1];rfl
structure E8(K:Frag)(C:Addr):Prop where
 cl:rY K C
 nd:aE K C "digits"
 nf:aE K C "fraction"
 ne:aE K C "exponent"
 nm:aE K C "mark"
inductive Bc(C:Addr)(vs:List V)(H:Hp)(Q:VK)(E:XK):Prop
 |mk(p dx d f e m:Addr) (_:vs=[.ref p,.ref d,.ref f,.ref e,.ref m]) (_:H p=some (.ins C dx [])) (_:∀H',H' p=some (.ins C dx (nf d f e m))->FA p H H'->Q .bF H')
theorem KU:ax ["self","digits","fraction","exponent","mark"] ["self","digits","fraction","exponent","mark"] (aq Iw):=↑3
theorem K1(d:wR K mg "Numeral" "Numeral.__init__" Iw C ["self","digits","fraction","exponent","mark"])(T:E8 K C):va P w K mg base 1 "Numeral" C ["self","digits","fraction","exponent","mark"] (Bc C):=d.new λf fd F=>by
 refine F.ok KU (by rintro vs H Q E ⟨p,dx,d,f,e,m,rfl,_⟩;rfl) (λUT A outer s H vs Q E hr h=>?_);obtain⟨p,dx,d,f,e,m,rfl,h1,k⟩:=h;refine⟨_,aj (bD (pv 0) (pv 1) rfl) (aj (bD (pv 0) (pv 2) rfl) (aj (bD (pv 0) (pv 3) rfl) (ai (bD (pv 0) (pv 4) rfl)))),?_⟩;refine⟨_,rfl,_,rfl,p,C,dx,[],rfl,h1,T.cl,T.nd,(by show 0<1000;decide),_,rfl,_,rfl,p,C,dx,_,rfl,ag,T.cl,T.nf,Nat.lt_of_le_of_lt (aG _ _ _) (by show 1<1000;decide),
  _,rfl,_,rfl,p,C,dx,_,rfl,ag,T.cl,T.ne,Nat.lt_of_le_of_lt (aG _ _ _) (Nat.lt_of_le_of_lt (Nat.succ_le_succ (aG _ _ _)) (by show 2<1000;decide)),
  _,rfl,_,rfl,p,C,dx,_,rfl,ag,T.cl,T.nm,Nat.lt_of_le_of_lt (aG _ _ _) (Nat.lt_of_le_of_lt (Nat.succ_le_succ (aG _ _ _)) (Nat.lt_of_le_of_lt (Nat.succ_le_succ (Nat.succ_le_succ (aG _ _ _))) (by show 3<1000;decide))),?_⟩
 exact k _ ag Uj
inductive tF(C:Addr)(H:Hp)(r:Addr)(d f e m:By):Prop
 |mk(dx:_) (ad:_) (af:_) (ae:_) (am:_) (_:H r=some (.ins C dx (nf ad af ae am))) (_:H ad=some (.lst (iv d))) (_:H af=some (.lst (iv f))) (_:H ae=some (.lst (iv e))) (_:H am=some (.lst (iv m)))
theorem tF.same{H':Hp}{r:Addr}{d f e m:By}(s:aF H H')(h:tF C H r d f e m):tF C H' r d f e m:=by obtain⟨dx,ad,af,ae,am,h1,h2,h3,h4,h5⟩:=h;exact⟨dx,ad,af,ae,am,s _ _ h1,s _ _ h2,s _ _ h3,s _ _ h4,s _ _ h5⟩
structure jb(P:Program)(w:World)(K:Frag)(mg:Str->Option Value)(base:Heap)(k:Nat)(C:Addr)(m:Str)(ps:List Str)(sp:Sp):Prop where
 ex:∃(f:Addr)(fd:FuncData),Meth K C m f/\bY P w K mg base bj k f fd ps sp/\Binds K fd ps []
structure dm(K:Frag)(C:Addr)(m qual:Str)(st:Stmt)(ps:List Str):Prop where
 ex:∃(f:Addr)(fd:FuncData),Meth K C m f/\jW K m qual st f fd/\Binds K fd ps []
inductive vJ(C:Addr)(vs:List V)(H:Hp)(Q:VK)(E:XK):Prop
 |mk(r:Addr) (d f e m:By) (_:vs=[.ref r]) (_:tF C H r d f e m) (_:Q (.int ((d.length+f.length+e.length+m.length:Nat):Int)) H)
theorem Ku:ax ["self"] ["self"] (aq Gr):=↑3
theorem Ka(d:dm K C "size" "Numeral.size" Gr ["self"])(T:E8 K C)(ln:mg "len"=none):jb P w K mg base 1 C "size" ["self"] (vJ C):=by
 obtain⟨f,fd,M,F,b⟩:=d.ex;refine⟨f,fd,M,F.ok Ku (by rintro vs H Q E ⟨r,d,f,e,m,rfl,_⟩;rfl) (λUT A outer s H vs Q E hr h=>?_),b⟩;obtain⟨r,d,f,e,m,rfl,⟨dx,ad,af,ae,am,h1,h2,h3,h4,h5⟩,k⟩:=h;refine⟨_,ai (aB (bz cD (bz cD (bz cD (bA ln (ay (pv 0) rfl)) (bA ln (ay (pv 0) rfl))) (bA ln (ay (pv 0) rfl))) (bA ln (ay (pv 0) rfl)))),?_⟩;refine⟨_,rfl,r,C,dx,_,_,rfl,h1,T.cl,T.nd,je _ _ _ _,ad,_,rfl,.inl (bh.of h2),_,rfl,r,C,dx,_,_,rfl,h1,T.cl,T.nf,oU _ _ _ _,af,_,rfl,.inl (bh.of h3),_,_,rfl,rfl,
  _,rfl,r,C,dx,_,_,rfl,h1,T.cl,T.ne,fF _ _ _ _,ae,_,rfl,.inl (bh.of h4),_,_,rfl,rfl,_,rfl,r,C,dx,_,_,rfl,h1,T.cl,T.nm,qy _ _ _ _,am,_,rfl,.inl (bh.of h5),_,_,rfl,rfl,?_⟩
 rw[a_,a_,a_,a_];exact k
inductive K7(K:Frag)(g:By->Nat->Nat)(vs:List V)(H:Hp)(Q:VK)(E:XK):Prop
 |mk(a:Addr) (b:By) (q:Nat) (_:vs=[.ref a,.int q]) (_:bh K H a (iv b)) (_:q<=b.length) (_:Q (.int ((g b q:Nat):Int)) H)
theorem Lk:ax ["text","place"] ["text","place"] (aq (top 31)):=↑3
theorem Kr(d:Def K mg "end_of_fraction" (top 31) ["text","place"])(gp:GI mg "POINT" 46)(ob:Ok P w K mg base bj 1 "byte_at" ["text","place"] (iw K))(od:Ok P w K mg base bj 1 "is_digit" ["byte"] (i_ b_))(orn:Ok P w K mg base bj 4 "run_end" ["text","place","fits"] (lh P w K mg base)):Ok P w K mg base bj 5 "end_of_fraction" ["text","place"] (K7 K aO):=d.ok λf fd F=>by
 refine F.ok Lk (by rintro vs H Q E ⟨a,b,q,rfl,_⟩;rfl) (λUT A outer s H vs Q E hr h=>?_);obtain⟨a,b,q,rfl,hS,hq,k⟩:=h;obtain⟨fdg,mdg,fits⟩:=fits_of od ↑0 fC;refine⟨_,aj (aR (nI (aD cU (aM ob (hr.mono ↑0) (aa (pv 0) (aa (pv 1) ao))) (cx gp) (aK _))
   (ja (da (aM od (hr.mono ↑0) (aa (aM ob (hr.mono ↑0) (aa (pv 0) (aa (bz cD (pv 1) aw) ao))) ao))))).pt
   (ai (aB (aM orn hr (aa (pv 0) (aa (bz cD (pv 1) aw) (aa (fQ mdg) ao)))))) aL) (ai (aB (pv 1))),?_⟩
 refine⟨_,rfl,_,rfl,a,b,q,rfl,hS,rfl,_,rfl,?_⟩;rw[bt];refine aT (λz1=>?_) λz1=>?_
 ·have z1:=of_decide_eq_true z1;refine⟨_,rfl,_,rfl,_,_,rfl,rfl,a,b,q+1,rfl,hS,_,rfl,_,rfl,aT (λz2=>?_) λz2=>?_⟩
  ·have e:aO b q=aJ isDigit b (q+1):=by unfold aO;rw[if_pos ⟨z1,z2⟩]
   rw[e] at k;obtain⟨c,hc,_⟩:=dy.mp z2;have:=(List.getElem?_eq_some_iff.mp hc).1;exact⟨_,rfl,_,rfl,_,_,rfl,rfl,a,b,q+1,fdg,isDigit,rfl,hS,↑2,fits,k⟩
  ·have e:aO b q=q:=by unfold aO;rw[if_neg λz=>z2 z.2]
   rw[e] at k;exact⟨_,rfl,k⟩
 ·have z1:¬cQ b q=46:=λz=>z1 (decide_eq_true z);have e:aO b q=q:=by unfold aO;rw[if_neg λz=>z1 z.1]
  rw[e] at k;exact dD ⟨_,rfl,k⟩
theorem Br:ax ["text","place","digits"] ["text","place"] (aq (top 32)):=↑3
theorem Ni(d:Def K mg "end_of_exponent" (top 32) ["text","place"])(ge:GI mg "SMALL_E" 101)(gm:GI mg "MINUS" 45)(ob:Ok P w K mg base bj 1 "byte_at" ["text","place"] (iw K))(od:Ok P w K mg base bj 1 "is_digit" ["byte"] (i_ b_))(orn:Ok P w K mg base bj 4 "run_end" ["text","place","fits"] (lh P w K mg base)):Ok P w K mg base bj 5 "end_of_exponent" ["text","place"] (K7 K aQ):=d.ok λf fd F=>by
 refine F.ok Br (by rintro vs H Q E ⟨a,b,q,rfl,_⟩;rfl) (λUT A outer s H vs Q E hr h=>?_);obtain⟨a,b,q,rfl,hS,hq,k⟩:=h;obtain⟨fdg,mdg,fits⟩:=fits_of od ↑0 fC;refine⟨_,aj (aR (aD Lw (aM ob (hr.mono ↑0) (aa (pv 0) (aa (pv 1) ao))) (cx ge) (aK _)) (ai (aB (pv 1))) aL)
  (aj (aN (i:=2) Br.nd rfl (Or.inl rfl) (bz cD (pv 1) aw))
  (aj (aR (aD cU (aM ob (hr.mono ↑0) (aa (pv 0) (aa (pv 2) ao))) (cx gm) (aK _)) (ai (iu (i:=2) Br.nd rfl (Or.inl rfl) aw gA)) aL)
  (aj (aR (da (aM od (hr.mono ↑0) (aa (aM ob (hr.mono ↑0) (aa (pv 0) (aa (pv 2) ao))) ao)))
   (ai (aB (aM orn hr (aa (pv 0) (aa (pv 2) (aa (fQ mdg) ao)))))) aL)
  (ai (aB (pv 1)))))),?_⟩
 refine⟨_,rfl,_,rfl,a,b,q,rfl,hS,rfl,_,rfl,?_⟩;rw[bt];refine aT (λz1=>?_) λz1=>?_
 ·have z1:¬cQ b q=101:=λz=>by rw[decide_eq_true z] at z1;cases z1
  have e:aQ b q=q:=by unfold aQ;rw[if_neg z1]
  rw[e] at k;exact⟨_,rfl,k⟩
 ·have z1:cQ b q=101:=by
   by_cases z:cQ b q=101
   ·exact z
   ·rw[decide_eq_false z] at z1;exact absurd rfl z1
  refine⟨_,rfl,_,_,rfl,rfl,?_⟩;have tail:∀(j:Nat),j=gO b q->BU (Hk (tB (ik (i_ b_) [] E0 (bQ (ik (iw K) [] E0 (bQ (df 0) (bQ (df 2) d8))) d8))) (p8 (ik (lh P w K mg base) [] E0 (bQ (df 0) (bQ (df 2) (bQ (tC (.ref fdg)) d8))))) zG) (p8 (df 1))
    {nx:=λ_ H'=>Q .bF H',rt:=Q} [some (.ref a),some (.int (q:Int)),some (.int (j:Int))] H:=by
   intro j hj;refine⟨_,rfl,_,rfl,a,b,j,rfl,hS,_,rfl,_,rfl,aT (λz2=>?_) λz2=>?_⟩
   ·have e:aQ b q=aJ isDigit b j:=by unfold aQ;rw[if_pos z1,<-hj,if_pos z2]
    rw[e] at k;obtain⟨c,hc,_⟩:=dy.mp z2;have:=(List.getElem?_eq_some_iff.mp hc).1;exact⟨_,rfl,_,rfl,a,b,j,fdg,isDigit,rfl,hS,↑2,fits,k⟩
   ·have e:aQ b q=q:=by unfold aQ;rw[if_pos z1,<-hj,if_neg z2]
    rw[e] at k;exact⟨_,rfl,k⟩
  refine⟨_,rfl,_,rfl,a,b,q+1,rfl,hS,rfl,_,rfl,?_⟩;rw[bt];refine aT (λz2=>?_) λz2=>?_
  ·have z2:=of_decide_eq_true z2;exact⟨_,rfl,_,_,rfl,rfl,tail (q+2) (by unfold gO;rw[if_pos z2])⟩
  ·have z2:¬cQ b (q+1)=45:=λz=>z2 (decide_eq_true z);exact tail (q+1) (by unfold gO;rw[if_neg z2])
def EF(b:By)(p:Nat):Nat:=aJ isDigit b p
def CZ(b:By)(p:Nat):Nat:=aO b (EF b p)
def Ia(b:By)(p:Nat):Nat:=aQ b (CZ b p)
def Ow(b:By)(p:Nat):Nat:=aJ isMarkByte b (Ia b p)
inductive LM(K:Frag)(C:Addr)(vs:List V)(H:Hp)(Q:VK)(E:XK):Prop
 |mk(a:Addr) (b:By) (p:Nat) (_:vs=[.ref a,.int p]) (_:bh K H a (iv b)) (_:p<=b.length) (_:∀(H':Hp)(r:Addr),aF H H'->tF C H' r (cut b p (EF b p)) (cut b (EF b p) (CZ b p)) (cut b (CZ b p) (Ia b p)) (cut b (Ia b p) (Ow b p))->Q (.ref r) H')
theorem tR:ax ["text","place","digits_end","fraction_end","exponent_end","mark_end"] ["text","place"] (aq (top 30)):=↑3
theorem aC{p:Addr}{o:HO}(h:H p=none):aF H (upd H p o):=λb u e=>by rw[ah (au e h)];exact e
theorem OU(d:Def K mg "numeral_at" (top 30) ["text","place"])(od:Ok P w K mg base bj 1 "is_digit" ["byte"] (i_ b_))(om:Ok P w K mg base bj 3 "in_mark" ["byte"] (i_ o8))(orn:Ok P w K mg base bj 4 "run_end" ["text","place","fits"] (lh P w K mg base))(ofr:Ok P w K mg base bj 5 "end_of_fraction" ["text","place"] (K7 K aO))(oex:Ok P w K mg base bj 5 "end_of_exponent" ["text","place"] (K7 K aQ))(nw:va P w K mg base 1 "Numeral" C ["self","digits","fraction","exponent","mark"] (Bc C)):Ok P w K mg base bj 6 "numeral_at" ["text","place"] (LM K C):=d.ok λf fd F=>by
 refine F.ok tR (by rintro vs H Q E ⟨a,b,p,rfl,_⟩;rfl) (λUT A outer s H vs Q E hr h=>?_);obtain⟨a,b,p,rfl,hS,hp,k⟩:=h;obtain⟨fdg,mdg,fits⟩:=fits_of od ↑0 fC;obtain⟨fmk,mmk,fitm⟩:=fits_of om ↑0 Ke;have l1:EF b p<=b.length:=dH _ hp;have g1:p<=EF b p:=bV _ _ _;obtain⟨_,_,g2,l2⟩:=vH b (EF b p);have l2:=l2 l1;obtain⟨_,_,g3,l3,_⟩:=BZ b (CZ b p);have l3:=l3 l2;have l4:Ow b p<=b.length:=dH _ l3;have g4:Ia b p<=Ow b p:=bV _ _ _;refine⟨_,aj (aN (i:=2) tR.nd rfl (Or.inl rfl) (aM orn (hr.mono ↑0) (aa (pv 0) (aa (pv 1) (aa (fQ mdg) ao)))))
  (aj (aN (i:=3) tR.nd rfl (Or.inl rfl) (aM ofr hr (aa (pv 0) (aa (pv 2) ao))))
  (aj (aN (i:=4) tR.nd rfl (Or.inl rfl) (aM oex hr (aa (pv 0) (aa (pv 3) ao))))
  (aj (aN (i:=5) tR.nd rfl (Or.inl rfl) (aM orn (hr.mono ↑0) (aa (pv 0) (aa (pv 4) (aa (fQ mmk) ao)))))
  (ai (aB (eK nw (hr.mono ↑0) (aa (dR eU (pv 0) (bT (pv 1)) (bT (pv 2))) (aa (dR eU (pv 0) (bT (pv 2)) (bT (pv 3)))
   (aa (dR eU (pv 0) (bT (pv 3)) (bT (pv 4))) (aa (dR eU (pv 0) (bT (pv 4)) (bT (pv 5))) ao)))))))))),?_⟩
 refine⟨_,rfl,_,rfl,a,b,p,fdg,isDigit,rfl,hS,hp,fits,?_⟩;refine⟨_,rfl,_,rfl,a,b,EF b p,rfl,hS,l1,?_⟩;refine⟨_,rfl,_,rfl,a,b,CZ b p,rfl,hS,l2,?_⟩;refine⟨_,rfl,_,rfl,a,b,Ia b p,fmk,isMarkByte,rfl,hS,l3,fitm,?_⟩;refine⟨_,rfl,_,rfl,_,rfl,_,rfl,_,rfl,a,_,rfl,hS,λp1 n1=>?_⟩;have s1:=aC (o:=.lst (gN (iv b) (some (p:Int)) (some (EF b p:Int)))) n1;refine⟨_,rfl,_,rfl,_,rfl,_,rfl,_,rfl,a,_,rfl,s1.seq hS,λp2 n2=>?_⟩;have s2:=aC (o:=.lst (gN (iv b) (some (EF b p:Int)) (some (CZ b p:Int)))) n2;refine⟨_,rfl,_,rfl,_,rfl,_,rfl,_,rfl,a,_,rfl,s2.seq (s1.seq hS),λp3 n3=>?_⟩;have s3:=aC (o:=.lst (gN (iv b) (some (CZ b p:Int)) (some (Ia b p:Int)))) n3;refine⟨_,rfl,_,rfl,_,rfl,_,rfl,_,rfl,a,_,rfl,s3.seq (s2.seq (s1.seq hS)),λp4 n4=>?_⟩;have s4:=aC (o:=.lst (gN (iv b) (some (Ia b p:Int)) (some (Ow b p:Int)))) n4;intro x dx nx nd ne;refine⟨x,dx,p1,p2,p3,p4,rfl,ag,λH' h' fr=>⟨rfl,?_⟩⟩;have s5:=aF.made nx nd fr;refine k H' x ((((s1.trans s2).trans s3).trans s4).trans s5) ⟨dx,p1,p2,p3,p4,h',?_,?_,?_,?_⟩
 ·exact s5 _ _ (s4 _ _ (s3 _ _ (s2 _ _ (ag.trans (congrArg (λz=>some (HO.lst z)) (rQ l1 g1))))))
 ·exact s5 _ _ (s4 _ _ (s3 _ _ (ag.trans (congrArg (λz=>some (HO.lst z)) (rQ l2 g2)))))
 ·exact s5 _ _ (s4 _ _ (ag.trans (congrArg (λz=>some (HO.lst z)) (rQ l3 g3))))
 ·exact s5 _ _ (ag.trans (congrArg (λz=>some (HO.lst z)) (rQ l4 g4)))
def Px:List Int:=[109,120,100,115,104,105,112]
theorem qu(x:Int):∀(l:List Int),Dq (.int x) (l.map V.int)=decide (x∈l)
 |[]=>rfl
 |y::l=>by
  have ih:=qu x l;unfold Dq at ih ⊢;rw[List.map_cons,List.any_cons,ih];by_cases h:y=x
  ·subst h;simp[Eo]
  ·have h':¬x=y:=λz=>h z.symm;simp[Eo,h,h']
theorem zh:∀(l:List Int),(l.map V.int).all iQ=true
 |[]=>rfl
 |y::l=>by rw[List.map_cons,List.all_cons,zh l];rfl
theorem Mz(c:UInt8):decide ((c.toNat:Int)∈Px)=MK.contains c:=by
 have h:∀(n:Nat)(m:UInt8),m.toNat=n->(((c.toNat:Int)=(n:Int))↔c=m):=λn m hm=>⟨λz=>jh.mpr ↑2,λz=>by rw[z];omega⟩
 have e:(c.toNat:Int)∈Px↔c∈MK:=by
  unfold Px MK;simp only[List.mem_cons,List.not_mem_nil,or_false];rw[<-h 109 109 rfl,<-h 120 120 rfl,<-h 100 100 rfl,<-h 115 115 rfl,<-h 104 104 rfl,<-h 105 105 rfl,<-h 112 112 rfl];exact Iff.rfl
 by_cases z:c∈MK
 ·rw[decide_eq_true (e.mpr z),List.contains_iff_mem.mpr z]
 ·rw[decide_eq_false (λy=>z (e.mp y))];cases q:MK.contains c with
  |false=>rfl
  |true=>exact absurd (List.contains_iff_mem.mp q) z
theorem i9{P:Program}{X:Cx}{k:Nat}{m:Str}{sp:Sp}{o:Expr}{ta:TE}{apos pos:Pos}{pl:Sem Bool}(h:jb X.prog X.w X.K X.mg X.base k C m ps sp)(cl:rY X.K C)(hr:bB k X.A)(he:PE X o ta)(ht:eval (.Call (.Attribute o m apos) [] [] pos) X.env=(do
   let ov<-eval o X.env
   standAt apos.atName
   let(f,first)<-holding [ov] (getMethod ov m pl)
   callWith pos f first (backTo pos (starEach [] X.env)) (backToKw pos (keywordEach [] X.env))):=by rfl):PE X (.Call (.Attribute o m apos) [] [] pos) (Ai C m sp [] E0 ta d8):=by
 obtain⟨f,fd,M,F,b⟩:=h.ex;exact FW he cl M F hr b .nil g9 ht
inductive Co(K:Frag)(vs:List V)(H:Hp)(Q:VK)(E:XK):Prop
 |mk(a:Addr) (m:By) (_:vs=[.ref a]) (_:bh K H a (iv m)) (_:∀H',aF H H'->Q (.bl (oW m)) H')
theorem Ot:ax ["mark"] ["mark"] (aq (top 34)):=↑3
theorem Nr(d:Def K mg "mark_is_right" (top 34) ["mark"])(gm:GT K mg "MARKS" (Px.map V.int))(ln:mg "len"=none):Ok P w K mg base bj 1 "mark_is_right" ["mark"] (Co K):=d.ok λf fd F=>by
 refine F.ok Ot (by rintro vs H Q E ⟨a,m,rfl,_⟩;rfl) (λUT A outer s H vs Q E hr h=>?_);obtain⟨a,m,rfl,hS,k⟩:=h;obtain⟨am,mm,tm⟩:=gm;refine⟨_,ai (aB (yE (dU (oo hr.units) (pv 0) (bE ao) (aK _)) (gU (rp (dU cU (bA ln (pv 0)) aw (aK _))
  (gU (dU eY (bx aW (pv 0) aw (λ_ _=>rfl)) (fQ mm) (by with_unfolding_all rfl))))))),?_⟩
 refine⟨_,rfl,Nat.zero_le _,λe he=>?_⟩;have s1:=aC (o:=.lst []) he;refine⟨a,e,_,[],rfl,rfl,by rw[<-fJ];exact s1.seq hS,bh.of ag,_,rfl,?_⟩;rw[qM];refine aT (λz1=>?_) λz1=>?_
 ·have q:=k _ s1;unfold oW at q;rw[z1] at q;exact q
 ·rw[Bool.not_eq_true] at z1;refine⟨_,rfl,a,_,rfl,.inl (s1.seq hS),rfl,_,rfl,?_⟩;rw[bt,a_];have q:=k _ s1;refine aT (λz2=>?_) λz2=>?_
  ·have z2:=of_decide_eq_true z2;obtain⟨c,rfl⟩:∃c,m=[c]:=by
    match m,z2 with
    |[c],_=>exact⟨c,rfl⟩
    |[],z=>simp at z
    |_::_::_,z=>simp at z;omega
   refine⟨_,rfl,a,_,_,_,rfl,rfl,s1.seq hS,dG (p:=0) (c:=c) rfl,am,_,rfl,.inr (tm _),rfl,zh _,?_⟩;rw[qu,Mz];exact q
  ·have z2:¬m.length=1:=λz=>z2 (decide_eq_true ↑2);unfold oW at q;rw[z1,decide_eq_false z2] at q;exact q
inductive Cf(C:Addr)(g:By->By->By->By->Bool)(vs:List V)(H:Hp)(Q:VK)(E:XK):Prop
 |mk(r:Addr) (d f e m:By) (_:vs=[.ref r]) (_:tF C H r d f e m) (_:∀H',aF H H'->Q (.bl (g d f e m)) H')
theorem HN:ax ["numeral","alone"] ["numeral"] (aq (top 35)):=↑3
theorem OI(d:Def K mg "packed_is_right" (top 35) ["numeral"])(T:E8 K C)(g:GI mg "MOST_PACKED_DIGITS" 31)(ln:mg "len"=none):Ok P w K mg base bj 1 "packed_is_right" ["numeral"] (Cf C λd f e _=>ir d f e):=d.ok λf fd F=>by
 refine F.ok HN (by rintro vs H Q E ⟨r,d,f,e,m,rfl,_⟩;rfl) (λUT A outer s H vs Q E hr h=>?_);obtain⟨r,d,f,e,m,rfl,hN,k⟩:=h;obtain⟨dx,ad,af,ae,am,h1,h2,h3,h4,h5⟩:=id hN;refine⟨_,aj (aN (i:=1) HN.nd rfl (Or.inl rfl) (rp (dU (oo hr.units) (ay (pv 0) rfl) (bE ao) (aK _)) (gU (dU (oo hr.units) (ay (pv 0) rfl) (bE ao) (aK _)))))
  (ai (aB (rp (pv 1) (gU (dU gZ (bA ln (ay (pv 0) rfl)) (cx g) (aK _)))))),?_⟩
 refine rV rfl (rf h1 T.cl T.nf (oU _ _ _ _) ⟨Nat.zero_le _,λe1 he1=>?_⟩);have s1:=aC (o:=.lst []) he1;refine⟨af,e1,_,[],rfl,rfl,bh.of (by rw[<-fJ];exact s1 _ _ h3),bh.of ag,_,rfl,?_⟩;rw[qM];have fin:∀(c:Bool)(H2:Hp),aF H H2->ir d f e=(c&&decide (d.length<=31))->
   p8 (Dx (df 1) (AD (DP λi j=>.bl (decide (i<=j))) (Ma (yM K) (bQ (A0 K (df 0) "digits") d8)) (tC (.int 31))))
    {nx:=λ_ H'=>Q .bF H',rt:=Q} [some (.ref r),some (.bl c)] H2:=by
  intro c H2 s2 e2;refine⟨_,rfl,_,rfl,aT (λz=>?_) λz=>?_⟩
  ·refine rV rfl (rf (s2 _ _ h1) T.cl T.nd (je _ _ _ _) ⟨ad,_,rfl,.inl (bh.of (s2 _ _ h2)),_,_,rfl,rfl,?_⟩);have q:Q (.bl (ir d f e)) H2:=k _ s2;have e3:decide (((iv d).length:Int)<=31)=decide (d.length<=31):=by
    rw[a_];by_cases y:d.length<=31
    ·rw[decide_eq_true y];exact decide_eq_true ↑2
    ·rw[decide_eq_false y];exact decide_eq_false ↑2
   show Q (.bl (decide (((iv d).length:Int)<=31))) _;rw[e3];rw[e2,z,Bool.true_and] at q;exact q
  ·have q:Q (.bl (ir d f e)) H2:=k _ s2;rw[Bool.not_eq_true] at z;rw[e2,z] at q;exact q
 refine aT (λz1=>?_) λz1=>?_
 ·refine rV rfl (rf (s1 _ _ h1) T.cl T.ne (fF _ _ _ _) ⟨Nat.zero_le _,λe2 he2=>?_⟩);have s2:=aC (o:=.lst []) he2;refine⟨ae,e2,_,[],rfl,rfl,bh.of (by rw[<-fJ];exact s2 _ _ (s1 _ _ h4)),bh.of ag,?_⟩;rw[qM];refine fin _ _ (s1.trans s2) ?_;unfold ir;rw[z1,Bool.true_and]
 ·rw[Bool.not_eq_true] at z1;refine fin _ _ s1 ?_;unfold ir;rw[z1];rfl
inductive wm(K:Frag)(vs:List V)(H:Hp)(Q:VK)(E:XK):Prop
 |mk(a:Addr) (e:By) (_:vs=[.ref a]) (_:bh K H a (iv e)) (_:1<e.length) (_:(∃x,(cG e)[0]?=some x)) (_:∀H',aF H H'->Q (.bl (E9 e)) H')
theorem AR:ax ["exponent","negative","digits"] ["exponent"] (aq (top 36)):=↑3
theorem OB(d:Def K mg "exponent_is_right" (top 36) ["exponent"])(gm:GI mg "MINUS" 45)(gz:GI mg "ZERO" 48)(gx:GI mg "MOST_EXPONENT_DIGITS" 5)(ln:mg "len"=none):Ok P w K mg base bj 1 "exponent_is_right" ["exponent"] (wm K):=d.ok λf fd F=>by
 refine F.ok AR (by rintro vs H Q E ⟨a,e,rfl,_⟩;rfl) (λUT A outer s H vs Q E hr h=>?_);obtain⟨a,e,rfl,hS,hl,⟨x,hx⟩,k⟩:=h;refine⟨_,aj (aN (i:=1) AR.nd rfl (Or.inl rfl) (dU cU (bx aW (pv 0) aw (λ_ _=>rfl)) (cx gm) (aK _)))
  (aj (aN (i:=2) AR.nd rfl (Or.inl rfl) (rG (da (pv 1)) (dR eU (pv 0) (bT aw) Dm) (dR eU (pv 0) (bT aw) Dm)))
  (aj (aR (aD cU (bx aW (pv 2) aw (λ_ _=>rfl)) (cx gz) (aK _)) (ai (aB (rp (dU cU (bA ln (pv 2)) aw (aK _)) (gU (Nw (pv 1)))))) aL)
  (ai (aB (dU gZ (bA ln (pv 2)) (cx gx) (aK _)))))),?_⟩
 have g1:e[1]?=some e[1]:=List.getElem?_eq_getElem hl;refine⟨_,rfl,a,_,_,_,rfl,rfl,hS,dG (p:=1) g1,rfl,?_⟩;rw[bt,<-cn g1];have hneg:decide (cQ e 1=45)=isNeg e:=rfl;rw[hneg];have fin:∀(p:Addr),H p=none->BU (Hk (rK (AD Sq (AD (KS K) (df 2) (tC (.int 0))) (tC (.int 48)))) (p8 (Dx (AD Sq (Ma (yM K) (bQ (df 2) d8)) (tC (.int 1))) (LP (df 1)))) zG)
   (p8 (AD (DP λi j=>.bl (decide (i<=j))) (Ma (yM K) (bQ (df 2) d8)) (tC (.int 5))))
   {nx:=λ_ H'=>Q .bF H',rt:=Q} [some (.ref a),some (.bl (isNeg e)),some (.ref p)] (upd H p (.lst (iv (cG e)))):=by
  intro p hp;have s1:=aC (o:=.lst (iv (cG e))) hp;have hD:bh K (upd H p (.lst (iv (cG e)))) p (iv (cG e)):=bh.of ag;have q:=k _ s1;unfold E9 at q;refine⟨_,rfl,p,_,_,_,rfl,rfl,hD,dG (p:=0) hx,rfl,_,rfl,?_⟩;rw[bt,<-cn hx];refine aT (λz1=>?_) λz1=>?_
  ·have z1:=of_decide_eq_true z1;rw[if_pos z1] at q;refine⟨_,rfl,p,_,rfl,.inl hD,rfl,_,rfl,?_⟩;rw[bt,a_];have e1:decide (((cG e).length:Int)=1)=decide ((cG e).length=1):=by
    by_cases y:(cG e).length=1
    ·rw[decide_eq_true y];exact decide_eq_true ↑2
    ·rw[decide_eq_false y];exact decide_eq_false ↑2
   rw[e1];refine aT (λz2=>?_) λz2=>?_
   ·rw[z2,Bool.true_and] at q;exact⟨_,rfl,_,rfl,q⟩
   ·rw[Bool.not_eq_true] at z2;rw[z2] at q;exact q
  ·have z1:¬cQ (cG e) 0=48:=λz=>z1 (decide_eq_true z);rw[if_neg z1] at q;refine⟨_,rfl,p,_,rfl,.inl hD,_,_,rfl,rfl,?_⟩;have e1:decide (((iv (cG e)).length:Int)<=5)=decide ((cG e).length<=5):=by
    rw[a_];by_cases y:(cG e).length<=5
    ·rw[decide_eq_true y];exact decide_eq_true ↑2
    ·rw[decide_eq_false y];exact decide_eq_false ↑2
   show Q (.bl (decide (((iv (cG e)).length:Int)<=5))) _;rw[e1];exact q
 refine⟨_,rfl,_,rfl,aT (λz=>?_) λz=>?_⟩
 ·refine⟨_,rfl,_,rfl,a,_,rfl,hS,λp hp=>?_⟩;have e1:gN (iv e) (some (2:Int)) none=iv (cG e):=by
   unfold cG;rw[if_pos z];exact Dl (i:=2) ↑2
  rw[e1];exact fin p hp
 ·refine⟨_,rfl,_,rfl,a,_,rfl,hS,λp hp=>?_⟩;have e1:gN (iv e) (some (1:Int)) none=iv (cG e):=by
   unfold cG;rw[if_neg z];exact Dl (i:=1) ↑2
  rw[e1];exact fin p hp
inductive DH(C:Addr)(vs:List V)(H:Hp)(Q:VK)(E:XK):Prop
 |mk(r:Addr) (d f e m:By) (_:vs=[.ref r]) (_:tF C H r d f e m) (_:(e≠[]->1<e.length/\∃x,(cG e)[0]?=some x)) (_:∀H',aF H H'->Q (.bl (di d f e m)) H')
theorem MY:ax ["numeral"] ["numeral"] (aq (top 33)):=↑3
theorem Oc{a b:By}(h:(a.map λ(c:UInt8)=>(c.toNat:Int))=b.map λ(c:UInt8)=>(c.toNat:Int)):a=b:=by
 induction a generalizing b with
 |nil=>cases b with
  |nil=>rfl
  |cons _ _=>simp at h
 |cons x a ih=>cases b with
  |nil=>simp at h
  |cons y b=>
   simp only[List.map_cons,List.cons.injEq] at h;rw[jh.mpr (show x.toNat=y.toNat by omega),ih h.2]
theorem NZ(d:Def K mg "is_right" (top 33) ["numeral"])(T:E8 K C)(g1:GI mg "MOST_BYTES_numerals" 255)(g2:GI mg "PACKED" 112)(g3:GI mg "ZERO" 48)(ln:mg "len"=none)(osz:jb P w K mg base 1 C "size" ["self"] (vJ C))(omk:Ok P w K mg base bj 1 "mark_is_right" ["mark"] (Co K))(opk:Ok P w K mg base bj 1 "packed_is_right" ["numeral"] (Cf C λd f e _=>ir d f e))(oex:Ok P w K mg base bj 1 "exponent_is_right" ["exponent"] (wm K)):Ok P w K mg base bj 2 "is_right" ["numeral"] (DH C):=d.ok λf fd F=>by
 refine F.ok MY (by rintro vs H Q E ⟨r,d,f,e,m,rfl,_⟩;rfl) (λUT A outer s H vs Q E hr h=>?_);obtain⟨r,d,f,e,m,rfl,hN,he,k⟩:=h;refine⟨_,aj (aR (LG (aD o9 (i9 (P:=P) osz T.cl hr (pv 0)) (cx g1) (aK _)) (IZ (Gh (da (aM omk hr (aa (ay (pv 0) rfl) ao)))))).pt (ai (aB Im)) aL)
  (aj (aR (aD (oo hr.units) (ay (pv 0) rfl) (bE (aa (cx g2) ao)) (aK _)) (ai (aB (aM opk hr (aa (pv 0) ao)))) aL)
  (aj (aR (nI (aD o9 (bA ln (ay (pv 0) rfl)) aw (aK _)) (ja (aD cU (bx aW (ay (pv 0) rfl) aw (λ_ _=>rfl)) (cx g3) (aK _)))).pt (ai (aB Im)) aL)
  (aj (aR (aD (oo hr.units) (ay (pv 0) rfl) (bE ao) (aK _)) (ai (aB Im)) aL)
  (ai (aB (rp (dU (Gu hr.units) (ay (pv 0) rfl) (bE ao) (aK _)) (gU (aM oex hr (aa (ay (pv 0) rfl) ao))))))))),?_⟩
 obtain⟨dx,ad,af,ae,am,h1,h2,h3,h4,h5⟩:=id hN;refine⟨_,rfl,r,dx,_,rfl,h1,Cy _ _ _ _,r,d,f,e,m,rfl,hN,_,_,rfl,rfl,_,rfl,?_⟩;have e0:decide ((255:Int)<((d.length+f.length+e.length+m.length:Nat):Int))=decide (255<d.length+f.length+e.length+m.length):=by
  by_cases y:255<d.length+f.length+e.length+m.length
  ·rw[decide_eq_true y];exact decide_eq_true ↑2
  ·rw[decide_eq_false y];exact decide_eq_false ↑2
 rw[e0];refine aT (λz0=>?_) λz0=>?_
 ·have q:=k H (aF.refl H);have e1:di d f e m=false:=by unfold di;rw[if_pos (of_decide_eq_true z0)]
  rw[e1] at q;exact fE q
 have z0:¬255<d.length+f.length+e.length+m.length:=λz=>z0 (decide_eq_true z);refine rV rfl (rf h1 T.cl T.nm (qy _ _ _ _) ⟨am,m,rfl,bh.of h5,λH1 s1=>⟨_,rfl,?_⟩⟩);refine aT (λz1=>?_) λz1=>?_
 ·have q:=k H1 s1;have e1:di d f e m=false:=by unfold di;rw[if_neg z0,if_pos (by simpa using z1)]
  rw[e1] at q;exact q
 have z1:oW m=true:=by simpa using z1
 refine rV rfl (rf (s1 _ _ h1) T.cl T.nm (qy _ _ _ _) ⟨(by show 1<=sizeLine;decide),λp2 n2=>?_⟩);have s2:=aC (o:=.lst [.int 112]) n2;refine⟨am,p2,_,[112],rfl,rfl,bh.of (by rw[<-fJ];exact s2 _ _ (s1 _ _ h5)),bh.of ag,_,rfl,?_⟩;have e2:decide ((m.map λ(c:UInt8)=>(c.toNat:Int))=[112])=decide (m=[112]):=by
  by_cases y:m=[112]
  ·subst y;rfl
  ·rw[decide_eq_false y];exact decide_eq_false λz=>y (Oc z)
 rw[e2];have s12:=s1.trans s2;refine aT (λz2=>?_) λz2=>?_
 ·have z2:=of_decide_eq_true z2;refine⟨_,rfl,r,d,f,e,m,rfl,hN.same s12,λH3 s3=>?_⟩;have q:=k H3 (s12.trans s3);have e1:di d f e m=ir d f e:=by unfold di;rw[if_neg z0,if_neg (by rw[z1];decide),if_pos z2]
  rw[e1] at q;exact q
 have z2:¬m=[112]:=λz=>z2 (decide_eq_true z);have rest:∀H3,aF H H3->¬(1<d.length/\cQ d 0=48)->
   BU (Hk (rK (AD (R6 K) (A0 K (df 0) "exponent") (O3 d8))) (p8 (tC (.bl true))) zG)
    (p8 (Dx (AD (QB K) (A0 K (df 0) "mark") (O3 d8)) (ik (wm K) [] E0 (bQ (A0 K (df 0) "exponent") d8))))
    {nx:=λ_ H'=>Q .bF H',rt:=Q} [some (.ref r)] H3:=by
  intro H3 s3 z3;refine rV rfl (rf (s3 _ _ h1) T.cl T.ne (fF _ _ _ _) ⟨Nat.zero_le _,λp4 n4=>?_⟩);have s4:=aC (o:=.lst []) n4;refine⟨ae,p4,_,[],rfl,rfl,bh.of (by rw[<-fJ];exact s4 _ _ (s3 _ _ h4)),bh.of ag,_,rfl,?_⟩;rw[qM];have s34:=s3.trans s4;refine aT (λz4=>?_) λz4=>?_
  ·have z4:=of_decide_eq_true z4;have q:=k _ s34;have e1:di d f e m=true:=by unfold di;rw[if_neg z0,if_neg (by rw[z1];decide),if_neg z2,if_neg z3,if_pos z4]
   rw[e1] at q;exact q
  have z4:¬e=[]:=λz=>z4 (decide_eq_true z);have e1:di d f e m=(!decide (m=[])&&E9 e):=by unfold di;rw[if_neg z0,if_neg (by rw[z1];decide),if_neg z2,if_neg z3,if_neg z4]
  refine rV rfl (rf (s34 _ _ h1) T.cl T.nm (qy _ _ _ _) ⟨Nat.zero_le _,λp5 n5=>?_⟩);have s5:=aC (o:=.lst []) n5;refine⟨am,p5,_,[],rfl,rfl,bh.of (by rw[<-fJ];exact s5 _ _ (s34 _ _ h5)),bh.of ag,_,rfl,?_⟩;rw[qM];have s345:=s34.trans s5;refine aT (λz5=>?_) λz5=>?_
  ·refine rV rfl (rf (s345 _ _ h1) T.cl T.ne (fF _ _ _ _) ⟨ae,e,rfl,bh.of (s345 _ _ h4),(he z4).1,(he z4).2,λH6 s6=>?_⟩);have q:=k H6 (s345.trans s6);rw[e1,z5,Bool.true_and] at q;exact q
  ·have q:=k _ s345;rw[Bool.not_eq_true] at z5;rw[e1,z5] at q;exact q
 refine rV rfl (rf (s12 _ _ h1) T.cl T.nd (je _ _ _ _) ⟨ad,_,rfl,.inl (bh.of (s12 _ _ h2)),_,_,rfl,rfl,_,rfl,?_⟩);have e3:decide ((1:Int)<((iv d).length:Int))=decide (1<d.length):=by
  rw[a_];by_cases y:1<d.length
  ·rw[decide_eq_true y];exact decide_eq_true ↑2
  ·rw[decide_eq_false y];exact decide_eq_false ↑2
 rw[e3];refine aT (λz3=>?_) λz3=>?_
 ·have z3:=of_decide_eq_true z3;have hd0:d[0]?=some d[0]:=List.getElem?_eq_getElem ↑2;refine rV rfl (rf (s12 _ _ h1) T.cl T.nd (je _ _ _ _) ⟨ad,_,_,_,rfl,rfl,bh.of (s12 _ _ h2),dG (p:=0) hd0,rfl,_,rfl,?_⟩);rw[bt,<-cn hd0];refine aT (λz4=>?_) λz4=>?_
  ·have z4:=of_decide_eq_true z4;have q:=k _ s12;have e1:di d f e m=false:=by unfold di;rw[if_neg z0,if_neg (by rw[z1];decide),if_neg z2,if_pos ⟨z3,z4⟩]
   rw[e1] at q;exact q
  ·exact rest _ s12 λz=>z4 (decide_eq_true z.2)
 ·exact dD (rest _ s12 λz=>z3 (decide_eq_true z.1))
abbrev oV:Stmt:=inClass (top 38) 0
abbrev MU:Stmt:=inClass (top 39) 0
abbrev Mo:Stmt:=inClass (top 40) 0
abbrev Iq:Stmt:=inClass (top 41) 0
def Nums(H0 H:Hp)(e C:Addr)(ns:List Int):Prop:=∃d l,d≠e/\H0 d=none/\H e=some (eQ e C (some d))/\H d=some (xX d [("numbers",.ref l)])/\H l=some (.lst (ns.map V.int))
inductive QI(K:Frag)(vs:List V)(H:Hp)(Q:VK)(E:XK):Prop
 |mk(e C l:Addr) (ns:List Int) (_:vs=[.ref e,.ref l]) (_:H e=some (eQ e C none)) (_:sZ K C) (_:aE K C "numbers") (_:H l=some (.lst (ns.map V.int))) (_:∀H',Nums H H' e C ns->FA e H H'->Q .bF H')
theorem MC:ax ["self","numbers"] ["self","numbers"] (aq oV):=↑3
theorem Bn{f:Addr}(F:jW K "__init__" "Refused.__init__" oV f fd):bY P w K mg base bj 1 f fd ["self","numbers"] (QI K):=by
 refine F.ok MC (by rintro vs H Q E ⟨e,C,l,ns,rfl,_⟩;rfl) (λUT A outer s H vs Q E hr h=>?_);obtain⟨e,C,l,ns,rfl,h1,c,n,h2,k⟩:=h;refine⟨_,ai (wb (pv 0) (pv 1) rfl),?_⟩;refine⟨_,rfl,_,rfl,e,C,rfl,c,n,.inl ⟨h1,λd hd=>?_⟩⟩;have hle:l≠e:=dB h2 h1 (by intro z;cases z);have hde:d≠e:=λz=>by rw[z,h1] at hd;cases hd
 refine k _ ⟨d,l,hde,hd,ag,?_,?_⟩ λb o hb hbe=>?_
 ·rw[ah hde,ag]
 ·rw[ah hle,ah (au h2 hd)];exact h2
 ·rw[ah hbe,ah (au hb hd)];exact hb
theorem zk{l d:Addr}{o:HO}(h:upd H l o d=none):H d=none:=by
 by_cases z:d=l
 ·rw[z,ag] at h;cases h
 ·rw[ah z] at h;exact h
theorem Nums.low{H':Hp}{l e:Addr}{o:HO}{ns:List Int}(h:Nums (upd H l o) H' e C ns):Nums H H' e C ns:=by obtain⟨d,l',a,b,r⟩:=h;exact⟨d,l',a,zk b,r⟩
structure F5(K:Frag)(mg:Str->Option Value)(C:Addr):Prop where
 mg:mg "Refused"=some (.ref C)
 ex:∃f fd,F_ K C "__init__" f/\jW K "__init__" "Refused.__init__" oV f fd/\Binds K fd ["self","numbers"] []
inductive Km(K:Frag)(ns:List Int)(vs:List V)(H:Hp)(Q:VK)(E:XK):Prop
 |mk(e C:Addr) (_:vs=[.ref e]) (_:H e=some (eQ e C none)) (_:sZ K C) (_:aE K C "numbers") (_:∀H',Nums H H' e C ns->FA e H H'->Q .bF H')
theorem QS:ax ["self"] ["self"] (aq MU):=↑3
theorem Qe:ax ["self"] ["self"] (aq Mo):=↑3
theorem PU{CR f:Addr}(F:jW K "__init__" "TooLong.__init__" MU f fd)(rc:F5 K mg CR):bY P w K mg base bj 2 f fd ["self"] (Km K [-1]):=by obtain⟨fR,fdR,cm,FR,bR⟩:=rc.ex;refine F.ok QS (by rintro vs H Q E ⟨e,C,rfl,_⟩;rfl) (λUT A outer s H vs Q E hr h=>?_);obtain⟨e,C,rfl,h1,c,n,k⟩:=h;refine⟨_,ai (aS (x_ rfl rc.mg cm (Bn FR) hr bR .nil g9 (aa (pv 0) (aa (bE (aa (gv ef aw) ao)) ao)))),?_⟩;refine⟨_,rfl,_,rfl,(by show 1<=sizeLine;decide),λl hl=>?_⟩;have hle:e≠l:=au h1 hl;refine⟨e,C,l,[-1],rfl,by rw[ah hle];exact h1,c,n,ag,λH' nu fr=>?_⟩;exact k H' nu.low λb o hb hbe=>fr b o (by rw[ah (au hb hl)];exact hb) hbe
theorem Rk{CR f:Addr}(F:jW K "__init__" "TooDeep.__init__" Mo f fd)(rc:F5 K mg CR):bY P w K mg base bj 2 f fd ["self"] (Km K [-6]):=by obtain⟨fR,fdR,cm,FR,bR⟩:=rc.ex;refine F.ok Qe (by rintro vs H Q E ⟨e,C,rfl,_⟩;rfl) (λUT A outer s H vs Q E hr h=>?_);obtain⟨e,C,rfl,h1,c,n,k⟩:=h;refine⟨_,ai (aS (x_ rfl rc.mg cm (Bn FR) hr bR .nil g9 (aa (pv 0) (aa (bE (aa (gv ef aw) ao)) ao)))),?_⟩;refine⟨_,rfl,_,rfl,(by show 1<=sizeLine;decide),λl hl=>?_⟩;have hle:e≠l:=au h1 hl;refine⟨e,C,l,[-6],rfl,by rw[ah hle];exact h1,c,n,ag,λH' nu fr=>?_⟩;exact k H' nu.low λb o hb hbe=>fr b o (by rw[ah (au hb hl)];exact hb) hbe
def ff(r p:Int)(l:Addr):List (Str×V):=aV "place" (.int p) (aV "rule" (.int r) [("numbers",.ref l)])
theorem BL(r p:Int)(l:Addr):(ff r p l).lookup ("numbers":Str)=some (.ref l):=by unfold ff;rw[az,if_neg ↑1,az,if_neg ↑1];rfl
theorem JV(r p:Int)(l:Addr):(ff r p l).lookup ("rule":Str)=some (.int r):=by unfold ff;rw[az,if_neg ↑1,az,if_pos rfl]
theorem F7(r p:Int)(l:Addr):(ff r p l).lookup ("place":Str)=some (.int p):=by unfold ff;rw[az,if_pos rfl]
inductive TV(C:Addr)(H:Hp)(e:Addr)(r p:Int):Prop
 |mk(d:_) (l:_) (_:d≠e) (_:H e=some (eQ e C (some d))) (_:H d=some (xX d (ff r p l))) (_:H l=some (.lst [.int (-2),.int r,.int p]))
structure AV(K:Frag)(C:Addr):Prop where
 x:sZ K C
 nn:aE K C "numbers"
 nr:aE K C "rule"
 np:aE K C "place"
inductive FP(C:Addr)(vs:List V)(H:Hp)(Q:VK)(E:XK):Prop
 |mk(e:Addr) (r p:Int) (_:vs=[.ref e,.int r,.int p]) (_:H e=some (eQ e C none)) (_:∀H',TV C H' e r p->FA e H H'->Q .bF H')
theorem Mm:ax ["self","rule","place"] ["self","rule","place"] (aq Iq):=↑3
theorem HP{CR f:Addr}(F:jW K "__init__" "Fault.__init__" Iq f fd)(rc:F5 K mg CR)(T:AV K C):bY P w K mg base bj 2 f fd ["self","rule","place"] (FP C):=by
 obtain⟨fR,fdR,cm,FR,bR⟩:=rc.ex;refine F.ok Mm (by rintro vs H Q E ⟨e,r,p,rfl,_⟩;rfl) (λUT A outer s H vs Q E hr h=>?_);obtain⟨e,r,p,rfl,h1,k⟩:=h;refine⟨_,aj (aS (x_ rfl rc.mg cm (Bn FR) hr bR .nil g9 (aa (pv 0) (aa (bE (aa (gv ef aw) (aa (pv 1) (aa (pv 2) ao)))) ao))))
  (aj (wb (pv 0) (pv 1) rfl) (ai (wb (pv 0) (pv 2) rfl))),?_⟩
 refine⟨_,rfl,_,rfl,_,rfl,_,rfl,(by show 3<=sizeLine;decide),λl hl=>?_⟩;have hle:e≠l:=au h1 hl;refine⟨e,C,l,[-2,r,p],rfl,by rw[ah hle];exact h1,T.x,T.nn,ag,λH1 nu fr=>?_⟩;obtain⟨d,l',hde,a0,a1,a2,a3⟩:=nu.low;have hld:l'≠d:=dB a3 a2 (by intro z;cases z);refine⟨_,rfl,_,rfl,e,C,rfl,T.x,T.nr,.inr ⟨d,_,a1,a2,(by show 1<1000;decide),?_⟩⟩;refine⟨_,rfl,_,rfl,e,C,rfl,T.x,T.np,.inr ⟨d,_,(by rw[ah (Ne.symm hde)];exact a1),ag,Nat.lt_of_le_of_lt (aG _ _ _) (by show 2<1000;decide),?_⟩⟩;refine k _ ⟨d,l',hde,(by rw[ah (Ne.symm hde),ah (Ne.symm hde)];exact a1),ag,(by rw[ah hld,ah hld];exact a3)⟩ λb o hb hbe=>?_;have hbd:b≠d:=λz=>by rw[z,a0] at hb;cases hb
 rw[ah hbd,ah hbd];exact fr b o (by rw[ah (au hb hl)];exact hb) hbe
structure JL(P:Program)(w:World)(K:Frag)(mg:Str->Option Value)(base:Heap)(k:Nat)(nm:Str)(C:Addr)(ps:List Str)(sp:Sp):Prop where
 ex:∃(f:Addr)(fd:FuncData),IS K C f/\bY P w K mg base bj k f fd ps sp/\Binds K fd ps []/\mg nm=some (.ref C)
theorem iO{X:Cx}{k:Nat}{sp:Sp}{x:Str}{p pos:Pos}{e:Expr}{es:List Expr}{t:TA}(o:JL X.prog X.w X.K X.mg X.base k x C ps sp)(hr:bB (k+1) X.A)(ha:PA X (e::es) t)(hg:Gl X x:=by rfl)(hdb:(x==("__debug__":Str))=false:=by decide)(he:starEach (e::es) X.env=(false,eval e X.env)::starEach es X.env:=by rfl)(hpl:(backTo pos (starEach es X.env)).any (·.1)=false:=by rfl):PE X (.Call (.Name x p) (e::es) [] pos) (xV C sp [] E0 t):=by obtain⟨f,fd,M,F,b,m⟩:=o.ex;exact HX M F hr hg m b .nil g9 ha hdb he hpl
theorem FN{X:Cx}{k:Nat}{sp:Sp}{x:Str}{p pos:Pos}(o:JL X.prog X.w X.K X.mg X.base k x C ps sp)(hr:bB (k+1) X.A)(hg:Gl X x:=by rfl)(hdb:(x==("__debug__":Str))=false:=by decide):
  PE X (.Call (.Name x p) [] [] pos) (xV C sp [] E0 d8):=by
 obtain⟨f,fd,M,F,b,m⟩:=o.ex;exact E3 M F hr hg m b .nil g9 hdb
inductive nj(C:Addr)(H:Hp)(e:Addr)(r p:Int):Prop
 |mk(d:_) (l:_) (_:H e=some (jE e C (some d))) (_:H d=some (xX d (ff r p l))) (_:H l=some (.lst [.int (-2),.int r,.int p]))
theorem bI{fX:Addr}{H1:Hp}{r p:Int}{R:Addr->Hp->Prop}(M:IS K C fX)(k:∀e H',aF H1 H'->nj C H' e r p->R e H'):
  ([V.int r,V.int p]:List V).length<=1000/\∀e,H1 e=none->FP C (.ref e::([V.int r,V.int p]++[])) (upd H1 e (eQ e C none)) (λv H2=>v= .bF/\∃e' C' f' dx,V.ref e= .ref e'/\H2 e'=some (eQ e' C' dx)/\IS K C' f'/\R e' (upd H2 e' (jE e' C' dx))) E0:=by
 refine⟨(by show 2<=1000;decide),λe he=>⟨e,r,p,rfl,ag,λH' fn fr=>⟨rfl,?_⟩⟩⟩;obtain⟨d,l,hde,a1,a2,a3⟩:=fn;have s1:aF H1 (upd H' e (jE e C (some d))):=λb o hb=>by
  have hbe:=au hb he;rw[ah hbe];exact fr b o (by rw[ah hbe];exact hb) hbe
 have hle:l≠e:=dB a3 a1 (by intro z;cases z);exact⟨e,C,fX,some d,rfl,a1,M,k e _ s1 ⟨d,l,ag,by rw[ah hde];exact a2,by rw[ah hle];exact a3⟩⟩
end
section
open EwTree (isSmall isBig isDigit isSeen isWordByte isCodeByte isMarkByte tokenIn)
theorem zI{s:L2.St}{A B:Hp->Prop}(h:A H):R' s H (λb H3=>if b=true then A H3 else B H3):=by show(if true=true then A H else B H);exact fE h
def Sf:Str:="abcdefghijklmnopqrstuvwxyz"
def one(c:UInt8):Str:=⟨#[c.toNat]⟩
theorem OZ{c:UInt8}(h:isSmall c=true):vi Sf.cps.toList ((c.toNat:Int) - 97)=some c.toNat:=by
 have hb:97<=c.toNat/\c.toNat<=122:=by
  unfold EwTree.isSmall at h;simp only[Bool.and_eq_true,decide_eq_true_eq] at h;exact⟨sh.mp h.1,sh.mp h.2⟩
 have key:∀n:Fin 26,vi Sf.cps.toList ((n.val:Nat):Int)=some (97+n.val):=↑1
 have:=key ⟨c.toNat - 97,↑2⟩;have e1:((c.toNat:Int) - 97)=((c.toNat - 97:Nat):Int):=↑2
 rw[e1,this];congr 1;show 97+(c.toNat - 97)=c.toNat;omega
theorem join_one:∀(w:By),Str.join "" (w.map one)=vm w
 |[]=>rfl
 |[c]=>rfl
 |c::d::w=>by
  have ih:=join_one (d::w);show(one c++("":Str))++Str.join "" ((d::w).map one)=vm (c::d::w);rw[ih];show(⟨(#[c.toNat]++#[])++((d::w).map UInt8.toNat).toArray⟩:Str)=⟨((c::d::w).map UInt8.toNat).toArray⟩
  simp
theorem KZ(w:By):((w.map one).map (·.length)).sum=w.length:=by
 induction w with
 |nil=>rfl
 |cons c w ih=>rw[List.map_cons,List.map_cons,List.sum_cons,ih];show 1+w.length=w.length+1;omega
inductive LV(K:Frag)(vs:List V)(H:Hp)(Q:VK)(E:XK):Prop
 |mk(a:Addr) (b:By) (_:vs=[.ref a]) (_:bh K H a (iv b)) (_:b.length<=100000) (_:∀H',aF H H'->Q (.str (sv b)) H')
theorem qF:ax ["word","byte"] ["word"] (aq (top 70)):=↑3
theorem O6(d:Def K mg "spelled" (top 70) ["word"])(gl:GS mg "LETTERS" Sf)(al:mg "all"=none)(os:Ok P w K mg base bj 1 "is_small" ["byte"] (i_ iU)):Ok P w K mg base bj 2 "spelled" ["word"] (LV K):=d.ok λf fd F=>by
 refine F.ok qF (by rintro vs H Q E ⟨a,b,rfl,_⟩;rfl) (λUT A outer s H vs Q E hr h=>?_);obtain⟨a,b,rfl,hS,hl,k⟩:=h;refine⟨_,aj (aR (da (dX (Nf rfl) (by rfl) al boot_all (aa (LU (own:=[("byte",1)]) rfl qF.nd (qr (pv 0)) (show u4 ["word","byte"] (aq (top 70)) _ [("byte",1)] from Av ↑1) (λs H C cl fp=>fK (i:=1) qF.nd rfl (Or.inl rfl)) (λs H C cl fp=>C3)
   (λs H C cl fp=>aM os hr (aa (pv 1) ao))) ao)))
  (ai (aB (J_ bZ (LU (own:=[("byte",1)]) rfl qF.nd (qr (pv 0)) (show u4 ["word","byte"] (aq (top 70)) _ [("byte",1)] from Av ↑1) (λs H C cl fp=>fK (i:=1) qF.nd rfl (Or.inl rfl)) (λs H C cl fp=>C3)
   (λs H C cl fp=>bx M4 (To gl) (bz jC (pv 1) aw) (λ_ _=>rfl)))))) aL) (ai (aB bZ)),?_⟩
 have hsz:sizeLine=16777216:=sizeLine_eq;refine⟨_,rfl,a,rfl,⟨_,hS⟩,λD hD=>Dk (xs:=iv b) (λi H2=>H2 D=some (.lst ((b.take i).map λc=>V.bl (isSmall c)))/\aF H H2) ⟨ag,aC hD⟩ (λi H2 _ z=>z.2.seq hS) ?_ ?_⟩
 ·rintro i x H2 hi ⟨h1,h2⟩;obtain⟨c,hc,rfl⟩:∃c,b[i]?=some c/\x=V.int c.toNat:=by
   unfold iv at hi;rw[List.getElem?_map] at hi;cases e:b[i]? with
   |none=>rw[e] at hi;cases hi
   |some z=>rw[e] at hi;exact⟨z,rfl,(Option.some.inj hi).symm⟩
  have hil:=(List.getElem?_eq_some_iff.mp hc).1;refine⟨rfl,?_⟩;refine zI ?_;refine⟨_,rfl,c.toNat,rfl,_,h1,?_,?_,?_⟩
  ·rw[List.length_map,List.length_take,hsz];omega
  ·rw[ag,take_snoc hc,List.map_append,sq];rfl
  ·exact λb' o hb=>by rw[ah (au hb hD)];exact h2 b' o hb
 ·rintro H2 ⟨h1,h2⟩;rw[a_,List.take_length] at h1;have e0:(b.map λc=>V.bl (isSmall c))=(b.map isSmall).map V.bl:=by rw[List.map_map];rfl
  refine⟨D,b.map isSmall,rfl,bh.of (by rw[<-e0];exact h1),_,rfl,?_⟩;have e1:(b.map isSmall).all id=b.all isSmall:=by rw[List.all_map];rfl
  rw[e1];refine aT (λz=>?_) λz=>?_
  ·have hall:∀c∈b,isSmall c=true:=List.all_eq_true.mp z;refine⟨⟨_,rfl⟩,_,rfl,a,rfl,⟨_,h2.seq hS⟩,λD2 hD2=>Dk (xs:=iv b) (λi H3=>H3 D2=some (.lst ((b.take i).map λc=>V.str (one c)))/\aF H H3) ⟨ag,h2.trans (aC hD2)⟩ (λi H3 _ z=>z.2.seq hS) ?_ ?_⟩
   ·rintro i x H3 hi ⟨h3,h4⟩;obtain⟨c,hc,rfl⟩:∃c,b[i]?=some c/\x=V.int c.toNat:=by
     unfold iv at hi;rw[List.getElem?_map] at hi;cases e:b[i]? with
     |none=>rw[e] at hi;cases hi
     |some z=>rw[e] at hi;exact⟨z,rfl,(Option.some.inj hi).symm⟩
    have hil:=(List.getElem?_eq_some_iff.mp hc).1;refine⟨rfl,?_⟩;refine zI ?_;refine⟨_,rfl,_,_,rfl,rfl,_,_,_,rfl,rfl,(by rw[hsz];decide+kernel),OZ (hall c (List.mem_of_getElem? hc)),_,h3,?_,?_,?_⟩
    ·rw[List.length_map,List.length_take,hsz];omega
    ·rw[ag,take_snoc hc,List.map_append];rfl
    ·have hD2':H D2=none:=h2.free hD2;exact λb' o hb=>by rw[ah (au hb hD2')];exact h4 b' o hb
   ·rintro H3 ⟨h3,h4⟩;rw[a_,List.take_length] at h3;have e2:(b.map λc=>V.str (one c))=(b.map one).map V.str:=by rw[List.map_map];rfl
    refine⟨_,D2,b.map one,rfl,rfl,.inl (bh.of (by rw[<-e2];exact h3)),?_,?_⟩
    ·rw[KZ,List.length_map];have:("":Str).length=0:=↑1
     rw[this];omega
    ·rw[TL.join_eq,join_one];have q:=k H3 h4;unfold sv at q;rw[if_pos z] at q;exact q
  ·have q:=k H2 h2;unfold sv at q;rw[if_neg z] at q;exact q
inductive mh(K:Frag)(CT CF:Addr)(pre:UInt8->Prop)(vs:List V)(H:Hp)(Q:VK)(E:XK):Prop
 |mk(a:Addr) (b:By) (p:Nat) (c:UInt8) (_:vs=[.ref a,.int p]) (_:bh K H a (iv b)) (_:b.length<=65536) (_:b[p]?=some c) (_:pre c) (_:(∀t s,tokenIn p (b.drop p)= .ok (t,s)->∀H' r,aF H H'->eJ CT H' r t->Q (.ref r) H')) (_:(∀r q,tokenIn p (b.drop p)= .error (r,q)->∀H' e,aF H H'->nj CF H' e r q->E (.ref e) none H'))
theorem f_{K:Frag}{pre:UInt8->Prop}:∀vs H Q E,mh K CT CF pre vs H Q E->vs.length=(["text","place"]:List Str).length:=by rintro vs H Q E ⟨a,b,p,c,rfl,_⟩;rfl
theorem jA{H1:Hp}{t:EwTree.Tok}{kd:Int}{lk:Str}{st en:Int}{Q:VK}(k:∀H' r,aF H1 H'->eJ CT H' r t->Q (.ref r) H')(e1:kd=t.kind)(e2:lk=bN t)(e3:st=t.place)(e4:en=t.halt_):
  ∀x dx,H1 x=none->H1 dx=none->dx≠x->Gm CT (.ref x::([V.int kd,.str lk,.int st,.int en]++[])) (upd (upd H1 dx (.own x)) x (.ins CT dx [])) (λv H2=>v= .bF/\Q (.ref x) H2) E0:=by
 intro x dx n1 n2 ne;refine⟨x,dx,kd,lk,st,en,rfl,ag,λH' h' fr=>⟨rfl,k H' x (aF.made n1 n2 fr) ⟨dx,?_⟩⟩⟩;rw[h',e1,e2,e3,e4]
def Ut(K:Frag)(w:World)(mg:Str->Option Value)(nm:Str)(l:List Str):Prop:=∃a,mg nm=some (.ref a)/\Se K w.params a l
def TJ(K:Frag)(mg:Str->Option Value)(nm:Str)(l:List (Int×Str)):Prop:=∃a,mg nm=some (.ref a)/\Sh K a l
abbrev EV(P:Program)(w:World)(K:Frag)(mg:Str->Option Value)(base:Heap)(CT:Addr):Prop:=va P w K mg base 1 "Token" CT ["self","kind","look","start","end"] (Gm CT)
abbrev v7(P:Program)(w:World)(K:Frag)(mg:Str->Option Value)(base:Heap)(CF:Addr):Prop:=JL P w K mg base 2 "Fault" CF ["self","rule","place"] (FP CF)
theorem dE{b:By}{p:Nat}{c:UInt8}(h:b[p]?=some c):b.drop p=c::b.drop (p+1):=bp h
theorem IW:ax ["text","place","end","word"] ["text","place"] (aq (top 69)):=↑3
theorem QK(d:Def K mg "word_at" (top 69) ["text","place"])(ow:Ok P w K mg base bj 2 "in_word" ["byte"] (i_ gY))(orn:Ok P w K mg base bj 4 "run_end" ["text","place","fits"] (lh P w K mg base))(os:Ok P w K mg base bj 2 "spelled" ["word"] (LV K))(nT:EV P w K mg base CT)(nF:v7 P w K mg base CF)(gk:Ut K w mg "KEYWORDS" JN)(g0:GI mg "KEYWORD" 0)(g1:GI mg "NAME" 1)(gm:GI mg "MOST_NAME_BYTES" 31):
  Ok P w K mg base (g_ P w) 5 "word_at" ["text","place"] (mh K CT CF λc=>isSmall c=true):=d.ok λf fd F=>by
 refine F.uD IW f_ (λUT A outer s H vs Q E hr h=>?_);obtain⟨a,b,p,c,rfl,hS,hl,hc,pre,kq,ke⟩:=h;obtain⟨fw,mw,fits⟩:=fits_of ow ↑0 Dg;obtain⟨ak,mk,tk⟩:=gk;obtain⟨fX,fdX,M,_⟩:=id nF.ex;have hp:p<b.length:=(List.getElem?_eq_some_iff.mp hc).1;have l1:aJ isWordByte b p<=b.length:=dH _ (Nat.le_of_lt hp);have g2:p<=aJ isWordByte b p:=bV _ _ _;have W:=K3 (dE hc) pre;refine⟨_,aj (aN (i:=2) IW.nd rfl (Or.inl rfl) (aM orn hr (aa (pv 0) (aa (pv 1) (aa (fQ mw) ao)))))
  (aj (aN (i:=3) IW.nd rfl (Or.inl rfl) (aM os (hr.mono ↑0) (aa (dR eU (pv 0) (bT (pv 1)) (bT (pv 2))) ao)))
  (aj (aR (aD A3 (pv 3) (fQ mk) (by with_unfolding_all rfl)) (ai (aB (eK nT (hr.mono ↑0) (aa (cx g0) (aa (pv 3) (aa (pv 1) (aa (pv 2) ao))))))) aL)
  (aj (aR (aD o9 (bz jC (pv 2) (pv 1)) (cx gm) (aK _)) (ai (cj hr.hd (iO nF (hr.mono ↑0) (aa aw (aa (pv 1) ao))))) aL)
  (ai (aB (eK nT (hr.mono ↑0) (aa (cx g1) (aa bZ (aa (pv 1) (aa (pv 2) ao)))))))))),?_⟩
 refine⟨_,rfl,_,rfl,a,b,p,fw,isWordByte,rfl,hS,Nat.le_of_lt hp,fits,?_⟩;refine⟨_,rfl,_,rfl,_,rfl,_,rfl,_,rfl,a,_,rfl,hS,λp1 n1=>?_⟩;have s1:=aC (o:=.lst (gN (iv b) (some (p:Int)) (some (aJ isWordByte b p:Int)))) n1;refine⟨p1,cut b p (aJ isWordByte b p),rfl,bh.of (by rw[<-rQ l1 g2];exact ag),?_,λH2 s2=>?_⟩
 ·unfold cut;rw[List.length_take,List.length_drop];omega
 have s12:=s1.trans s2;refine⟨_,rfl,_,ak,_,rfl,rfl,tk,_,rfl,?_⟩;rw[D7];refine aT (λz1=>?_) λz1=>?_
 ·rw[if_pos z1] at W;refine⟨_,rfl,_,rfl,_,rfl,jA (λH' r s' h'=>kq _ _ W H' r (s12.trans s') h') rfl ?_ rfl rfl⟩;have hk:cut b p (aJ isWordByte b p)∈EwTree.KEYWORDS:=by unfold EwTree.isKeyword at z1;exact List.contains_iff_mem.mp z1
  unfold sv bN;rw[if_pos (jI _ hk).1,if_pos rfl]
 rw[if_neg z1] at W;refine⟨_,rfl,_,rfl,_,_,rfl,rfl,_,_,rfl,rfl,_,rfl,?_⟩;refine aT (λz2=>?_) λz2=>?_
 ·have z2:=of_decide_eq_true z2;rw[if_neg ↑2] at W;exact⟨_,rfl,bI M λe H' s' h'=>ke _ _ W H' e (s12.trans s') h'⟩
 ·have z2:¬_:=λz=>z2 (decide_eq_true z);rw[if_pos ↑2] at W;exact⟨_,rfl,_,rfl,jA (λH' r s' h'=>kq _ _ W H' r (s12.trans s') h') rfl rfl rfl rfl⟩
theorem Fx{neg:Bool}{c:UInt8}{d:By}(hc:isDigit c=true):cG (cF (some (neg,c::d)))=c::d:=by
 have n1:isNeg (cF (some (neg,c::d)))=neg:=by
  cases neg with
  |true=>rfl
  |false=>
   refine decide_eq_false λz=>?_;have hz:((c.toNat:Nat):Int)=45:=z;unfold EwTree.isDigit at hc;simp only[Bool.and_eq_true,decide_eq_true_eq] at hc;have:=sh.mp hc.1;have h48:(48:UInt8).toNat=48:=rfl;omega
 unfold cG;rw[n1];cases neg <;> rfl
theorem LJ:ax ["text","place","end"] ["text","place"] (aq (top 71)):=↑3
theorem QE(d:Def K mg "code_at" (top 71) ["text","place"])(ow:Ok P w K mg base bj 2 "in_code" ["byte"] (i_ oH))(orn:Ok P w K mg base bj 4 "run_end" ["text","place","fits"] (lh P w K mg base))(nT:EV P w K mg base CT)(nF:v7 P w K mg base CF)(g0:GI mg "CODE" 2)(g1:GI mg "LEAST_CODE_BYTES" 2)(gm:GI mg "MOST_CODE_BYTES" 8):
  Ok P w K mg base (g_ P w) 5 "code_at" ["text","place"] (mh K CT CF λc=>isSmall c=false/\isBig c=true):=d.ok λf fd F=>by
 refine F.uD LJ f_ (λUT A outer s H vs Q E hr h=>?_);obtain⟨a,b,p,c,rfl,hS,hl,hc,pre,kq,ke⟩:=h;obtain⟨fw,mw,fits⟩:=fits_of ow ↑0 K9;obtain⟨fX,fdX,M,_⟩:=id nF.ex;have hp:p<b.length:=(List.getElem?_eq_some_iff.mp hc).1;have g2:p<=aJ isCodeByte b p:=bV _ _ _;have W:=JP (dE hc) pre.1 pre.2;refine⟨_,aj (aN (i:=2) LJ.nd rfl (Or.inl rfl) (aM orn hr (aa (pv 0) (aa (pv 1) (aa (fQ mw) ao)))))
  (aj (aR (Jc gZ gZ (cx g1) (bz jC (pv 2) (pv 1)) (cx gm)) (ai (aB (eK nT (hr.mono ↑0) (aa (cx g0) (aa bZ (aa (pv 1) (aa (pv 2) ao))))))) aL)
  (ai (cj hr.hd (iO nF (hr.mono ↑0) (aa aw (aa (pv 1) ao)))))),?_⟩
 refine⟨_,rfl,_,rfl,a,b,p,fw,isCodeByte,rfl,hS,Nat.le_of_lt hp,fits,?_⟩;refine⟨_,rfl,_,rfl,_,_,rfl,rfl,_,_,rfl,rfl,_,rfl,?_⟩;refine aT (λz1=>⟨_,_,rfl,rfl,_,rfl,aT (λz2=>?_) λz2=>?_⟩) λz1=>⟨_,rfl,dD ?_⟩
 ·have z1:=of_decide_eq_true z1;have z2:=of_decide_eq_true z2;rw[if_pos ↑2] at W;exact⟨_,rfl,_,rfl,jA (λH' r s' h'=>kq _ _ W H' r s' h') rfl rfl rfl rfl⟩
 ·have z2:¬_:=λz=>z2 (decide_eq_true z);rw[if_neg ↑2] at W;exact⟨_,rfl,bI M λe H' s' h'=>ke _ _ W H' e s' h'⟩
 ·have z1:¬_:=λz=>z1 (decide_eq_true z);rw[if_neg ↑2] at W;exact⟨_,rfl,bI M λe H' s' h'=>ke _ _ W H' e s' h'⟩
theorem Md:ax ["text","place","numeral"] ["text","place"] (aq (top 72)):=↑3
theorem qx{b:By}{i j:Nat}(hj:j<=b.length):(cut b i j).length=j - i:=by unfold cut;rw[List.length_take,List.length_drop];omega
theorem Qb{CN:Addr}(d:Def K mg "number_at" (top 72) ["text","place"])(T:E8 K CN)(on:Ok P w K mg base bj 6 "numeral_at" ["text","place"] (LM K CN))(orr:Ok P w K mg base bj 2 "is_right" ["numeral"] (DH CN))(osz:jb P w K mg base 1 CN "size" ["self"] (vJ CN))(nT:EV P w K mg base CT)(nF:v7 P w K mg base CF)(g0:GI mg "NUMBER" 3):
  Ok P w K mg base (g_ P w) 7 "number_at" ["text","place"] (mh K CT CF λc=>isSmall c=false/\isBig c=false/\isDigit c=true):=d.ok λf fd F=>by
 refine F.uD Md f_ (λUT A outer s H vs Q E hr h=>?_);obtain⟨a,b,p,c,rfl,hS,hl,hc,pre,kq,ke⟩:=h;obtain⟨fX,fdX,M,_⟩:=id nF.ex;have hp:p<b.length:=(List.getElem?_eq_some_iff.mp hc).1;obtain⟨wd,W⟩:=E' (dE hc) pre.1 pre.2.1 pre.2.2;have l1:EF b p<=b.length:=dH _ (Nat.le_of_lt hp);have g1:p<=EF b p:=bV _ _ _;obtain⟨_,_,g2,l2⟩:=vH b (EF b p);have l2:=l2 l1;obtain⟨x1,x2,g3,l3,x5⟩:=BZ b (CZ b p);have l3:=l3 l2;have l4:Ow b p<=b.length:=dH _ l3;have g4:Ia b p<=Ow b p:=bV _ _ _;refine⟨_,aj (aN (i:=2) Md.nd rfl (Or.inl rfl) (aM on hr (aa (pv 0) (aa (pv 1) ao))))
  (aj (aR (da (aM orr (hr.mono ↑0) (aa (pv 2) ao))) (ai (aB (eK nT (hr.mono ↑0) (aa (cx g0) (aa bZ (aa (pv 1) (aa (bz cD (pv 1) (i9 (P:=P) osz T.cl (hr.mono ↑0) (pv 2))) ao))))))) aL)
  (ai (cj hr.hd (iO nF (hr.mono ↑0) (aa aw (aa (pv 1) ao)))))),?_⟩
 refine⟨_,rfl,_,rfl,a,b,p,rfl,hS,Nat.le_of_lt hp,λH1 r s1 hN=>?_⟩;refine⟨_,rfl,r,_,_,_,_,rfl,hN,?_,λH2 s2=>?_⟩
 ·intro z;have e1:cut b (CZ b p) (Ia b p)=cF (EwTree.expoIn (b.drop (CZ b p))).1:=x2;rw[e1] at z ⊢;cases hx:(EwTree.expoIn (b.drop (CZ b p))).1 with
  |none=>rw[hx] at z;exact absurd rfl z
  |some y=>
   obtain⟨c',d',y1,y2⟩:=x5 y hx;obtain⟨neg,ds⟩:=y;dsimp only at y1;subst y1;refine⟨?_,c',?_⟩
   ·cases neg <;> show 1<List.length _ <;> unfold cF <;> simp
   ·rw[Fx y2];rfl
 have s12:=s1.trans s2;have hN2:=hN.same s2;refine⟨_,rfl,aT (λz=>?_) λz=>?_⟩
 ·have W:=W.trans (if_pos z);obtain⟨dx,ad,af,ae,am,h1,_⟩:=id hN2;refine⟨_,rfl,_,rfl,_,rfl,r,dx,_,rfl,h1,Cy _ _ _ _,r,_,_,_,_,rfl,hN2,_,_,rfl,rfl,jA (λH' r' s' h'=>kq _ _ W H' r' (s12.trans s') h') rfl rfl rfl ?_⟩;rw[qx l1,qx (j:=CZ b p) l2,qx (j:=Ia b p) l3,qx l4];show((p:Nat):Int)+((_:Nat):Int)=((Ow b p:Nat):Int)
  have g2':EF b p<=CZ b p:=g2;have g3':CZ b p<=Ia b p:=g3;omega
 ·have W:=W.trans (if_neg z);exact⟨_,rfl,bI M λe H' s' h'=>ke _ _ W H' e (s12.trans s') h'⟩
inductive RZ(K:Frag)(CF:Addr)(vs:List V)(H:Hp)(Q:VK)(E:XK):Prop
 |mk(a:Addr) (b:By) (p:Nat) (_:vs=[.ref a,.int p]) (_:bh K H a (iv b)) (_:p<=b.length) (_:(∀q,bq b p= .ok q->∀H',aF H H'->Q (.int q) H')) (_:(∀r q,bq b p= .error (r,q)->∀H' e,aF H H'->nj CF H' e r q->E (.ref e) none H'))
theorem Hr:ax ["text","place","byte","width"] ["text","place"] (aq (top 74)):=↑3
theorem R8(d:Def K mg "item_end" (top 74) ["text","place"])(ob:Ok P w K mg base bj 1 "byte_at" ["text","place"] (iw K))(op:Ok P w K mg base bj 1 "is_printable" ["byte"] (i_ g8))(nF:v7 P w K mg base CF)(ln:mg "len"=none)(gb:GI mg "BACKSLASH" 92)(gq:GI mg "QUOTE" 34)(gn:GI mg "SMALL_N" 110):Ok P w K mg base (g_ P w) 4 "item_end" ["text","place"] (RZ K CF):=d.ok λf fd F=>by
 refine F.uD Hr (by rintro vs H Q E ⟨a,b,p,rfl,_⟩;rfl) (λUT A outer s H vs Q E hr h=>?_);obtain⟨a,b,p,rfl,hS,hp,kq,ke⟩:=h;obtain⟨fX,fdX,M,_⟩:=id nF.ex;refine⟨_,aj (aN (i:=2) Hr.nd rfl (Or.inl rfl) (aM ob (hr.mono ↑0) (aa (pv 0) (aa (pv 1) ao))))
  (aj (aN (i:=3) Hr.nd rfl (Or.inl rfl) (rG (aD cU (pv 2) (cx gb) (aK _)) aw aw))
  (aj (aR (aD o9 (bz cD (pv 1) (pv 3)) (bA ln (pv 0)) (aK _)) (ai (cj hr.hd (iO nF hr (aa aw (aa (bA ln (pv 0)) ao))))) aL)
  (aj (aR (nI (aD cU (pv 3) aw (aK _)) (ja (Gh (da (aM op (hr.mono ↑0) (aa (pv 2) ao)))))).pt (ai (cj hr.hd (iO nF hr (aa aw (aa (pv 1) ao))))) aL)
  (aj (aR (nI (aD cU (pv 3) aw (aK _)) (ja (aD vK (bx aW (pv 0) (bz cD (pv 1) aw) (λ_ _=>rfl)) (fT (aa (cx gq) (aa (cx gb) (aa (cx gn) ao)))) (by with_unfolding_all rfl)))).pt (ai (cj hr.hd (iO nF hr (aa aw (aa (pv 1) ao))))) aL)
  (ai (aB (bz cD (pv 1) (pv 3)))))))),?_⟩
 refine⟨_,rfl,_,rfl,a,b,p,rfl,hS,?_⟩;refine⟨_,rfl,rfl,_,rfl,?_⟩;rw[bt];have hlen:(iv b).length=b.length:=a_ b;refine aT (λz=>?_) λz=>?_
 ·have z:=of_decide_eq_true z;have tw:two? b p=2:=by unfold two?;rw[if_pos z]
  refine⟨_,rfl,_,rfl,_,_,rfl,rfl,_,rfl,a,_,rfl,.inl hS,_,_,rfl,rfl,_,rfl,aT (λy=>?_) λy=>?_⟩
  ·have y:=of_decide_eq_true y;have W:bq b p= .error (3,b.length):=by unfold bq;rw[tw,if_pos ↑2]
   refine⟨_,rfl,a,_,rfl,.inl hS,?_⟩;rw[hlen];exact bI M λe H' s' h'=>ke _ _ W H' e s' h'
  ·have y:¬_:=λq=>y (decide_eq_true q);have hp1:p+1<b.length:=↑2
   have h1:b[p+1]?=some b[p+1]:=List.getElem?_eq_getElem hp1;have ix:vi (iv b) ((p:Int)+1)=some (.int b[p+1].toNat):=dG (p:=p+1) h1;refine⟨_,rfl,rfl,_,rfl,?_⟩;rw[bt];refine aT (λq=>absurd (of_decide_eq_true q) ↑0) λ_=>?_;refine dD ?_;refine⟨_,rfl,rfl,_,rfl,?_⟩;rw[bt];refine aT (λ_=>?_) λq=>absurd (decide_eq_true rfl) q;refine⟨_,rfl,_,rfl,_,_,rfl,rfl,a,_,_,_,rfl,rfl,hS,ix,(by show 3<=sizeLine;decide),λt ht=>?_⟩;have s1:=aC (o:=.tup [.int 34,.int 92,.int 110]) ht;refine⟨t,_,rfl,.inr (fN.of ag),rfl,rfl,_,rfl,?_⟩;have ei:Dq (.int b[p+1].toNat) [V.int 34,.int 92,.int 110]=decide (cQ b (p+1)=34\/cQ b (p+1)=92\/cQ b (p+1)=110):=by
    rw[show[V.int 34,.int 92,.int 110]=([34,92,110]:List Int).map V.int from rfl,qu,cn h1];simp only[List.mem_cons,List.not_mem_nil,or_false]
   rw[if_pos rfl,ei];refine aT (λq=>?_) λq=>?_
   ·have q:¬(cQ b (p+1)=34\/cQ b (p+1)=92\/cQ b (p+1)=110):=λx=>by rw[decide_eq_true x] at q;cases q
    have W:bq b p= .error (1,p):=by unfold bq;rw[tw,if_neg ↑2,if_neg ↑2,if_pos ⟨rfl,q⟩]
    exact⟨_,rfl,bI M λe H' s' h'=>ke _ _ W H' e (s1.trans s') h'⟩
   ·have q:cQ b (p+1)=34\/cQ b (p+1)=92\/cQ b (p+1)=110:=by
     apply Classical.byContradiction;intro x;rw[decide_eq_false x] at q;exact q rfl
    have W:bq b p= .ok (p+2):=by unfold bq;rw[tw,if_neg ↑2,if_neg ↑2,if_neg (λx=>x.2 q)]
    exact⟨_,rfl,_,rfl,_,_,rfl,rfl,kq _ W _ s1⟩
 ·have z:¬cQ b p=92:=λq=>z (decide_eq_true q);have tw:two? b p=1:=by unfold two?;rw[if_neg z]
  refine⟨_,rfl,_,rfl,_,_,rfl,rfl,_,rfl,a,_,rfl,.inl hS,_,_,rfl,rfl,_,rfl,aT (λy=>?_) λy=>?_⟩
  ·have y:=of_decide_eq_true y;have W:bq b p= .error (3,b.length):=by unfold bq;rw[tw,if_pos ↑2]
   refine⟨_,rfl,a,_,rfl,.inl hS,?_⟩;rw[hlen];exact bI M λe H' s' h'=>ke _ _ W H' e s' h'
  ·have y:¬_:=λq=>y (decide_eq_true q);refine⟨_,rfl,rfl,_,rfl,?_⟩;rw[bt];refine aT (λ_=>?_) λq=>absurd (decide_eq_true rfl) q;refine⟨_,rfl,_,rfl,_,rfl,aT (λq=>?_) λq=>?_⟩
   ·have q:g8 (cQ b p)=false:=by
     cases h:g8 (cQ b p) with
     |false=>rfl
     |true=>rw[h] at q;cases q
    have W:bq b p= .error (1,p):=by unfold bq;rw[tw,if_neg ↑2,if_pos ⟨rfl,q⟩]
    exact⟨_,rfl,bI M λe H' s' h'=>ke _ _ W H' e s' h'⟩
   ·have q:g8 (cQ b p)=true:=by
     cases h:g8 (cQ b p) with
     |true=>rfl
     |false=>rw[h] at q;exact absurd rfl q
    have W:bq b p= .ok (p+1):=by unfold bq;rw[tw,if_neg ↑2,if_neg (λx=>by rw[q] at x;cases x.2),if_neg ↑2]
    refine⟨_,rfl,rfl,_,rfl,?_⟩;rw[bt];refine aT (λq=>absurd (of_decide_eq_true q) ↑0) λ_=>?_;refine dD ?_;exact⟨_,rfl,_,rfl,_,_,rfl,rfl,kq _ W _ (aF.refl H)⟩
end
section
open EwTree (isSmall isBig isDigit isSeen isWordByte isCodeByte isMarkByte tokenIn itemsIn)
theorem Gv{x:Except EwTree.Fault (EwTree.Bytes×Nat×EwTree.Bytes)}{e:EwTree.Fault}(h:E2 x= .error e):x= .error e:=by
 cases x with
 |error f=>exact congrArg Except.error (Except.error.inj h)
 |ok y=>cases h
theorem Kd{x:Except EwTree.Fault (EwTree.Bytes×Nat×EwTree.Bytes)}{q:Nat}{r:EwTree.Bytes}(h:E2 x= .ok (q,r)):∃l,x= .ok (l,q,r):=by
 cases x with
 |error f=>cases h
 |ok y=>obtain⟨l,z⟩:=y;exact⟨l,by rw[show z=(q,r) from Except.ok.inj h]⟩
theorem Aj:ax ["text","place","items","here"] ["text","place"] (aq (top 73)):=↑3
theorem RC(d:Def K mg "text_at" (top 73) ["text","place"])(ob:Ok P w K mg base bj 1 "byte_at" ["text","place"] (iw K))(oi:Ok P w K mg base (g_ P w) 4 "item_end" ["text","place"] (RZ K CF))(nT:EV P w K mg base CT)(nF:v7 P w K mg base CF)(ln:mg "len"=none)(g0:GI mg "TEXT" 4)(gq:GI mg "QUOTE" 34)(gm:GI mg "MOST_ITEMS" 1024):Ok P w K mg base (g_ P w) 5 "text_at" ["text","place"] (mh K CT CF λc=>c=34):=d.ok λf fd F=>by
 refine F.uD Aj f_ (λUT A outer s H vs Q E hr h=>?_);obtain⟨a,b,p,c,rfl,hS,hl,hc,rfl,kq,ke⟩:=h;obtain⟨fX,fdX,M,_⟩:=id nF.ex;have hp:p<b.length:=(List.getElem?_eq_some_iff.mp hc).1;have hlen:(iv b).length=b.length:=a_ b;have T0:=Kg (dE hc);refine⟨_,aj (aN (i:=2) Aj.nd rfl (Or.inl rfl) aw)
  (aj (aN (i:=3) Aj.nd rfl (Or.inl rfl) (bz cD (pv 1) aw))
  (aj (fz (wy ⟨rfl,rfl,rfl⟩) (aD Lw (aM ob (hr.mono ↑0) (aa (pv 0) (aa (pv 3) ao))) (cx gq) (aK _))
   (aj (aR (nI (aD cU (pv 2) (cx gm) (aK _)) (ja (aD oG (pv 3) (bA ln (pv 0)) (aK _)))).pt (ai (cj hr.hd (iO nF (hr.mono ↑0) (aa aw (aa (pv 3) ao))))) aL)
   (aj (aN (i:=3) Aj.nd rfl (Or.inl rfl) (qX oi hr (uP λ_ _ _ z=>z) (aa (pv 0) (aa (pv 3) ao))))
   (ai (iu (i:=2) Aj.nd rfl (Or.inl rfl) aw gA)))))
  (ai (aB (eK nT (hr.mono ↑0) (aa (cx g0) (aa bZ (aa (pv 1) (aa (bz cD (pv 3) aw) ao))))))))),?_⟩
 refine⟨_,rfl,_,_,rfl,rfl,?_⟩;refine⟨λm σ H'=>∃(j k:Nat),m=b.length - j/\σ=[some (.ref a),some (.int p),some (.int k),some (.int j)]/\aF H H'/\p+1<=j/\j<=b.length/\k<=1024/\E2 (itemsIn 0 (p+1) (b.drop (p+1)))=E2 (itemsIn k j (b.drop j)),⟨_,p+1,0,rfl,rfl,aF.refl H,Nat.le_refl _,hp,↑0,rfl⟩,?_⟩;rintro m σ H1 ⟨j,k,rfl,rfl,s1,hpj,hj,hk,e⟩;refine⟨_,rfl,_,rfl,a,b,j,rfl,s1.seq hS,rfl,_,rfl,?_⟩;rw[bt];refine aT (λz=>?_) λz=>?_
 ·have z:¬cQ b j=34:=λq=>by rw[decide_eq_true q] at z;cases z
  refine⟨λσ' H2=>∃q:Nat,σ'=[some (.ref a),some (.int p),some (.int ((k+1:Nat):Int)),some (.int q)]/\aF H H2/\bq b j= .ok q/\(k<1024\/b.length<=j),?_,?_⟩
  ·rintro σ' H2 ⟨q,rfl,s2,hq,hkj⟩;obtain⟨q1,q2⟩:=A_ hq;refine⟨b.length - q,↑2,q,k+1,rfl,rfl,s2,↑2,q2,↑2,?_⟩;rw[e,Js z hkj hj,hq]
  ·
   have errF:(k<1024\/b.length<=j)->∀r q,bq b j= .error (r,q)->∀H2 x,aF H1 H2->nj CF H2 x r q->E (.ref x) none H2:=λhkj r q hq H2 x s2 h2=>by
    have W:E2 (itemsIn 0 (p+1) (b.drop (p+1)))= .error (r,q):=by rw[e,Js z hkj hj,hq]
    have W2:=Gv W;rw[W2] at T0;exact ke r q T0 H2 x (s1.trans s2) h2
   refine⟨_,rfl,rfl,_,rfl,?_⟩;rw[bt];refine aT (λy=>?_) λy=>?_
   ·have y:=of_decide_eq_true y;refine⟨_,rfl,_,rfl,a,_,rfl,.inl (s1.seq hS),_,_,rfl,rfl,_,rfl,aT (λx=>?_) λx=>?_⟩
    ·have x:=of_decide_eq_true x;rw[KI z ↑2 ↑2] at e;have W2:=Gv e;rw[W2] at T0;exact⟨_,rfl,bI M λx H' s' h'=>ke _ _ T0 H' x (s1.trans s') h'⟩
    ·have x:¬_:=λq=>x (decide_eq_true q);have hkj:k<1024\/b.length<=j:=.inr ↑2;exact⟨_,rfl,_,rfl,a,b,j,rfl,s1.seq hS,hj,λq hq H2 s2=>⟨_,rfl,_,_,rfl,rfl,q,rfl,s1.trans s2,hq,hkj⟩,errF hkj⟩
   ·have y:¬_:=λq=>y (decide_eq_true q);have hkj:k<1024\/b.length<=j:=.inl ↑2;exact dD ⟨_,rfl,_,rfl,a,b,j,rfl,s1.seq hS,hj,λq hq H2 s2=>⟨_,rfl,_,_,rfl,rfl,q,rfl,s1.trans s2,hq,hkj⟩,errF hkj⟩
 ·have z:cQ b j=34:=by
   apply Classical.byContradiction;intro x;rw[decide_eq_false x] at z;exact z rfl
  rw[IX z] at e;obtain⟨l,W⟩:=Kd e;rw[W] at T0;exact⟨_,rfl,_,rfl,_,_,rfl,rfl,jA (λH' r s' h'=>kq _ _ T0 H' r (s1.trans s') h') rfl rfl rfl rfl⟩
theorem OG(i:Int):(if(0:Int)>i then(0:Int) else i)=max i 0:=by
 by_cases h:(0:Int)>i
 ·rw[if_pos h];omega
 ·rw[if_neg h];omega
theorem LR:ax ["text","place","pair"] ["text","place"] (aq (top 75)):=↑3
theorem P6(d:Def K mg "sign_at" (top 75) ["text","place"])(ob:Ok P w K mg base bj 1 "byte_at" ["text","place"] (iw K))(nT:EV P w K mg base CT)(nF:v7 P w K mg base CF)(mx:mg "max"=none)(g0:GI mg "SIGN" 5)(g1:TJ K mg "SIGNS_OF_ONE" Jy)(g2:TJ K mg "SIGNS_OF_TWO" Jt):
  Ok P w K mg base (g_ P w) 4 "sign_at" ["text","place"] (mh K CT CF λc=>isSmall c=false/\isBig c=false/\isDigit c=false/\c≠34):=d.ok λf fd F=>by
 refine F.uD LR f_ (λUT A outer s H vs Q E hr h=>?_);obtain⟨a,b,p,c,rfl,hS,hl,hc,pre,kq,ke⟩:=h;obtain⟨fX,fdX,M,_⟩:=id nF.ex;obtain⟨a1,m1,t1⟩:=g1;obtain⟨a2,m2,t2⟩:=g2;obtain⟨W1,W2⟩:=Kq (dE hc) pre.1 pre.2.1 pre.2.2.1 pre.2.2.2;refine⟨_,aj (aN (i:=2) LR.nd rfl (Or.inl rfl) (bz cD (bz Iz (bx aW (pv 0) (pv 1) (λ_ _=>rfl)) aw) (dX (vp rfl) (by rfl) mx boot_max (aa (aM ob (hr.mono ↑0) (aa (pv 0) (aa (bz cD (pv 1) aw) ao))) (aa aw ao)))))
  (aj (aR (aD HH (pv 2) (fQ m2) (by with_unfolding_all rfl)) (ai (aB (eK nT (hr.mono ↑0) (aa (cx g0) (aa (bx Rv (fQ m2) (pv 2) (λ_ _=>rfl)) (aa (pv 1) (aa (bz cD (pv 1) aw) ao))))))) aL)
  (aj (aR (aD HH (bx aW (pv 0) (pv 1) (λ_ _=>rfl)) (fQ m1) (by with_unfolding_all rfl)) (ai (aB (eK nT (hr.mono ↑0) (aa (cx g0) (aa (bx Rv (fQ m1) (bx aW (pv 0) (pv 1) (λ_ _=>rfl)) (λ_ _=>rfl)) (aa (pv 1) (aa (bz cD (pv 1) aw) ao))))))) aL)
  (ai (cj hr.hd (iO nF hr (aa aw (aa (pv 1) ao))))))),?_⟩
 refine⟨_,rfl,_,rfl,a,_,_,_,rfl,rfl,hS,dG hc,_,_,rfl,rfl,.inr ↑0,_,rfl,_,rfl,_,_,rfl,rfl,a,b,p+1,rfl,hS,_,_,rfl,_,_,rfl,rfl,?_⟩;have ep:(c.toNat:Int)*256+(if(0:Int)>cQ b (p+1) then(0:Int) else cQ b (p+1))=pairOf b p:=by
  unfold pairOf;rw[OG,cn hc]
 refine⟨_,rfl,_,a2,_,rfl,rfl,t2,_,rfl,?_⟩;rw[ep];cases h2:lk Jt (pairOf b p) with
 |some x=>
  obtain⟨t,T1,T2,T3,T4,T5⟩:=W1 x h2;refine fE ⟨_,rfl,_,a2,_,x,rfl,rfl,t2,h2,_,rfl,_,rfl,_,_,rfl,rfl,jA (λH' r s' h'=>kq _ _ T1 H' r s' h') ?_ T5.symm ?_ ?_⟩
  ·rw[T2];rfl
  ·rw[T3]
  ·rw[T4];rfl
 |none=>
  obtain⟨W3,W4⟩:=W2 h2;refine dD ⟨_,rfl,_,rfl,a,_,_,_,rfl,rfl,hS,dG hc,_,a1,_,rfl,rfl,t1,_,rfl,?_⟩;rw[cn hc] at W3 W4;cases h1:lk Jy (c.toNat:Int) with
  |some x=>
   obtain⟨t,T1,T2,T3,T4,T5⟩:=W3 x h1;refine fE ⟨_,rfl,_,rfl,a,_,_,_,rfl,rfl,hS,dG hc,_,a1,_,x,rfl,rfl,t1,h1,_,rfl,_,rfl,_,_,rfl,rfl,jA (λH' r s' h'=>kq _ _ T1 H' r s' h') ?_ T5.symm ?_ ?_⟩
   ·rw[T2];rfl
   ·rw[T3]
   ·rw[T4];rfl
  |none=>
   have T0:=W4 h1;exact dD ⟨_,rfl,bI M λx H' s' h'=>ke _ _ T0 H' x s' h'⟩
theorem Lz:ax ["text","place","byte"] ["text","place"] (aq (top 68)):=↑3
theorem Rb(d:Def K mg "token_at" (top 68) ["text","place"])(o1:Ok P w K mg base bj 1 "is_small" ["byte"] (i_ iU))(o2:Ok P w K mg base bj 1 "is_capital" ["byte"] (i_ t_))(o3:Ok P w K mg base bj 1 "is_digit" ["byte"] (i_ b_))(ow:Ok P w K mg base (g_ P w) 5 "word_at" ["text","place"] (mh K CT CF λc=>isSmall c=true))(oc:Ok P w K mg base (g_ P w) 5 "code_at" ["text","place"] (mh K CT CF λc=>isSmall c=false/\isBig c=true))(on:Ok P w K mg base (g_ P w) 7 "number_at" ["text","place"] (mh K CT CF λc=>isSmall c=false/\isBig c=false/\isDigit c=true))(ot:Ok P w K mg base (g_ P w) 5 "text_at" ["text","place"] (mh K CT CF λc=>c=34))(os:Ok P w K mg base (g_ P w) 4 "sign_at" ["text","place"] (mh K CT CF λc=>isSmall c=false/\isBig c=false/\isDigit c=false/\c≠34))(gq:GI mg "QUOTE" 34):
  Ok P w K mg base (g_ P w) 8 "token_at" ["text","place"] (mh K CT CF λ_=>True):=d.ok λf fd F=>by
 refine F.uD Lz f_ (λUT A outer s H vs Q E hr h=>?_);obtain⟨a,b,p,c,rfl,hS,hl,hc,_,kq,ke⟩:=h;refine⟨_,aj (aN (i:=2) Lz.nd rfl (Or.inl rfl) (bx aW (pv 0) (pv 1) (λ_ _=>rfl)))
  (aj (aR (da (aM o1 (hr.mono ↑0) (aa (pv 2) ao))) (ai (aB (qX ow (hr.mono ↑0) (uP λ_ _ _ z=>z) (aa (pv 0) (aa (pv 1) ao))))) aL)
  (aj (aR (da (aM o2 (hr.mono ↑0) (aa (pv 2) ao))) (ai (aB (qX oc (hr.mono ↑0) (uP λ_ _ _ z=>z) (aa (pv 0) (aa (pv 1) ao))))) aL)
  (aj (aR (da (aM o3 (hr.mono ↑0) (aa (pv 2) ao))) (ai (aB (qX on hr (uP λ_ _ _ z=>z) (aa (pv 0) (aa (pv 1) ao))))) aL)
  (aj (aR (aD cU (pv 2) (cx gq) (aK _)) (ai (aB (qX ot (hr.mono ↑0) (uP λ_ _ _ z=>z) (aa (pv 0) (aa (pv 1) ao))))) aL)
  (ai (aB (qX os (hr.mono ↑0) (uP λ_ _ _ z=>z) (aa (pv 0) (aa (pv 1) ao))))))))),?_⟩
 refine⟨_,rfl,_,rfl,a,_,_,_,rfl,rfl,hS,dG hc,?_⟩;refine⟨_,rfl,_,rfl,_,rfl,?_⟩;rw[sq];refine aT (λz1=>⟨_,rfl,_,rfl,a,b,p,c,rfl,hS,hl,hc,z1,kq,ke⟩) λz1=>?_;rw[Bool.not_eq_true] at z1;refine⟨_,rfl,_,rfl,_,rfl,?_⟩;rw[Bo];refine aT (λz2=>⟨_,rfl,_,rfl,a,b,p,c,rfl,hS,hl,hc,⟨z1,z2⟩,kq,ke⟩) λz2=>?_;rw[Bool.not_eq_true] at z2;refine⟨_,rfl,_,rfl,_,rfl,?_⟩;rw[fC];refine aT (λz3=>⟨_,rfl,_,rfl,a,b,p,c,rfl,hS,hl,hc,⟨z1,z2,z3⟩,kq,ke⟩) λz3=>?_;rw[Bool.not_eq_true] at z3;refine⟨_,rfl,rfl,_,rfl,?_⟩;rw[bt];refine aT (λz4=>⟨_,rfl,_,rfl,a,b,p,c,rfl,hS,hl,hc,?_,kq,ke⟩) λz4=>⟨_,rfl,_,rfl,a,b,p,c,rfl,hS,hl,hc,⟨z1,z2,z3,?_⟩,kq,ke⟩
 ·exact jh.mpr (by have:=of_decide_eq_true z4;have h34:(34:UInt8).toNat=34:=rfl;omega)
 ·intro q;exact z4 (decide_eq_true (by rw[q];rfl))
end
section
open EwTree (isSmall isBig isDigit isSeen isWordByte isCodeByte isMarkByte tokenIn itemsIn isBlank)
theorem Hc(c:UInt8):Dq (.int c.toNat) [V.int 32,.int 10,.int 59]=isBlank c:=by
 rw[show[V.int 32,.int 10,.int 59]=([32,10,59]:List Int).map V.int from rfl,qu];have h:∀(n:Nat)(m:UInt8),m.toNat=n->(((c.toNat:Int)=(n:Int))↔c=m):=λn m hm=>⟨λz=>jh.mpr ↑2,λz=>by rw[z];omega⟩
 have h1:((c.toNat:Int)=32)↔c=32:=h 32 32 rfl;have h2:((c.toNat:Int)=10)↔c=10:=h 10 10 rfl;have h3:((c.toNat:Int)=59)↔c=59:=h 59 59 rfl;unfold EwTree.isBlank;simp only[List.mem_cons,List.not_mem_nil,or_false,h1,h2,h3];by_cases z1:c=32 <;> by_cases z2:c=10 <;> by_cases z3:c=59 <;> simp[z1,z2,z3]
theorem Gz{b:By}{j:Nat}(h:b[j]?=some 35):Tn j (b.drop j)=Tn (aJ isSeen b j) (b.drop (aJ isSeen b j)):=by rw[dE h,kP,<-dE h];have e:j+((b.drop j).takeWhile isSeen).length=aJ isSeen b j:=rfl;rw[e,List.drop_drop];congr 2
theorem EE{b:By}{j:Nat}(h:b[j]?=some 35):j<aJ isSeen b j:=by rw[uU h ↑1];have:=bV isSeen b (j+1);omega
inductive QR(K:Frag)(vs:List V)(H:Hp)(Q:VK)(E:XK):Prop
 |mk(a:Addr) (b:By) (p:Nat) (_:vs=[.ref a,.int p]) (_:bh K H a (iv b)) (_:p<=b.length) (_:∀(q:Nat) H',aF H H'->p<=q->q<=b.length->Tn p (b.drop p)=Tn q (b.drop q)->(∀c,b[q]?=some c->isBlank c=false/\c≠35)->Q (.int q) H')
theorem GA:ax ["text","place"] ["text","place"] (aq (top 67)):=↑3
theorem R1(d:Def K mg "token_place" (top 67) ["text","place"])(op:Ok P w K mg base bj 1 "is_printable" ["byte"] (i_ g8))(orn:Ok P w K mg base bj 4 "run_end" ["text","place","fits"] (lh P w K mg base))(ln:mg "len"=none)(gh:GI mg "HASH" 35)(gb:GI mg "BLANK" 32)(gl:GI mg "LINE_END" 10)(gs:GI mg "SEMICOLON" 59):Ok P w K mg base bj 5 "token_place" ["text","place"] (QR K):=d.ok λf fd F=>by
 refine F.ok GA (by rintro vs H Q E ⟨a,b,p,rfl,_⟩;rfl) (λUT A outer s H vs Q E hr h=>?_);obtain⟨a,b,p,rfl,hS,hp,k⟩:=h;obtain⟨fp,mp,fits⟩:=fits_of op ↑0 Dc;have hlen:(iv b).length=b.length:=a_ b;refine⟨_,aj (fz PassesOwn.never (aD oG (pv 1) (bA ln (pv 0)) (aK _))
  (ai (aR (aD cU (bx aW (pv 0) (pv 1) (λ_ _=>rfl)) (cx gh) (aK _)) (ai (aN (i:=1) GA.nd rfl (Or.inl rfl) (aM orn hr (aa (pv 0) (aa (pv 1) (aa (fQ mp) ao))))))
   (ai (aR (aD eY (bx aW (pv 0) (pv 1) (λ_ _=>rfl)) (fT (aa (cx gb) (aa (cx gl) (aa (cx gs) ao)))) (by with_unfolding_all rfl)) (ai (iu (i:=1) GA.nd rfl (Or.inl rfl) aw gA)) (ai (aB (pv 1))))))))
  (ai (aB (pv 1))),?_⟩
 refine⟨λm σ H'=>∃j:Nat,m=b.length - j/\σ=[some (.ref a),some (.int j)]/\aF H H'/\p<=j/\j<=b.length/\Tn p (b.drop p)=Tn j (b.drop j),⟨_,p,rfl,rfl,aF.refl H,Nat.le_refl _,hp,rfl⟩,?_⟩;rintro m σ H1 ⟨j,rfl,rfl,s1,hpj,hj,e⟩;have hS1:=s1.seq hS;refine⟨_,rfl,_,rfl,a,_,rfl,.inl hS1,_,_,rfl,rfl,_,rfl,aT (λh1=>?_) λh1=>?_⟩
 ·have hjl:j<b.length:=by rw[<-a_];exact Qw h1
  have hg:b[j]?=some b[j]:=List.getElem?_eq_getElem hjl;refine⟨λσ' H2=>∃q:Nat,σ'=[some (.ref a),some (.int q)]/\aF H H2/\j<q/\q<=b.length/\Tn p (b.drop p)=Tn q (b.drop q),?_,?_⟩
  ·rintro σ' H2 ⟨q,rfl,s2,q1,q2,e2⟩;exact⟨b.length - q,↑2,q,rfl,rfl,s2,↑2,q2,e2⟩
  refine⟨_,rfl,_,rfl,a,_,_,_,rfl,rfl,hS1,dG hg,rfl,_,rfl,?_⟩;rw[bt];refine aT (λz=>?_) λz=>?_
  ·have z:=of_decide_eq_true z;have z:b[j]=35:=jh.mpr (by have h35:(35:UInt8).toNat=35:=rfl;omega);rw[z] at hg;exact⟨_,rfl,_,rfl,a,b,j,fp,isSeen,rfl,hS1,Nat.le_of_lt hjl,fits,_,rfl,s1,EE hg,dH _ hj,e.trans (Gz hg)⟩
  ·have z:b[j]≠35:=λy=>z (decide_eq_true (by rw[y];rfl));refine⟨_,rfl,_,rfl,a,_,_,_,rfl,rfl,hS1,dG hg,(by show 3<=sizeLine;decide),λt ht=>?_⟩;have s2:=aC (o:=.tup [.int 32,.int 10,.int 59]) ht;refine⟨t,_,rfl,.inr (fN.of ag),rfl,rfl,Dq (.int ((b[j].toNat:Nat):Int)) [.int 32,.int 10,.int 59],rfl,?_⟩;rw[Hc];refine aT (λy=>?_) λy=>?_
   ·refine⟨_,rfl,_,_,rfl,rfl,j+1,rfl,s1.trans s2,Nat.lt_succ_self _,hjl,?_⟩;rw[e,dE hg,iK y]
   ·rw[Bool.not_eq_true] at y;refine⟨_,rfl,k j _ (s1.trans s2) hpj hj e λc hc=>?_⟩;rw[hg] at hc;cases hc;exact⟨y,z⟩
 ·have hn:b[j]?=none:=List.getElem?_eq_none_iff.mpr (by rw[<-a_];exact R_ h1);refine⟨_,rfl,k j _ s1 hpj hj e λc hc=>?_⟩;rw[hn] at hc;cases hc
abbrev Lr:Stmt:=inClass (top 65) 0
def sf(fo fa:V):List (Str×V):=aV "fault" fa (aV "found" fo [])
theorem f9(fo fa:V):(sf fo fa).lookup ("found":Str)=some fo:=by unfold sf;rw[az,if_neg ↑1,az,if_pos rfl]
theorem lY(fo fa:V):(sf fo fa).lookup ("fault":Str)=some fa:=by unfold sf;rw[az,if_pos rfl]
structure yo(K:Frag)(C:Addr):Prop where
 cl:rY K C
 nf:aE K C "found"
 na:aE K C "fault"
def Qp(H:Hp)(fa:V):Option EwTree.Fault->Prop
 |none=>fa= .bF
 |some (r,q)=>∃t,fa= .ref t/\H t=some (.tup [.int (r:Nat),.int (q:Nat)])
inductive iX(CS CT:Addr)(H:Hp)(r:Addr)(ts:List EwTree.Tok)(fl:Option EwTree.Fault):Prop
 |mk(dx:_) (l:_) (fa:_) (rs:_) (_:H r=some (.ins CS dx (sf (.ref l) fa))) (_:H l=some (.lst (rs.map V.ref))) (_:Paired (λx t=>eJ CT H x t) rs ts) (_:Qp H fa fl)
theorem eJ.same{H':Hp}{r:Addr}{t:EwTree.Tok}(s:aF H H')(h:eJ C H r t):eJ C H' r t:=by obtain⟨dx,e⟩:=h;exact⟨dx,s _ _ e⟩
theorem iX.same{CS:Addr}{H':Hp}{r:Addr}{ts:List EwTree.Tok}{fl:Option EwTree.Fault}(s:aF H H')(h:iX CS CT H r ts fl):iX CS CT H' r ts fl:=by
 obtain⟨dx,l,fa,rs,h1,h2,h3,h4⟩:=h;refine⟨dx,l,fa,rs,s _ _ h1,s _ _ h2,L2.Paired.imp' (λ_ _ z=>eJ.same s z) h3,?_⟩
 match fl,h4 with
 |none,z=>exact z
 |some (r,q),⟨t,z1,z2⟩=>exact⟨t,z1,s _ _ z2⟩
inductive Ac(C:Addr)(vs:List V)(H:Hp)(Q:VK)(E:XK):Prop
 |mk(p dx:Addr) (fo fa:V) (_:vs=[.ref p,fo,fa]) (_:H p=some (.ins C dx [])) (_:∀H',H' p=some (.ins C dx (sf fo fa))->FA p H H'->Q .bF H')
theorem Mg:ax ["self","found","fault"] ["self","found","fault"] (aq Lr):=↑3
theorem CP{f:Addr}(F:jW K "__init__" "Scanned.__init__" Lr f fd)(T:yo K C):zU P w K mg base 1 f fd ["self","found","fault"] (Ac C):=by refine F.UR Mg (by rintro vs H Q E ⟨p,dx,fo,fa,rfl,_⟩;rfl) (λUT A outer s H vs Q E h=>?_);obtain⟨p,dx,fo,fa,rfl,h1,k⟩:=h;refine⟨_,aj (bD (pv 0) (pv 1) rfl) (ai (bD (pv 0) (pv 2) rfl)),?_⟩;refine⟨_,rfl,_,rfl,p,C,dx,[],rfl,h1,T.cl,T.nf,(by show 0<1000;decide),_,rfl,_,rfl,p,C,dx,_,rfl,ag,T.cl,T.na,Nat.lt_of_le_of_lt (aG _ _ _) (by show 1<1000;decide),?_⟩;exact k _ ag λb o hb hp=>by rw[ah hp,ah hp];exact hb
abbrev Pf(K:Frag)(mg:Str->Option Value)(C:Addr):Prop:=wR K mg "Scanned" "Scanned.__init__" Lr C ["self","found","fault"]
theorem OL(d:Pf K mg C)(T:yo K C):va P w K mg base 1 "Scanned" C ["self","found","fault"] (Ac C):=d.new λf fd F=>(CP F T).ok
theorem LH{CS:Addr}{H1:Hp}{l:Addr}{fa:V}{rs:List Addr}{ts:List EwTree.Tok}{fl:Option EwTree.Fault}{Q:VK}(h2:H1 l=some (.lst (rs.map V.ref)))(h3:Paired (λx t=>eJ CT H1 x t) rs ts)(h4:Qp H1 fa fl)(k:∀H' r,aF H1 H'->iX CS CT H' r ts fl->Q (.ref r) H'):
  ∀x dx,H1 x=none->H1 dx=none->dx≠x->Ac CS (.ref x::([V.ref l,fa]++[])) (upd (upd H1 dx (.own x)) x (.ins CS dx [])) (λv H2=>v= .bF/\Q (.ref x) H2) E0:=by
 intro x dx n1 n2 ne;refine⟨x,dx,.ref l,fa,rfl,ag,λH' h' fr=>⟨rfl,?_⟩⟩;have s:=aF.made n1 n2 fr;refine k H' x s ⟨dx,l,fa,rs,h',s _ _ h2,L2.Paired.imp' (λ_ _ z=>eJ.same s z) h3,?_⟩
 match fl,h4 with
 |none,z=>exact z
 |some (r,q),⟨t,z1,z2⟩=>exact⟨t,z1,s _ _ z2⟩
inductive Jh(K:Frag)(CS CT:Addr)(vs:List V)(H:Hp)(Q:VK)(E:XK):Prop
 |mk(a:Addr) (b:By) (_:vs=[.ref a]) (_:bh K H a (iv b)) (_:b.length<=65536) (_:∀H' r,aF H H'->iX CS CT H' r (Tn 0 b).1 (Tn 0 b).2->Q (.ref r) H')
theorem jc:ax ["text","found","place","token","e"] ["text"] (aq (top 66)):=↑3
def yD:Stmt->List Stmt
 | .Try _ [.ExceptHandler _ _ b _] _ _ _=>b
 |_=>[]
def RS(CT CF:Addr)(b:By)(a:Addr)(H0:Hp):L2.St->Addr->Hp->Prop:=λσ e H'=>∃(l:Addr)(pl tk:Option V)(rs:List Addr)(ts:List EwTree.Tok)(r q:Nat),σ=[some (.ref a),some (.ref l),pl,tk,none]/\H' l=some (.lst (rs.map V.ref))/\Paired (λx t=>eJ CT H' x t) rs ts/\
 Tn 0 b=(ts,some (r,q))/\nj CF H' e r q/\aF H0 H'
theorem Kt{CS:Addr}(d:Def K mg "scan" (top 66) ["text"])(dS:Pf K mg CS)(TS:yo K CS)(TT:wX K CT)(TF:AV K CF)(otp:Ok P w K mg base bj 5 "token_place" ["text","place"] (QR K))(ota:Ok P w K mg base (g_ P w) 8 "token_at" ["text","place"] (mh K CT CF λ_=>True))(ln:mg "len"=none)(mf:mg "Fault"=some (.ref CF))(xf:PySem.W.exmOne K (.ref CF) (.ref CF)=some true):
    Ok P w K mg base bj 9 "scan" ["text"] (Jh K CS CT):=d.ok λf fd F=>by
  refine F.Uo jc (by rintro vs H Q E ⟨a,b,rfl,_⟩;rfl) (λUT A outer s H vs Q E hr h=>?_);obtain⟨a,b,rfl,hS,hl,k⟩:=h;obtain⟨fS,fdS,MS,FS,bS,mS⟩:=id dS.ex;have nS:va P w K mg base 1 "Scanned" CS ["self","found","fault"] (Ac CS):=OL dS TS;have rh:rZ 2 (A.deeper (envOfC "scan" (aq (top 66)) s.heap.objs.size f UT)):=(hr.mono ↑0).h;have hs:∀e,tN (sx (iL bj P w K mg base ["text","found","place","token","e"] "scan" (aq (top 66)) f UT A outer s H E).LF e) (yD ((bX (top 66)).getD 1 (.Pass ⟨0,0,0,0⟩)))
      (p8 (uL CS (Ac CS) [] E0 (bQ (df 1) (bQ (JW (bQ (Df K (df 4) "rule") (bQ (Df K (df 4) "place") d8))) d8)))):=λe=>
    ai (aB (F8 MS (CP FS TS) ⟨rh.dp,rh.un⟩ (by rfl) mS bS (aa (pv 1) (aa (fT (aa (yn (pv 4) rfl) (aa (yn (pv 4) rfl) ao))) ao))))
  refine⟨_,nU (PS.So (aN (i:=1) jc.nd rfl (Or.inl rfl) (bE ao))) (nU (De (i:=4) (R:=RS CT CF b a H) ⟨rfl,rfl,rfl⟩
      (aj (aN (i:=2) jc.nd rfl (Or.inl rfl) (aM otp (hr.mono ↑0) (aa (pv 0) (aa aw ao))))
       (ai (fz (wy ⟨rfl,rfl,rfl⟩) (aD oG (pv 2) (bA ln (pv 0)) (aK _))
        (aj (aN (i:=3) jc.nd rfl (Or.inl rfl) (nL ota hr (aa (pv 0) (aa (pv 2) ao))))
        (aj (aS (fW PySem.F.plainAttrs_list PySem.F.slot_list_append PySem.F.type_list_append cH (pv 1) (aa (pv 3) ao)))
        (ai (aN (i:=2) jc.nd rfl (Or.inl rfl) (aM otp (hr.mono ↑0) (aa (pv 0) (aa (ay (pv 3) rfl) ao))))))))))
      hs
      jc.nd rfl rfl rfl mf) (tN.So (ai (aB (eK nS (hr.mono ↑0) (aa (pv 1) (aa AM ao))))))),?_⟩
  refine⟨Nat.zero_le _,λl hl0=>⟨?_,?_⟩⟩
  · have s0:=aC (o:=.lst []) hl0;refine⟨_,rfl,a,b,0,rfl,s0.seq hS,Nat.zero_le _,λq0 H1 s1 _ hq0 e0 hb0=>?_⟩;refine⟨λm σ H'=>∃(j:Nat)(tk:Option V)(rs:List Addr)(ts:List EwTree.Tok),m=b.length - j/\σ=[some (.ref a),some (.ref l),some (.int j),tk,none]/\H' l=some (.lst (rs.map V.ref))/\Paired (λx t=>eJ CT H' x t) rs ts/\aF H H'/\
      j<=b.length/\rs.length<=j/\Tn 0 b=(ts++(Tn j (b.drop j)).1,(Tn j (b.drop j)).2)/\∀c,b[j]?=some c->isBlank c=false/\c≠35,
      ⟨_,q0,none,[],[],rfl,rfl,s1 _ _ ag,Paired.nil,s0.trans s1,hq0,Nat.zero_le _,?_,hb0⟩,?_⟩
    · rw[<-e0];rfl
    rintro m σ H2 ⟨j,tk,rs,ts,rfl,rfl,hL,hP,s2,hj,hrs,eT,hb⟩;have hS2:=s2.seq hS;refine⟨_,rfl,_,rfl,a,_,rfl,.inl hS2,_,_,rfl,rfl,_,rfl,aT (λh1=>?_) λh1=>?_⟩
    · have hjl:j<b.length:=by rw[<-a_];exact Qw h1
      have hg:b[j]?=some b[j]:=List.getElem?_eq_getElem hjl;obtain⟨hb1,hb2⟩:=hb _ hg;refine⟨_,λ_ _ z=>z,?_⟩;have eT1:=m7 (p:=j) (r:=b.drop (j+1)) hb1 hb2;rw[<-dE hg] at eT1;refine⟨_,rfl,_,rfl,a,b,j,b[j],rfl,hS2,hl,hg,trivial,λt sx' ht H3 r s3 hT=>?_,λr q ht H3 e s3 hF=>?_⟩
      · obtain⟨t1,t2,t3,t4⟩:=iT ht;rw[List.length_drop] at t3;rw[ht] at eT1;have hL3:=s3 _ _ hL;obtain⟨dx,hTa⟩:=hT;have hrl:r≠l:=dB hTa hL3 (by intro z;cases z);have hsz:sizeLine=16777216:=sizeLine_eq;refine⟨_,rfl,.inl ⟨rfl,_,bh.of hL3⟩,_,rfl,l,_,_,rfl,rfl,hL3,(by rw[List.length_map,hsz];omega),?_⟩;have s4:aF H (upd H3 l (.lst (rs.map V.ref++[V.ref r]))):=λb' o hb'=>by rw[ah (au hb' hl0)];exact s3 _ _ (s2 _ _ hb')
        refine⟨_,rfl,rV rfl (rf ((by rw[ah hrl];exact hTa)) TT.cl TT.ne (xo _ _ _ _) ⟨a,b,t.halt_,rfl,s4.seq hS,↑2,λq H5 s5 q1 q2 e5 hb5=>?_⟩)⟩;refine⟨b.length - q,↑2,q,some (.ref r),rs++[r],ts++[t],rfl,rfl,?_,?_,s4.trans s5,q2,(by rw[List.length_append];simp;omega),?_,hb5⟩
        · rw[s5 _ _ ag,List.map_append];rfl
        · refine Paired.snoc ?_ ?_
          · refine L2.Paired.imp' (λx u z=>?_) hP;obtain⟨dz,hz⟩:=z;have hxl:x≠l:=dB hz hL (by intro z;cases z);exact⟨dz,s5 _ _ (by rw[ah hxl];exact s3 _ _ hz)⟩
          · exact⟨dx,s5 _ _ (by rw[ah hrl];exact hTa)⟩
        · rw[eT,eT1,List.append_assoc,<-e5];have et:(b.drop j).drop (t.halt_ - j)=b.drop t.halt_:=by rw[List.drop_drop];congr 1;omega
          rw[t4,et];rfl
      · rw[ht] at eT1;refine⟨e,rfl,l,_,_,rs,ts,r,q,rfl,s3 _ _ hL,L2.Paired.imp' (λx u z=>eJ.same s3 z) hP,?_,hF,s2.trans s3⟩;rw[eT,eT1,List.append_nil]
    · have hn:b.length<=j:=by rw[<-a_];exact R_ h1
      rw[List.drop_eq_nil_of_le hn,gT,List.append_nil] at eT;refine⟨_,rfl,LH (fl:=none) hL hP rfl λH' r s' h'=>k H' r (s2.trans s') ?_⟩;rw[eT];exact h'
  · rintro e σ' H' he ⟨l',pl,tk,rs,ts,r,q,rfl,hL,hP,eT,⟨dF,lF,f1,f2,f3⟩,s2⟩;refine⟨⟨CF,some dF,f1,xf⟩,?_⟩;refine⟨_,rfl,_,rfl,e,CF,dF,_,_,rfl,f1,f2,TF.x,TF.nr,JV _ _ _,_,rfl,e,CF,dF,_,_,rfl,f1,f2,TF.x,TF.np,F7 _ _ _,(by show 2<=sizeLine;decide),λt ht=>?_⟩;have s3:=aC (o:=.tup [.int (r:Nat),.int (q:Nat)]) ht;refine LH (fl:=some (r,q)) (s3 _ _ hL) (L2.Paired.imp' (λx u z=>eJ.same s3 z) hP) ⟨t,rfl,ag⟩ λH4 x s4 h4=>k H4 x (s2.trans (s3.trans s4)) ?_;rw[eT];exact h4
theorem GC:∀(n:Nat)(p:Nat)(b:By),b.length<=n->(Tn p b).1.length<=b.length:=by
 intro n;induction n with
 |zero=>
  intro p b hb;have:b=[]:=List.eq_nil_of_length_eq_zero ↑2;subst this;rw[gT];exact Nat.le_refl _
 |succ n ih=>
  intro p b hb;cases b with
  |nil=>rw[gT];exact Nat.le_refl _
  |cons c r=>
   simp only[List.length_cons] at hb ⊢;cases h1:isBlank c with
   |true=>rw[iK h1];have:=ih (p+1) r ↑2;omega
   |false=>
    by_cases h2:c=35
    ·subst h2;rw[kP,List.takeWhile_cons,if_pos ↑0,List.length_cons,List.drop_succ_cons];have:=ih (p+((r.takeWhile isSeen).length+1)) (r.drop (r.takeWhile isSeen).length) (by rw[List.length_drop];omega);rw[List.length_drop] at this;omega
    ·rw[m7 h1 h2];cases e:tokenIn p (c::r) with
     |error z=>exact Nat.zero_le _
     |ok x=>
      obtain⟨u,s⟩:=x;obtain⟨q1,q2,q3,q4⟩:=iT e;have hs:s.length<=r.length:=by rw[q4,List.length_drop,List.length_cons];omega
      have:=ih u.halt_ s ↑2;dsimp only;rw[List.length_cons];omega
inductive xj(K:Frag)(CR:Addr)(H:Hp)(e:Addr)(ns:List Int):Prop
 |mk(C:_) (d:_) (l:_) (fs:_) (_:sZ K C) (_:aE K C "numbers") (_:PySem.W.exmOne K (.ref C) (.ref CR)=some true) (_:H e=some (jE e C (some d))) (_:H d=some (xX d fs)) (_:fs.lookup ("numbers":Str)=some (.ref l)) (_:H l=some (.lst (ns.map V.int)))
structure Ry(P:Program)(w:World)(K:Frag)(mg:Str->Option Value)(base:Heap)(nm:Str)(C CR:Addr)(ns:List Int):Prop where
 nw:JL P w K mg base 2 nm C ["self"] (Km K ns)
 x:sZ K C
 nn:aE K C "numbers"
 is:PySem.W.exmOne K (.ref C) (.ref CR)=some true
theorem Ak{CR fX:Addr}{nm:Str}{ns:List Int}{H1:Hp}{R:Addr->Hp->Prop}(T:Ry P w K mg base nm C CR ns)(M:IS K C fX)(k:∀e H',aF H1 H'->xj K CR H' e ns->R e H'):
  ([]:List V).length<=1000/\∀e,H1 e=none->Km K ns (.ref e::(([]:List V)++[])) (upd H1 e (eQ e C none)) (λv H2=>v= .bF/\∃e' C' f' dx,V.ref e= .ref e'/\H2 e'=some (eQ e' C' dx)/\IS K C' f'/\R e' (upd H2 e' (jE e' C' dx))) E0:=by
 refine⟨Nat.zero_le _,λe he=>⟨e,C,rfl,ag,T.x,T.nn,λH' nu fr=>⟨rfl,?_⟩⟩⟩;obtain⟨d,l,hde,hd0,a1,a2,a3⟩:=nu;have s1:aF H1 (upd H' e (jE e C (some d))):=λb o hb=>by
  have hbe:=au hb he;rw[ah hbe];exact fr b o (by rw[ah hbe];exact hb) hbe
 have hle:l≠e:=dB a3 a1 (by intro z;cases z);exact⟨e,C,fX,some d,rfl,a1,M,k e _ s1 ⟨C,d,l,_,T.x,T.nn,T.is,ag,by rw[ah hde];exact a2,rfl,by rw[ah hle];exact a3⟩⟩
inductive Nk(K:Frag)(CR:Addr)(vs:List V)(H:Hp)(Q:VK)(E:XK):Prop
 |mk(a:Addr) (b:By) (_:vs=[.ref a]) (_:bh K H a (iv b)) (_:(65536<b.length->∀H' e,aF H H'->xj K CR H' e [-1]->E (.ref e) none H')) (_:(b.length<=65536->Q .bF H))
theorem Ro:ax ["text"] ["text"] (aq (top 97)):=↑3
theorem R4{CR CL:Addr}(d:Def K mg "refuse_long" (top 97) ["text"])(tl:Ry P w K mg base "TooLong" CL CR [-1])(ln:mg "len"=none)(gb:GI mg "MOST_BYTES_calls" 65536):Ok P w K mg base (g_ P w) 4 "refuse_long" ["text"] (Nk K CR):=d.ok λf fd F=>by
 refine F.uD Ro (by rintro vs H Q E ⟨a,b,rfl,_⟩;rfl) (λUT A outer s H vs Q E hr h=>?_);obtain⟨a,b,rfl,hS,k1,k3⟩:=h;obtain⟨fL,_,ML,_⟩:=id tl.nw.ex;refine⟨_,ai (aR (aD o9 (bA ln (pv 0)) (cx gb) (aK _)) (ai (cj hr.hd (FN tl.nw (hr.mono ↑0)))) aL),?_⟩;refine⟨_,rfl,a,_,rfl,.inl hS,_,_,rfl,rfl,_,rfl,aT (λz=>?_) λz=>?_⟩
 ·have z:=of_decide_eq_true z;rw[a_] at z;exact Ak tl ML λe H' s' h'=>k1 ↑2 H' e s' h'
 ·have z:¬_:=λy=>z (decide_eq_true y);rw[a_] at z;exact k3 ↑2
inductive N7(K:Frag)(CS CT CR:Addr)(vs:List V)(H:Hp)(Q:VK)(E:XK):Prop
 |mk(a:Addr) (b:By) (_:vs=[.ref a]) (_:bh K H a (iv b)) (_:b.length<=65536) (_:(100<EwTree.depth b->∀H' e,aF H H'->xj K CR H' e [-6]->E (.ref e) none H')) (_:(¬100<EwTree.depth b->∀H' r,aF H H'->iX CS CT H' r (Tn 0 b).1 (Tn 0 b).2->Q (.ref r) H'))
theorem LB:ax ["text","scanned"] ["text"] (aq (top 98)):=↑3
theorem QX{CS CR CD:Addr}(d:Def K mg "scan_shallow" (top 98) ["text"])(TS:yo K CS)(os:Ok P w K mg base bj 9 "scan" ["text"] (Jh K CS CT))(od:Ok P w K mg base bj 4 "depth" ["found"] (LA K CT))(td:Ry P w K mg base "TooDeep" CD CR [-6])(gd:GI mg "MOST_DEPTH" 100):Ok P w K mg base (g_ P w) 10 "scan_shallow" ["text"] (N7 K CS CT CR):=d.ok λf fd F=>by
 refine F.uD LB (by rintro vs H Q E ⟨a,b,rfl,_⟩;rfl) (λUT A outer s H vs Q E hr h=>?_);obtain⟨a,b,rfl,hS,hl,k2,k3⟩:=h;obtain⟨fD,_,MD,_⟩:=id td.nw.ex;refine⟨_,aj (aN (i:=1) LB.nd rfl (Or.inl rfl) (aM os hr (aa (pv 0) ao)))
  (aj (aR (aD o9 (aM od (hr.mono ↑0) (aa (ay (pv 1) rfl) ao)) (cx gd) (aK _)) (ai (cj hr.hd (FN td.nw (hr.mono ↑0)))) aL)
  (ai (aB (pv 1)))),?_⟩
 refine⟨_,rfl,a,b,rfl,hS,hl,λH1 r s1 hA=>?_⟩;obtain⟨dx,l,fa,rs,a1,a2,a3,a4⟩:=id hA;have hln:=GC b.length 0 b (Nat.le_refl _);refine rV rfl (rf a1 TS.cl TS.nf (f9 _ _) ⟨l,rs,_,rfl,bh.of a2,a3,tP b.length 0 b (Nat.le_refl _),↑2,λH2 s2=>?_⟩);have ed:(cS (Tn 0 b).1).2=EwTree.depth b:=by rw[EY];rfl
 rw[ed];refine⟨_,_,rfl,rfl,_,rfl,aT (λy=>?_) λy=>?_⟩
 ·have y:=of_decide_eq_true y;exact Ak td MD λe H' s' h'=>k2 ↑2 H' e (s1.trans (s2.trans s')) h'
 ·have y:¬_:=λq=>y (decide_eq_true q);exact⟨_,rfl,k3 ↑2 _ r (s1.trans s2) (hA.same s2)⟩
end
inductive QU(K:Frag)(CS CT CR:Addr)(vs:List V)(H:Hp)(Q:VK)(E:XK):Prop
 |mk(a:Addr) (b:By) (_:vs=[.ref a]) (_:bh K H a (iv b)) (_:(65536<b.length->∀H' e,aF H H'->xj K CR H' e [-1]->E (.ref e) none H')) (_:(b.length<=65536->100<EwTree.depth b->∀H' e,aF H H'->xj K CR H' e [-6]->E (.ref e) none H')) (_:(b.length<=65536->¬100<EwTree.depth b->∀H' r,aF H H'->iX CS CT H' r (Tn 0 b).1 (Tn 0 b).2->Q (.ref r) H'))
theorem Rr:ax ["text"] ["text"] (aq (top 96)):=↑3
theorem RM{CS CR:Addr}(d:Def K mg "scan_allowed" (top 96) ["text"])(orl:Ok P w K mg base (g_ P w) 4 "refuse_long" ["text"] (Nk K CR))(oss:Ok P w K mg base (g_ P w) 10 "scan_shallow" ["text"] (N7 K CS CT CR)):
  Ok P w K mg base (g_ P w) 11 "scan_allowed" ["text"] (QU K CS CT CR):=d.ok λf fd F=>by
 refine F.uD Rr (by rintro vs H Q E ⟨a,b,rfl,_⟩;rfl) (λUT A outer s H vs Q E hr h=>?_);obtain⟨a,b,rfl,hS,k1,k2,k3⟩:=h;refine⟨_,aj (aS (nL orl (hr.mono ↑0) (aa (pv 0) ao))) (ai (aB (nL oss hr (aa (pv 0) ao)))),?_⟩;refine⟨_,rfl,a,b,rfl,hS,λz H' e s' h'=>⟨e,rfl,k1 z H' e s' h'⟩,λz=>?_⟩;exact⟨_,rfl,a,b,rfl,hS,z,λy H' e s' h'=>⟨e,rfl,k2 z y H' e s' h'⟩,λy H' r s' h'=>k3 z y H' r s' h'⟩
def xJ(n k:Nat):List Int:=(List.range k).map λi=>((n / 256 ^ i % 256:Nat):Int)
theorem EG(n k:Nat):xJ n (k+1)=xJ n k++[((n / 256 ^ k % 256:Nat):Int)]:=by unfold xJ;rw[List.range_succ,List.map_append];rfl
theorem J6(n k:Nat):Builtin.bitAnd ((n:Int) / 2 ^ (8*((0:Int)+(k:Int))).toNat) 255=((n / 256 ^ k % 256:Nat):Int):=by rw[bitAnd_m8,show(8*((0:Int)+(k:Int))).toNat=8*k by omega,show(2:Int) ^ (8*k)=((2 ^ (8*k):Nat):Int) by norm_cast,Nat.pow_mul];rfl
inductive Ji(vs:List V)(H:Hp)(Q:VK)(E:XK):Prop
 |mk(n k:Nat) (_:vs=[.int n,.int k]) (_:k<=8) (_:∀H' r,aF H H'->H' r=some (.lst ((xJ n k).map V.int))->Q (.ref r) H')
theorem BY:ax ["number","size","told","at"] ["number","size"] (aq (top 81)):=↑3
theorem Oi(d:Def K mg "low_first" (top 81) ["number","size"])(rg:mg "range"=none):Ok P w K mg base bj 1 "low_first" ["number","size"] Ji:=d.ok λf fd F=>by
 refine F.ok BY (by rintro vs H Q E ⟨n,k,rfl,_⟩;rfl) (λUT A outer s H vs Q E hr h=>?_);obtain⟨n,k,rfl,hk,q⟩:=h;refine⟨_,aj (aN (i:=2) BY.nd rfl (Or.inl rfl) (bE ao))
  (aj (rM PassesOwn.never rfl (EA rfl rg (aa (pv 1) ao)) (fK (i:=3) BY.nd rfl (Or.inl rfl))
   (ai (aS (fW PySem.F.plainAttrs_list PySem.F.slot_list_append PySem.F.type_list_append cH (pv 2) (aa (bz Nq (bz Pc (pv 0) (bz Iz aw (pv 3))) aw) ao)))))
  (ai (aB (pv 2)))),?_⟩
 refine⟨Nat.zero_le _,λl hl=>?_⟩;refine⟨_,rfl,k,rfl,↑2,↑2,Er (lo:=0) (n:=k) (λi σ H'=>∃v3,σ=[some (.int n),some (.int k),some (.ref l),v3]/\H' l=some (.lst ((xJ n i).map V.int))/\aF H H') ?_ ?_ ?_⟩
 ·exact⟨_,rfl,ag,aC hl⟩
 ·rintro i σ H1 hi ⟨v3,rfl,h1,s1⟩;refine⟨_,rfl,.inl ⟨rfl,_,bh.of h1⟩,_,rfl,_,rfl,_,_,rfl,rfl,.inl ⟨↑0,↑0⟩,_,_,rfl,rfl,↑2,_,_,rfl,rfl,l,_,_,rfl,rfl,h1,?_,?_⟩
  ·have hsz:sizeLine=16777216:=sizeLine_eq;rw[List.length_map,hsz];unfold xJ;rw[List.length_map,List.length_range];omega
  ·refine⟨_,rfl,?_,λb o hb=>?_⟩
   ·try dsimp only
    rw[ag,EG,List.map_append,J6];rfl
   ·rw[ah (au hb hl)];exact s1 _ _ hb
 ·rintro σ H1 ⟨v3,rfl,h1,s1⟩;exact⟨_,rfl,q H1 l s1 h1⟩
theorem fO{k:Str}{v:V}{r:List (Str×V)}:List.lookup k ((k,v)::r)=some v:=by simp[List.lookup]
theorem aP{k g:Str}{v:V}{r:List (Str×V)}(h:k≠g):List.lookup k ((g,v)::r)=List.lookup k r:=by
 have:(k==g)=false:=by simpa using h
 simp[List.lookup,this]
theorem wG{k:Str}{v x:V}{r:List (Str×V)}:aV k v ((k,x)::r)=(k,v)::r:=if_pos rfl
theorem aU{k g:Str}{v x:V}{r:List (Str×V)}(h:g≠k):aV k v ((g,x)::r)=(g,x)::aV k v r:=if_neg h
def tV(a b c d:V):List (Str×V):=[("form",a),("parts",b),("first",c),("behind",d)]
section
variable{a b c d v:V}
theorem rk:(tV a b c d).lookup ("form":Str)=some a:=fO
theorem eZ:(tV a b c d).lookup ("parts":Str)=some b:=(aP ↑1).trans fO
theorem E1:(tV a b c d).lookup ("first":Str)=some c:=(aP ↑1).trans ((aP ↑1).trans fO)
theorem D9:aV "form" v (tV a b c d)=tV v b c d:=wG
theorem B1:aV "first" v (tV a b c d)=tV a b v d:=(aU ↑1).trans (congrArg _ ((aU ↑1).trans (congrArg _ wG)))
theorem yV:aV "behind" v (tV a b c d)=tV a b c v:=(aU ↑1).trans (congrArg _ ((aU ↑1).trans (congrArg _ ((aU ↑1).trans (congrArg _ wG)))))
theorem J7:aV "behind" d (aV "first" c (aV "parts" b (aV "form" a [])))=tV a b c d:=by have h1:aV "parts" b (aV "form" a [])=[(("form":Str),a),(("parts":Str),b)]:=(aU ↑1).trans rfl;have h2:aV "first" c [(("form":Str),a),(("parts":Str),b)]=[(("form":Str),a),(("parts":Str),b),(("first":Str),c)]:=(aU ↑1).trans (congrArg _ ((aU ↑1).trans rfl));rw[h1,h2];exact(aU ↑1).trans (congrArg _ ((aU ↑1).trans (congrArg _ ((aU ↑1).trans rfl))))
end
structure JB(K:Frag)(C:Addr):Prop where
 cl:rY K C
 nf:aE K C "form"
 np:aE K C "parts"
 n1:aE K C "first"
 nb:aE K C "behind"
 ha:PySem.W.findIn K (.ref C) "__class__"=some (some (.builtin "object.__class__"))
 hn:PySem.W.specialIn K (.builtin "object.__class__") "__get__"=some (some (.builtin "getset_descriptor.__get__"))
 ht:PySem.W.takesIn K (.builtin "object.__class__")=some true
 hm:PySem.W.mroIn K C (.type "object")=some true
 kl:PySem.W.kitOne K (.type "list") (.ref C)=some false
theorem JB.yes{K:Frag}(T:JB K C):PySem.W.kitOne K (.ref C) (.ref C)=some true:=by unfold PySem.W.kitOne;rw[if_pos (by simp)]
def Ay:MA.Fm->V
 | .kind k _=>.int k
 | .row _=>.str "@row"
 | .count _=>.str "@count"
 | .set _=>.str "@set"
def zH:MA.Fm->Prop
 | .kind k _=>k<256
 |_=>True
def UK(N:Nat)(s:EwTree.St)(d:V):MA.Fm->Prop
 | .kind _ _=>d= .int ((N:Int) - MA.len s)
 |_=>True
mutual
inductive ki(C:Addr)(N:Nat)(H:Hp):V->MA.Pt->Prop
 |leaf{a:Addr} {b:By}:H a=some (.lst (iv b))->ki C N H (.ref a) (.leaf b)
 |aY{a dx l:Addr} {f:MA.Fm} {s:EwTree.St} {ps:List MA.Pt} {vs:List V} {d:V}:H a=some (.ins C dx (tV (Ay f) (.ref l) (.int ((N:Int) - MA.len f.zD)) d))->H l=some (.lst vs)->f.isSet=false->zH f->UK N s d f->bK C N H vs ps->ki C N H (.ref a) (.aY f s ps)
inductive bK(C:Addr)(N:Nat)(H:Hp):List V->List MA.Pt->Prop
 |nil:bK C N H [] []
 |cons{v:V} {p:MA.Pt} {vs:List V} {ps:List MA.Pt}:ki C N H v p->bK C N H vs ps->bK C N H (v::vs) (p::ps)
end
section
variable{C:Addr}{N:Nat}{H H':Hp}
mutual
theorem ki.same(s:aF H H'):∀{v:V}{p:MA.Pt},ki C N H v p->ki C N H' v p
 |_,_,.leaf h=>.leaf (s _ _ h)
 |_,_,.aY h1 h2 h3 h4 h5 h6=>.aY (s _ _ h1) (s _ _ h2) h3 h4 h5 (bK.same s h6)
theorem bK.same(s:aF H H'):∀{vs:List V}{ps:List MA.Pt},bK C N H vs ps->bK C N H' vs ps
 |_,_,.nil=>.nil
 |_,_,.cons h r=>.cons (ki.same s h) (bK.same s r)
end
theorem bK.length:∀{vs:List V}{ps:List MA.Pt},bK C N H vs ps->vs.length=ps.length
 |_,_,.nil=>rfl
 |_,_,.cons _ r=>congrArg (·+1) r.length
theorem bK.app:∀{vs ws:List V}{ps qs:List MA.Pt},bK C N H vs ps->bK C N H ws qs->bK C N H (vs++ws) (ps++qs)
 |_,_,_,_,.nil,h=>h
 |_,_,_,_,.cons h r,q=>.cons h (r.app q)
theorem bK.snoc_inv:∀{vs:List V}{ps:List MA.Pt}{p:MA.Pt},bK C N H vs (ps++[p])->∃ws v,vs=ws++[v]/\bK C N H ws ps/\ki C N H v p
 |_,[],_,.cons h .nil=>⟨[],_,rfl,.nil,h⟩
 |_,_::_,_,.cons h r=>by
  obtain⟨ws,v,e,h1,h2⟩:=r.snoc_inv;exact⟨_::ws,v,by rw[e];rfl,.cons h h1,h2⟩
end
mutual
def wt:MA.Pt->Nat
 | .leaf b=>b.length+1
 | .aY _ _ l=>5+kH l
def kH:List MA.Pt->Nat
 |[]=>0
 |p::r=>wt p+kH r
end
theorem GP:∀p:MA.Pt,1<=wt p
 | .leaf b=>Nat.le_add_left ..
 | .aY _ _ l=>by show 1<=5+kH l;omega
theorem vF:∀l:List MA.Pt,l.length<=kH l
 |[]=>Nat.le_refl _
 |p::r=>by
  have:=vF r;have:=GP p;show r.length+1<=wt p+kH r;omega
theorem wO:∀l r:List MA.Pt,kH (l++r)=kH l+kH r
 |[],r=>(Nat.zero_add _).symm
 |p::l,r=>by show wt p+kH (l++r)=wt p+kH l+kH r;rw[wO l r,Nat.add_assoc]
theorem HJ(a b:By):iv (a++b)=iv a++iv b:=List.map_append
theorem Od:∀a<128,∀k<7,Builtin.bitOr ((a:Nat):Int) (1*2 ^ ((k:Nat):Int).toNat)=((a ||| 2 ^ k:Nat):Int):=↑1
theorem Rg:∀a<128,∀k<7,a ||| 2 ^ k<128:=↑1
theorem q_{l:List MA.Pt}(h:MA.iP l):∀i,i<=l.length->MA.eB (l.take i)<128
 |0,_=>by show 0<128;decide
 |i+1,hi=>by
  have hl:l[i]?=some l[i]:=List.getElem?_eq_getElem ↑2;obtain⟨k,hk,e⟩:=h l[i] (List.getElem_mem _);rw[take_snoc hl,e,MA.iW,show(UInt8.ofNat k).toNat=k by simp;omega];exact Rg _ (q_ h i ↑2) k hk
theorem bK.get{N:Nat}:∀{vs:List V}{ps:List MA.Pt}{i:Nat}{v:V},bK C N H vs ps->vs[i]?=some v->∃p,ps[i]?=some p/\ki C N H v p
 |_,_,_,_,.nil,h=>by simp at h
 |_,_,0,_,.cons hp _,h=>by simp at h;subst h;exact⟨_,rfl,hp⟩
 |_,_,i+1,_,.cons _ r,h=>by simp at h;obtain⟨p,h1,h2⟩:=r.get h;exact⟨p,by simpa using h1,h2⟩
inductive Nu(C:Addr)(vs:List V)(H:Hp)(Q:VK)(E:XK):Prop
 |mk(l:Addr) (us:List V) (ps:List MA.Pt) (N:Nat) (_:vs=[.ref l]) (_:H l=some (.lst us)) (_:bK C N H us ps) (_:MA.iP ps) (_:Q (.int (MA.eB ps:Nat)) H)
theorem Dj:ax ["bits","byte","bit"] ["bits"] (aq (top 79)):=↑3
theorem RU(d:Def K mg "set_byte" (top 79) ["bits"]):Ok P w K mg base bj 1 "set_byte" ["bits"] (Nu C):=d.ok λf fd F=>by
 refine F.ok Dj (by rintro vs H Q E ⟨l,us,ps,N,rfl,_⟩;rfl) (λUT A outer s H vs Q E hr h=>?_);obtain⟨l,us,ps,N,rfl,hl,hp,hs,q⟩:=h;refine⟨_,aj (aN (i:=1) Dj.nd rfl (Or.inl rfl) aw)
  (aj (rM PassesOwn.never rfl (qr (pv 0)) (fK (i:=2) Dj.nd rfl (Or.inl rfl))
   (ai (aN (i:=1) Dj.nd rfl (Or.inl rfl) (bz QH (pv 1) (bz Oq aw (bx aW (pv 2) aw (λ_ _=>rfl)))))))
  (ai (aB (pv 1)))),?_⟩
 have hll:=hp.length;refine⟨_,rfl,l,rfl,⟨_,bh.of hl⟩,yX (K:=K) (a:=l) (xs:=us) (λi σ H'=>∃v2,σ=[some (.ref l),some (.int (MA.eB (ps.take i):Nat)),v2]/\H'=H) ⟨_,rfl,rfl⟩ (λi σ H' _ ⟨_,_,e⟩=>by rw[e];exact bh.of hl) ?_ ?_⟩
 ·rintro i v σ H' hi ⟨v2,rfl,rfl⟩;obtain⟨p,hpi,hpt⟩:=hp.get hi;have hil:i<ps.length:=(List.getElem?_eq_some_iff.mp hpi).1;obtain⟨k,hk,e⟩:=hs p (List.mem_of_getElem? hpi);subst e;cases hpt with
  |@leaf a b ha=>
   have hs1:=q_ hs i ↑2;refine⟨_,rfl,_,rfl,a,_,_,_,rfl,rfl,bh.of ha,dG (p:=0) (c:=UInt8.ofNat k) rfl,_,_,rfl,rfl,⟨↑2,by simp;omega,↑0⟩,_,_,rfl,rfl,some (.ref a),?_,rfl⟩;have hku:(UInt8.ofNat k).toNat=k:=by simp;omega
   try dsimp only
   rw[hku,Od _ hs1 k hk,take_snoc hpi,MA.iW,hku];rfl
 ·rintro σ H' ⟨v2,rfl,rfl⟩;refine⟨_,rfl,?_⟩;rw[hll,List.take_length];exact q
inductive IQ(K:Frag)(vs:List V)(H:Hp)(Q:VK)(E:XK):Prop
 |mk(a:Addr) (y x:By) (_:vs=[.ref a]) (_:bh K H a (iv y)) (_:MA.Ct y x) (_:x.length<=1024) (_:∀H' r,aF H H'->H' r=some (.lst (iv x))->Q (.ref r) H')
theorem rn:ax ["items","held","place"] ["items"] (aq (top 84)):=↑3
theorem wC{y:By}{j:Nat}{c:UInt8}{r:By}(h:y.drop j=c::r):y[j]?=some c/\y.drop (j+1)=r/\j<y.length:=by
 have h1:(y.drop j)[0]?=some c:=by rw[h];rfl
 rw[List.getElem?_drop,Nat.add_zero] at h1;refine⟨h1,?_,(List.getElem?_eq_some_iff.mp h1).1⟩;rw[<-List.drop_drop,h];rfl
theorem NK(d:Def K mg "item_bytes" (top 84) ["items"])(ln:mg "len"=none)(gb:GI mg "BACKSLASH" 92)(gl:GI mg "LINE_END" 10)(gn:GI mg "SMALL_N" 110):Ok P w K mg base bj 1 "item_bytes" ["items"] (IQ K):=d.ok λf fd F=>by
 refine F.ok rn (by rintro vs H Q E ⟨a,y,x,rfl,_⟩;rfl) (λUT A outer s H vs Q E hr h=>?_);obtain⟨a,y,x,rfl,hS,hy,hx,q⟩:=h;refine⟨_,aj (aN (i:=1) rn.nd rfl (Or.inl rfl) (bE ao)) (aj (aN (i:=2) rn.nd rfl (Or.inl rfl) aw)
  (aj (fz PassesOwn.never (aD oG (pv 2) (bA ln (pv 0)) (aK _))
   (aj (aR (aD cU (bx aW (pv 0) (pv 2) (λ_ _=>rfl)) (cx gb) (aK _))
    (aj (iu (i:=2) rn.nd rfl (Or.inl rfl) aw gA)
    (ai (aS (fW PySem.F.plainAttrs_list PySem.F.slot_list_append PySem.F.type_list_append cH (pv 1) (aa (rG (aD cU (bx aW (pv 0) (pv 2) (λ_ _=>rfl)) (cx gn) (aK _)) (cx gl) (bx aW (pv 0) (pv 2) (λ_ _=>rfl))) ao)))))
    (ai (aS (fW PySem.F.plainAttrs_list PySem.F.slot_list_append PySem.F.type_list_append cH (pv 1) (aa (bx aW (pv 0) (pv 2) (λ_ _=>rfl)) ao)))))
   (ai (iu (i:=2) rn.nd rfl (Or.inl rfl) aw gA))))
  (ai (aB (pv 1))))),?_⟩
 have hsz:sizeLine=16777216:=sizeLine_eq;refine⟨Nat.zero_le _,λl hl=>?_⟩;refine⟨λm σ H'=>∃(j:Nat)(x1 x2:By),m=y.length - j/\σ=[some (.ref a),some (.ref l),some (.int j)]/\H' l=some (.lst (iv x1))/\x1++x2=x/\MA.Ct (y.drop j) x2/\aF H H',⟨_,0,[],x,rfl,rfl,ag,rfl,hy,aC hl⟩,?_⟩;rintro m σ H1 ⟨j,x1,x2,rfl,rfl,h1,e,hi,s1⟩;have hS1:=s1.seq hS;have hxl:x1.length+x2.length=x.length:=by rw[<-e,List.length_append]
 refine⟨_,rfl,_,rfl,a,_,rfl,.inl hS1,_,_,rfl,rfl,_,rfl,aT (λz=>?_) λz=>?_⟩
 ·have hj:j<y.length:=by rw[<-a_];exact Qw z
  generalize hd:y.drop j=yd at hi;have sU:∀(zs:List V),aF H (upd H1 l (.lst zs)):=λzs b o hb=>by rw[ah (au hb hl)];exact s1 _ _ hb
  cases hi with
  |nil=>rw[List.drop_eq_nil_iff] at hd;omega
  |@SU c y2 x3 hi=>
   obtain⟨g1,g2,g3⟩:=wC hd;obtain⟨k1,k2,k3⟩:=wC g2;refine⟨_,λ_ _ z=>z,_,rfl,_,rfl,a,_,_,_,rfl,rfl,hS1,dG g1,rfl,_,rfl,?_⟩;rw[bt];refine fE ⟨_,rfl,_,_,rfl,rfl,_,rfl,.inl ⟨rfl,_,bh.of h1⟩,_,rfl,_,rfl,a,_,_,_,rfl,rfl,hS1,(show vi (iv y) ((j+1:Nat):Int)=_ from dG k1),rfl,_,rfl,?_⟩;rw[bt];have fin:∀u:UInt8,u=(if c=110 then 10 else c)->∃m',m'<y.length - j/\∃(j':Nat)(z1 z2:By),m'=y.length - j'/\[some (V.ref a),some (.ref l),some (.int ((j:Int)+1+1))]=[some (.ref a),some (.ref l),some (.int j')]/\(upd H1 l (.lst (iv x1++[V.int (u.toNat:Int)]))) l=some (.lst (iv z1))/\z1++z2=x/\MA.Ct (y.drop j') z2/\aF H (upd H1 l (.lst (iv x1++[V.int (u.toNat:Int)]))):=by
    intro u hu;refine⟨y.length - (j+2),↑2,j+2,x1++[u],x3,rfl,rfl,?_,?_,?_,sU _⟩
    ·rw[ag,HJ];rfl
    ·rw[List.append_assoc,hu];exact e
    ·rw[show j+2=j+1+1 from rfl,k2];exact hi
   have hlen:(iv x1).length<sizeLine:=by
    rw[a_,hsz];omega
   refine aT (λz2=>?_) λz2=>?_
   ·have z2:=of_decide_eq_true z2;have hc:c=110:=jh.mpr (by have:(110:UInt8).toNat=110:=rfl;omega);exact⟨l,_,_,rfl,rfl,h1,hlen,_,rfl,_,_,rfl,rfl,fin 10 (by rw[if_pos hc])⟩
   ·have hc:c≠110:=λy=>z2 (decide_eq_true (by rw[y];rfl));exact⟨_,rfl,_,rfl,a,_,_,_,rfl,rfl,hS1,(show vi (iv y) ((j+1:Nat):Int)=_ from dG k1),l,_,_,rfl,rfl,h1,hlen,_,rfl,_,_,rfl,rfl,fin c (by rw[if_neg hc])⟩
  |@one c y2 x3 hc hi=>
   obtain⟨g1,g2,g3⟩:=wC hd;refine⟨_,λ_ _ z=>z,_,rfl,_,rfl,a,_,_,_,rfl,rfl,hS1,dG g1,rfl,_,rfl,?_⟩;rw[bt];have hne:¬decide (((c.toNat:Nat):Int)=92)=true:=λq=>hc (jh.mpr (by have q:=of_decide_eq_true q;have:(92:UInt8).toNat=92:=rfl;omega));have hlen:(iv x1).length<sizeLine:=by
    rw[a_,hsz];omega
   refine aT (λz=>absurd z hne) λ_=>?_;refine⟨_,rfl,.inl ⟨rfl,_,bh.of h1⟩,_,rfl,_,rfl,a,_,_,_,rfl,rfl,hS1,dG g1,l,_,_,rfl,rfl,h1,hlen,_,rfl,_,_,rfl,rfl,y.length - (j+1),↑2,j+1,x1++[c],x3,rfl,rfl,?_,?_,?_,sU _⟩
   ·rw[ag,HJ];rfl
   ·rw[List.append_assoc];exact e
   ·rw[g2];exact hi
 ·have hn:y.length<=j:=by rw[<-a_];exact R_ z
  rw[List.drop_eq_nil_of_le hn] at hi;cases hi;rw[List.append_nil] at e;exact⟨_,rfl,q H1 l s1 (by rw[h1,e])⟩
def FE(t:EwTree.Tok):By:=if t.kind=0\/t.kind=5 then[] else if t.kind=4 then EwTree.long t.bytes else EwTree.short t.bytes
theorem RR{n:Nat}(h:n<=1024):(xJ n 2).map V.int=iv [UInt8.ofNat (n % 256),UInt8.ofNat (n / 256)]:=by
 have u:∀m:Nat,m<256->(UInt8.ofNat m).toNat=m:=λm hm=>by simp[Nat.mod_eq_of_lt hm]
 show[V.int ((n / 256 ^ 0 % 256:Nat):Int),.int ((n / 256 ^ 1 % 256:Nat):Int)]=[V.int ((UInt8.ofNat (n % 256)).toNat:Int),.int ((UInt8.ofNat (n / 256)).toNat:Int)]
 rw[u _ (Nat.mod_lt _ ↑0),u _ ↑2,Nat.pow_zero,Nat.div_one,Nat.pow_one,Nat.mod_eq_of_lt (a:=n / 256) ↑2]
theorem vO(b:By)(i j:Nat)(h:i<=j)(hj:j<=b.length):gN (iv b) (some (i:Int)) (some (j:Int))=iv ((b.drop i).take (j - i)):=by unfold gN iv;rw[HT.k_,HT.k_,List.length_map,Nat.min_eq_left hj,Nat.min_eq_left (a:=i) ↑2,List.map_take,List.map_drop]
inductive Qm(K:Frag)(CT:Addr)(vs:List V)(H:Hp)(Q:VK)(E:XK):Prop
 |mk(a r:Addr) (b:By) (t:EwTree.Tok) (_:vs=[.ref a,.ref r]) (_:bh K H a (iv b)) (_:eJ CT H r t) (_:Good t) (_:MA.OV b t) (_:∀H' x,aF H H'->H x=none->H' x=some (.lst (iv (FE t)))->Q (.ref x) H')
theorem LQ:ax ["text","token","held"] ["text","token"] (aq (top 83)):=↑3
theorem Qg(d:Def K mg "leaf_bytes" (top 83) ["text","token"])(T:wX K CT)(ln:mg "len"=none)(gk:GI mg "KEYWORD" 0)(gs:GI mg "SIGN" 5)(gt:GI mg "TEXT" 4)(oi:Ok P w K mg base bj 1 "item_bytes" ["items"] (IQ K))(ol:Ok P w K mg base bj 1 "low_first" ["number","size"] Ji):Ok P w K mg base bj 2 "leaf_bytes" ["text","token"] (Qm K CT):=d.ok λf fd F=>by
 refine F.ok LQ (by rintro vs H Q E ⟨a,r,b,t,rfl,_⟩;rfl) (λUT A outer s H vs Q E hr h=>?_);obtain⟨a,r,b,t,rfl,hS,⟨dx,hT⟩,hg,hB,q⟩:=h;refine⟨_,aj (aR (aD eY (ay (pv 1) rfl) (fT (aa (cx gk) (aa (cx gs) ao))) (by with_unfolding_all rfl)) (ai (aB (bE ao))) aL)
  (aj (aR (aD cU (ay (pv 1) rfl) (cx gt) (aK _))
   (aj (aN (i:=2) LQ.nd rfl (Or.inl rfl) (aM oi hr (aa (dR eU (pv 0) (bT (bz cD (ay (pv 1) rfl) aw)) (bT (bz jC (ay (pv 1) rfl) aw))) ao)))
   (ai (aB (bz GX (aM ol hr (aa (bA ln (pv 2)) (aa aw ao))) (pv 2))))) aL)
  (ai (aB (bz GX (bE (aa (bz jC (ay (pv 1) rfl) (ay (pv 1) rfl)) ao)) (dR eU (pv 0) (bT (ay (pv 1) rfl)) (bT (ay (pv 1) rfl))))))),?_⟩
 have hsz:sizeLine=16777216:=sizeLine_eq;refine rV rfl (rf hT T.cl T.nk (DE _ _ _ _) ⟨(by show 2<=sizeLine;decide),λu hu=>?_⟩);have s1:=aC (o:=.tup [.int 0,.int 5]) hu;have hk5:t.kind<=5:=by rcases hg with⟨h,_⟩|⟨_,h⟩|⟨h,_⟩ <;> omega
 have hin:Dq (.int (t.kind:Nat)) [.int 0,.int 5]=decide (t.kind=0\/t.kind=5):=by
  have:t.kind=0\/t.kind=1\/t.kind=2\/t.kind=3\/t.kind=4\/t.kind=5:=↑2
  rcases this with h|h|h|h|h|h <;> rw[h] <;> rfl
 refine⟨u,_,rfl,.inr (fN.of ag),rfl,rfl,Dq (.int ((t.kind:Nat):Int)) [.int 0,.int 5],rfl,?_⟩;rw[hin];refine aT (λz1=>?_) λz1=>?_
 ·have z1:=of_decide_eq_true z1;refine⟨Nat.zero_le _,λx hx=>q _ x (s1.trans (aC hx)) (s1.free hx) ?_⟩;rw[ag];unfold FE;rw[if_pos z1];rfl
 have z1:¬(t.kind=0\/t.kind=5):=λz=>z1 (decide_eq_true z);have hT1:=s1 _ _ hT;have hS1:=s1.seq hS;refine rV rfl (rf hT1 T.cl T.nk (DE _ _ _ _) ⟨rfl,_,rfl,?_⟩);rw[bt];have hlo:=hB.lo;have hhi:=hB.hi;refine aT (λz2=>?_) λz2=>?_
 ·have z2:t.kind=4:=by have:=of_decide_eq_true z2;omega
  obtain⟨b1,b2,b3⟩:=hB.txt z2;refine⟨_,rfl,rV rfl (rf hT1 T.cl T.ns (ku _ _ _ _) ⟨_,_,rfl,rfl,_,rfl,rV rfl (rf hT1 T.cl T.ne (xo _ _ _ _) ⟨_,_,rfl,rfl,_,rfl,a,_,rfl,hS1,λc hc=>?_⟩)⟩)⟩;have s2:=aC (o:=.lst (gN (iv b) (some ((t.place:Int)+1)) (some ((t.halt_:Int) - 1)))) hc;refine⟨c,_,t.bytes,rfl,?_,b1,b2,λH2 l s3 h3=>?_⟩
  ·rw[<-vO b (t.place+1) (t.halt_ - 1) b3 ↑2];have e1:((t.place+1:Nat):Int)=(t.place:Int)+1:=↑2
   have e2:((t.halt_ - 1:Nat):Int)=(t.halt_:Int) - 1:=↑2
   rw[e1,e2];exact bh.of ag
  refine⟨_,rfl,l,_,rfl,.inl (bh.of h3),t.bytes.length,2,by rw[a_];rfl,↑0,λH3 m s4 h4=>?_⟩;refine⟨_,rfl,m,l,_,_,rfl,rfl,h4,s4 _ _ h3,?_,λp hp=>q _ p (s1.trans (s2.trans (s3.trans (s4.trans (aC hp))))) ((s1.trans (s2.trans (s3.trans s4))).free hp) ?_⟩
  ·rw[List.length_map,a_,hsz];show(xJ _ 2).length+_<=_;unfold xJ;rw[List.length_map,List.length_range];omega
  ·rw[ag,RR b2];unfold FE;rw[if_neg z1,if_pos z2];rfl
 ·have z2:t.kind≠4:=λy=>z2 (decide_eq_true (by rw[y];rfl));obtain⟨b1,b2⟩:=hB.raw ↑2 ↑2;refine rV rfl (rf hT1 T.cl T.ne (xo _ _ _ _) (rV rfl (rf hT1 T.cl T.ns (ku _ _ _ _) ⟨_,_,rfl,rfl,(by show 1<=sizeLine;decide),λl hl=>?_⟩)));have s2:=aC (o:=.lst [V.int ((t.halt_:Int) - (t.place:Int))]) hl;have hT2:=s2 _ _ hT1;refine⟨_,rfl,rV rfl (rf hT2 T.cl T.ns (ku _ _ _ _) ⟨_,rfl,rV rfl (rf hT2 T.cl T.ne (xo _ _ _ _) ⟨_,rfl,a,_,rfl,s2.seq hS1,λc hc=>?_⟩)⟩)⟩;have s3:=aC (o:=.lst (gN (iv b) (some ((t.place:Nat):Int)) (some ((t.halt_:Nat):Int)))) hc;refine⟨l,c,_,_,rfl,rfl,s3 _ _ ag,ag,?_,λp hp=>q _ p (s1.trans (s2.trans (s3.trans (aC hp)))) ((s1.trans (s2.trans s3)).free hp) ?_⟩
  ·have:=oS (iv b) (some ((t.place:Nat):Int)) (some ((t.halt_:Nat):Int));rw[vO b t.place t.halt_ ↑2 hhi,<-b1,a_,hsz];show 1+_<=_;omega
  ·rw[ag,vO b t.place t.halt_ ↑2 hhi,<-b1];unfold FE;rw[if_neg z1,if_neg z2];have hl:t.bytes.length=t.halt_ - t.place:=by
    rw[b1,List.length_take,List.length_drop];omega
   show some (HO.lst (V.int ((t.halt_:Int) - (t.place:Int))::iv t.bytes))=some (HO.lst (V.int ((UInt8.ofNat t.bytes.length).toNat:Int)::iv t.bytes));rw[show(UInt8.ofNat t.bytes.length).toNat=t.bytes.length by simp;omega,hl,show((t.halt_ - t.place:Nat):Int)=(t.halt_:Int) - (t.place:Int) by omega]
section
open MA (nm VC FT flat cZ)
def ux(K:Frag):V->MA.Sym->Prop
 |v,.bg (.kind k)=>v= .int k/\k<256
 |v,.bg .row=>v= .str "@row"
 |v,.bg .count=>v= .str "@count"
 |v,.bg .set=>v= .str "@set"
 |v,.bW b=>∃a,v= .ref a/\b.length=1/\∀H,fN K H a (iv b)
 |v,.turn k=>∃a,v= .ref a/\k<256/\∀H,fN K H a [.str "@turn",.int k]
 |v,.take=>v= .str "@take"
 |v,.fin=>v= .str "@end"
 |v,.w x=>v= .str (nm x)/\x∈VC
inductive II(K:Frag)(v:V)(y:Nat×List MA.Sym):Prop
 |mk(a:_) (b:_) (us:_) (_:v= .ref a) (_:(∀H,fN K H a [.str (nm y.1),.ref b])) (_:(∀H,fN K H b us)) (_:Paired (ux K) us y.2)
inductive IL(K:Frag)(v:V)(g:List (Nat×List MA.Sym)):Prop
 |mk(a:_) (vs:_) (_:v= .ref a) (_:(∀H,fN K H a vs)) (_:Paired (II K) vs g)
def xD(K:Frag):Nat->List (Str×V)->List (List (Nat×List MA.Sym))->Prop
 |_,[],[]=>True
 |i,kv::l,g::G=>kv.1=nm i/\IL K kv.2 g/\xD K (i+1) l G
 |_,_,_=>False
inductive HZ(K:Frag)(P:Params)(mg:Str->Option Value):Prop
 |mk(a:_) (l:_) (_:mg "RULES"=some (.ref a)) (_:Pq K P a l) (_:xD K 1000 l MA.cM)
inductive Jz(K:Frag)(H:Hp)(kv:List Key×V)(p:(Nat×Nat)×List MA.Sym):Prop
 |mk(_:kv.1=[.inr (nm p.1.1),.inr (nm p.1.2)]) (b:_) (us:_) (_:kv.2= .ref b) (_:H b=some (.tup us.reverse)) (_:Paired (ux K) us p.2)
inductive tT(K:Frag)(H:Hp)(d:Addr):Prop
 |mk(kvs:_) (_:H d=some (.dT kvs)) (_:Paired (Jz K H) kvs FT)
theorem Jz.same{K:Frag}{H':Hp}{kv:List Key×V}{p:(Nat×Nat)×List MA.Sym}(s:∀b xs,H b=some (.tup xs)->H' b=some (.tup xs))(h:Jz K H kv p):Jz K H' kv p:=by obtain⟨h1,b,us,h2,h3,h4⟩:=h;exact⟨h1,b,us,h2,s _ _ h3,h4⟩
theorem tT.same{K:Frag}{H':Hp}{d:Addr}(s:aF H H')(h:tT K H d):tT K H' d:=by obtain⟨kvs,h1,h2⟩:=h;exact⟨kvs,s _ _ h1,L2.Paired.imp' (λ_ _ z=>Jz.same (λb xs=>s b _) z) h2⟩
theorem xD.length{K:Frag}:∀{i:Nat}{l:List (Str×V)}{G:List (List (Nat×List MA.Sym))},xD K i l G->l.length=G.length
 |_,[],[],_=>rfl
 |_,_::_,_::_,⟨_,_,r⟩=>congrArg (·+1) r.length
theorem xD.get{K:Frag}:∀{i:Nat}{l:List (Str×V)}{G:List (List (Nat×List MA.Sym))}{j:Nat}{kv:Str×V},xD K i l G->l[j]?=some kv->∃g,G[j]?=some g/\kv.1=nm (i+j)/\IL K kv.2 g
 |_,[],[],_,_,_,h=>by simp at h
 |i,_::_,g::_,0,_,⟨h1,h2,_⟩,h=>by
  simp only[List.getElem?_cons_zero,Option.some.injEq] at h;subst h;exact⟨g,rfl,h1,h2⟩
 |i,_::_,_::_,j+1,_,⟨_,_,r⟩,h=>by
  simp only[List.getElem?_cons_succ] at h ⊢;obtain⟨g,a,b,c⟩:=r.get h;exact⟨g,a,by rw[b];congr 1;omega,c⟩
theorem xD.find{K:Frag}:∀{i:Nat}{l:List (Str×V)}{G:List (List (Nat×List MA.Sym))}{j:Nat}{kv:Str×V},xD K i l G->(∀m,i<=m->m<i+G.length->m∈VC)->l[j]?=some kv->Pu l kv.1=some kv.2
 |_,[],[],_,_,_,_,h=>by simp at h
 |i,x::_,g::_,0,kv,_,_,h=>by
  simp only[List.getElem?_cons_zero,Option.some.injEq] at h;subst h;unfold Pu;rw[List.find?_cons,decide_eq_true rfl];rfl
 |i,x::l,g::G,j+1,kv,⟨h1,_,r⟩,hv,h=>by
  simp only[List.getElem?_cons_succ] at h;have hj:j<l.length:=(List.getElem?_eq_some_iff.mp h).1;have hl:=r.length;obtain⟨_,_,hn,_⟩:=r.get h;have ne:¬x.1=kv.1:=by
   rw[h1,hn];intro e;have:=MA.xT (hv i (Nat.le_refl _) (by simp only[List.length_cons];omega)) (hv (i+1+j) ↑2 (by simp only[List.length_cons];omega)) e;omega
  have ih:=r.find (λm a b=>hv m ↑2 (by simp only[List.length_cons];omega)) h;unfold Pu at ih ⊢;rw[List.find?_cons,decide_eq_false ne];exact ih
theorem CY:∀m,1000<=m->m<1000+MA.cM.length->m∈VC:=λm a b=>MA.cz (by
 have:MA.cM.length=72:=rfl;unfold MA.lX;simp only[Bool.or_eq_true,Bool.and_eq_true];exact .inr ⟨Nat.ble_eq_true_of_le a,Nat.ble_eq_true_of_le ↑2⟩)
theorem ya{K:Frag}:∀{kvs:List (List Key×V)}{L:List ((Nat×Nat)×List MA.Sym)}{x l:Nat},Paired (Jz K H) kvs L->(∀p∈L,p.1.1∈VC/\p.1.2∈VC)->x∈VC->l∈VC->
  (cZ L x l=none->jR kvs [.inr (nm x),.inr (nm l)]=none)/\∀r,cZ L x l=some r->∃b us,jR kvs [.inr (nm x),.inr (nm l)]=some (.ref b)/\H b=some (.tup us.reverse)/\Paired (ux K) us r
 |_,_,x,l,.nil,_,_,_=>⟨λ_=>rfl,λr h=>by cases h⟩
 |_,_,x,l,@Paired.cons _ _ _ kv p kvs L h r,hv,hx,hl=>by
  obtain⟨h1,b,us,h2,h3,h4⟩:=h;have hp:=hv p (List.mem_cons_self ..);have ih:=ya (x:=x) (l:=l) r (λq hq=>hv q (List.mem_cons_of_mem _ hq)) hx hl;unfold cZ;by_cases e:p.1.1=x/\p.1.2=l
  ·rw[if_pos e];refine⟨λh=>(by cases h),λr hr=>?_⟩;cases hr;refine⟨b,us,?_,h3,h4⟩;rw[ll (by rw[h1,e.1,e.2]),h2]
  ·rw[if_neg e];have ne:¬kv.1=[Sum.inr (nm x),Sum.inr (nm l)]:=by
    rw[h1];intro c;simp only[List.cons.injEq,Sum.inr.injEq,and_true] at c;exact e ⟨MA.xT hp.1 hx c.1,MA.xT hp.2 hl c.2⟩
   rw[ky ne];exact ih
theorem Cv:∀p∈FT,p.1.1∈VC/\p.1.2∈VC:=λp hp=>by
 have:=List.all_eq_true.mp MA.P7 p hp;simp only[Bool.and_eq_true] at this;exact⟨MA.cz this.1.1,MA.cz this.1.2⟩
theorem MP{pre post:List ((Nat×Nat)×List MA.Sym)}{p:(Nat×Nat)×List MA.Sym}(h:FT=pre++p::post):cZ pre p.1.1 p.1.2=none:=by
 have nd:=MA.nq MA.J2;rw[h,List.map_append,List.map_cons] at nd;have nd:=(List.nodup_append.mp nd).2.2;have key:∀(L:List ((Nat×Nat)×List MA.Sym)),(∀q∈L,q.1.1*4096+q.1.2≠p.1.1*4096+p.1.2)->cZ L p.1.1 p.1.2=none:=by
  intro L;induction L with
  |nil=>intro _;rfl
  |cons q L ih=>
   intro hq;unfold cZ;rw[if_neg λc=>hq q (List.mem_cons_self ..) (by rw[c.1,c.2])];exact ih λz hz=>hq z (List.mem_cons_of_mem _ hz)
 exact key pre λq hq e=>nd _ (List.mem_map.mpr ⟨q,hq,rfl⟩) _ (List.mem_cons_self ..) e
theorem r_:∀(A B:List (List (Nat×List MA.Sym)))(i:Nat),flat i (A++B)=flat i A++flat (i+A.length) B
 |[],B,i=>rfl
 |g::A,B,i=>by
  show g.map _++flat (i+1) (A++B)=(g.map _++flat (i+1) A)++flat (i+(A.length+1)) B;rw[r_ A B (i+1),List.append_assoc,show i+1+A.length=i+(A.length+1) by omega]
def pM(i:Nat)(g:List (Nat×List MA.Sym))(j:Nat):List ((Nat×Nat)×List MA.Sym):=flat 1000 (MA.cM.take i)++(g.take j).map λy=>((1000+i,y.1),y.2)
theorem OC{i j:Nat}{g:List (Nat×List MA.Sym)}{y:Nat×List MA.Sym}(hg:MA.cM[i]?=some g)(hy:g[j]?=some y):∃post,FT=pM i g j++((1000+i,y.1),y.2)::post:=by
 have hi:i<MA.cM.length:=(List.getElem?_eq_some_iff.mp hg).1;have e1:MA.cM=MA.cM.take i++(g::MA.cM.drop (i+1)):=by
  conv=>lhs;rw[<-List.take_append_drop i MA.cM]
  rw[List.drop_eq_getElem_cons hi,(List.getElem?_eq_some_iff.mp hg).2]
 have e2:g=g.take j++(y::g.drop (j+1)):=by
  have hj:j<g.length:=(List.getElem?_eq_some_iff.mp hy).1;conv=>lhs;rw[<-List.take_append_drop j g]
  rw[List.drop_eq_getElem_cons hj,(List.getElem?_eq_some_iff.mp hy).2]
 refine⟨(g.drop (j+1)).map (λy=>((1000+i,y.1),y.2))++flat (1000+i+1) (MA.cM.drop (i+1)),?_⟩;unfold MA.FT pM;conv=>lhs;rw[e1]
 rw[r_,List.length_take,Nat.min_eq_left (Nat.le_of_lt hi)];show _++(g.map _++_)=_;conv=>lhs;rw[e2]
 rw[List.map_append,List.map_cons,List.append_assoc,List.append_assoc];rfl
theorem FQ{i:Nat}{g:List (Nat×List MA.Sym)}(hg:MA.cM[i]?=some g):pM i g g.length=flat 1000 (MA.cM.take (i+1)):=by have hi:i<MA.cM.length:=(List.getElem?_eq_some_iff.mp hg).1;unfold pM;rw[take_snoc hg,r_,List.take_length,List.length_take,Nat.min_eq_left (Nat.le_of_lt hi)];show _=_++(g.map _++[]);rw[List.append_nil]
theorem Fy{i j:Nat}{g:List (Nat×List MA.Sym)}{y:Nat×List MA.Sym}(hy:g[j]?=some y):pM i g (j+1)=pM i g j++[((1000+i,y.1),y.2)]:=by unfold pM;rw[take_snoc hy,List.map_append,List.append_assoc];rfl
theorem NX(i:Nat)(g:List (Nat×List MA.Sym)):pM i g 0=flat 1000 (MA.cM.take i):=by unfold pM;exact List.append_nil _
def Nc(K:Frag):Sp:=λvs H Q _=>vs=[]/\∀H' d,aF H H'->H d=none->tT K H' d->Q (.ref d) H'
theorem yW:ax ["rows","part","look","row"] [] (aq (top 87)):=↑3
theorem MB:FT.length<1000:=↑1
theorem R7(d:Def K mg "rows_by_token" (top 87) [])(hR:HZ K w.params mg):Ok P w K mg base bj 1 "rows_by_token" [] (Nc K):=d.ok λf fd F=>by
 refine F.ok yW (by rintro vs H Q E ⟨rfl,_⟩;rfl) (λUT A outer s H vs Q E hr h=>?_);obtain⟨rfl,q⟩:=h;obtain⟨a,l,ma,hK,hL⟩:=hR;refine⟨_,aj (aN (i:=0) yW.nd rfl (Or.inl rfl) F9)
  (aj (rM PassesOwn.never rfl (Ss (fQ ma)) (fK (i:=1) yW.nd rfl (Or.inl rfl))
   (ai (rM PassesOwn.never rfl (Ml (bx Sw (fQ ma) (pv 1) (λ_ _=>rfl))) (Ov rfl (Ar (fK (i:=2) yW.nd rfl (Or.inl rfl)) (Ar (fK (i:=3) yW.nd rfl (Or.inl rfl)) Lo)))
    (ai (KY (LO hr) (pv 0) (fT (aa (pv 1) (aa (pv 2) ao))) (Jg (pv 3)) rfl)))))
  (ai (aB (pv 0)))),?_⟩
 intro d hd;have hll:=hL.length;refine⟨a,l,rfl,hK,QC hK (λi σ H'=>∃v1 v2 v3 kvs,σ=[some (.ref d),v1,v2,v3]/\H' d=some (.dT kvs)/\Paired (Jz K H') kvs (flat 1000 (MA.cM.take i))/\aF H H') ?_ ?_ ?_⟩
 ·exact⟨_,_,_,[],rfl,ag,.nil,aC hd⟩
 ·rintro i k v σ H1 hi ⟨v1,v2,v3,kvs,rfl,h1,h2,s1⟩;obtain⟨g,hg,hk,b,vs,hv,hT,hP⟩:=hL.get hi;have hf:=hL.find CY hi;have hlen:vs.length=g.length:=Paired.length hP;have hi':i<MA.cM.length:=(List.getElem?_eq_some_iff.mp hg).1;dsimp only at hk hv hf;refine⟨_,rfl,k,a,l,v,rfl,rfl,hK,hf,b,hv,⟨_,hT _⟩,Lf (K:=K) (a:=b) (xs:=vs) (λj σ H'=>∃v2 v3 kvs,σ=[some (.ref d),some (.str k),v2,v3]/\H' d=some (.dT kvs)/\Paired (Jz K H') kvs (pM i g j)/\aF H H') ?_ (λ_ _ _ _ _=>hT _) ?_ ?_⟩
  ·exact⟨_,_,kvs,rfl,h1,by rw[NX];exact h2,s1⟩
  ·rintro j y σ H2 hj ⟨v2,v3,kvs,rfl,h3,h4,s2⟩;obtain⟨yy,hyy,c,e,us,rfl,t1,t2,t3⟩:=jz hP hj;obtain⟨post,hFT⟩:=OC hg hyy;have hnew:=MP hFT;have hin:∀p∈pM i g j,p.1.1∈VC/\p.1.2∈VC:=λp hp=>Cv p (by rw[hFT];exact List.mem_append_left _ hp);have hme:=Cv ((1000+i,yy.1),yy.2) (by rw[hFT];exact List.mem_append_right _ (List.mem_cons_self ..));refine⟨c,_,rfl,t1 _,rfl,_,_,rfl,_,_,rfl,rfl,?_⟩;refine⟨_,rfl,e,us,rfl,.inr ⟨t2 _,λr hr=>?_⟩⟩;have n1:d≠r:=au h3 hr;refine⟨_,rfl,_,rfl,_,rfl,(by show 2<=sizeLine;decide),λt ht=>?_⟩;have hdt:(upd (upd H2 r (.tup us.reverse)) t (.tup [.str k,.str (nm yy.1)])) d=some (.dT kvs):=by
    have n2:d≠t:=au (show upd H2 r (.tup us.reverse) d=some (.dT kvs) by rw[ah n1];exact h3) ht;rw[ah n2,ah n1];exact h3
   have hkl:kvs.length<sizeLine:=by
    have e1:kvs.length=(pM i g j).length:=Paired.length h4;have e2:=MB;rw[hFT,List.length_append] at e2;have:sizeLine=16777216:=sizeLine_eq;omega
   refine⟨d,_,rfl,Gw.t (k:=[.inr k,.inr (nm yy.1)]) hdt ag hkl,_,_,_,rfl,ag,?_,?_⟩
   ·have hval:jR kvs [Sum.inr k,Sum.inr (nm yy.1)]=none:=by
     rw[hk];exact(ya h4 hin hme.1 hme.2).1 hnew
    rw[GW _ hval,Fy hyy];have tk:∀b' xs,H2 b'=some (.tup xs)->upd (upd (upd H2 r (.tup us.reverse)) t (.tup [.str k,.str (nm yy.1)])) d (.dT (kvs++[([Sum.inr k,Sum.inr (nm yy.1)],V.ref r)])) b'=some (.tup xs):=λb' xs hb'=>by
     have m1:b'≠d:=dB hb' h3 (by intro z;cases z);have m2:b'≠r:=au hb' hr;have m3:b'≠t:=au (show upd H2 r (.tup us.reverse) b'=some (.tup xs) by rw[ah m2];exact hb') ht;rw[ah m1,ah m3,ah m2];exact hb'
    refine Paired.snoc (L2.Paired.imp' (λ_ _ z=>Jz.same tk z) h4) ⟨by rw[hk],r,us,rfl,?_,t3⟩;have m3:r≠t:=au ag ht;rw[ah (Ne.symm n1),ah m3,ag]
   ·exact λb' o hb'=>by
     have m1:b'≠d:=au hb' hd;have m2:b'≠r:=au (s2 _ _ hb') hr;have m3:b'≠t:=au (show upd H2 r (.tup us.reverse) b'=some o by rw[ah m2];exact s2 _ _ hb') ht;rw[ah m1,ah m3,ah m2];exact s2 _ _ hb'
  ·rintro σ H2 ⟨v2,v3,kvs,rfl,h3,h4,s2⟩;exact⟨_,_,_,kvs,rfl,h3,by rw[<-FQ hg,<-hlen];exact h4,s2⟩
 ·rintro σ H1 ⟨v1,v2,v3,kvs,rfl,h1,h2,s1⟩;refine⟨_,rfl,q H1 d s1 hd ⟨kvs,h1,?_⟩⟩;rw[hll,List.take_length] at h2;exact h2
end
abbrev Mt:Stmt:=inClass (top 77) 0
inductive Dr(C:Addr)(vs:List V)(H:Hp)(Q:VK)(E:XK):Prop
 |mk(p dx:Addr) (f n:V) (_:vs=[.ref p,f,n]) (_:H p=some (.ins C dx [])) (_:∀H' l,H l=none->H' p=some (.ins C dx (tV f (.ref l) n n))->H' l=some (.lst [])->FA p H H'->Q .bF H')
theorem Mn:ax ["self","form","first"] ["self","form","first"] (aq Mt):=↑3
abbrev Uw(K:Frag)(mg:Str->Option Value)(C:Addr):Prop:=wR K mg "Twig" "Twig.__init__" Mt C ["self","form","first"]
theorem M_(d:Uw K mg C)(T:JB K C):va P w K mg base 1 "Twig" C ["self","form","first"] (Dr C):=d.new λf fd F=>by
 refine F.ok Mn (by rintro vs H Q E ⟨p,dx,f,n,rfl,_⟩;rfl) (λUT A outer s H vs Q E hr h=>?_);obtain⟨p,dx,f,n,rfl,h1,k⟩:=h;refine⟨_,aj (bD (pv 0) (pv 1) rfl) (aj (bD (pv 0) (bE ao) rfl) (aj (bD (pv 0) (pv 2) rfl) (ai (bD (pv 0) (pv 2) rfl)))),?_⟩;refine⟨_,rfl,_,rfl,p,C,dx,[],rfl,h1,T.cl,T.nf,(by show 0<1000;decide),Nat.zero_le _,λl hl=>?_⟩;have hlp:l≠p:=λz=>by rw[z,ag] at hl;cases hl
 have hl0:H l=none:=by rw[ah hlp] at hl;exact hl
 have hp2:(upd (upd H p (.ins C dx (aV "form" f []))) l (.lst [])) p=some (.ins C dx (aV "form" f [])):=by rw[ah (Ne.symm hlp),ag]
 refine⟨_,rfl,p,C,dx,_,rfl,hp2,T.cl,T.np,(by show 1<1000;decide),_,rfl,_,rfl,p,C,dx,_,rfl,ag,T.cl,T.n1,Nat.lt_of_le_of_lt (aG _ _ _) (by show 2<1000;decide),
  _,rfl,_,rfl,p,C,dx,_,rfl,ag,T.cl,T.nb,Nat.lt_of_le_of_lt (aG _ _ _) (Nat.lt_of_le_of_lt (Nat.succ_le_succ (aG _ _ _)) (by show 3<1000;decide)),?_⟩
 refine k _ l hl0 (by rw[ag,J7]) ?_ λb o hb hp=>?_
 ·rw[ah hlp,ah hlp,ah hlp,ag]
 ·rw[ah hp,ah hp,ah hp,ah (au hb hl0),ah hp];exact hb
def Sy(CW:Addr)(N:Nat)(F H:Hp)(a l:Addr)(fr:MA.Fr):Prop:=∃dx d vs,H a=some (.ins CW dx (tV (Ay fr.form) (.ref l) (.int ((N:Int) - MA.len fr.form.zD)) d))/\H l=some (.lst vs)/\bK CW N F vs fr.parts/\F a=none/\F l=none/\zH fr.form
inductive eC(CW:Addr)(N:Nat)(F H:Hp):List (Addr×Addr)->List MA.Fr->Prop
 |nil:eC CW N F H [] []
 |cons{x:Addr×Addr} {fr:MA.Fr} {al:List (Addr×Addr)} {G:List MA.Fr}:Sy CW N F H x.1 x.2 fr->eC CW N F H al G->eC CW N F H (x::al) (fr::G)
section
variable{CW CG:Addr}{N:Nat}{F F' H H':Hp}{al:List (Addr×Addr)}{G:List MA.Fr}
theorem eC.keep:∀{al:List (Addr×Addr)}{G:List MA.Fr},(∀b o,b∈al.map Prod.fst\/b∈al.map Prod.snd->H b=some o->H' b=some o)->eC CW N F H al G->eC CW N F H' al G
 :=by
  intro al G k h;induction h with
  |nil=>exact .nil
  |cons h r ih=>
    obtain⟨dx,d,vs,h1,h2,h3⟩:=h;exact .cons ⟨dx,d,vs,k _ _ (.inl (List.mem_cons_self ..)) h1,k _ _ (.inr (List.mem_cons_self ..)) h2,h3⟩ (ih λb o hb=>k b o (hb.elim (λz=>.inl (List.mem_cons_of_mem _ z)) λz=>.inr (List.mem_cons_of_mem _ z)))
theorem eC.Am(s:aF F F'):∀{al:List (Addr×Addr)}{G:List MA.Fr},(∀b,b∈al.map Prod.fst\/b∈al.map Prod.snd->F' b=none)->eC CW N F H al G->eC CW N F' H al G
 :=by
  intro al G k h;induction h with
  |nil=>exact .nil
  |cons h r ih=>
    obtain⟨dx,d,vs,h1,h2,h3,h4,h5,h6⟩:=h;exact .cons ⟨dx,d,vs,h1,h2,h3.same s,k _ (.inl (List.mem_cons_self ..)),k _ (.inr (List.mem_cons_self ..)),h6⟩ (ih λb hb=>k b (hb.elim (λz=>.inl (List.mem_cons_of_mem _ z)) λz=>.inr (List.mem_cons_of_mem _ z)))
theorem eC.ins:∀{al:List (Addr×Addr)}{G:List MA.Fr}{b:Addr},eC CW N F H al G->b∈al.map Prod.fst->(∃dx fs,H b=some (.ins CW dx fs))/\F b=none
 :=by
  intro al G b f h;induction f with
  |nil=>cases h
  |cons f r ih=>
    rcases List.mem_cons.mp h with rfl|h
    · obtain⟨dx,d,vs,h1,h2,h3,h4,_⟩:=f;exact⟨⟨_,_,h1⟩,h4⟩
    · exact ih h
theorem eC.lst:∀{al:List (Addr×Addr)}{G:List MA.Fr}{b:Addr},eC CW N F H al G->b∈al.map Prod.snd->(∃vs,H b=some (.lst vs))/\F b=none
 :=by
  intro al G b f h;induction f with
  |nil=>cases h
  |cons f r ih=>
    rcases List.mem_cons.mp h with rfl|h
    · obtain⟨dx,d,vs,h1,h2,h3,h4,h5,_⟩:=f;exact⟨⟨_,h2⟩,h5⟩
    · exact ih h
def Own(bl:Addr)(al:List (Addr×Addr))(b:Addr):Prop:=b=bl\/b∈al.map Prod.fst\/b∈al.map Prod.snd
def Kept(bl:Addr)(al:List (Addr×Addr))(H H':Hp):Prop:=∀b o,H b=some o->¬Own bl al b->H' b=some o
structure cq(CG CW:Addr)(N:Nat)(F H:Hp)(g bl:Addr)(al:List (Addr×Addr))(G:List MA.Fr):Prop where
 sm:aF F H
 hg:∃dx,H g=some (.ins CG dx [("begun",.ref bl)])
 hb:H bl=some (.lst (al.map λx=>V.ref x.1).reverse)
 fs:eC CW N F H al G
 n1:(al.map Prod.fst).Nodup
 n2:(al.map Prod.snd).Nodup
 nb:bl∉al.map Prod.snd
 fb:F bl=none
 ng:g∉al.map Prod.fst
theorem cq.bne{g bl:Addr}(h:cq CG CW N F H g bl al G){b:Addr}(hb:b∈al.map Prod.fst):b≠bl:=by obtain⟨⟨dx,fs,e⟩,_⟩:=h.fs.ins hb;exact dB e h.hb (by intro z;cases z)
theorem eC.sep(h:eC CW N F H al G){a b:Addr}(ha:a∈al.map Prod.fst)(hb:b∈al.map Prod.snd):a≠b:=by obtain⟨⟨dx,fs,e⟩,_⟩:=h.ins ha;obtain⟨⟨vs,e'⟩,_⟩:=h.lst hb;exact dB e e' (by intro z;cases z)
theorem cq.kept{g bl:Addr}(h:cq CG CW N F H g bl al G)(k:∀b o,H b=some o->Own bl al b\/b=g\/F b≠none->H' b=some o):cq CG CW N F H' g bl al G where
 sm:=λb o hb=>k b o (h.sm _ _ hb) (.inr (.inr (by rw[hb];intro z;cases z)))
 hg:=let⟨dx,e⟩:=h.hg;⟨dx,k _ _ e (.inr (.inl rfl))⟩
 hb:=k _ _ h.hb (.inl (.inl rfl))
 fs:=h.fs.keep λb o hb e=>k b o e (.inl (.inr hb))
 n1:=h.n1
 n2:=h.n2
 nb:=h.nb
 fb:=h.fb
 ng:=h.ng
end
theorem ft{v:V}:([(("begun":Str),v)]:List (Str×V)).lookup ("begun":Str)=some v:=fO
theorem gJ{v:V}{m:Str}(h:m≠"begun"):([(("begun":Str),v)]:List (Str×V)).lookup m=none:=(aP h).trans rfl
structure FH(K:Frag)(C:Addr):Prop where
 cl:rY K C
 nb:aE K C "begun"
theorem iq{X:Cx}{k:Nat}{m:Str}{sp:Sp}{o e:Expr}{es:List Expr}{ta:TE}{t:TA}{apos pos:Pos}{pl:Sem Bool}(h:jb X.prog X.w X.K X.mg X.base k C m ps sp)(cl:rY X.K C)(hr:bB k X.A)(he:PE X o ta)(ha:PA X (e::es) t)(hst:starEach (e::es) X.env=(false,eval e X.env)::starEach es X.env:=by rfl)(hpl:(backTo pos (starEach es X.env)).any (·.1)=false:=by rfl)(ht:eval (.Call (.Attribute o m apos) (e::es) [] pos) X.env=(do
   let ov<-eval o X.env
   standAt apos.atName
   let(f,first)<-holding [ov] (getMethod ov m pl)
   callWith pos f first (backTo pos (starEach (e::es) X.env)) (backToKw pos (keywordEach [] X.env))):=by rfl):PE X (.Call (.Attribute o m apos) (e::es) [] pos) (Ai C m sp [] E0 ta t):=by
 obtain⟨f,fd,M,F,b⟩:=h.ex;exact J8 he cl M F hr b .nil g9 ha hst hpl ht
theorem dm.ok{m qual:Str}{st:Stmt}{k:Nat}{sp:Sp}(d:dm K C m qual st ps)(h:∀f fd,jW K m qual st f fd->bY P w K mg base bj k f fd ps sp):jb P w K mg base k C m ps sp:=by obtain⟨f,fd,M,F,b⟩:=d.ex;exact⟨f,fd,M,h f fd F,b⟩
abbrev ni(i:Nat):Stmt:=inClass (top 78) i
inductive Mv(CG CW:Addr)(vs:List V)(H:Hp)(Q:VK)(E:XK):Prop
 |mk(g bl:Addr) (al:List (Addr×Addr)) (G:List MA.Fr) (N:Nat) (F:Hp) (f:MA.Fk) (s:EwTree.St) (_:vs=[.ref g,Ay (f.at s),.int ((N:Int) - MA.len s)]) (_:cq CG CW N F H g bl al G) (_:al.length<16000000) (_:zH (f.at s)) (_:∀H' a l,cq CG CW N F H' g bl ((a,l)::al) (⟨f.at s,[]⟩::G)->H a=none->H l=none->Kept bl al H H'->Q .bF H')
theorem P4:ax ["self","form","passed"] ["self","form","passed"] (aq (ni 1)):=↑3
theorem NC(f:MA.Fk)(s:EwTree.St):(f.at s).zD=s:=by cases f <;> rfl
theorem Rz(d:dm K CG "begin" "Growth.begin" (ni 1) ["self","form","passed"])(TG_:FH K CG)(nT:va P w K mg base 1 "Twig" CW ["self","form","first"] (Dr CW)):jb P w K mg base 3 CG "begin" ["self","form","passed"] (Mv CG CW):=d.ok λf fd F=>by
 refine F.ok P4 (by rintro vs H Q E ⟨g,bl,al,G,N,F,f,s,rfl,_⟩;rfl) (λUT A outer s H vs Q E hr h=>?_);obtain⟨g,bl,al,G,N,F,f,s,rfl,hG,hl,hk,q⟩:=h;obtain⟨dx,hg⟩:=hG.hg;refine⟨_,ai (aS (fW PySem.F.plainAttrs_list PySem.F.slot_list_append PySem.F.type_list_append cH (ay (pv 0) rfl) (aa (eK nT hr (aa (pv 1) (aa (pv 2) ao))) ao))),?_⟩;have hsz:sizeLine=16777216:=sizeLine_eq;refine rV rfl (rf hg TG_.cl TG_.nb ft ⟨.inl ⟨rfl,_,bh.of hG.hb⟩,_,rfl,_,rfl,λx dx' nx nd ne=>⟨x,dx',_,_,rfl,ag,λH1 l hl0 h1 h2 fr=>⟨rfl,?_⟩⟩⟩);have s1:=aF.made nx nd fr;have hl1:H l=none:=by
  have:=hl0;by_cases z:l=x
  ·rw[z,ag] at this;cases this
  ·rw[ah z] at this;by_cases z2:l=dx'
   ·rw[z2,ag] at this;cases this
   ·rw[ah z2] at this;exact this
 have hb1:=s1 _ _ hG.hb;have nbx:bl≠x:=au hG.hb nx;have nbl:bl≠l:=au hG.hb hl1;refine⟨bl,_,_,rfl,rfl,hb1,(by rw[List.length_reverse,List.length_map,hsz];omega),?_⟩;have nx1:x∉al.map Prod.fst:=λz=>by obtain⟨⟨_,_,e⟩,_⟩:=hG.fs.ins z;rw[e] at nx;cases nx
 have nl1:l∉al.map Prod.snd:=λz=>by obtain⟨⟨_,e⟩,_⟩:=hG.fs.lst z;rw[e] at hl1;cases hl1
 have kp:∀b o,H b=some o->b≠bl->upd H1 bl (.lst ((al.map λx=>V.ref x.1).reverse++[V.ref x])) b=some o:=λb o hb nb=>by rw[ah nb];exact s1 _ _ hb
 refine q _ x l ⟨λb o hb=>?_,⟨dx,kp _ _ hg (dB hg hG.hb (by intro z;cases z))⟩,by rw[ag,List.map_cons,List.reverse_cons],.cons ⟨dx',.int ((N:Int) - MA.len s),[],?_,?_,.nil,hG.sm.free nx,hG.sm.free hl1,hk⟩ ?_,List.nodup_cons.mpr ⟨nx1,hG.n1⟩,List.nodup_cons.mpr ⟨nl1,hG.n2⟩,?_,hG.fb,?_⟩ nx hl1 λb o hb no=>kp b o hb λz=>no (.inl z)
 ·exact kp b o (hG.sm _ _ hb) (λz=>by rw[z,hG.fb] at hb;cases hb)
 ·rw[ah (Ne.symm nbx),h1,NC]
 ·rw[ah (Ne.symm nbl)];exact h2
 ·exact hG.fs.keep λb o hb e=>kp b o e (hb.elim (λz=>hG.bne z) λz y=>hG.nb (y▸z))
 ·exact λz=>(List.mem_cons.mp z).elim nbl hG.nb
 ·exact λz=>(List.mem_cons.mp z).elim (au hg nx) hG.ng
theorem iD{al:List (Addr×Addr)}{x:Addr×Addr}:((x::al).map λx=>V.ref x.1).reverse=(al.map λx=>V.ref x.1).reverse++[V.ref x.1]:=by rw[List.map_cons,List.reverse_cons]
theorem cq.R0{N:Nat}{F:Hp}{g bl:Addr}{x:Addr×Addr}{al:List (Addr×Addr)}{G:List MA.Fr}{fr fr':MA.Fr}{dx:Addr}{d:V}{vs:List V}(h:cq CG CW N F H g bl (x::al) (fr::G))(hl:H x.2=some (.lst vs))(hp:bK CW N F vs fr'.parts)(hk:zH fr'.form):
  cq CG CW N F (upd H x.1 (.ins CW dx (tV (Ay fr'.form) (.ref x.2) (.int ((N:Int) - MA.len fr'.form.zD)) d))) g bl (x::al) (fr'::G)/\Kept bl (x::al) H (upd H x.1 (.ins CW dx (tV (Ay fr'.form) (.ref x.2) (.int ((N:Int) - MA.len fr'.form.zD)) d))):=by
 have hx:x.1∈(x::al).map Prod.fst:=List.mem_cons_self ..;have hx2:x.2∈(x::al).map Prod.snd:=List.mem_cons_self ..;have hF:=(h.fs.ins hx).2;have hF2:=(h.fs.lst hx2).2;have nb:=h.bne hx;have n12:=h.fs.sep hx hx2;have n1:=List.nodup_cons.mp h.n1;obtain⟨dg,hg⟩:=h.hg;have ngx:g≠x.1:=λz=>h.ng (z▸hx);refine⟨⟨λb o hb=>?_,⟨dg,by rw[ah ngx];exact hg⟩,by rw[ah (Ne.symm nb)];exact h.hb,.cons ⟨dx,d,vs,ag,by rw[ah (Ne.symm n12)];exact hl,hp,hF,hF2,hk⟩ ?_,h.n1,h.n2,h.nb,h.fb,h.ng⟩,λb o hb no=>?_⟩
 ·rw[ah (λz=>by rw[z,hF] at hb;cases hb)];exact h.sm _ _ hb
 ·cases h.fs with
  |cons _ r=>
   refine r.keep λb o hb e=>?_;rw[ah (hb.elim (λz (y:b=x.1)=>n1.1 (by rw[<-y];exact z)) λz=>Ne.symm (h.fs.sep hx (List.mem_cons_of_mem _ z)))];exact e
 ·rw[ah λ(z:b=x.1)=>no (.inr (.inl (by rw[z];exact hx)))];exact hb
theorem cq.N3{N:Nat}{F:Hp}{g bl:Addr}{x:Addr×Addr}{al:List (Addr×Addr)}{G:List MA.Fr}{fr fr':MA.Fr}{vs:List V}(h:cq CG CW N F H g bl (x::al) (fr::G))(hp:bK CW N F vs fr'.parts)(he:fr'.form=fr.form):
  cq CG CW N F (upd H x.2 (.lst vs)) g bl (x::al) (fr'::G)/\Kept bl (x::al) H (upd H x.2 (.lst vs)):=by
 have hx:x.1∈(x::al).map Prod.fst:=List.mem_cons_self ..;have hx2:x.2∈(x::al).map Prod.snd:=List.mem_cons_self ..;have hF:=(h.fs.ins hx).2;have hF2:=(h.fs.lst hx2).2;have nb:x.2≠bl:=λz=>h.nb (z▸hx2);have n12:=h.fs.sep hx hx2;have n2:=List.nodup_cons.mp h.n2;obtain⟨dg,hg⟩:=h.hg;obtain⟨⟨us,hl⟩,_⟩:=h.fs.lst hx2;have ngx:g≠x.2:=dB hg hl (by intro z;cases z);refine⟨⟨λb o hb=>?_,⟨dg,by rw[ah ngx];exact hg⟩,by rw[ah (Ne.symm nb)];exact h.hb,?_,h.n1,h.n2,h.nb,h.fb,h.ng⟩,λb o hb no=>?_⟩
 ·rw[ah (λz=>by rw[z,hF2] at hb;cases hb)];exact h.sm _ _ hb
 ·cases h.fs with
  |cons hf r=>
   obtain⟨dx,d,_,h1,_,_,_,_,h6⟩:=hf;refine .cons ⟨dx,d,vs,by rw[ah n12,he];exact h1,ag,hp,hF,hF2,by rw[he];exact h6⟩ (r.keep λb o hb e=>?_);rw[ah (hb.elim (λz=>h.fs.sep (List.mem_cons_of_mem _ z) hx2) λz (y:b=x.2)=>n2.1 (by rw[<-y];exact z))];exact e
 ·rw[ah λ(z:b=x.2)=>no (.inr (.inr (by rw[z];exact hx2)))];exact hb
inductive O1(CG CW:Addr)(vs:List V)(H:Hp)(Q:VK)(E:XK):Prop
 |mk(g bl:Addr) (al:List (Addr×Addr)) (fr:MA.Fr) (G:List MA.Fr) (N:Nat) (F:Hp) (k:Nat) (_:vs=[.ref g,.int k]) (_:cq CG CW N F H g bl al (fr::G)) (_:k<256) (_:∀H',cq CG CW N F H' g bl al (⟨fr.form.turn k,fr.parts⟩::G)->Kept bl al H H'->Q .bF H')
theorem LW:ax ["self","kind","twig"] ["self","kind"] (aq (ni 2)):=↑3
theorem GN(k:Nat)(f:MA.Fm):(f.turn k).zD=f.zD/\Ay (f.turn k)= .int k:=by cases f <;> exact⟨rfl,rfl⟩
theorem QF(d:dm K CG "turn" "Growth.turn" (ni 2) ["self","kind"])(TG_:FH K CG)(T:JB K CW):jb P w K mg base 1 CG "turn" ["self","kind"] (O1 CG CW):=d.ok λf fd F=>by
 refine F.ok LW (by rintro vs H Q E ⟨g,bl,al,fr,G,N,F,k,rfl,_⟩;rfl) (λUT A outer s H vs Q E hr h=>?_);obtain⟨g,bl,al,fr,G,N,F,k,rfl,hG,hk,q⟩:=h;obtain⟨dg,hg⟩:=hG.hg;obtain⟨x,al,rfl⟩:∃x al',al=x::al':=by cases hG.fs;exact⟨_,_,rfl⟩
 have hfs:=hG.fs;cases hfs with
 |cons hf r=>
  obtain⟨dx,d,us,h1,h2,h3,h4,h5,h6⟩:=hf;refine⟨_,aj (aN (i:=2) LW.nd rfl (Or.inl rfl) (bx aW (ay (pv 0) rfl) (gv ef aw) (λ_ _=>rfl))) (ai (bD (pv 2) (pv 1) rfl)),?_⟩;have hb:=hG.hb;rw[iD] at hb;refine rV rfl (rf hg TG_.cl TG_.nb ft ⟨_,rfl,bl,_,_,_,rfl,rfl,bh.of hb,i7 _ _,_,rfl,_,rfl,x.1,CW,dx,_,rfl,h1,T.cl,T.nf,(by show 4<1000;decide),?_⟩);obtain⟨e1,e2⟩:=GN k fr.form;have:=hG.R0 (fr':=⟨fr.form.turn k,fr.parts⟩) (dx:=dx) (d:=d) h2 h3 (by show zH (fr.form.turn k);cases fr.form <;> exact hk);dsimp only at this;rw[e1,e2] at this;rw[D9];exact q _ this.1 this.2
inductive Jl(CG CW:Addr)(vs:List V)(H:Hp)(Q:VK)(E:XK):Prop
 |mk(g bl:Addr) (al:List (Addr×Addr)) (fr:MA.Fr) (G:List MA.Fr) (N:Nat) (F:Hp) (v:V) (p:MA.Pt) (_:vs=[.ref g,v]) (_:cq CG CW N F H g bl al (fr::G)) (_:ki CW N F v p) (_:fr.parts.length<16000000) (_:∀H',cq CG CW N F H' g bl al (⟨fr.form,fr.parts++[p]⟩::G)->Kept bl al H H'->Q .bF H')
theorem Q0:ax ["self","part"] ["self","part"] (aq (ni 3)):=↑3
theorem QG(d:dm K CG "put" "Growth.put" (ni 3) ["self","part"])(TG_:FH K CG)(T:JB K CW):jb P w K mg base 1 CG "put" ["self","part"] (Jl CG CW):=d.ok λf fd F=>by
 refine F.ok Q0 (by rintro vs H Q E ⟨g,bl,al,fr,G,N,F,v,p,rfl,_⟩;rfl) (λUT A outer s H vs Q E hr h=>?_);obtain⟨g,bl,al,fr,G,N,F,v,p,rfl,hG,hP,hl,q⟩:=h;obtain⟨dg,hg⟩:=hG.hg;obtain⟨x,al,rfl⟩:∃x al',al=x::al':=by cases hG.fs;exact⟨_,_,rfl⟩
 have hfs:=hG.fs;cases hfs with
 |cons hf r=>
  obtain⟨dx,d,us,h1,h2,h3,h4,h5,h6⟩:=hf;refine⟨_,ai (aS (fW PySem.F.plainAttrs_list PySem.F.slot_list_append PySem.F.type_list_append cH (ay (bx aW (ay (pv 0) rfl) (gv ef aw) (λ_ _=>rfl)) rfl) (aa (pv 1) ao))),?_⟩;have hb:=hG.hb;rw[iD] at hb;have hsz:sizeLine=16777216:=sizeLine_eq;have hul:=h3.length;refine rV rfl (rf hg TG_.cl TG_.nb ft ⟨_,rfl,bl,_,_,_,rfl,rfl,bh.of hb,i7 _ _,rf h1 T.cl T.np eZ ⟨.inl ⟨rfl,_,bh.of h2⟩,_,rfl,x.2,_,_,rfl,rfl,h2,(by rw[hul,hsz];omega),?_⟩⟩);have:=hG.N3 (fr':=⟨fr.form,fr.parts++[p]⟩) (h3.app (.cons hP .nil)) rfl;exact q _ this.1 this.2
theorem F4(xs:List V)(v u:V):vi (xs++[v]++[u]) (-2)=some v:=by
 unfold vi;have h:FF (xs++[v]++[u]).length (-2)=some xs.length:=by
  rw[List.length_append,List.length_append,List.length_singleton,List.length_singleton];unfold FF;rw[if_neg ↑2];rw[if_pos ↑2];congr 1;omega
 rw[h];show(xs++[v]++[u])[xs.length]?=some v;simp
theorem cq.SO{N:Nat}{F:Hp}{g bl:Addr}{x y:Addr×Addr}{al:List (Addr×Addr)}{G:List MA.Fr}{f0 fr fr':MA.Fr}{vs:List V}(h:cq CG CW N F H g bl (x::y::al) (f0::fr::G))(hp:bK CW N F vs fr'.parts)(he:fr'.form=fr.form):
  cq CG CW N F (upd H y.2 (.lst vs)) g bl (x::y::al) (f0::fr'::G)/\Kept bl (x::y::al) H (upd H y.2 (.lst vs)):=by
 have hx:y.1∈(x::y::al).map Prod.fst:=List.mem_cons_of_mem _ (List.mem_cons_self ..);have hx2:y.2∈(x::y::al).map Prod.snd:=List.mem_cons_of_mem _ (List.mem_cons_self ..);have hF:=(h.fs.ins hx).2;have hF2:=(h.fs.lst hx2).2;have nb:y.2≠bl:=λz=>h.nb (z▸hx2);have n12:=h.fs.sep hx hx2;have nd:=List.nodup_cons.mp h.n2;have n2:=List.nodup_cons.mp nd.2;have nxy:x.2≠y.2:=λz=>nd.1 (by rw[List.map_cons,<-z];exact List.mem_cons_self ..);obtain⟨dg,hg⟩:=h.hg;obtain⟨⟨us,hl⟩,_⟩:=h.fs.lst hx2;have ngx:g≠y.2:=dB hg hl (by intro z;cases z);refine⟨⟨λb o hb=>?_,⟨dg,by rw[ah ngx];exact hg⟩,by rw[ah (Ne.symm nb)];exact h.hb,?_,h.n1,h.n2,h.nb,h.fb,h.ng⟩,λb o hb no=>?_⟩
 ·rw[ah (λz=>by rw[z,hF2] at hb;cases hb)];exact h.sm _ _ hb
 ·have hfs:=h.fs;cases hfs with
  |cons hf0 r0=>
   obtain⟨ex,ed,eu,k1,k2,k3⟩:=hf0;cases r0 with
   |cons hf r=>
    obtain⟨dx,d,_,h1,_,_,_,_,h6⟩:=hf;refine .cons ⟨ex,ed,eu,by rw[ah (h.fs.sep (List.mem_cons_self ..) hx2)];exact k1,by rw[ah nxy];exact k2,k3⟩ (.cons ⟨dx,d,vs,by rw[ah n12,he];exact h1,ag,hp,hF,hF2,by rw[he];exact h6⟩ (r.keep λb o hb e=>?_));rw[ah (hb.elim (λz=>h.fs.sep (List.mem_cons_of_mem _ (List.mem_cons_of_mem _ z)) hx2) λz (w:b=y.2)=>n2.1 (by rw[<-w];exact z))];exact e
 ·rw[ah λ(z:b=y.2)=>no (.inr (.inr (by rw[z];exact hx2)))];exact hb
theorem Kept.trans{bl:Addr}{al:List (Addr×Addr)}{H1 H2:Hp}(a:Kept bl al H H1)(b:Kept bl al H1 H2):Kept bl al H H2:=λc o h n=>b c o (a c o h n) n
theorem Lv(p:MA.Pt)(f:MA.Fm):Ay (f.tk p)=Ay f/\(f.tk p).zD=MA.st p f.zD/\(zH f->zH (f.tk p)):=by cases f <;> exact⟨rfl,rfl,id⟩
inductive Je(CG CW:Addr)(vs:List V)(H:Hp)(Q:VK)(E:XK):Prop
 |mk(g bl:Addr) (al:List (Addr×Addr)) (f h:MA.Fm) (l r:List MA.Pt) (p:MA.Pt) (G:List MA.Fr) (N:Nat) (F:Hp) (_:vs=[.ref g]) (_:cq CG CW N F H g bl al (⟨f,l⟩::⟨h,r++[p]⟩::G)) (_:l.length<16000000) (_:∀H',cq CG CW N F H' g bl al (⟨f.tk p,l++[p]⟩::⟨h,r⟩::G)->Kept bl al H H'->Q .bF H')
theorem Bz:ax ["self","twig","part"] ["self"] (aq (ni 4)):=↑3
theorem OA(d:dm K CG "take" "Growth.take" (ni 4) ["self"])(TG_:FH K CG)(T:JB K CW)(mC:mg "Twig"=some (.ref CW))(isi:mg "isinstance"=none):jb P w K mg base 1 CG "take" ["self"] (Je CG CW):=d.ok λf fd F=>by
 refine F.ok Bz (by rintro vs H Q E ⟨g,bl,al,f,h,l,r,p,G,N,F,rfl,_⟩;rfl) (λUT A outer s H vs Q E hr hh=>?_);obtain⟨g,bl,al,f,h,l,r,p,G,N,F,rfl,hG,hl,q⟩:=hh;obtain⟨dg,hg⟩:=hG.hg;obtain⟨x,y,al,rfl⟩:∃x y al',al=x::y::al':=by
  cases hG.fs with
  |cons _ r=>cases r;exact⟨_,_,_,rfl⟩
 have hfs:=hG.fs;cases hfs with
 |cons hf0 r0=>
  obtain⟨ex,ed,eu,k1,k2,k3,k4,k5,k6⟩:=hf0;cases r0 with
  |cons hf r1=>
   obtain⟨dx,dd,us,h1,h2,h3,h4,h5,h6⟩:=hf;obtain⟨ws,v,rfl,hws,hv⟩:=bK.snoc_inv (ps:=r) (p:=p) h3;refine⟨_,aj (aN (i:=1) Bz.nd rfl (Or.inl rfl) (bx aW (ay (pv 0) rfl) (gv ef aw) (λ_ _=>rfl)))
    (aj (aN (i:=2) Bz.nd rfl (Or.inl rfl) (tH PySem.F.plainAttrs_list PySem.F.slot_list_pop PySem.F.type_list_pop rS (ay (bx aW (ay (pv 0) rfl) (gv ef aw) (λ_ _=>rfl)) rfl)))
    (aj (aR (da (dX h_ (by rfl) isi PyProof.Rows.boot_isinstance (aa (pv 2) (aa (fQ mC) ao)))) (ai (bD (pv 1) (ay (pv 2) rfl) rfl)) aL)
    (ai (aS (fW PySem.F.plainAttrs_list PySem.F.slot_list_append PySem.F.type_list_append cH (ay (pv 1) rfl) (aa (pv 2) ao)))))),?_⟩
   have hb:=hG.hb;rw[iD] at hb;have hb2:=hb;rw[iD] at hb2;have hsz:sizeLine=16777216:=sizeLine_eq;refine rV rfl (rf hg TG_.cl TG_.nb ft ⟨_,rfl,bl,_,_,_,rfl,rfl,bh.of hb,i7 _ _,?_⟩);refine rV rfl (rf hg TG_.cl TG_.nb ft ⟨_,rfl,bl,_,_,_,rfl,rfl,bh.of hb2,F4 _ _ _,rf h1 T.cl T.np eZ ⟨.inl ⟨rfl,_,bh.of h2⟩,y.2,_,v,rfl,rfl,h2,(by rw[List.length_append,List.getElem?_append_right (by simp)];simp),?_⟩⟩);rw[List.dropLast_concat];obtain⟨g1,kp1⟩:=hG.SO (fr':=⟨h,r⟩) hws rfl;have hx2:y.2∈(x::y::al).map Prod.snd:=List.mem_cons_of_mem _ (List.mem_cons_self ..);have hxx:=hG.fs.sep (List.mem_cons_self ..) hx2;have nd:=List.nodup_cons.mp hG.n2;have nxy:x.2≠y.2:=λz=>nd.1 (by rw[List.map_cons,<-z];exact List.mem_cons_self ..);have k1':(upd H y.2 (.lst ws)) x.1=_:=(ah hxx).trans k1;have k2':(upd H y.2 (.lst ws)) x.2=_:=(ah nxy).trans k2;have hul:=k3.length;obtain⟨e1,e2,e3⟩:=Lv p f;cases hv with
   |@leaf a0 b0 ha0=>
    have ha1:=g1.sm _ _ ha0;refine⟨_,rfl,_,_,_,_,rfl,.inr ⟨CW,rfl⟩,.inl (.lst ha1),T.kl,_,rfl,dD ?_⟩;refine rV rfl (rf k1' T.cl T.np eZ ⟨.inl ⟨rfl,_,bh.of k2'⟩,_,rfl,x.2,_,_,rfl,rfl,k2',(by rw[hul,hsz];dsimp only;omega),?_⟩);have hf:f.tk (.leaf b0)=f:=by cases f <;> rfl
    obtain⟨g2,kp2⟩:=g1.N3 (fr':=⟨f.tk (.leaf b0),l++[.leaf b0]⟩) (k3.app (.cons (.leaf ha0) .nil)) hf;exact q _ g2 (kp1.trans kp2)
   |@aY a0 dx0 l0 f0 s0 ps0 vs0 d0 ha hlo hs hk hc hps=>
    have ha1:=g1.sm _ _ ha;refine⟨_,rfl,_,_,_,_,rfl,.inr ⟨CW,rfl⟩,.inl (.ins ha1 T.cl T.ha T.hn T.ht T.hm),T.yes,_,rfl,fE ?_⟩;refine rV rfl (rf ha1 T.cl T.n1 E1 ⟨_,rfl,x.1,CW,ex,_,rfl,k1',T.cl,T.n1,(by show 4<1000;decide),?_⟩);rw[B1];obtain⟨g2,kp2⟩:=g1.R0 (fr':=⟨f.tk (.aY f0 s0 ps0),l⟩) (dx:=ex) (d:=ed) k2' k3 (e3 k6);dsimp only at g2 kp2 e1 e2;rw[e1,e2] at g2 kp2;have g2f:=g2.fs;cases g2f with
    |cons hf2 _=>
     obtain⟨m1,m2,m3,j1,j2,j3,j4,j5,j6⟩:=hf2;dsimp only at j1 j2;have n12:=hG.fs.sep (List.mem_cons_self ..) (show x.2∈(x::y::al).map Prod.snd from List.mem_cons_self ..);have j2':(upd (upd H y.2 (.lst ws)) x.1 (.ins CW ex (tV (Ay f) (.ref x.2) (.int ((N:Int) - MA.len f0.zD)) ed))) x.2=some (.lst eu):=(ah (Ne.symm n12)).trans k2';refine rV rfl (rf ag T.cl T.np eZ ⟨.inl ⟨rfl,_,bh.of j2'⟩,_,rfl,x.2,_,_,rfl,rfl,j2',(by rw[hul,hsz];dsimp only;omega),?_⟩);obtain⟨g3,kp3⟩:=g2.N3 (fr':=⟨f.tk (.aY f0 s0 ps0),l++[.aY f0 s0 ps0]⟩) (k3.app (.cons (.aY ha hlo hs hk hc hps) .nil)) rfl;exact q _ g3 (kp1.trans (kp2.trans kp3))
section
variable{CG CW:Addr}{N:Nat}{F F' H H':Hp}{g bl:Addr}{x:Addr×Addr}{al:List (Addr×Addr)}{fr:MA.Fr}{G:List MA.Fr}
theorem cq.pop(h:cq CG CW N F H g bl (x::al) (fr::G)):cq CG CW N F (upd H bl (.lst (al.map λx=>V.ref x.1).reverse)) g bl al G:=by
 obtain⟨dg,hg⟩:=h.hg;have ngb:g≠bl:=dB hg h.hb (by intro z;cases z);have hfs:=h.fs;cases hfs with
 |cons _ r=>
  refine⟨λb o hb=>?_,⟨dg,by rw[ah ngb];exact hg⟩,ag,r.keep λb o hb e=>?_,(List.nodup_cons.mp h.n1).2,(List.nodup_cons.mp h.n2).2,λz=>h.nb (List.mem_cons_of_mem _ z),h.fb,λz=>h.ng (List.mem_cons_of_mem _ z)⟩
  ·rw[ah (λz=>by rw[z,h.fb] at hb;cases hb)];exact h.sm _ _ hb
  ·rw[ah (hb.elim (λz=>h.bne (List.mem_cons_of_mem _ z)) λz (y:b=bl)=>h.nb (List.mem_cons_of_mem _ (by rw[<-y];exact z)))];exact e
theorem cq.Am(h:cq CG CW N F H g bl al G)(s:aF F F')(s2:aF F' H)(k:∀b,b∈al.map Prod.fst\/b∈al.map Prod.snd->F' b=none)(kb:F' bl=none):cq CG CW N F' H g bl al G:=
 ⟨s2,h.hg,h.hb,h.fs.Am s k,h.n1,h.n2,h.nb,kb,h.ng⟩
end
theorem Qy{l:List MA.Pt}(h:MA.iP l):MA.eB l<128:=by have:=q_ h l.length (Nat.le_refl _);rw[List.take_length] at this;exact this
inductive Qh(CG CW:Addr)(vs:List V)(H:Hp)(Q:VK)(E:XK):Prop
 |mk(g bl:Addr) (x:Addr×Addr) (al:List (Addr×Addr)) (f h:MA.Fm) (l r:List MA.Pt) (G:List MA.Fr) (N:Nat) (F:Hp) (s:EwTree.St) (_:vs=[.ref g,.int ((N:Int) - MA.len s)]) (_:cq CG CW N F H g bl (x::al) (⟨f,l⟩::⟨h,r⟩::G)) (_:(f.isSet=true->MA.iP l)) (_:r.length<16000000) (_:∀H' F',aF F F'->(∀b,F' b≠none->F b≠none\/Own bl (x::al) b\/H b=none)->cq CG CW N F' H' g bl al (⟨h,r++[MA.done f s l]⟩::G)->Kept bl (x::al) H H'->Q .bF H')
theorem Lx:ax ["self","passed","twig"] ["self","passed"] (aq (ni 5)):=↑3
theorem QL(d:dm K CG "finish" "Growth.finish" (ni 5) ["self","passed"])(TG_:FH K CG)(T:JB K CW)(op:jb P w K mg base 1 CG "put" ["self","part"] (Jl CG CW))(os:Ok P w K mg base bj 1 "set_byte" ["bits"] (Nu CW)):jb P w K mg base 2 CG "finish" ["self","passed"] (Qh CG CW):=d.ok λf fd F=>by
 refine F.ok Lx (by rintro vs H Q E ⟨g,bl,x,al,f,h,l,r,G,N,F,s,rfl,_⟩;rfl) (λUT A outer s H vs Q E hr hh=>?_);obtain⟨g,bl,x,al,f,h,l,r,G,N,F,s,rfl,hG,hset,hl,q⟩:=hh;obtain⟨dg,hg⟩:=hG.hg;have hfs:=hG.fs;cases hfs with
 |cons hf r1=>
  obtain⟨ex,ed,us,k1,k2,k3,k4,k5,k6⟩:=hf;dsimp only at k1 k2 k3 k6;refine⟨_,aj (aN (i:=2) Lx.nd rfl (Or.inl rfl) (tH PySem.F.plainAttrs_list PySem.F.slot_list_pop PySem.F.type_list_pop rS (ay (pv 0) rfl)))
   (aj (bD (pv 2) (pv 1) rfl)
   (ai (aR (aD cU (ay (pv 2) rfl) bZ (aK _)) (ai (aS (iq op TG_.cl hr (pv 0) (aa (bE (aa (aM os hr (aa (ay (pv 2) rfl) ao)) ao)) ao)))) (ai (aS (iq op TG_.cl hr (pv 0) (aa (pv 2) ao))))))),?_⟩
  have hb:=hG.hb;rw[iD] at hb;refine rV rfl (rf hg TG_.cl TG_.nb ft ⟨.inl ⟨rfl,_,bh.of hb⟩,bl,_,.ref x.1,rfl,rfl,hb,(by rw[List.length_append,List.getElem?_append_right (by simp)];simp),?_⟩);rw[List.dropLast_concat];have g1:=hG.pop;have hx:x.1∈(x::al).map Prod.fst:=List.mem_cons_self ..;have hx2:x.2∈(x::al).map Prod.snd:=List.mem_cons_self ..;have nb:=hG.bne hx;have nb2:x.2≠bl:=λz=>hG.nb (z▸hx2);have n12:=hG.fs.sep hx hx2;have n1:=List.nodup_cons.mp hG.n1;have n2:=List.nodup_cons.mp hG.n2;have ngx:g≠x.1:=λz=>hG.ng (z▸hx);have k1':(upd H bl (.lst (al.map λx=>V.ref x.1).reverse)) x.1=_:=(ah nb).trans k1;refine⟨_,rfl,_,rfl,x.1,CW,ex,_,rfl,k1',T.cl,T.nb,(by show 4<1000;decide),?_⟩;rw[yV];generalize hH2:upd (upd H bl (.lst (al.map λx=>V.ref x.1).reverse)) x.1 (.ins CW ex (tV (Ay f) (.ref x.2) (.int ((N:Int) - MA.len f.zD)) (.int ((N:Int) - MA.len s))))=H2;have hx2':H2 x.2=some (.lst us):=by rw[<-hH2,ah (Ne.symm n12),ah nb2];exact k2
  have hx1':H2 x.1=some (.ins CW ex (tV (Ay f) (.ref x.2) (.int ((N:Int) - MA.len f.zD)) (.int ((N:Int) - MA.len s)))):=by rw[<-hH2,ag]
  have g2:cq CG CW N F H2 g bl al (⟨h,r⟩::G):=g1.kept λb o e ho=>by
   rw[<-hH2,ah]
   ·exact e
   ·rintro rfl;rcases ho with(z|z|z)|z|z
    ·exact nb z
    ·exact n1.1 z
    ·exact hG.fs.sep hx (List.mem_cons_of_mem _ z) rfl
    ·exact ngx z.symm
    ·exact z k4
  have kp2:Kept bl (x::al) H H2:=λb o hb no=>by
   rw[<-hH2,ah λ(z:b=x.1)=>no (.inr (.inl (by rw[z];exact hx))),ah λz=>no (.inl z)];exact hb
  have hg2:∃dg,H2 g=some (.ins CG dg [("begun",.ref bl)]):=g2.hg;obtain⟨dg2,hg2⟩:=hg2;have hsc:Na (Ay f) (.str "@set")=true:=by cases f <;> rfl
  refine rV rfl (rf hx1' T.cl T.nf rk ⟨hsc,_,rfl,aT (λz=>?_) λz=>?_⟩)
  ·have z:=of_decide_eq_true z;have hS:f.isSet=true:=by
    cases f with
    |kind k b=>cases z
    |row b=>exact absurd z (by show V.str "@row"≠V.str "@set";decide+kernel)
    |count b=>exact absurd z (by show V.str "@count"≠V.str "@set";decide+kernel)
    |set b=>rfl
   have aZ:=hset hS;refine⟨_,rfl,g,dg2,_,rfl,hg2,gJ ↑1,rV rfl (rf hx1' T.cl T.np eZ ⟨x.2,us,l,N,rfl,hx2',k3.same g2.sm,aZ,(by show 1<=sizeLine;decide),λm hm=>?_⟩)⟩;have hFm:F m=none:=g2.sm.free hm;have hdone:MA.done f s l= .leaf [UInt8.ofNat (MA.eB l)]:=by unfold MA.done;rw[hS]
   have hiv:[V.int ((MA.eB l:Nat):Int)]=iv [UInt8.ofNat (MA.eB l)]:=by
    show _=[V.int ((UInt8.ofNat (MA.eB l)).toNat:Int)]
    rw[show(UInt8.ofNat (MA.eB l)).toNat=MA.eB l by have:=Qy aZ;simp;omega]
   have hmo:∀b o,H2 b=some o->b≠m:=λb o e=>au e hm;have g3:cq CG CW N (upd F m (.lst [V.int ((MA.eB l:Nat):Int)])) (upd H2 m (.lst [V.int ((MA.eB l:Nat):Int)])) g bl al (⟨h,r⟩::G):=by
    refine(g2.kept (H':=upd H2 m (.lst [V.int ((MA.eB l:Nat):Int)])) λb o e _=>by rw[ah (hmo b o e)];exact e).Am (aC hFm) (λb o hb=>?_) (λb hb=>?_) ?_
    ·by_cases z:b=m
     ·subst z;rw[ag] at hb ⊢;exact hb
     ·rw[ah z] at hb ⊢;exact g2.sm _ _ hb
    ·have:F b=none/\b≠m:=by
      rcases hb with hb|hb
      ·obtain⟨⟨_,_,e⟩,e2⟩:=g2.fs.ins hb;exact⟨e2,hmo _ _ e⟩
      ·obtain⟨⟨_,e⟩,e2⟩:=g2.fs.lst hb;exact⟨e2,hmo _ _ e⟩
     rw[ah this.2];exact this.1
    ·rw[ah (hmo _ _ g2.hb)];exact g2.fb
   refine⟨g,bl,al,⟨h,r⟩,G,N,_,.ref m,.leaf [UInt8.ofNat (MA.eB l)],rfl,g3,.leaf (by rw[ag,hiv]),hl,λH' g4 kp4=>q H' _ (aC hFm) (λb hb=>?_) (by rw[hdone];exact g4) ?_⟩
   ·by_cases z:b=m
    ·subst z;by_cases z1:b=bl
     ·exact .inr (.inl (.inl z1))
     ·by_cases z2:b=x.1
      ·exact .inr (.inl (.inr (.inl (by rw[z2];exact hx))))
      ·right;right;rw[<-hH2,ah z2,ah z1] at hm;exact hm
    ·rw[ah z] at hb;exact .inl hb
   ·exact λb o hb no=>kp4 b o (by have:=kp2 b o hb no;rw[ah (hmo _ _ this)];exact this) λz=>no (z.elim .inl λz=>.inr (z.elim (λz=>.inl (List.mem_cons_of_mem _ z)) λz=>.inr (List.mem_cons_of_mem _ z)))
  ·have hS:f.isSet=false:=by
    cases f with
    |set b=>exact absurd (decide_eq_true rfl) z
    |_=>rfl
   have hdone:MA.done f s l= .aY f s l:=by unfold MA.done;rw[hS]
   have sF:aF F (upd (upd F x.2 (.lst us)) x.1 (.ins CW ex (tV (Ay f) (.ref x.2) (.int ((N:Int) - MA.len f.zD)) (.int ((N:Int) - MA.len s))))):=(aC k5).trans (aC (by rw[ah n12];exact k4));have g3:cq CG CW N (upd (upd F x.2 (.lst us)) x.1 (.ins CW ex (tV (Ay f) (.ref x.2) (.int ((N:Int) - MA.len f.zD)) (.int ((N:Int) - MA.len s))))) H2 g bl al (⟨h,r⟩::G):=by
    refine g2.Am sF (λb o hb=>?_) (λb hb=>?_) ?_
    ·by_cases z1:b=x.1
     ·subst z1;rw[ag] at hb;rw[hx1'];exact hb
     ·rw[ah z1] at hb;by_cases z2:b=x.2
      ·subst z2;rw[ag] at hb;rw[hx2'];exact hb
      ·rw[ah z2] at hb;exact g2.sm _ _ hb
    ·have:F b=none/\b≠x.1/\b≠x.2:=by
      rcases hb with hb|hb
      ·exact⟨(g2.fs.ins hb).2,λz=>n1.1 (z▸hb),hG.fs.sep (List.mem_cons_of_mem _ hb) hx2⟩
      ·exact⟨(g2.fs.lst hb).2,Ne.symm (hG.fs.sep hx (List.mem_cons_of_mem _ hb)),λz=>n2.1 (z▸hb)⟩
     rw[ah this.2.1,ah this.2.2];exact this.1
    ·rw[ah (Ne.symm nb),ah (Ne.symm nb2)];exact g2.fb
   refine⟨_,rfl,g,dg2,_,rfl,hg2,gJ ↑1,_,rfl,g,bl,al,⟨h,r⟩,G,N,_,.ref x.1,.aY f s l,rfl,g3,.aY ag (by rw[ah (Ne.symm n12),ag]) hS k6 ?_ (k3.same sF),hl,λH' g4 kp4=>q H' _ sF (λb hb=>?_) (by rw[hdone];exact g4) ?_⟩
   ·cases f <;> first|exact True.intro|rfl
   ·by_cases z1:b=x.1
    ·exact .inr (.inl (.inr (.inl (by rw[z1];exact hx))))
    ·rw[ah z1] at hb;by_cases z2:b=x.2
     ·exact .inr (.inl (.inr (.inr (by rw[z2];exact hx2))))
     ·rw[ah z2] at hb;exact .inl hb
   ·exact λb o hb no=>kp4 b o (kp2 b o hb no) λz=>no (z.elim .inl λz=>.inr (z.elim (λz=>.inl (List.mem_cons_of_mem _ z)) λz=>.inr (List.mem_cons_of_mem _ z)))
inductive OE(CG CW:Addr)(vs:List V)(H:Hp)(Q:VK)(E:XK):Prop
 |mk(g bl:Addr) (x:Addr×Addr) (fr:MA.Fr) (N:Nat) (F:Hp) (_:vs=[.ref g]) (_:cq CG CW N F H g bl [x] [fr]) (_:Q (.ref x.1) H)
theorem Q2:ax ["self"] ["self"] (aq (ni 6)):=↑3
theorem RY(d:dm K CG "grown" "Growth.grown" (ni 6) ["self"])(TG_:FH K CG):jb P w K mg base 1 CG "grown" ["self"] (OE CG CW):=d.ok λf fd F=>by
 refine F.ok Q2 (by rintro vs H Q E ⟨g,bl,x,fr,N,F,rfl,_⟩;rfl) (λUT A outer s H vs Q E hr hh=>?_);obtain⟨g,bl,x,fr,N,F,rfl,hG,q⟩:=hh;obtain⟨dg,hg⟩:=hG.hg;refine⟨_,ai (aB (bx aW (ay (pv 0) rfl) aw (λ_ _=>rfl))),?_⟩;exact rV rfl (rf hg TG_.cl TG_.nb ft ⟨bl,_,_,_,rfl,rfl,bh.of hG.hb,at_of (j:=0) rfl rfl,q⟩)
abbrev UB(K:Frag)(mg:Str->Option Value)(C:Addr):Prop:=wR K mg "Growth" "Growth.__init__" (ni 0) C ["self"]
inductive N0(CG CW:Addr)(vs:List V)(H:Hp)(Q:VK)(E:XK):Prop
 |mk(p dx:Addr) (_:vs=[.ref p]) (_:H p=some (.ins CG dx [])) (_:∀H' bl a l dxa,H bl=none->H a=none->H l=none->bl≠l->H' p=some (.ins CG dx [("begun",.ref bl)])->H' bl=some (.lst [.ref a])->H' a=some (.ins CW dxa (tV (.str "@row") (.ref l) (.int 0) (.int 0)))->H' l=some (.lst [])->FA p H H'->Q .bF H')
theorem Rw:ax ["self"] ["self"] (aq (ni 0)):=↑3
theorem OR(d:UB K mg CG)(TG_:FH K CG)(nT:va P w K mg base 1 "Twig" CW ["self","form","first"] (Dr CW)):va P w K mg base 3 "Growth" CG ["self"] (N0 CG CW):=d.new λf fd F=>by
 refine F.ok Rw (by rintro vs H Q E ⟨p,dx,rfl,_⟩;rfl) (λUT A outer s H vs Q E hr h=>?_);obtain⟨p,dx,rfl,h1,q⟩:=h;refine⟨_,ai (bD (pv 0) (bE (aa (eK nT hr (aa bZ (aa aw ao))) ao)) rfl),?_⟩;refine λx dx' nx nd ne=>⟨x,dx',_,_,rfl,ag,λH1 l hl0 k1 k2 fr=>⟨rfl,(by show 1<=sizeLine;decide),λbl hbl=>?_⟩⟩
 have s1:=aF.made nx nd fr;have hl1:H l=none:=by
  have:=hl0;by_cases z:l=x
  ·rw[z,ag] at this;cases this
  ·rw[ah z] at this;by_cases z2:l=dx'
   ·rw[z2,ag] at this;cases this
   ·rw[ah z2] at this;exact this
 have hp1:=s1 _ _ h1;have npb:p≠bl:=au hp1 hbl;have nxb:x≠bl:=au k1 hbl;have nlb:l≠bl:=au k2 hbl;have npx:p≠x:=au h1 nx;have npl:p≠l:=au h1 hl1;refine⟨_,rfl,p,CG,dx,_,rfl,(by rw[ah npb];exact hp1),TG_.cl,TG_.nb,(by show 0<1000;decide),?_⟩;refine q _ bl x l dx' (s1.free hbl) nx hl1 (Ne.symm nlb) ag ?_ ?_ ?_ λb o hb hnp=>?_
 ·rw[ah (Ne.symm npb),ag]
 ·rw[ah (Ne.symm npx),ah nxb];exact k1
 ·rw[ah (Ne.symm npl),ah nlb];exact k2
 ·rw[ah hnp,ah (au (s1 _ _ hb) hbl)];exact s1 _ _ hb
section
open MA (nm VC)
structure jH(P:Program)(w:World)(K:Frag)(mg:Str->Option Value)(base:Heap)(k:Nat)(C:Addr)(m:Str)(ps:List Str)(sp:Sp):Prop where
 ex:∃(f:Addr)(fd:FuncData),Meth K C m f/\bY P w K mg base (g_ P w) k f fd ps sp/\Binds K fd ps []
def Ic(C:Addr)(m:Str)(sp:Sp)(R:L2.St->Addr->Hp->Prop)(ta:TE)(t:TA):TE:=λσ H Q=>ta σ H λx H1=>RW C m (λH1=>t σ H1 λvs H2=>sp (x::vs) H2 Q (ER R σ)) x H1
theorem dm.uD{P:Program}{w:World}{K:Frag}{mg:Str->Option Value}{base:Heap}{m qual:Str}{st:Stmt}{k:Nat}{sp:Sp}(d:dm K C m qual st ps)(h:∀f fd,jW K m qual st f fd->bY P w K mg base (g_ P w) k f fd ps sp):jH P w K mg base k C m ps sp:=by obtain⟨f,fd,M,F,b⟩:=d.ex;exact⟨f,fd,M,h f fd F,b⟩
section
variable{X:Cx}{k:Nat}{C:Addr}{m:Str}{ps:List Str}{sp:Sp}{o e:Expr}{es:List Expr}{ta:TE}{t:TA}{apos pos:Pos}{pl:Sem Bool}{R:L2.St->Addr->Hp->Prop}
theorem An{US:List (Addr×Obj)}{σ:L2.St}{H1 H2:Hp}{s2:Shared}{Q:VK}{a f:Addr}{us:List Value}{vs:List V}(F:bY X.prog X.w X.K X.mg X.base (g_ X.prog X.w) k f fd ps sp)(hb:Binds X.K fd ps [])(hr:bB k X.A)(I2:Inv (xw X R) US σ H2 s2)(r:Vals vs us)(q:sp (.ref a::vs) H2 Q (ER R σ)):
  wpAny (model X.prog X.w) X.A (call (.ref f) (.ref a::us)) (EP (xw X R) US σ Q) (Nz X R) s2:=by
 have r':Vals (V.ref a::vs) (Value.ref a::us):=.cons rfl r;have hl:(Value.ref a::us++[]).length=ps.length:=by rw[List.append_nil,<-r'.length];exact F.len _ _ _ _ q
 have hb':=hb s2 (.ref a::us) I2.d5 hl;rw[List.append_nil] at hb';refine wpAny_call (codeAny_mono (F.run X.A X.stack s2 H2 ⟨.ref a::us,[]⟩ (.ref a::us) (.ref a::vs) Q (ER R σ) hr I2.Fi hb' r' q) λr s' hq=>?_);cases r with
 |error v=>exact wW I2.dY hq λe H' ⟨e',z,y⟩=>by cases z;exact y
 |ok fl=>
  cases fl with
  |ret u=>exact I2.after hq
  |next=>exact False.elim hq
  |brk=>exact False.elim hq
  |cont=>exact False.elim hq
theorem Du(h:jH X.prog X.w X.K X.mg X.base k C m ps sp)(c:rY X.K C)(hr:bB k X.A)(he:PE (xw X R) o ta)(ha:PA (xw X R) (e::es) t)(hst:starEach (e::es) X.env=(false,eval e X.env)::starEach es X.env:=by rfl)(hpl:(backTo pos (starEach es X.env)).any (·.1)=false:=by rfl)(ht:eval (.Call (.Attribute o m apos) (e::es) [] pos) X.env=(do
   let ov<-eval o X.env
   standAt apos.atName
   let(f,first)<-holding [ov] (getMethod ov m pl)
   callWith pos f first (backTo pos (starEach (e::es) X.env)) (backToKw pos (keywordEach [] X.env))):=by rfl):PE (xw X R) (.Call (.Attribute o m apos) (e::es) [] pos) (Ic C m sp R ta t):=by
 intro US s σ H Q I hh;obtain⟨f,fd,M,F,hb⟩:=h.ex;refine PySem.W.methodCall_KW (pl:=pl) (br (he US s σ H _ I hh) λu s1 ⟨x,H1,I1,rx,a,dx,fs,ex,ea,l,q⟩=>?_) ht;subst ex;obtain rfl:u=Value.ref a:=rx;refine gB I1 ea c M l ?_;refine PySem.W.callWith_K (first:=[.ref a]) (h₀:=X.base) I.ok.mod.D' M.kp (br (ha pos US s1 σ H1 _ I1 q) λus s2 ⟨vs,H2,I2,r,q2⟩=>⟨I2.d5,?_⟩) hst hpl;exact An (H1:=H1) F hb hr I2 r q2
theorem Ab(h:jH X.prog X.w X.K X.mg X.base k C m ps sp)(c:rY X.K C)(hr:bB k X.A)(he:PE (xw X R) o ta)(ht:eval (.Call (.Attribute o m apos) [] [] pos) X.env=(do
   let ov<-eval o X.env
   standAt apos.atName
   let(f,first)<-holding [ov] (getMethod ov m pl)
   callWith pos f first (backTo pos (starEach [] X.env)) (backToKw pos (keywordEach [] X.env))):=by rfl):PE (xw X R) (.Call (.Attribute o m apos) [] [] pos) (Ic C m sp R ta d8):=by
 intro US s σ H Q I hh;obtain⟨f,fd,M,F,hb⟩:=h.ex;refine PySem.W.methodCall_KW (pl:=pl) (br (he US s σ H _ I hh) λu s1 ⟨x,H1,I1,rx,a,dx,fs,ex,ea,l,q⟩=>?_) ht;subst ex;obtain rfl:u=Value.ref a:=rx;refine gB I1 ea c M l ?_;exact PySem.W.callWith_K0 (first:=[.ref a]) I1.d5 M.kp (An (us:=[]) (H1:=H1) F hb hr I1 .nil q)
end
def FC(t sc n d c g:V):List (Str×V):=[("text",t),("scanned",sc),("passed",n),("rows",d),("coming",c),("growth",g)]
section
variable{t sc n d c g v:V}
theorem yS:(FC t sc n d c g).lookup ("text":Str)=some t:=fO
theorem bU:(FC t sc n d c g).lookup ("scanned":Str)=some sc:=(aP ↑1).trans fO
theorem cT:(FC t sc n d c g).lookup ("passed":Str)=some n:=(aP ↑1).trans ((aP ↑1).trans fO)
theorem lT:(FC t sc n d c g).lookup ("rows":Str)=some d:=(aP ↑1).trans ((aP ↑1).trans ((aP ↑1).trans fO))
theorem gK:(FC t sc n d c g).lookup ("coming":Str)=some c:=(aP ↑1).trans ((aP ↑1).trans ((aP ↑1).trans ((aP ↑1).trans fO)))
theorem dq:(FC t sc n d c g).lookup ("growth":Str)=some g:=(aP ↑1).trans ((aP ↑1).trans ((aP ↑1).trans ((aP ↑1).trans ((aP ↑1).trans fO))))
theorem zf:aV "passed" v (FC t sc n d c g)=FC t sc v d c g:=(aU ↑1).trans (congrArg _ ((aU ↑1).trans (congrArg _ wG)))
theorem Kw:aV "growth" g (aV "coming" c (aV "rows" d (aV "passed" n (aV "scanned" sc (aV "text" t [])))))=FC t sc n d c g:=by have h1:aV "scanned" sc (aV "text" t [])=[(("text":Str),t),(("scanned":Str),sc)]:=(aU ↑1).trans rfl;have h2:aV "passed" n [(("text":Str),t),(("scanned":Str),sc)]=[(("text":Str),t),(("scanned":Str),sc),(("passed":Str),n)]:=(aU ↑1).trans (congrArg _ ((aU ↑1).trans rfl));have h3:aV "rows" d [(("text":Str),t),(("scanned":Str),sc),(("passed":Str),n)]=[(("text":Str),t),(("scanned":Str),sc),(("passed":Str),n),(("rows":Str),d)]:=(aU ↑1).trans (congrArg _ ((aU ↑1).trans (congrArg _ ((aU ↑1).trans rfl))));have h4:aV "coming" c [(("text":Str),t),(("scanned":Str),sc),(("passed":Str),n),(("rows":Str),d)]=[(("text":Str),t),(("scanned":Str),sc),(("passed":Str),n),(("rows":Str),d),(("coming":Str),c)]:=(aU ↑1).trans (congrArg _ ((aU ↑1).trans (congrArg _ ((aU ↑1).trans (congrArg _ ((aU ↑1).trans rfl))))));rw[h1,h2,h3,h4];exact(aU ↑1).trans (congrArg _ ((aU ↑1).trans (congrArg _ ((aU ↑1).trans (congrArg _ ((aU ↑1).trans (congrArg _ ((aU ↑1).trans rfl))))))))
end
structure Jv(K:Frag)(C:Addr):Prop where
 cl:rY K C
 nt:aE K C "text"
 ns:aE K C "scanned"
 np:aE K C "passed"
 nr:aE K C "rows"
 nc:aE K C "coming"
 ng:aE K C "growth"
structure Cs where
 CR:Addr
 CG:Addr
 CW:Addr
 CS:Addr
 CT:Addr
 CF:Addr
structure Env(K:Frag)(c:Cs)(F:Hp)(b:By)(ta sa d:Addr):Prop where
 tx:bh K F ta (iv b)
 sc:iX c.CS c.CT F sa (Tn 0 b).1 (Tn 0 b).2
 rw:tT K F d
 bl:b.length<=65536
abbrev nT(b:By):Nat:=(Tn 0 b).1.length
abbrev eF(b:By):Bool:=(Tn 0 b).2.isSome
abbrev zF(b:By):EwTree.Fault:=(Tn 0 b).2.getD (3,b.length)
structure Rd(K:Frag)(c:Cs)(b:By)(F H:Hp)(R dx ta sa d cl g bl:Addr)(al:List (Addr×Addr))(vs:List V)(n:Int)(Ks:List MA.Sym)(G:List MA.Fr):Prop where
 hR:H R=some (.ins c.CR dx (FC (.ref ta) (.ref sa) (.int n) (.ref d) (.ref cl) (.ref g)))
 hc:H cl=some (.lst vs.reverse)
 sy:Paired (ux K) vs Ks
 gr:cq c.CG c.CW (nT b) F H g bl al G
 ev:Env K c F b ta sa d
 fR:F R=none
 fc:F cl=none
 oR:¬Own bl al R
 oc:¬Own bl al cl
 rg:R≠g
def Lp(b:By)(s:EwTree.St):Prop:=MA.len s<=nT b/\s.toks=(Tn 0 b).1.drop (nT b - MA.len s)
inductive lb(K:Frag)(c:Cs)(b:By)(F H:Hp)(R:Addr)(Ks:List MA.Sym)(s:EwTree.St)(G:List MA.Fr):Prop
 |mk(_:Lp b s) (dx:_) (ta:_) (sa:_) (d:_) (cl:_) (g:_) (bl:_) (al:_) (vs:_) (_:Rd K c b F H R dx ta sa d cl g bl al vs ((nT b:Int) - MA.len s) Ks G)
theorem Env.same{K:Frag}{c:Cs}{F F':Hp}{b:By}{ta sa d:Addr}(s:aF F F')(h:Env K c F b ta sa d):Env K c F' b ta sa d:=⟨s.seq h.tx,h.sc.same s,h.rw.same s,h.bl⟩
section
variable{K:Frag}{c:Cs}{b:By}{F F' H H':Hp}{R dx ta sa d cl g bl:Addr}{al al':List (Addr×Addr)}{vs:List V}{n:Int}{Ks:List MA.Sym}{G G':List MA.Fr}
theorem Rd.grown(h:Rd K c b F H R dx ta sa d cl g bl al vs n Ks G)(hg:cq c.CG c.CW (nT b) F' H' g bl al' G')(k:Kept bl al H H')(s:aF F F')(k1:∀x,F' x≠none->F x≠none\/Own bl al x\/H x=none)(k2:∀x,Own bl al' x->Own bl al x\/H x=none):Rd K c b F' H' R dx ta sa d cl g bl al' vs n Ks G':=by
 have fre:∀x o,H x=some o->F x=none->¬Own bl al x->F' x=none:=λx o hx hF hO=>by
  cases e:F' x with
  |none=>rfl
  |some u=>exact absurd (k1 x (by rw[e];intro z;cases z)) (by rintro(z|z|z);exact z hF;exact hO z;rw[hx] at z;cases z)
 have own:∀x o,H x=some o->¬Own bl al x->¬Own bl al' x:=λx o hx hO z=>(k2 x z).elim hO λy=>by rw[hx] at y;cases y
 exact⟨k _ _ h.hR h.oR,k _ _ h.hc h.oc,h.sy,hg,h.ev.same s,fre _ _ h.hR h.fR h.oR,fre _ _ h.hc h.fc h.oc,own _ _ h.hR h.oR,own _ _ h.hc h.oc,h.rg⟩
theorem lQ:∀x,Own bl al x->Own bl al x\/H x=none:=λ_ z=>.inl z
theorem Rd.self(h:Rd K c b F H R dx ta sa d cl g bl al vs n Ks G):∀x,F x≠none->F x≠none\/Own bl al x\/H x=none:=λ_ z=>.inl z
theorem Rd.cR(h:Rd K c b F H R dx ta sa d cl g bl al vs n Ks G):cl≠R:=dB h.hc h.hR (by intro z;cases z)
theorem Rd.cg(h:Rd K c b F H R dx ta sa d cl g bl al vs n Ks G):cl≠g:=by obtain⟨dg,e⟩:=h.gr.hg;exact dB h.hc e (by intro z;cases z)
theorem Rd.RH(h:Rd K c b F H R dx ta sa d cl g bl al vs n Ks G){ws:List V}{Ks':List MA.Sym}(hp:Paired (ux K) ws Ks'):Rd K c b F (upd H cl (.lst ws.reverse)) R dx ta sa d cl g bl al ws n Ks' G:=
 ⟨by rw[ah (Ne.symm h.cR)];exact h.hR,ag,hp,h.gr.kept λx o e ho=>by
   rw[ah]
   ·exact e
   ·rintro rfl;rcases ho with z|z|z
    ·exact h.oc z
    ·exact h.cg z
    ·exact z h.fc,h.ev,h.fR,h.fc,h.oR,h.oc,h.rg⟩
theorem Rd.pass(h:Rd K c b F H R dx ta sa d cl g bl al vs n Ks G){m:Int}{dx':Addr}:Rd K c b F (upd H R (.ins c.CR dx' (FC (.ref ta) (.ref sa) (.int m) (.ref d) (.ref cl) (.ref g)))) R dx' ta sa d cl g bl al vs m Ks G:=
 ⟨ag,by rw[ah h.cR];exact h.hc,h.sy,h.gr.kept λx o e ho=>by
   rw[ah]
   ·exact e
   ·rintro rfl;rcases ho with z|z|z
    ·exact h.oR z
    ·exact h.rg z
    ·exact z h.fR,h.ev,h.fR,h.fc,h.oR,h.oc,h.rg⟩
end
section
variable{K:Frag}{c:Cs}{b:By}{F F' H H':Hp}{R dx ta sa d cl g bl m:Addr}{o:HO}{al al':List (Addr×Addr)}{vs:List V}{n:Int}{Ks:List MA.Sym}{G G':List MA.Fr}
theorem cq.add{N:Nat}(h:cq CG CW N F H g bl al G)(s:aF H H')(hm:H m=none)(hm2:H' m=some o):cq CG CW N (upd F m o) H' g bl al G:=by
 have hFm:=h.sm.free hm;refine(h.kept λb o e _=>s _ _ e).Am (aC hFm) (λb u hb=>?_) (λb hb=>?_) ?_
 ·by_cases z:b=m
  ·subst z;rw[ag] at hb;exact hm2.trans hb
  ·rw[ah z] at hb;exact s _ _ (h.sm _ _ hb)
 ·have:F b=none/\b≠m:=by
   rcases hb with hb|hb
   ·obtain⟨⟨_,_,e⟩,e2⟩:=h.fs.ins hb;exact⟨e2,au e hm⟩
   ·obtain⟨⟨_,e⟩,e2⟩:=h.fs.lst hb;exact⟨e2,au e hm⟩
  rw[ah this.2];exact this.1
 ·rw[ah (au h.hb hm)];exact h.fb
theorem Rd.more(h:Rd K c b F H R dx ta sa d cl g bl al vs n Ks G)(s:aF H H'):Rd K c b F H' R dx ta sa d cl g bl al vs n Ks G:=
 h.grown (h.gr.kept λb o e _=>s _ _ e) (λb o e _=>s _ _ e) (aF.refl F) (λ_ z=>.inl z) λ_ z=>.inl z
theorem Rd.add(h:Rd K c b F H R dx ta sa d cl g bl al vs n Ks G)(s:aF H H')(hm:H m=none)(hm2:H' m=some o):Rd K c b (upd F m o) H' R dx ta sa d cl g bl al vs n Ks G:=
 h.grown (h.gr.add s hm hm2) (λb o e _=>s _ _ e) (aC (h.gr.sm.free hm)) (λx z=>by
  by_cases y:x=m
  ·rw[y];exact .inr (.inr hm)
  ·rw[ah y] at z;exact .inl z) λ_ z=>.inl z
end
section
variable{c:Cs}{b:By}
abbrev jK(i:Nat):Stmt:=inClass (top 89) i
inductive NF(K:Frag)(c:Cs)(b:By)(vs:List V)(H:Hp)(Q:VK)(E:XK):Prop
 |mk(R:Addr) (F:Hp) (Ks:List MA.Sym) (s:EwTree.St) (G:List MA.Fr) (_:vs=[.ref R]) (_:lb K c b F H R Ks s G) (_:Q (.str (nm (MA.lk (eF b) s))) H)
theorem P2:ax ["self"] ["self"] (aq (jK 1)):=↑3
theorem drop_cons{α:Type}{l r:List α}{i:Nat}{t:α}(h:l.drop i=t::r):l[i]?=some t/\l.drop (i+1)=r/\i<l.length:=by
 have h1:(l.drop i)[0]?=some t:=by rw[h];rfl
 rw[List.getElem?_drop,Nat.add_zero] at h1;refine⟨h1,?_,(List.getElem?_eq_some_iff.mp h1).1⟩;rw[<-List.drop_drop,h];rfl
theorem IK:nm 204=Str.ofString "END"/\nm 205=Str.ofString "FAULT":=↑1
theorem vS{K:Frag}{c:Cs}{b:By}{F:Hp}{sa:Addr}{s:EwTree.St}{t:EwTree.Tok}{r:List EwTree.Tok}(h:iX c.CS c.CT F sa (Tn 0 b).1 (Tn 0 b).2)(sm:aF F H)(hs:Lp b s)(e:s.toks=t::r):
  ∃(dx l:Addr)(fa:V)(rs:List Addr)(x:Addr),H sa=some (.ins c.CS dx (sf (.ref l) fa))/\H l=some (.lst (rs.map V.ref))/\rs.length=nT b/\(rs.map V.ref)[nT b - MA.len s]?=some (.ref x)/\nT b - MA.len s<nT b/\eJ c.CT F x t/\Good t/\MA.OV b t/\1<=MA.len s:=by
 obtain⟨dx,l,fa,rs,h1,h2,h3,h4⟩:=h;have hd:=hs.2;rw[e] at hd;obtain⟨d1,d2,d3⟩:=drop_cons hd.symm;obtain⟨x,hx,hT⟩:∃x,rs[nT b - MA.len s]?=some x/\eJ c.CT F x t:=by
  have hl:rs.length=(Tn 0 b).1.length:=Paired.length h3;have hlt:nT b - MA.len s<rs.length:=by rw[hl];exact d3
  obtain⟨u,hu,hT⟩:=jz h3 (List.getElem?_eq_getElem hlt);rw[d1] at hu;cases hu;exact⟨_,List.getElem?_eq_getElem hlt,hT⟩
 have hm:=List.mem_of_getElem? d1;refine⟨dx,l,fa,rs,x,sm _ _ h1,sm _ _ h2,Paired.length h3,by rw[List.getElem?_map,hx];rfl,d3,hT,tP b.length 0 b (Nat.le_refl _) t hm,MA.Tt b t hm,?_⟩;unfold MA.len;rw[e];exact Nat.succ_pos _
theorem Ql(d:dm K c.CR "ahead" "Reader.ahead" (jK 1) ["self"])(TR:Jv K c.CR)(TS:yo K c.CS)(TT:wX K c.CT)(ln:mg "len"=none):jb P w K mg base 1 c.CR "ahead" ["self"] (NF K c b):=d.ok λf fd F=>by
 refine F.ok P2 (by rintro vs H Q E ⟨R,F,Ks,s,G,rfl,_⟩;rfl) (λUT A outer s H vs Q E hr h=>?_);obtain⟨R,F,Ks,s,G,rfl,⟨hs,dx,ta,sa,d,cl,g,bl,al,vs,hD⟩,q⟩:=h;refine⟨_,aj (aR (aD oG (ay (pv 0) rfl) (bA ln (ay (ay (pv 0) rfl) rfl)) (aK _)) (ai (aB (ay (bx aW (ay (ay (pv 0) rfl) rfl) (ay (pv 0) rfl) (λ_ _=>rfl)) rfl))) aL)
  (aj (aR (aD Il (ay (ay (pv 0) rfl) rfl) AM (aK _)) (ai (aB bZ)) aL) (ai (aB bZ))),?_⟩
 have sm:=hD.gr.sm;obtain⟨sx,sl,fa,rs,a1,a2,a3,a4⟩:=id hD.ev.sc;have a1':=sm _ _ a1;have a2':=sm _ _ a2;have hrl:rs.length=nT b:=Paired.length a3;have hle:=hs.1;refine rV rfl (rf hD.hR TR.cl TR.np cT (rV rfl (rf hD.hR TR.cl TR.ns bU (rf a1' TS.cl TS.nf (f9 _ _) ⟨sl,_,rfl,.inl (bh.of a2'),_,_,rfl,rfl,_,rfl,aT (λz=>?_) λz=>?_⟩))))
 ·have z:=of_decide_eq_true z;rw[List.length_map,hrl] at z;have hl0:0<MA.len s:=↑2
  obtain⟨t,r,e⟩:∃t r,s.toks=t::r:=by
   unfold MA.len at hl0;cases e:s.toks with
   |nil=>rw[e] at hl0;exact absurd hl0 ↑0
   |cons t r=>exact⟨t,r,rfl⟩
  obtain⟨dx2,l2,fa2,rs2,x,b1,b2,b3,b4,b5,b6,b7,b8,b9⟩:=vS (K:=K) hD.ev.sc sm hs e;rw[a1'] at b1;cases b1;rw[a2'] at b2;have b2:(rs.map V.ref)=rs2.map V.ref:=by injection b2 with b2;injection b2
  obtain⟨dt,hT⟩:=b6;have hlk:MA.lk (eF b) s=MA.lZ t:=by unfold MA.lk;rw[e]
  refine rV rfl (rf hD.hR TR.cl TR.ns bU (rf a1' TS.cl TS.nf (f9 _ _) (rV rfl (rf hD.hR TR.cl TR.np cT ⟨sl,_,_,_,rfl,rfl,bh.of a2',at_of (j:=nT b - MA.len s) ↑2 (by rw[b2];exact b4),rf (sm _ _ hT) TT.cl TT.nl (DA _ _ _ _) ?_⟩))));rw[hlk,(MA.GK b7).2] at q;exact q
 ·have z:¬_:=λy=>z (decide_eq_true y);rw[List.length_map,hrl] at z;have hl0:MA.len s=0:=↑2
  have e:s.toks=[]:=List.eq_nil_of_length_eq_zero hl0;refine rV rfl (rf hD.hR TR.cl TR.ns bU (rf a1' TS.cl TS.na (lY _ _) ⟨rfl,_,rfl,?_⟩));have hlk:MA.lk (eF b) s=if(Tn 0 b).2.isSome=true then 205 else 204:=by unfold MA.lk;rw[e]
  rw[hlk] at q;generalize hfl:(Tn 0 b).2=fl at a4 q;cases fl with
  |none=>
   have a4:fa= .bF:=a4;subst a4;rw[decide_eq_true rfl];exact fE (by rw[if_neg ↑0,IK.1] at q;exact q)
  |some y=>
   obtain⟨rr,qq⟩:=y;obtain⟨t,e1,e2⟩:=a4;subst e1;rw[decide_eq_false (by intro z;cases z)];exact dD (by rw[if_pos (show(some (rr,qq)).isSome=true from rfl),IK.2] at q;exact q)
end
theorem Nj(t:EwTree.Tok):MA.lf t=if FE t=[] then[] else[.leaf (FE t)]:=by
 unfold MA.lf FE;split
 ·rfl
 ·split <;> rfl
section
variable{c:Cs}{b:By}
inductive NW(K:Frag)(c:Cs)(b:By)(vs:List V)(H:Hp)(Q:VK)(E:XK):Prop
 |mk(R:Addr) (F:Hp) (Ks:List MA.Sym) (p:Nat) (t:EwTree.Tok) (r:List EwTree.Tok) (f:MA.Fm) (l:List MA.Pt) (G:List MA.Fr) (_:vs=[.ref R]) (_:lb K c b F H R Ks ⟨p,t::r⟩ (⟨f,l⟩::G)) (_:l.length<16000000) (_:∀H' F',aF F F'->lb K c b F' H' R Ks ⟨t.halt_,r⟩ (⟨f,l++MA.lf t⟩::G)->Q .bF H')
theorem LI:ax ["self","leaf"] ["self"] (aq (jK 6)):=↑3
theorem P'(d:dm K c.CR "pass_token" "Reader.pass_token" (jK 6) ["self"])(TR:Jv K c.CR)(TS:yo K c.CS)(TT:wX K c.CT)(TG_:FH K c.CG)(ol:Ok P w K mg base bj 2 "leaf_bytes" ["text","token"] (Qm K c.CT))(op:jb P w K mg base 1 c.CG "put" ["self","part"] (Jl c.CG c.CW)):jb P w K mg base 3 c.CR "pass_token" ["self"] (NW K c b):=d.ok λf fd F=>by
 refine F.ok LI (by rintro vs H Q E ⟨R,F,Ks,p,t,r,f,l,G,rfl,_⟩;rfl) (λUT A outer s H vs Q E hr h=>?_);obtain⟨R,F,Ks,p,t,r,f,l,G,rfl,⟨hs,dx,ta,sa,d,cl,g,bl,al,vs,hD⟩,hl,q⟩:=h;refine⟨_,aj (aN (i:=1) LI.nd rfl (Or.inl rfl) (aM ol hr (aa (ay (pv 0) rfl) (aa (bx aW (ay (ay (pv 0) rfl) rfl) (ay (pv 0) rfl) (λ_ _=>rfl)) ao))))
  (aj (aR (aD (Gu hr.units) (pv 1) (bE ao) (aK _)) (ai (aS (iq op TG_.cl (hr.mono ↑0) (ay (pv 0) rfl) (aa (pv 1) ao)))) aL)
  (ai (EI (pv 0) aw O8))),?_⟩
 have sm:=hD.gr.sm;obtain⟨sx,sl,fa,rs,x,b1,b2,b3,b4,b5,b6,b7,b8,b9⟩:=vS (K:=K) hD.ev.sc sm hs rfl;obtain⟨dt,hT⟩:=b6;refine⟨_,rfl,R,c.CR,dx,_,_,rfl,hD.hR,TR.cl,TR.nt,yS,_,rfl,R,c.CR,dx,_,_,rfl,hD.hR,TR.cl,TR.ns,bU,sa,c.CS,sx,_,_,rfl,b1,TS.cl,TS.nf,f9 _ _,_,rfl,R,c.CR,dx,_,_,rfl,hD.hR,TR.cl,TR.np,cT,sl,_,_,_,rfl,rfl,bh.of b2,at_of (j:=nT b - MA.len ⟨p,t::r⟩) (by have:=hs.1;omega) b4,ta,x,b,t,rfl,sm.seq hD.ev.tx,⟨dt,sm _ _ hT⟩,b7,b8,λH1 m s1 hm h1=>?_⟩;have hsz:sizeLine=16777216:=sizeLine_eq;refine⟨_,rfl,Nat.zero_le _,λe he=>?_⟩;have s2:=s1.trans (aC (o:=.lst []) he);have h1':(upd H1 e (.lst [])) m=some (.lst (iv (FE t))):=by rw[ah (au h1 he)];exact h1
 have hl2:MA.len ⟨p,t::r⟩=MA.len ⟨t.halt_,r⟩+1:=rfl;have hs':Lp b ⟨t.halt_,r⟩:=by
  have a:=hs.1;have a2:=hs.2;rw[hl2] at a a2;obtain⟨d1,d2,d3⟩:=drop_cons a2.symm;refine⟨↑2,?_⟩;have hi:nT b - (MA.len ⟨t.halt_,r⟩+1)+1=nT b - MA.len ⟨t.halt_,r⟩:=↑2
  rw[hi] at d2;exact d2.symm
 have fin:∀(H3 F':Hp)(G3:List MA.Fr)(al3:List (Addr×Addr)),aF F F'->Rd K c b F' H3 R dx ta sa d cl g bl al3 vs ((nT b:Int) - MA.len ⟨p,t::r⟩) Ks G3->G3=(⟨f,l++MA.lf t⟩::G)->DC K (df 0) (tC (.int 1)) Rh "passed" {nx:=λ_ H'=>Q .bF H',rt:=Q} [some (.ref R),some (.ref m)] H3:=by
  intro H3 F' G3 al3 sF hD3 eG;subst eG;refine⟨_,rfl,R,c.CR,dx,_,_,rfl,hD3.hR,TR.cl,TR.np,cT,_,_,rfl,rfl,dx,_,hD3.hR,(by show 6<1000;decide),?_⟩;rw[zf];refine q _ F' sF ⟨hs',dx,ta,sa,d,cl,g,bl,al3,vs,?_⟩;have:=hD3.pass (m:=(nT b:Int) - MA.len ⟨p,t::r⟩+1) (dx':=dx);rw[show(nT b:Int) - MA.len ⟨t.halt_,r⟩=(nT b:Int) - MA.len ⟨p,t::r⟩+1 by rw[hl2];omega];exact this
 refine⟨m,e,_,[],rfl,rfl,(by rw[<-fJ];exact bh.of h1'),bh.of ag,_,rfl,aT (λz=>?_) λz=>?_⟩
 ·have hne:FE t≠[]:=λy=>by rw[y] at z;exact absurd z ↑0
  have hD2:=hD.add s2 hm h1';obtain⟨dg,hg⟩:=hD2.gr.hg;refine⟨_,rfl,R,c.CR,dx,_,_,rfl,hD2.hR,TR.cl,TR.ng,dq,g,dg,_,rfl,hg,gJ ↑1,_,rfl,g,bl,al,⟨f,l⟩,G,nT b,_,.ref m,.leaf (FE t),rfl,hD2.gr,.leaf ag,hl,λH' g4 kp4=>?_⟩;refine fin H' _ _ al (aC (sm.free hm)) (hD2.grown g4 kp4 (aF.refl _) hD2.self lQ) ?_;rw[Nj,if_neg hne]
 ·have heq:FE t=[]:=by
   cases hx:FE t with
   |nil=>rfl
   |cons a r=>rw[hx] at z;exact absurd rfl z
  refine fin _ F _ al (aF.refl F) (hD.more s2) ?_;rw[Nj,if_pos heq,List.append_nil]
end
end
end TG
namespace L2
open PySem PySem.Spec PyProof.Rows
theorem zg(z:Str):∀xs:List Str,Dq (.str z) (xs.map V.str)=decide (z∈xs)
 |[]=>by simp[Dq]
 |y::xs=>by
  have ih:=zg z xs;unfold Dq at ih ⊢;rw[List.map_cons,List.any_cons,ih];have:Eo (.str y) (.str z)=decide (z=y):=by
   show(y==z)=_;by_cases h:z=y
   ·subst h;simp
   ·rw[decide_eq_false h];simpa using Ne.symm h
  rw[this];by_cases h:z=y
  ·subst h;simp
  ·rw[decide_eq_false h];simp[h]
theorem zT:∀{xs:List Str}{us:List Value},Vals (xs.map V.str) us->∀u∈us,∃z t,u= .str z t
 |[],_,.nil,_,h=>by cases h
 |x::xs,_,.cons r q,u,h=>by
  rcases List.mem_cons.mp h with rfl|h
  ·obtain⟨t,e⟩:=(show ∃t,_=Value.str x t from r);exact⟨x,t,e⟩
  ·exact zT q u h
theorem ve:∀xs:List Str,(xs.map V.str).all iQ=true
 |[]=>rfl
 |_::xs=>by rw[List.map_cons,List.all_cons,ve xs];rfl
inductive Of(K:Frag)(x y:V)(H:Hp)(Q:VK):Prop
 |mk(p:Addr) (xs:List Str) (_:y= .ref p) (_:fN K H p (xs.map V.str)) (_:(∃z,x= .str z/\Q (.bl (decide (z∈xs))) H)\/∃a us,x= .ref a/\fN K H a us/\Q (.bl false) H)
theorem BE{X:Cx}(hu:X.A.units+64<cLine):jg X (compareOp .In) (Of X.K):=by
 intro US s σ H x y v u Q I rx ry h;obtain⟨p,xs,rfl,hq,h⟩:=h;rcases h with⟨z,rfl,q⟩|⟨a,us,rfl,ha,q⟩
 ·exact eY (X:=X) US s σ H _ _ v u Q I rx ry ⟨p,_,rfl,.inr hq,rfl,ve xs,by rw[if_neg ↑0,zg];exact q⟩
 ·cases ry;cases rx;obtain⟨its,r,pl,hz⟩:=I.tuple hq;obtain⟨its2,r2,pl2,hz2⟩:=I.tuple ha;refine SeqAt.in_tupleAt (λ_=>false) pl (λw hw=>?_) ⟨.bl false,H,I,?_,q⟩
  ·obtain⟨z,t,rfl⟩:=zT r w (by simpa using hw);exact SeqAt.EqAt.str_tuple z t pl2 (by show X.A.units+1<cLine;omega)
  ·show Value.bool _=Value.bool false;simp
end L2
namespace TG
open PySem PySem.Spec PyProof.Rows L2 TW
variable{P:Program}{w:World}{K:Frag}{mg:Str->Option Value}{base:Heap}
section
open MA (nm VC)
section
variable{c:Cs}{b:By}
inductive M5(K:Frag)(c:Cs)(b:By)(vs:List V)(H:Hp)(Q:VK)(E:XK):Prop
 |mk(R:Addr) (F:Hp) (Ks:List MA.Sym) (s:EwTree.St) (G:List MA.Fr) (_:vs=[.ref R]) (_:lb K c b F H R Ks s G) (_:∀H' x,aF H H'->nj c.CF H' x (EwTree.bad (zF b) s).1 (EwTree.bad (zF b) s).2->E (.ref x) none H')
theorem Rc:ax ["self"] ["self"] (aq (jK 7)):=↑3
theorem RA(d:dm K c.CR "refuse" "Reader.refuse" (jK 7) ["self"])(TR:Jv K c.CR)(TS:yo K c.CS)(TT:wX K c.CT)(nF:v7 P w K mg base c.CF)(ln:mg "len"=none):jH P w K mg base 4 c.CR "refuse" ["self"] (M5 K c b):=d.uD λf fd F=>by
 refine F.uD Rc (by rintro vs H Q E ⟨R,F,Ks,s,G,rfl,_⟩;rfl) (λUT A outer s H vs Q E hr h=>?_);obtain⟨R,F,Ks,s,G,rfl,⟨hs,dx,ta,sa,d,cl,g,bl,al,vs,hD⟩,q⟩:=h;obtain⟨fX,fdX,M,_⟩:=id nF.ex;refine⟨_,aj (aR (aD oG (ay (pv 0) rfl) (bA ln (ay (ay (pv 0) rfl) rfl)) (aK _)) (ai (cj hr.hd (iO nF hr (aa aw (aa (ay (bx aW (ay (ay (pv 0) rfl) rfl) (ay (pv 0) rfl) (λ_ _=>rfl)) rfl) ao))))) aL)
  (aj (aR (aD Il (ay (ay (pv 0) rfl) rfl) AM (aK _)) (ai (cj hr.hd (iO nF hr (aa aw (aa (bA ln (ay (pv 0) rfl)) ao))))) aL)
  (ai (cj hr.hd (iO nF hr (aa (bx xg (ay (ay (pv 0) rfl) rfl) aw (λ_ _=>rfl)) (aa (bx xg (ay (ay (pv 0) rfl) rfl) aw (λ_ _=>rfl)) ao)))))),?_⟩
 have sm:=hD.gr.sm;obtain⟨sx,sl,fa,rs,a1,a2,a3,a4⟩:=id hD.ev.sc;have a1':=sm _ _ a1;have a2':=sm _ _ a2;have hrl:rs.length=nT b:=Paired.length a3;have hle:=hs.1;refine rV rfl (rf hD.hR TR.cl TR.np cT (rV rfl (rf hD.hR TR.cl TR.ns bU (rf a1' TS.cl TS.nf (f9 _ _) ⟨sl,_,rfl,.inl (bh.of a2'),_,_,rfl,rfl,_,rfl,aT (λz=>?_) λz=>?_⟩))))
 ·have z:=of_decide_eq_true z;rw[List.length_map,hrl] at z;have hl0:0<MA.len s:=↑2
  obtain⟨t,r,e⟩:∃t r,s.toks=t::r:=by
   unfold MA.len at hl0;cases e:s.toks with
   |nil=>rw[e] at hl0;exact absurd hl0 ↑0
   |cons t r=>exact⟨t,r,rfl⟩
  obtain⟨dx2,l2,fa2,rs2,x,b1,b2,b3,b4,b5,b6,b7,b8,b9⟩:=vS (K:=K) hD.ev.sc sm hs e;rw[a1'] at b1;cases b1;rw[a2'] at b2;have b2:(rs.map V.ref)=rs2.map V.ref:=by injection b2 with b2;injection b2
  obtain⟨dt,hT⟩:=b6;have hbad:EwTree.bad (zF b) s=(2,t.place):=by unfold EwTree.bad;rw[e]
  rw[hbad] at q;refine rV rfl (rf hD.hR TR.cl TR.ns bU (rf a1' TS.cl TS.nf (f9 _ _) (rV rfl (rf hD.hR TR.cl TR.np cT ⟨sl,_,_,_,rfl,rfl,bh.of a2',at_of (j:=nT b - MA.len s) ↑2 (by rw[b2];exact b4),rf (sm _ _ hT) TT.cl TT.ns (ku _ _ _ _) ?_⟩))));exact bI M λx H' s' h'=>q H' x s' h'
 ·have z:¬_:=λy=>z (decide_eq_true y);rw[List.length_map,hrl] at z;have hl0:MA.len s=0:=↑2
  have e:s.toks=[]:=List.eq_nil_of_length_eq_zero hl0;have hbad:EwTree.bad (zF b) s=zF b:=by unfold EwTree.bad;rw[e]
  rw[hbad] at q;unfold zF at q;refine rV rfl (rf hD.hR TR.cl TR.ns bU (rf a1' TS.cl TS.na (lY _ _) ⟨rfl,_,rfl,?_⟩));generalize hfl:(Tn 0 b).2=fl at a4 q;cases fl with
  |none=>
   have a4:fa= .bF:=a4;subst a4;rw[decide_eq_true rfl];refine fE ⟨_,rfl,R,c.CR,dx,_,_,rfl,hD.hR,TR.cl,TR.nt,yS,ta,_,rfl,.inl (sm.seq hD.ev.tx),?_⟩;rw[a_];exact bI M λx H' s' h'=>q H' x s' h'
  |some y=>
   obtain⟨rr,qq⟩:=y;obtain⟨t,e1,e2⟩:=a4;subst e1;rw[decide_eq_false (by intro z;cases z)];have hT:fN K H t [V.int (rr:Nat),.int (qq:Nat)]:=fN.of (sm _ _ e2);refine dD ⟨_,rfl,R,c.CR,dx,_,_,rfl,hD.hR,TR.cl,TR.ns,bU,sa,c.CS,sx,_,_,rfl,a1',TS.cl,TS.na,lY _ _,t,_,_,_,rfl,rfl,hT,(show vi [V.int (rr:Nat),.int (qq:Nat)] 0=some (.int (rr:Nat)) from at_of (j:=0) rfl rfl),_,rfl,R,c.CR,dx,_,_,rfl,hD.hR,TR.cl,TR.ns,bU,sa,c.CS,sx,_,_,rfl,a1',TS.cl,TS.na,lY _ _,t,_,_,_,rfl,rfl,hT,(show vi [V.int (rr:Nat),.int (qq:Nat)] 1=some (.int (qq:Nat)) from at_of (j:=1) rfl rfl),?_⟩;exact bI M λx H' s' h'=>q H' x s' h'
inductive N1(K:Frag)(c:Cs)(b:By)(vs:List V)(H:Hp)(Q:VK)(E:XK):Prop
 |mk(R:Addr) (F:Hp) (Ks:List MA.Sym) (s:EwTree.St) (f:MA.Fm) (l:List MA.Pt) (G:List MA.Fr) (v:V) (y:MA.Sym) (_:vs=[.ref R,v]) (_:lb K c b F H R Ks s (⟨f,l⟩::G)) (_:ux K v y) (_:l.length<16000000) (_:((∃bb,y= .bW bb/\∀H' F',aF F F'->lb K c b F' H' R Ks s (⟨f,l++[.leaf bb]⟩::G)->Q .bF H')\/∃k,y= .turn k/\∀H' F',aF F F'->lb K c b F' H' R Ks s (⟨f.turn k,l⟩::G)->Q .bF H'))
theorem R5:ax ["self","symbol"] ["self","symbol"] (aq (jK 4)):=↑3
theorem Qc(d:dm K c.CR "grow" "Reader.grow" (jK 4) ["self","symbol"])(TR:Jv K c.CR)(TG_:FH K c.CG)(ml:mg "list"=none)(ot:jb P w K mg base 1 c.CG "turn" ["self","kind"] (O1 c.CG c.CW))(op:jb P w K mg base 1 c.CG "put" ["self","part"] (Jl c.CG c.CW)):jb P w K mg base 2 c.CR "grow" ["self","symbol"] (N1 K c b):=d.ok λf fd F=>by
 refine F.ok R5 (by rintro vs H Q E ⟨R,F,Ks,s,f,l,G,v,y,rfl,_⟩;rfl) (λUT A outer s H vs Q E hr h=>?_);obtain⟨R,F,Ks,s,f,l,G,v,y,rfl,⟨hs,dx,ta,sa,d,cl,g,bl,al,vs,hD⟩,hy,hl,q⟩:=h;obtain⟨dg,hg⟩:=hD.gr.hg;refine⟨_,ai (aR (aD cU (bx xg (pv 1) aw (λ_ _=>rfl)) bZ (aK _)) (ai (aS (iq ot TG_.cl hr (ay (pv 0) rfl) (aa (bx xg (pv 1) aw (λ_ _=>rfl)) ao))))
  (ai (aS (iq op TG_.cl hr (ay (pv 0) rfl) (aa (Ea w8 (by rfl) ml PyProof.Rows.boot_list (aa (pv 1) ao)) ao))))),?_⟩
 rcases q with⟨bb,rfl,q⟩|⟨k,rfl,q⟩
 ·obtain⟨a,rfl,hb1,hT⟩:=hy;obtain⟨u,rfl⟩:∃u,bb=[u]:=by
   match bb,hb1 with
   |[u],_=>exact⟨u,rfl⟩
  refine⟨_,rfl,a,_,_,_,rfl,rfl,hT _,at_of (j:=0) rfl rfl,rfl,_,rfl,dD ?_⟩;refine rV rfl (rf hD.hR TR.cl TR.ng dq ⟨g,dg,_,rfl,hg,gJ ↑1,_,rfl,a,_,rfl,.inr (hT _),λm hm=>?_⟩);have hD2:=hD.add (aC (o:=.lst (iv [u])) hm) hm ag;refine⟨g,bl,al,⟨f,l⟩,G,nT b,_,.ref m,.leaf [u],rfl,hD2.gr,.leaf ag,hl,λH' g4 kp4=>q H' _ (aC (hD.gr.sm.free hm)) ⟨hs,dx,ta,sa,d,cl,g,bl,al,vs,hD2.grown g4 kp4 (aF.refl _) hD2.self lQ⟩⟩
 ·obtain⟨a,rfl,hk,hT⟩:=hy;refine⟨_,rfl,a,_,_,_,rfl,rfl,hT _,at_of (j:=0) rfl rfl,rfl,_,rfl,fE ?_⟩;refine rV rfl (rf hD.hR TR.cl TR.ng dq ⟨g,dg,_,rfl,hg,gJ ↑1,_,rfl,a,_,_,_,rfl,rfl,hT _,at_of (j:=1) rfl rfl,g,bl,al,⟨f,l⟩,G,nT b,F,k,rfl,hD.gr,hk,λH' g4 kp4=>q H' F (aF.refl F) ⟨hs,dx,ta,sa,d,cl,g,bl,al,vs,hD.grown g4 kp4 (aF.refl _) hD.self lQ⟩⟩)
end
def Ju(M n:Nat)(Ks:List MA.Sym)(G:List MA.Fr):Prop:=Ks.length+n<=M/\G.length+n<=M/\∀fr∈G,fr.parts.length+n<=M
def Kont(K:Frag)(c:Cs)(b:By)(R:Addr)(F:Hp)(o:MA.Out)(M n:Nat)(Q:VK)(E:XK):Prop:=
 (∀H' F' Ks' s' G' n',n'<n->aF F F'->lb K c b F' H' R Ks' s' G'->MA.Runs (eF b) (zF b) n' Ks' s' G' o->Ju M n' Ks' G'->Q .bF H')/\∀er H' x,o= .fault er->aF F H'->nj c.CF H' x er.1 er.2->E (.ref x) none H'
theorem rT{M n m:Nat}{y:MA.Sym}{Ks:List MA.Sym}{G:List MA.Fr}(h:Ju M n (y::Ks) G)(hm:m<=n):Ju M m Ks G:=by
 refine⟨?_,?_,λfr hf=>?_⟩
 ·have:=h.1;simp only[List.length_cons] at this;omega
 ·have:=h.2.1;omega
 ·have:=h.2.2 fr hf;omega
theorem A7{M n m:Nat}{Ks:List MA.Sym}{fr:MA.Fr}{G:List MA.Fr}{f:MA.Fm}{ps:List MA.Pt}(h:Ju M n Ks (fr::G))(hm:m+1<=n)(hp:ps.length<=fr.parts.length+1):Ju M m Ks (⟨f,ps⟩::G):=by
 refine⟨by have:=h.1;omega,by have:=h.2.1;simp only[List.length_cons] at this ⊢;omega,λx hx=>?_⟩;rcases List.mem_cons.mp hx with rfl|hx
 ·have:=h.2.2 fr (List.mem_cons_self ..);show ps.length+m<=M;omega
 ·have:=h.2.2 x (List.mem_cons_of_mem _ hx);omega
theorem Q4{b:By}{s:EwTree.St}(hs:Lp b s):MA.lk (eF b) s∈VC:=by
 unfold MA.lk;split
 ·split
  ·exact MA.cz ↑0
  ·exact MA.cz ↑0
 ·rename_i t r e;have hd:=hs.2;rw[e] at hd;obtain⟨d1,d2,d3⟩:=drop_cons hd.symm;exact(MA.GK (tP b.length 0 b (Nat.le_refl _) t (List.mem_of_getElem? d1))).1
theorem S7:nm 299=Str.ofString "":=↑1
theorem Paired.app{α β:Type}{R:α->β->Prop}:∀{a c:List α}{b d:List β},Paired R a b->Paired R c d->Paired R (a++c) (b++d)
 |_,_,_,_,.nil,h=>h
 |_,_,_,_,.cons h r,q=>.cons h (Paired.app r q)
section
variable{c:Cs}{b:By}
def RI(e:Bool)(z:EwTree.Fault)(n:Nat)(s:EwTree.St)(G:List MA.Fr)(o:MA.Out):List MA.Sym->Prop
 |[]=>n=0/\o= .ok G
 | .bg f::K=>∃n',n=n'+1/\MA.Runs e z n' K s (⟨f.at s,[]⟩::G) o
 | .bW b::K=>∃n' f l G0,n=n'+1/\G=⟨f,l⟩::G0/\MA.Runs e z n' K s (⟨f,l++[.leaf b]⟩::G0) o
 | .turn k::K=>∃n' f l G0,n=n'+1/\G=⟨f,l⟩::G0/\MA.Runs e z n' K s (⟨f.turn k,l⟩::G0) o
 | .take::K=>∃n' p f h l r G0,n=n'+1/\G=⟨f,l⟩::⟨h,r++[p]⟩::G0/\MA.Runs e z n' K s (⟨f.tk p,l++[p]⟩::⟨h,r⟩::G0) o
 | .fin::K=>∃n' f h l r G0,n=n'+1/\G=⟨f,l⟩::⟨h,r⟩::G0/\(f.isSet=true->MA.iP l)/\MA.Runs e z n' K s (⟨h,r++[MA.done f s l]⟩::G0) o
 | .w x::K=>(∃n' t p ts f l G0,n=n'+1/\s=⟨p,t::ts⟩/\G=⟨f,l⟩::G0/\x=MA.lZ t/\MA.Runs e z n' K ⟨t.halt_,ts⟩ (⟨f,l++MA.lf t⟩::G0) o)\/x≠MA.lk e s/\
  ((∃n' r,n=n'+(1+r.length)/\MA.row x (MA.lk e s)=some r/\MA.Runs e z n' (r++K) s G o)\/MA.row x (MA.lk e s)=none/\((∃n' r,n=n'+(1+r.length)/\MA.row x 299=some r/\MA.Runs e z n' (r++K) s G o)\/MA.row x 299=none/\o= .fault (EwTree.bad z s)))
theorem eR{e:Bool}{z:EwTree.Fault}{n:Nat}{K:List MA.Sym}{s:EwTree.St}{G:List MA.Fr}{o:MA.Out}(h:MA.Runs e z n K s G o):RI e z n s G o K:=by
 cases h with
 |halt=>exact⟨rfl,rfl⟩
 |bg h=>exact⟨_,rfl,h⟩
 |bW h=>exact⟨_,_,_,_,rfl,rfl,h⟩
 |take h=>exact⟨_,_,_,_,_,_,_,rfl,rfl,h⟩
 |turn h=>exact⟨_,_,_,_,rfl,rfl,h⟩
 |fin h1 h=>exact⟨_,_,_,_,_,_,rfl,rfl,h1,h⟩
 |pass h=>exact .inl ⟨_,_,_,_,_,_,_,rfl,rfl,rfl,rfl,h⟩
 |go h1 h2 h=>exact .inr ⟨h1,.inl ⟨_,_,rfl,h2,h⟩⟩
 |SH h1 h2 h3 h=>exact .inr ⟨h1,.inr ⟨h2,.inl ⟨_,_,rfl,h3,h⟩⟩⟩
 |no h1 h2 h3=>exact .inr ⟨h1,.inr ⟨h2,.inr ⟨h3,rfl⟩⟩⟩
section
variable{e:Bool}{z:EwTree.Fault}{n x:Nat}{r K:List MA.Sym}{s:EwTree.St}{G:List MA.Fr}{o:MA.Out}
theorem Kn(hne:x≠MA.lk e s)(hr:MA.row x (MA.lk e s)=some r)(h:MA.Runs e z n (.w x::K) s G o):∃n',n=n'+(1+r.length)/\MA.Runs e z n' (r++K) s G o:=by
 rcases eR h with⟨_,_,_,_,_,_,_,_,rfl,_,hx,_⟩|⟨_,⟨n',_,e1,e2,h⟩|⟨e2,_⟩⟩
 ·exact absurd hx hne
 ·rw[hr] at e2;cases e2;exact⟨n',e1,h⟩
 ·rw[hr] at e2;cases e2
theorem Gj(hne:x≠MA.lk e s)(hr:MA.row x (MA.lk e s)=none)(h0:MA.row x 299=some r)(h:MA.Runs e z n (.w x::K) s G o):∃n',n=n'+(1+r.length)/\MA.Runs e z n' (r++K) s G o:=by
 rcases eR h with⟨_,_,_,_,_,_,_,_,rfl,_,hx,_⟩|⟨_,⟨n',_,e1,e2,h⟩|⟨e2,⟨n',_,e1,e2,h⟩|⟨e2,_⟩⟩⟩
 ·exact absurd hx hne
 ·rw[hr] at e2;cases e2
 ·rw[h0] at e2;cases e2;exact⟨n',e1,h⟩
 ·rw[h0] at e2;cases e2
theorem Lu(hne:x≠MA.lk e s)(hr:MA.row x (MA.lk e s)=none)(h0:MA.row x 299=none)(h:MA.Runs e z n (.w x::K) s G o):o= .fault (EwTree.bad z s):=by
 rcases eR h with⟨_,_,_,_,_,_,_,_,rfl,_,hx,_⟩|⟨_,⟨n',_,e1,e2,h⟩|⟨e2,⟨n',_,e1,e2,h⟩|⟨_,e⟩⟩⟩
 ·exact absurd hx hne
 ·rw[hr] at e2;cases e2
 ·rw[h0] at e2;cases e2
 ·exact e
theorem Fl(hx:x=MA.lk e s)(h:MA.Runs e z n (.w x::K) s G o):∃n' t p ts f l G0,n=n'+1/\s=⟨p,t::ts⟩/\G=⟨f,l⟩::G0/\x=MA.lZ t/\MA.Runs e z n' K ⟨t.halt_,ts⟩ (⟨f,l++MA.lf t⟩::G0) o:=
 (eR h).elim id λh=>absurd hx h.1
end
inductive M8(K:Frag)(c:Cs)(b:By)(vs:List V)(H:Hp)(Q:VK)(E:XK):Prop
 |mk(R:Addr) (F:Hp) (Ks:List MA.Sym) (s:EwTree.St) (G:List MA.Fr) (x n M:Nat) (o:MA.Out) (_:vs=[.ref R,.str (nm x),.str (nm (MA.lk (eF b) s))]) (_:x∈VC) (_:lb K c b F H R Ks s G) (_:MA.Runs (eF b) (zF b) n (.w x::Ks) s G o) (_:Ju M n (.w x::Ks) G) (_:M<16000000) (_:Kont K c b R F o M n Q E)
theorem RK:ax ["self","symbol","look"] ["self","symbol","look"] (aq (jK 5)):=↑3
theorem Qo(d:dm K c.CR "meet" "Reader.meet" (jK 5) ["self","symbol","look"])(TR:Jv K c.CR)(op:jb P w K mg base 3 c.CR "pass_token" ["self"] (NW K c b))(ore:jH P w K mg base 4 c.CR "refuse" ["self"] (M5 K c b)):jH P w K mg base 5 c.CR "meet" ["self","symbol","look"] (M8 K c b):=d.uD λf fd F=>by
 refine F.uD RK (by rintro vs H Q E ⟨R,F,Ks,s,G,x,n,M,o,rfl,_⟩;rfl) (λUT A outer s H vs Q E hr h=>?_);obtain⟨R,F,Ks,s,G,x,n,M,o,rfl,hx,hA,hrun,hB,hM,k1,k2⟩:=h;have hA0:=hA;obtain⟨hs,dx,ta,sa,d,cl,g,bl,al,vs,hD⟩:=hA;have hu:=LO hr;have hl:=Q4 hs;refine⟨_,ai (aR (aD cU (pv 1) (pv 2) (aK _)) (ai (aS (i9 (P:=P) op TR.cl (hr.mono ↑0) (pv 0))))
  (ai (aR (Jm (GZ hu (fT (aa (pv 1) (aa (pv 2) ao))) (ay (pv 0) rfl))) (ai (aS (fW PySem.F.plainAttrs_list PySem.F.slot_list_extend PySem.F.type_list_extend rP (ay (pv 0) rfl) (aa (Cw hu (ay (pv 0) rfl) (fT (aa (pv 1) (aa (pv 2) ao))) (λ_ _=>rfl)) ao))))
  (ai (aR (Jm (GZ hu (fT (aa (pv 1) (aa bZ ao))) (ay (pv 0) rfl))) (ai (aS (fW PySem.F.plainAttrs_list PySem.F.slot_list_extend PySem.F.type_list_extend rP (ay (pv 0) rfl) (aa (Cw hu (ay (pv 0) rfl) (fT (aa (pv 1) (aa bZ ao))) (λ_ _=>rfl)) ao))))
  (ai (aS (Ab ore TR.cl hr (pv 0))))))))),?_⟩
 have hsz:sizeLine=16777216:=sizeLine_eq;refine⟨_,rfl,_,rfl,rfl,_,rfl,aT (λz=>?_) λz=>?_⟩
 ·have z:nm x=nm (MA.lk (eF b) s):=by have:=of_decide_eq_true z;injection this
  have z:=MA.xT hx hl z;obtain⟨n',t,p,ts,f,l,G0,rfl,rfl,rfl,ex,hr'⟩:=Fl z hrun;refine⟨_,rfl,R,dx,_,rfl,hD.hR,(aP ↑1).trans ((aP ↑1).trans ((aP ↑1).trans ((aP ↑1).trans ((aP ↑1).trans ((aP ↑1).trans rfl))))),R,F,Ks,p,t,ts,f,l,G0,rfl,hA0,?_,λH' F' sF hA'=>?_⟩
  ·have:=hB.2.2 ⟨f,l⟩ (List.mem_cons_self ..);dsimp only at this;omega
  ·refine k1 H' F' Ks _ _ n' (Nat.lt_succ_self _) sF hA' hr' (A7 (rT hB (Nat.le_refl _)) (Nat.le_refl _) ?_);rw[List.length_append,Nj];split
   ·exact Nat.le_succ _
   ·exact Nat.le_refl _
 have hne:x≠MA.lk (eF b) s:=λy=>z (decide_eq_true (by rw[y]));obtain⟨kvs,hrw,hP⟩:=hD.ev.rw;obtain⟨v1,v2⟩:=ya hP Cv hx hl;obtain⟨v3,v4⟩:=ya hP Cv hx (show(299:Nat)∈VC from MA.cz ↑0);rw[MA.z8] at v1 v2 v3 v4;rw[S7] at v3 v4;refine⟨_,rfl,_,rfl,(by show 2<=sizeLine;decide),λt1 ht1=>?_⟩;have s1:=aC (o:=.tup [.str (nm x),.str (nm (MA.lk (eF b) s))]) ht1;have hD1:=hD.more s1;refine rV rfl (rf hD1.hR TR.cl TR.nr lT ⟨d,_,rfl,qS.t (k:=[.inr (nm x),.inr (nm (MA.lk (eF b) s))]) (hD1.gr.sm _ _ hrw) ag,_,rfl,?_⟩);have ext:∀(r:List MA.Sym)(b':Addr)(us:List V)(n':Nat)(H2:Hp),aF H H2->F b'=some (.tup us.reverse)->Paired (ux K) us r->n=n'+(1+r.length)->MA.Runs (eF b) (zF b) n' (r++Ks) s G o->
   ∃l b'' xs zs,V.ref cl= .ref l/\[V.ref b']=[.ref b'']/\H2 l=some (.lst xs)/\fN K H2 b'' zs/\xs.length+zs.length<=sizeLine/\Q .bF (upd H2 l (.lst (xs++zs))):=by
  intro r b' us n' H2 s2 hb' hus en hr';have hD2:=hD.more s2;have l1:us.length=r.length:=Paired.length hus;have l2:vs.length=Ks.length:=Paired.length hD.sy;have hb1:=hB.1;simp only[List.length_cons] at hb1;refine⟨cl,b',_,_,rfl,rfl,hD2.hc,fN.of (hD2.gr.sm _ _ hb'),(by rw[List.length_reverse,List.length_reverse,hsz];omega),?_⟩;have e1:vs.reverse++us.reverse=(us++vs).reverse:=(List.reverse_append ..).symm;rw[e1];refine k1 _ F (r++Ks) s G n' ↑2 (aF.refl F) ⟨hs,dx,ta,sa,d,cl,g,bl,al,us++vs,hD2.RH (Paired.app hus hD.sy)⟩ hr' ⟨?_,?_,λfr hf=>?_⟩
  ·rw[List.length_append];omega
  ·have:=hB.2.1;omega
  ·have:=hB.2.2 fr hf;omega
 cases hrow:MA.row x (MA.lk (eF b) s) with
 |some r=>
  obtain⟨b',us,e1,e2,e3⟩:=v2 r hrow;rw[e1];have hrr:∃n',n=n'+(1+r.length)/\MA.Runs (eF b) (zF b) n' (r++Ks) s G o:=Kn hne hrow hrun;obtain⟨n',en,hr'⟩:=hrr;refine fE ⟨_,rfl,R,c.CR,dx,_,_,rfl,hD1.hR,TR.cl,TR.nc,gK,.inl ⟨rfl,_,bh.of hD1.hc⟩,_,rfl,R,c.CR,dx,_,_,rfl,hD1.hR,TR.cl,TR.nr,lT,_,rfl,_,rfl,(by show 2<=sizeLine;decide),λt2 ht2=>?_⟩;have s2:=s1.trans (aC (o:=.tup [.str (nm x),.str (nm (MA.lk (eF b) s))]) ht2);have hD2:=hD.more s2;refine⟨d,.ref b',rfl,?_,?_⟩
  ·rw[<-e1];exact qS.t (k:=[.inr (nm x),.inr (nm (MA.lk (eF b) s))]) (hD2.gr.sm _ _ hrw) ag
  ·exact ext r b' us n' _ s2 e2 e3 en hr'
 |none=>
  rw[v1 hrow];refine dD ?_;refine⟨_,rfl,(by show 2<=sizeLine;decide),λt2 ht2=>?_⟩;have s2:=s1.trans (aC (o:=.tup [.str (nm x),.str (Str.ofString "")]) ht2);have hD2:=hD.more s2;refine rV rfl (rf hD2.hR TR.cl TR.nr lT ⟨d,_,rfl,qS.t (k:=[.inr (nm x),.inr (Str.ofString "")]) (hD2.gr.sm _ _ hrw) ag,_,rfl,?_⟩);cases hrow0:MA.row x 299 with
  |some r=>
   obtain⟨b',us,e1,e2,e3⟩:=v4 r hrow0;rw[e1];have hrr:∃n',n=n'+(1+r.length)/\MA.Runs (eF b) (zF b) n' (r++Ks) s G o:=Gj hne hrow hrow0 hrun;obtain⟨n',en,hr'⟩:=hrr;refine fE ⟨_,rfl,R,c.CR,dx,_,_,rfl,hD2.hR,TR.cl,TR.nc,gK,.inl ⟨rfl,_,bh.of hD2.hc⟩,_,rfl,R,c.CR,dx,_,_,rfl,hD2.hR,TR.cl,TR.nr,lT,_,rfl,(by show 2<=sizeLine;decide),λt3 ht3=>?_⟩;have s3:=s2.trans (aC (o:=.tup [.str (nm x),.str (Str.ofString "")]) ht3);have hD3:=hD.more s3;refine⟨d,.ref b',rfl,?_,?_⟩
   ·rw[<-e1];exact qS.t (k:=[.inr (nm x),.inr (Str.ofString "")]) (hD3.gr.sm _ _ hrw) ag
   ·exact ext r b' us n' _ s3 e2 e3 en hr'
  |none=>
   rw[v3 hrow0];refine dD ?_;have ho:o= .fault (EwTree.bad (zF b) s):=Lu hne hrow hrow0 hrun;refine⟨_,rfl,R,dx,_,rfl,hD2.hR,(aP ↑1).trans ((aP ↑1).trans ((aP ↑1).trans ((aP ↑1).trans ((aP ↑1).trans ((aP ↑1).trans rfl))))),R,F,Ks,s,G,rfl,⟨hs,dx,ta,sa,d,cl,g,bl,al,vs,hD2⟩,λH' x s' h'=>⟨x,rfl,k2 _ H' x ho (hD2.gr.sm.trans s') h'⟩⟩
end
structure NT(K:Frag):Prop where
 si:PySem.W.kitOne K (.type "str") (.type "int")=some false
 ti:PySem.W.kitOne K (.type "tuple") (.type "int")=some false
 st:PySem.W.kitOne K (.type "str") (.type "tuple")=some false
theorem kr{K:Frag}{T:String}:PySem.W.kitOne K (.type T) (.type T)=some true:=by unfold PySem.W.kitOne;rw[if_pos (by simp)]
theorem Ki:∀x∈VC,(nm x).cps.toList.head?≠some 64:=↑1
theorem Al{x:Nat}(hx:x∈VC){z:Str}(hz:z.cps.toList.head?=some 64)(e:nm x=z):False:=Ki x hx (by rw[e];exact hz)
theorem ou{t sc n d c g:V}{m:Str}(h1:m≠"text")(h2:m≠"scanned")(h3:m≠"passed")(h4:m≠"rows")(h5:m≠"coming")(h6:m≠"growth"):(FC t sc n d c g).lookup m=none:=
 (aP h1).trans ((aP h2).trans ((aP h3).trans ((aP h4).trans ((aP h5).trans ((aP h6).trans rfl)))))
section
variable{c:Cs}{b:By}
inductive MG(K:Frag)(c:Cs)(b:By)(vs:List V)(H:Hp)(Q:VK)(E:XK):Prop
 |mk(R:Addr) (F:Hp) (Ks:List MA.Sym) (s:EwTree.St) (G:List MA.Fr) (v:V) (y:MA.Sym) (n M:Nat) (o:MA.Out) (_:vs=[.ref R,v]) (_:ux K v y) (_:lb K c b F H R Ks s G) (_:MA.Runs (eF b) (zF b) n (y::Ks) s G o) (_:Ju M n (y::Ks) G) (_:M<16000000) (_:Kont K c b R F o M n Q E)
theorem Sa:ax ["self","symbol"] ["self","symbol"] (aq (jK 3)):=↑3
theorem QZ(d:dm K c.CR "step" "Reader.step" (jK 3) ["self","symbol"])(TR:Jv K c.CR)(TG_:FH K c.CG)(kf:NT K)(isi:mg "isinstance"=none)(mi:mg "int"=none)(mt:mg "tuple"=none)(obg:jb P w K mg base 3 c.CG "begin" ["self","form","passed"] (Mv c.CG c.CW))(ogw:jb P w K mg base 2 c.CR "grow" ["self","symbol"] (N1 K c b))(otk:jb P w K mg base 1 c.CG "take" ["self"] (Je c.CG c.CW))(ofi:jb P w K mg base 2 c.CG "finish" ["self","passed"] (Qh c.CG c.CW))(oah:jb P w K mg base 1 c.CR "ahead" ["self"] (NF K c b))(ome:jH P w K mg base 5 c.CR "meet" ["self","symbol","look"] (M8 K c b)):jH P w K mg base 6 c.CR "step" ["self","symbol"] (MG K c b):=d.uD λf fd F=>by
 refine F.uD Sa (by rintro vs H Q E ⟨R,F,Ks,s,G,v,y,n,M,o,rfl,_⟩;rfl) (λUT A outer s H vs Q E hr h=>?_);obtain⟨R,F,Ks,s,G,v,y,n,M,o,rfl,hy,hA,hrun,hB,hM,k1,k2⟩:=h;have hA0:=hA;obtain⟨hs,dx,ta,sa,d,cl,g,bl,al,vs,hD⟩:=hA;obtain⟨dg,hg⟩:=hD.gr.hg;have hsz:sizeLine=16777216:=sizeLine_eq;refine⟨_,ai (aR (LG (da (dX h_ (by rfl) isi PyProof.Rows.boot_isinstance (aa (pv 1) (aa (wZ (v:=.ty "int") (by rfl) mi ↑1 rfl) ao)))) (IZ (aD (BE hr.units) (pv 1) (fT (aa bZ (aa bZ (aa bZ ao)))) (by with_unfolding_all rfl)))).pt
  (ai (aS (iq obg TG_.cl (hr.mono ↑0) (ay (pv 0) rfl) (aa (pv 1) (aa (ay (pv 0) rfl) ao)))))
  (ai (aR (da (dX h_ (by rfl) isi PyProof.Rows.boot_isinstance (aa (pv 1) (aa (wZ (v:=.ty "tuple") (by rfl) mt ↑1 rfl) ao)))) (ai (aS (iq ogw TR.cl (hr.mono ↑0) (pv 0) (aa (pv 1) ao))))
  (ai (aR (aD cU (pv 1) bZ (aK _)) (ai (aS (i9 (P:=P) otk TG_.cl (hr.mono ↑0) (ay (pv 0) rfl))))
  (ai (aR (aD cU (pv 1) bZ (aK _)) (ai (aS (iq ofi TG_.cl (hr.mono ↑0) (ay (pv 0) rfl) (aa (ay (pv 0) rfl) ao))))
  (ai (aS (Du ome TR.cl hr (pv 0) (aa (pv 1) (aa (i9 (P:=P) oah TR.cl (hr.mono ↑0) (pv 0)) ao)))))))))))),?_⟩
 have hgN:∀{m:Str},m≠"begun"->([(("begun":Str),V.ref bl)]:List (Str×V)).lookup m=none:=λh=>gJ h;have beg:∀(fk:MA.Fk)(H2:Hp),aF H H2->y= .bg fk->v=Ay (fk.at s)->zH (fk.at s)->
   Ai c.CG "begin" (Mv c.CG c.CW) [] E0 (A0 K (df 0) "growth") (bQ (df 1) (bQ (A0 K (df 0) "passed") d8)) [some (.ref R),some v] H2 (λ_ H'=>Q .bF H'):=by
  intro fk H2 s2 ey ev ek;subst ey;have hD2:=hD.more s2;obtain⟨dg2,hg2⟩:=hD2.gr.hg;have hal:al.length=G.length:=by
   have:∀{al:List (Addr×Addr)}{G:List MA.Fr}{H:Hp},eC c.CW (nT b) F H al G->al.length=G.length:=by
    intro al G H h;induction h with
    |nil=>rfl
    |cons _ _ ih=>simp only[List.length_cons,ih]
   exact this hD.gr.fs
  have hb2:=hB.2.1;refine rV rfl (rf hD2.hR TR.cl TR.ng dq ⟨g,dg2,_,rfl,hg2,hgN ↑1,_,rfl,rV rfl (rf hD2.hR TR.cl TR.np cT ⟨g,bl,al,G,nT b,F,fk,s,by rw[ev];rfl,hD2.gr,↑2,ek,λH' a l g4 na nl kp4=>?_⟩)⟩);obtain⟨n',rfl,hr'⟩:=eR hrun;refine k1 H' F Ks s _ n' (Nat.lt_succ_self _) (aF.refl F) ⟨hs,dx,ta,sa,d,cl,g,bl,_,vs,hD2.grown g4 kp4 (aF.refl F) hD2.self λx hx=>?_⟩ hr' ?_
  ·rcases hx with hx|hx|hx
   ·exact .inl (.inl hx)
   ·rcases List.mem_cons.mp hx with e|hx
    ·rw[e];exact .inr na
    ·exact .inl (.inr (.inl hx))
   ·rcases List.mem_cons.mp hx with e|hx
    ·rw[e];exact .inr nl
    ·exact .inl (.inr (.inr hx))
  ·have b1:=hB.1;simp only[List.length_cons] at b1;refine⟨↑2,by simp only[List.length_cons];omega,λfr hf=>?_⟩;rcases List.mem_cons.mp hf with rfl|hf
   ·show 0+n'<=M;omega
   ·have:=hB.2.2 fr hf;omega
 have pre:∀(z:Str)(H1:Hp)(C:Bool->Hp->Prop),v= .str z->(∀H2,aF H H2->C (decide (z∈([("@row":Str),"@count","@set"]:List Str))) H2)->
   S2 (tB (Ma (Oa K) (bQ (df 1) (bQ (tC (.ty "int")) d8))))
    (rK (AD (Of K) (df 1) (JW (bQ (tC (.str "@row")) (bQ (tC (.str "@count")) (bQ (tC (.str "@set")) d8)))))) [some (.ref R),some v] H C:=by
  intro z _ C ez hC;subst ez;refine⟨_,rfl,_,_,_,_,rfl,.inl ⟨_,rfl⟩,.inl (.str z),kf.si,_,rfl,dD ?_⟩;refine⟨_,rfl,(by show 3<=sizeLine;decide),λt1 ht1=>⟨t1,[("@row":Str),"@count","@set"],rfl,fN.of ag,.inl ⟨z,rfl,_,rfl,hC _ (aC ht1)⟩⟩⟩
 have preT:∀(a:Addr)(us:List V)(C:Bool->Hp->Prop),v= .ref a->(∀H,fN K H a us)->(∀H2,aF H H2->C false H2)->
   S2 (tB (Ma (Oa K) (bQ (df 1) (bQ (tC (.ty "int")) d8))))
    (rK (AD (Of K) (df 1) (JW (bQ (tC (.str "@row")) (bQ (tC (.str "@count")) (bQ (tC (.str "@set")) d8)))))) [some (.ref R),some v] H C:=by
  intro a us C ez hT hC;subst ez;refine⟨_,rfl,_,_,_,_,rfl,.inl ⟨_,rfl⟩,.inr ⟨a,us,rfl,hT _,rfl⟩,kf.ti,_,rfl,dD ?_⟩;refine⟨_,rfl,(by show 3<=sizeLine;decide),λt1 ht1=>⟨t1,[("@row":Str),"@count","@set"],rfl,fN.of ag,.inr ⟨a,us,rfl,hT _,_,rfl,hC _ (aC ht1)⟩⟩⟩
 cases y with
 |bg fk=>
  cases fk with
  |kind k=>
   obtain⟨ev,hk⟩:=hy;subst ev;exact⟨_,rfl,_,_,_,_,rfl,.inl ⟨_,rfl⟩,.inl (.int k),kr,_,rfl,fE (fE (beg (.kind k) H (aF.refl H) rfl rfl hk))⟩
  |row=>
   have ev:v= .str "@row":=hy;refine pre _ H _ ev λH2 s2=>?_;rw[decide_eq_true ↑1];exact fE (beg .row H2 s2 rfl ev trivial)
  |count=>
   have ev:v= .str "@count":=hy;refine pre _ H _ ev λH2 s2=>?_;rw[decide_eq_true ↑1];exact fE (beg .count H2 s2 rfl ev trivial)
  |set=>
   have ev:v= .str "@set":=hy;refine pre _ H _ ev λH2 s2=>?_;rw[decide_eq_true ↑1];exact fE (beg .set H2 s2 rfl ev trivial)
 |bW bb=>
  obtain⟨a,ev,hb1,hT⟩:=id hy;refine preT a _ _ ev hT λH2 s2=>dD ?_;have hD2:=hD.more s2;refine⟨_,rfl,_,_,_,_,rfl,.inl ⟨_,rfl⟩,.inr ⟨a,_,ev,hT _,rfl⟩,kr,_,rfl,fE ?_⟩;obtain⟨n',f,l,G0,rfl,rfl,hr'⟩:=eR hrun;refine⟨_,rfl,R,dx,_,rfl,hD2.hR,ou ↑1 ↑1 ↑1 ↑1 ↑1 ↑1,_,rfl,R,F,Ks,s,f,l,G0,v,.bW bb,rfl,⟨hs,dx,ta,sa,d,cl,g,bl,al,vs,hD2⟩,hy,?_,.inl ⟨bb,rfl,λH' F' sF hA'=>k1 H' F' Ks s _ n' (Nat.lt_succ_self _) sF hA' hr' (A7 (rT hB (Nat.le_refl _)) (Nat.le_refl _) (by rw[List.length_append];exact Nat.le_refl _))⟩⟩;have:=hB.2.2 ⟨f,l⟩ (List.mem_cons_self ..);dsimp only at this;omega
 |turn k=>
  obtain⟨a,ev,hb1,hT⟩:=id hy;refine preT a _ _ ev hT λH2 s2=>dD ?_;have hD2:=hD.more s2;refine⟨_,rfl,_,_,_,_,rfl,.inl ⟨_,rfl⟩,.inr ⟨a,_,ev,hT _,rfl⟩,kr,_,rfl,fE ?_⟩;obtain⟨n',f,l,G0,rfl,rfl,hr'⟩:=eR hrun;refine⟨_,rfl,R,dx,_,rfl,hD2.hR,ou ↑1 ↑1 ↑1 ↑1 ↑1 ↑1,_,rfl,R,F,Ks,s,f,l,G0,v,.turn k,rfl,⟨hs,dx,ta,sa,d,cl,g,bl,al,vs,hD2⟩,hy,?_,.inr ⟨k,rfl,λH' F' sF hA'=>k1 H' F' Ks s _ n' (Nat.lt_succ_self _) sF hA' hr' (A7 (rT hB (Nat.le_refl _)) (Nat.le_refl _) (Nat.le_succ _))⟩⟩;have:=hB.2.2 ⟨f,l⟩ (List.mem_cons_self ..);dsimp only at this;omega
 |take=>
  have ev:v= .str "@take":=hy;refine pre _ H _ ev λH2 s2=>?_;rw[decide_eq_false ↑1];have hD2:=hD.more s2;obtain⟨dg2,hg2⟩:=hD2.gr.hg;subst ev;refine dD ⟨_,rfl,_,_,_,_,rfl,.inl ⟨_,rfl⟩,.inl (.str _),kf.st,_,rfl,dD ⟨_,rfl,rfl,_,rfl,?_⟩⟩;rw[decide_eq_true rfl];obtain⟨n',p,f,h,l,r,G0,rfl,rfl,hr'⟩:=eR hrun;refine fE ⟨_,rfl,R,c.CR,dx,_,_,rfl,hD2.hR,TR.cl,TR.ng,dq,g,dg2,_,rfl,hg2,hgN ↑1,g,bl,al,f,h,l,r,p,G0,nT b,F,rfl,hD2.gr,?_,λH' g4 kp4=>?_⟩
  ·have:=hB.2.2 ⟨f,l⟩ (List.mem_cons_self ..);dsimp only at this;omega
  ·refine k1 H' F Ks s _ n' (Nat.lt_succ_self _) (aF.refl F) ⟨hs,dx,ta,sa,d,cl,g,bl,al,vs,hD2.grown g4 kp4 (aF.refl F) hD2.self lQ⟩ hr' ?_;have hB':=rT hB (Nat.le_refl _);refine⟨by have:=hB'.1;omega,by have:=hB'.2.1;simp only[List.length_cons] at this ⊢;omega,λfr hf=>?_⟩;rcases List.mem_cons.mp hf with rfl|hf
   ·have:=hB'.2.2 ⟨f,l⟩ (List.mem_cons_self ..);dsimp only at this ⊢;rw[List.length_append];simp only[List.length_singleton];omega
   ·rcases List.mem_cons.mp hf with rfl|hf
    ·have:=hB'.2.2 ⟨h,r++[p]⟩ (List.mem_cons_of_mem _ (List.mem_cons_self ..));dsimp only at this ⊢;rw[List.length_append] at this;omega
    ·have:=hB'.2.2 fr (List.mem_cons_of_mem _ (List.mem_cons_of_mem _ hf));omega
 |fin=>
  have ev:v= .str "@end":=hy;refine pre _ H _ ev λH2 s2=>?_;rw[decide_eq_false ↑1];have hD2:=hD.more s2;obtain⟨dg2,hg2⟩:=hD2.gr.hg;subst ev;refine dD ⟨_,rfl,_,_,_,_,rfl,.inl ⟨_,rfl⟩,.inl (.str _),kf.st,_,rfl,dD ⟨_,rfl,rfl,_,rfl,?_⟩⟩;rw[decide_eq_false ↑1];refine dD ⟨_,rfl,rfl,_,rfl,?_⟩;rw[decide_eq_true rfl];obtain⟨n',f,h,l,r,G0,rfl,rfl,hset,hr'⟩:=eR hrun;obtain⟨x,al,rfl⟩:∃x al',al=x::al':=by cases hD.gr.fs;exact⟨_,_,rfl⟩
  refine fE ⟨_,rfl,R,c.CR,dx,_,_,rfl,hD2.hR,TR.cl,TR.ng,dq,g,dg2,_,rfl,hg2,hgN ↑1,_,rfl,R,c.CR,dx,_,_,rfl,hD2.hR,TR.cl,TR.np,cT,g,bl,x,al,f,h,l,r,G0,nT b,F,s,rfl,hD2.gr,hset,?_,λH' F' sF kF g4 kp4=>?_⟩
  ·have:=hB.2.2 ⟨h,r⟩ (List.mem_cons_of_mem _ (List.mem_cons_self ..));dsimp only at this;omega
  ·refine k1 H' F' Ks s _ n' (Nat.lt_succ_self _) sF ⟨hs,dx,ta,sa,d,cl,g,bl,al,vs,hD2.grown g4 kp4 sF kF λz hz=>?_⟩ hr' ?_
   ·exact .inl (hz.elim .inl λhz=>.inr (hz.elim (λz=>.inl (List.mem_cons_of_mem _ z)) λz=>.inr (List.mem_cons_of_mem _ z)))
   ·have hB':=rT hB (Nat.le_refl _);refine⟨by have:=hB'.1;omega,by have:=hB'.2.1;simp only[List.length_cons] at this ⊢;omega,λfr hf=>?_⟩;rcases List.mem_cons.mp hf with rfl|hf
    ·have:=hB'.2.2 ⟨h,r⟩ (List.mem_cons_of_mem _ (List.mem_cons_self ..));dsimp only at this ⊢;rw[List.length_append];simp only[List.length_singleton];omega
    ·have:=hB'.2.2 fr (List.mem_cons_of_mem _ (List.mem_cons_of_mem _ hf));omega
 |w x=>
  obtain⟨ev,hx⟩:=id hy;refine pre _ H _ ev λH2 s2=>?_;have hD2:=hD.more s2;rw[decide_eq_false (λz=>by
   rcases List.mem_cons.mp z with e|z
   ·exact Al hx ↑1 e
   rcases List.mem_cons.mp z with e|z
   ·exact Al hx ↑1 e
   rcases List.mem_cons.mp z with e|z
   ·exact Al hx ↑1 e
   cases z)]
  subst ev;refine dD ⟨_,rfl,_,_,_,_,rfl,.inl ⟨_,rfl⟩,.inl (.str _),kf.st,_,rfl,dD ⟨_,rfl,rfl,_,rfl,?_⟩⟩;rw[decide_eq_false (λz=>Al hx ↑1 (by injection z:nm x=Str.ofString "@take"))];refine dD ⟨_,rfl,rfl,_,rfl,?_⟩;rw[decide_eq_false (λz=>Al hx ↑1 (by injection z:nm x=Str.ofString "@end"))];have hA2:lb K c b F H2 R Ks s G:=⟨hs,dx,ta,sa,d,cl,g,bl,al,vs,hD2⟩
  refine dD ⟨_,rfl,R,dx,_,rfl,hD2.hR,ou ↑1 ↑1 ↑1 ↑1 ↑1 ↑1,_,rfl,_,rfl,R,dx,_,rfl,hD2.hR,ou ↑1 ↑1 ↑1 ↑1 ↑1 ↑1,R,F,Ks,s,G,rfl,hA2,R,F,Ks,s,G,x,n,M,o,rfl,hx,hA2,hrun,hB,hM,k1,λer H' x h1 h2 h3=>⟨x,rfl,k2 er H' x h1 h2 h3⟩⟩
end
section
variable{c:Cs}{b:By}
inductive OD(K:Frag)(c:Cs)(b:By)(vs:List V)(H:Hp)(Q:VK)(E:XK):Prop
 |mk(R:Addr) (F:Hp) (Ks:List MA.Sym) (s:EwTree.St) (G:List MA.Fr) (n M:Nat) (o:MA.Out) (_:vs=[.ref R]) (_:lb K c b F H R Ks s G) (_:MA.Runs (eF b) (zF b) n Ks s G o) (_:Ju M n Ks G) (_:M<16000000) (_:((∃er,o= .fault er)\/∃st0 ps,o= .ok [⟨.row st0,ps⟩])) (_:(∀st0 ps,o= .ok [⟨.row st0,ps⟩]->∀H' v,aF F H'->ki c.CW (nT b) H' v (.aY (.row st0) st0 ps)->Q v H')) (_:∀er,o= .fault er->∀H' x,aF F H'->nj c.CF H' x er.1 er.2->E (.ref x) none H')
theorem Rn:ax ["self"] ["self"] (aq (jK 2)):=↑3
theorem P_(d:dm K c.CR "run" "Reader.run" (jK 2) ["self"])(TR:Jv K c.CR)(TG_:FH K c.CG)(ln:mg "len"=none)(ost:jH P w K mg base 6 c.CR "step" ["self","symbol"] (MG K c b))(ogn:jb P w K mg base 1 c.CG "grown" ["self"] (OE c.CG c.CW)):jH P w K mg base 7 c.CR "run" ["self"] (OD K c b):=d.uD λf fd F=>by
 refine F.uD Rn (by rintro vs H Q E ⟨R,F,Ks,s,G,n,M,o,rfl,_⟩;rfl) (λUT A outer s H vs Q E hr h=>?_);obtain⟨R,F,Ks,s,G,n,M,o,rfl,hA,hrun,hB,hM,ho,k1,k2⟩:=h;refine⟨_,aj (fz (wy ⟨rfl,rfl,rfl⟩) (aD o9 (bA ln (ay (pv 0) rfl)) aw (aK _))
   (ai (aS (Du ost TR.cl hr (pv 0) (aa (tH PySem.F.plainAttrs_list PySem.F.slot_list_pop PySem.F.type_list_pop rS (ay (pv 0) rfl)) ao)))))
  (ai (aB (i9 (P:=P) ogn TG_.cl (hr.mono ↑0) (ay (pv 0) rfl)))),?_⟩
 refine⟨λm σ H'=>∃F' Ks s G,σ=[some (.ref R)]/\lb K c b F' H' R Ks s G/\MA.Runs (eF b) (zF b) m Ks s G o/\Ju M m Ks G/\aF F F',⟨n,F,Ks,s,G,rfl,hA,hrun,hB,aF.refl F⟩,?_⟩;rintro m σ H1 ⟨F',Ks,s,G,rfl,⟨hs,dx,ta,sa,d,cl,g,bl,al,vs,hD⟩,hrun,hB,sF⟩;refine rV rfl (rf hD.hR TR.cl TR.nc gK ⟨cl,_,rfl,.inl (bh.of hD.hc),_,_,rfl,rfl,_,rfl,aT (λz=>?_) λz=>?_⟩)
 ·have z:=of_decide_eq_true z;rw[List.length_reverse] at z;have hsy:=hD.sy;cases hsy with
  |nil=>exact absurd z (by show ¬((0:Int)<0);decide)
  |@cons v y vs Ks hy hr2=>
   have hc:=hD.hc;rw[List.reverse_cons] at hc;refine⟨_,λ_ _ z=>z,_,rfl,R,dx,_,rfl,hD.hR,ou ↑1 ↑1 ↑1 ↑1 ↑1 ↑1,rV rfl (rf hD.hR TR.cl TR.nc gK ⟨.inl ⟨rfl,_,bh.of hc⟩,cl,_,v,rfl,rfl,hc,(by rw[List.length_append,List.getElem?_append_right (by simp)];simp),?_⟩)⟩;rw[List.dropLast_concat];exact⟨R,F',Ks,s,G,v,y,m,M,o,rfl,hy,⟨hs,dx,ta,sa,d,cl,g,bl,al,vs,hD.RH hr2⟩,hrun,hB,hM,λH' F2 Ks' s' G' n' hn sF2 hA' hr' hB'=>⟨n',hn,F2,Ks',s',G',rfl,hA',hr',hB',sF.trans sF2⟩,λer H' x h1 h2 h3=>⟨x,rfl,k2 er h1 H' x (sF.trans h2) h3⟩⟩
 ·have hnil:Ks=[]:=by
   have hsy:=hD.sy;cases hsy with
   |nil=>rfl
   |cons _ _=>exact absurd (decide_eq_true (by rw[List.length_reverse,List.length_cons];omega)) z
  subst hnil;cases hrun with
  |halt=>
   rcases ho with⟨er,ho⟩|⟨st0,ps,ho⟩
   ·cases ho
   ·have eG:G=[⟨.row st0,ps⟩]:=by injection ho
    subst eG;obtain⟨dg,hg⟩:=hD.gr.hg;obtain⟨x,rfl⟩:∃x,al=[x]:=by
     cases hD.gr.fs with
     |cons _ r=>cases r;exact⟨_,rfl⟩
    refine rV rfl (rf hD.hR TR.cl TR.ng dq ⟨g,dg,_,rfl,hg,gJ ↑1,g,bl,x,_,nT b,F',rfl,hD.gr,k1 st0 ps rfl H1 _ (sF.trans hD.gr.sm) ?_⟩);cases hD.gr.fs with
    |cons hf _=>
     obtain⟨ex,ed,us,h1,h2,h3,h4,h5,h6⟩:=hf;exact .aY h1 h2 rfl trivial trivial (h3.same hD.gr.sm)
theorem JI{X:Cx}{k:Nat}{C:Addr}{ps:List Str}{sp:Sp}{x:Str}{p pos:Pos}(o:va X.prog X.w X.K X.mg X.base k x C ps sp)(hr:bB (k+1) X.A)(hg:Gl X x:=by rfl)(hdb:(x==("__debug__":Str))=false:=by decide):
  PE X (.Call (.Name x p) [] [] pos) (uL C sp [] E0 d8):=by
 obtain⟨f,fd,M,F,b,m⟩:=o.ex;exact Ha M F hr hg m b .nil g9 hdb
inductive NO(K:Frag)(c:Cs)(b:By)(vs:List V)(H:Hp)(Q:VK)(E:XK):Prop
 |mk(p dx ta sa:Addr) (H0:Hp) (_:vs=[.ref p,.ref ta,.ref sa]) (_:H p=some (.ins c.CR dx [])) (_:aF H0 H) (_:H0 p=none) (_:bh K H0 ta (iv b)) (_:iX c.CS c.CT H0 sa (Tn 0 b).1 (Tn 0 b).2) (_:b.length<=65536) (_:∀H' F,aF H0 F->lb K c b F H' p [.w MA.dA] ⟨0,(Tn 0 b).1⟩ [⟨.row ⟨0,(Tn 0 b).1⟩,[]⟩]->Q .bF H')
theorem RQ:ax ["self","text","scanned"] ["self","text","scanned"] (aq (jK 0)):=↑3
abbrev UJ(K:Frag)(mg:Str->Option Value)(C:Addr):Prop:=wR K mg "Reader" "Reader.__init__" (jK 0) C ["self","text","scanned"]
theorem N'{X:Cx}{k:Nat}{ps:List Str}{sp:Sp}{x:Str}{p pos:Pos}(o:Ok X.prog X.w X.K X.mg X.base bj k x ps sp)(hr:bB k X.A)(hg:Gl X x:=by rfl)(hdb:(x==("__debug__":Str))=false:=by decide):PE X (.Call (.Name x p) [] [] pos) (ik sp [] E0 d8):=by obtain⟨f,fd,F,b,m,kp⟩:=o.ex;exact Jf F hr hg m kp b .nil g9 hdb
theorem Ls:nm MA.dA=Str.ofString "<program>":=↑1
theorem Oy(d:UJ K mg c.CR)(TR:Jv K c.CR)(orb:Ok P w K mg base bj 1 "rows_by_token" [] (Nc K))(nG:va P w K mg base 3 "Growth" c.CG ["self"] (N0 c.CG c.CW)):va P w K mg base 5 "Reader" c.CR ["self","text","scanned"] (NO K c b):=d.new λf fd F=>by
 refine F.ok RQ (by rintro vs H Q E ⟨p,dx,ta,sa,H0,rfl,_⟩;rfl) (λUT A outer s H vs Q E hr h=>?_);obtain⟨p,dx,ta,sa,H0,rfl,h1,s0,hp0,hS,hA,hbl,q⟩:=h;refine⟨_,aj (bD (pv 0) (pv 1) rfl) (aj (bD (pv 0) (pv 2) rfl) (aj (bD (pv 0) aw rfl) (aj (bD (pv 0) (N' orb (hr.mono ↑0)) rfl) (aj (bD (pv 0) (bE (aa bZ ao)) rfl) (ai (bD (pv 0) (JI nG hr) rfl)))))),?_⟩;refine⟨_,rfl,_,rfl,p,c.CR,dx,[],rfl,h1,TR.cl,TR.nt,(by show 0<1000;decide),_,rfl,_,rfl,p,c.CR,dx,_,rfl,ag,TR.cl,TR.ns,Nat.lt_of_le_of_lt (aG _ _ _) (by show 1<1000;decide),_,rfl,p,c.CR,dx,_,rfl,ag,TR.cl,TR.np,Nat.lt_of_le_of_lt (aG _ _ _) (Nat.lt_of_le_of_lt (Nat.succ_le_succ (aG _ _ _)) (by show 2<1000;decide)),rfl,λH1 dd s1 hdd hrows=>?_⟩;generalize hfs3:aV "passed" (V.int 0) (aV "scanned" (V.ref sa) (aV "text" (V.ref ta) []))=fs3 at s1 hdd;have hl3:fs3.length<=3:=by
  rw[<-hfs3];exact Nat.le_trans (aG _ _ _) (Nat.succ_le_succ (Nat.le_trans (aG _ _ _) (Nat.succ_le_succ (aG _ _ _))))
 have hp1:H1 p=some (.ins c.CR dx fs3):=s1 _ _ ag;refine⟨_,rfl,p,c.CR,dx,_,rfl,hp1,TR.cl,TR.nr,↑2,?_⟩;have hl4:(aV "rows" (V.ref dd) fs3).length<=4:=Nat.le_trans (aG _ _ _) (Nat.succ_le_succ hl3);refine⟨(by show 1<=sizeLine;decide),λcl hcl=>?_⟩;have ncp:cl≠p:=λz=>by rw[z,ag] at hcl;cases hcl
 have hcl1:H1 cl=none:=by rw[ah ncp] at hcl;exact hcl
 refine⟨_,rfl,p,c.CR,dx,_,rfl,(by rw[ah (Ne.symm ncp),ag]),TR.cl,TR.nc,↑2,?_⟩;have hl5:(aV "coming" (V.ref cl) (aV "rows" (V.ref dd) fs3)).length<=5:=Nat.le_trans (aG _ _ _) (Nat.succ_le_succ hl4);generalize hH2:upd (upd (upd H1 p (.ins c.CR dx (aV "rows" (V.ref dd) fs3))) cl (.lst [.str "<program>"])) p (.ins c.CR dx (aV "coming" (V.ref cl) (aV "rows" (V.ref dd) fs3)))=H2;intro g dgx ng ndg neg;refine⟨g,dgx,rfl,ag,λH3 bl a l dxa nbl na nl nbll e1 e2 e3 e4 fr=>⟨rfl,?_⟩⟩;have s3:aF H2 H3:=aF.made ng ndg fr;have hp2:H2 p=some (.ins c.CR dx (aV "coming" (V.ref cl) (aV "rows" (V.ref dd) fs3))):=by rw[<-hH2,ag]
 have hc2:H2 cl=some (.lst [.str "<program>"]):=by rw[<-hH2,ah ncp,ag]
 have k2:∀x o,H1 x=some o->x≠p->H2 x=some o:=λx o e n=>by rw[<-hH2,ah n,ah (au e hcl1),ah n];exact e
 have fr2:∀x,(upd (upd H2 dgx (.own g)) g (.ins c.CG dgx [])) x=none->H2 x=none/\x≠g:=λx e=>by
  have n1:x≠g:=λz=>by rw[z,ag] at e;cases e
  have n2:x≠dgx:=λz=>by rw[z,ah neg,ag] at e;cases e
  rw[ah n1,ah n2] at e;exact⟨e,n1⟩
 obtain⟨nbl2,nblg⟩:=fr2 bl nbl;obtain⟨na2,nag⟩:=fr2 a na;obtain⟨nl2,nlg⟩:=fr2 l nl;refine⟨_,rfl,p,c.CR,dx,_,rfl,s3 _ _ hp2,TR.cl,TR.ng,↑2,?_⟩;rw[<-hfs3,Kw];have npg:p≠g:=au hp2 ng;have npa:p≠a:=au hp2 na2;have npl:p≠l:=au hp2 nl2;have npb:p≠bl:=au hp2 nbl2;have ncg:cl≠g:=au hc2 ng;have nca:cl≠a:=au hc2 na2;have ncl:cl≠l:=au hc2 nl2;have ncb:cl≠bl:=au hc2 nbl2;have s0F:aF H0 (λx=>if x=p then none else H1 x):=λx o e=>by
  have n:x≠p:=au e hp0;show(if x=p then none else H1 x)=some o;rw[if_neg n];exact s1 _ _ (by rw[ah n,ah n,ah n];exact s0 _ _ e)
 have fnone:∀x,H2 x=none->(if x=p then none else H1 x)=none:=λx e=>by
  split
  ·rfl
  ·rename_i n;cases e1:H1 x with
   |none=>rfl
   |some o=>rw[k2 x o e1 n] at e;cases e
 have hnT:MA.len ⟨0,(Tn 0 b).1⟩=nT b:=rfl;refine q _ (λx=>if x=p then none else H1 x) s0F ⟨⟨Nat.le_of_eq hnT,by rw[hnT,Nat.sub_self];rfl⟩,dx,ta,sa,dd,cl,g,bl,[(a,l)],[.str "<program>"],?_⟩;have hgz:(nT b:Int) - MA.len ⟨0,(Tn 0 b).1⟩=0:=by rw[hnT];omega
 rw[hgz];refine⟨ag,by rw[ah ncp];exact s3 _ _ hc2,.cons ⟨by rw[Ls],MA.cz ↑0⟩ .nil,⟨λx o e=>?_,⟨dgx,by rw[ah (Ne.symm npg)];exact e1⟩,by rw[ah (Ne.symm npb)];exact e2,.cons ⟨dxa,.int 0,[],?_,by show upd H3 p _ l=_;rw[ah (Ne.symm npl)];exact e4,.nil,fnone _ na2,fnone _ nl2,trivial⟩ .nil,List.nodup_cons.mpr ⟨(by intro z;cases z),List.nodup_nil⟩,List.nodup_cons.mpr ⟨(by intro z;cases z),List.nodup_nil⟩,λz=>nbll (List.mem_singleton.mp z),fnone _ nbl2,λz=>nag (List.mem_singleton.mp z).symm⟩,⟨s0F.seq hS,hA.same s0F,?_,hbl⟩,if_pos rfl,?_,?_,?_,npg⟩
 ·have e:(if x=p then none else H1 x)=some o:=e;by_cases n:x=p
  ·rw[if_pos n] at e;cases e
  ·rw[if_neg n] at e;rw[ah n];exact s3 _ _ (k2 x o e n)
 ·show upd H3 p _ a=some (.ins c.CW dxa (tV (.str "@row") (.ref l) (.int ((nT b:Int) - MA.len ⟨0,(Tn 0 b).1⟩)) (.int 0)));rw[ah (Ne.symm npa),hgz];exact e3
 ·obtain⟨kvs,r1,r2⟩:=hrows;refine⟨kvs,?_,L2.Paired.imp' (λ_ _ z=>Jz.same (λb' xs hb'=>?_) z) r2⟩
  ·show(if dd=p then none else H1 dd)=_;rw[if_neg (dB r1 hp1 (by intro z;cases z))];exact r1
  ·show(if b'=p then none else H1 b')=_;rw[if_neg (dB hb' hp1 (by intro z;cases z))];exact hb'
 ·show(if cl=p then none else H1 cl)=none;rw[if_neg ncp];exact hcl1
 ·rintro(z|z|z)
  ·exact npb z
  ·exact npa (List.mem_singleton.mp z)
  ·exact npl (List.mem_singleton.mp z)
 ·rintro(z|z|z)
  ·exact ncb z
  ·exact nca (List.mem_singleton.mp z)
  ·exact ncl (List.mem_singleton.mp z)
end
mutual
theorem LC:∀p:MA.Pt,wt p=MA.Jw p
 | .leaf b=>rfl
 | .aY f s l=>by show 5+kH l=5+MA.d6 l;rw[HB l]
theorem HB:∀l:List MA.Pt,kH l=MA.d6 l
 |[]=>rfl
 |p::r=>by show wt p+kH r=MA.Jw p+MA.d6 r;rw[LC p,HB r]
end
section
variable{c:Cs}
inductive My(K:Frag)(c:Cs)(vs:List V)(H:Hp)(Q:VK)(E:XK):Prop
 |mk(ta sa:Addr) (b:By) (_:vs=[.ref ta,.ref sa]) (_:bh K H ta (iv b)) (_:iX c.CS c.CT H sa (Tn 0 b).1 (Tn 0 b).2) (_:b.length<=65536) (_:(∀er,EwTree.read b= .error er->∀H' x,aF H H'->nj c.CF H' x er.1 er.2->E (.ref x) none H')) (_:∀a,EwTree.read b= .ok a->∀H' v p st0,aF H H'->ki c.CW (nT b) H' v (.aY (.row st0) st0 [p])->MA.yb p=a.1.bytes->MA.yk p=a.2.map MA.yt->MA.Jw p<=15900000->Q v H')
theorem Rl:ax ["text","scanned"] ["text","scanned"] (aq (top 90)):=↑3
theorem Py(d:Def K mg "parse" (top 90) ["text","scanned"])(TR:Jv K c.CR)(nR:∀b,va P w K mg base 5 "Reader" c.CR ["self","text","scanned"] (NO K c b))(orn:∀b,jH P w K mg base 7 c.CR "run" ["self"] (OD K c b)):Ok P w K mg base (g_ P w) 8 "parse" ["text","scanned"] (My K c):=d.ok λf fd F=>by
 refine F.uD Rl (by rintro vs H Q E ⟨ta,sa,b,rfl,_⟩;rfl) (λUT A outer s H vs Q E hr h=>?_);obtain⟨ta,sa,b,rfl,hS,hA,hl,k1,k2⟩:=h;refine⟨_,ai (aB (Ab (orn b) TR.cl hr (eK (nR b) (hr.mono ↑0) (aa (pv 0) (aa (pv 1) ao))))),?_⟩;have hln:=GC b.length 0 b (Nat.le_refl _);have hsw:=MA.PJ b.length 0 b (Nat.le_refl _);obtain⟨m1,m2⟩:=MA.machine (b:=b) ↑2 ↑2;refine⟨_,rfl,_,rfl,λx dx nx nd ne=>⟨x,dx,ta,sa,H,rfl,ag,λy o e=>?_,nx,hS,hA,hl,λH1 F sF hR=>⟨rfl,?_⟩⟩⟩
 ·rw[ah (au e nx),ah (au e nd)];exact e
 obtain⟨hs,dx1,ta1,sa1,d1,cl,g,bl,al,vs,hD⟩:=id hR;have bnd:∀n,n<=2400000->Ju 2400010 n [.w MA.dA] [⟨.row ⟨0,(Tn 0 b).1⟩,[]⟩]:=λn hn=>⟨by show 1+n<=_;omega,by show 1+n<=_;omega,λfr hf=>by rw[List.mem_singleton.mp hf];show 0+n<=_;omega⟩
 refine⟨x,dx1,_,rfl,hD.hR,ou ↑1 ↑1 ↑1 ↑1 ↑1 ↑1,?_⟩;cases e:EwTree.read b with
 |error er=>
  obtain⟨n,hn,hr'⟩:=m1 er e;refine⟨x,F,_,_,_,n,2400010,_,rfl,hR,hr',bnd n hn,↑0,.inl ⟨er,rfl⟩,λ_ _ z=>(by cases z),λer' z H' x s' h'=>?_⟩;cases z;exact⟨x,rfl,k1 er e H' x (sF.trans s') h'⟩
 |ok a=>
  obtain⟨n,p,hn,hr',y1,y2,y3⟩:=m2 a e;refine⟨x,F,_,_,_,n,2400010,_,rfl,hR,hr',bnd n hn,↑0,.inr ⟨_,_,rfl⟩,λst0 ps z H' v s' h'=>?_,λer z=>(by cases z)⟩;have z:[(⟨.row ⟨0,(Tn 0 b).1⟩,[p]⟩:MA.Fr)]=[⟨.row st0,ps⟩]:=by injection z
  injection z with z1 z2;injection z1 with z3 z4;subst z4;exact k2 a e H' v p st0 (sF.trans s') h' y1 y2 y3
end
section
variable{c:Cs}
def UA(K:Frag)(CR:Addr)(ns:List Int)(a:Addr)(H0:Hp)(n:Nat):L2.St->Addr->Hp->Prop:=λσ e H'=>σ=some (.ref a)::List.replicate n none/\xj K CR H' e ns/\aF H0 H'
theorem nj.QY{CF CR:Addr}{H:Hp}{e:Addr}{r p:Int}(TF:AV K CF)(is:PySem.W.exmOne K (.ref CF) (.ref CR)=some true)(h:nj CF H e r p):xj K CR H e [-2,r,p]:=by obtain⟨d,l,h1,h2,h3⟩:=h;exact⟨CF,d,l,_,TF.x,TF.nn,is,h1,h2,BL _ _ _,h3⟩
end
section
variable{c:Cs}
inductive Mc(K:Frag)(c:Cs)(CR:Addr)(vs:List V)(H:Hp)(Q:VK)(E:XK):Prop
 |mk(a:Addr) (b:By) (_:vs=[.ref a]) (_:bh K H a (iv b)) (_:(65536<b.length->∀H' e,aF H H'->xj K CR H' e [-1]->E (.ref e) none H')) (_:(b.length<=65536->100<EwTree.depth b->∀H' e,aF H H'->xj K CR H' e [-6]->E (.ref e) none H')) (_:(b.length<=65536->¬100<EwTree.depth b->(∀er,EwTree.read b= .error er->∀H' x,aF H H'->nj c.CF H' x er.1 er.2->E (.ref x) none H')/\∀a,EwTree.read b= .ok a->∀H' v p st0,aF H H'->ki c.CW (nT b) H' v (.aY (.row st0) st0 [p])->MA.yb p=a.1.bytes->MA.yk p=a.2.map MA.yt->MA.Jw p<=15900000->Q v H'))
theorem NN:ax ["text"] ["text"] (aq (top 95)):=↑3
theorem Ob{CR:Addr}(d:Def K mg "parse_allowed" (top 95) ["text"])(osa:Ok P w K mg base (g_ P w) 11 "scan_allowed" ["text"] (QU K c.CS c.CT CR))(opa:Ok P w K mg base (g_ P w) 8 "parse" ["text","scanned"] (My K c)):Ok P w K mg base (g_ P w) 12 "parse_allowed" ["text"] (Mc K c CR):=d.ok λf fd F=>by
 refine F.uD NN (by rintro vs H Q E ⟨a,b,rfl,_⟩;rfl) (λUT A outer s H vs Q E hr h=>?_);obtain⟨a,b,rfl,hS,k1,k2,k3⟩:=h;refine⟨_,ai (aB (nL opa (hr.mono ↑0) (aa (pv 0) (aa (nL osa hr (aa (pv 0) ao)) ao)))),?_⟩;refine⟨_,rfl,_,rfl,a,b,rfl,hS,λz H' e s' h'=>⟨e,rfl,k1 z H' e s' h'⟩,λz y H' e s' h'=>⟨e,rfl,k2 z y H' e s' h'⟩,λz y H1 r s1 hA=>?_⟩;obtain⟨k4,k5⟩:=k3 z y;exact⟨a,r,b,rfl,s1.seq hS,hA,z,λer e H' x s' h'=>⟨x,rfl,k4 er e H' x (s1.trans s') h'⟩,λa' e H' v p st0 s' h'=>k5 a' e H' v p st0 (s1.trans s') h'⟩
end
end
def Sr:MA.Fm->MA.Pt->List MA.Pt
 | .kind _ _,p=>[p]
 |_,_=>[]
mutual
def Fw:MA.Pt->List MA.Pt
 | .leaf _=>[]
 | .aY f s l=>Sr f (.aY f s l)++iZ l
def iZ:List MA.Pt->List MA.Pt
 |[]=>[]
 |p::r=>Fw p++iZ r
end
theorem Az:∀l r:List MA.Pt,iZ (l++r)=iZ l++iZ r
 |[],_=>rfl
 |p::l,r=>by show Fw p++iZ (l++r)=Fw p++iZ l++iZ r;rw[Az l r,List.append_assoc]
def nk:MA.Pt->EwTree.Mark×Bool
 | .aY (.kind k b) s l=>(⟨k,b.here,s.last,(MA.cy l).length+1⟩,decide (MA.len s<MA.len b))
 |_=>(⟨0,0,0,0⟩,false)
mutual
theorem IJ:∀p:MA.Pt,MA.yk p=(Fw p).map nk
 | .leaf _=>rfl
 | .aY (.kind k b) s l=>congrArg (_::·) (kJ l)
 | .aY (.row b) s l=>kJ l
 | .aY (.count b) s l=>kJ l
 | .aY (.set b) s l=>kJ l
theorem kJ:∀l:List MA.Pt,MA.cy l=(iZ l).map nk
 |[]=>rfl
 |p::r=>by show MA.yk p++MA.cy r=(Fw p++iZ r).map nk;rw[List.map_append,IJ p,kJ r]
end
theorem O4{f:MA.Fm}(h:f.isSet=false):(∃k:Int,Ay f= .int k/\∀p,Sr f p=[p])\/∃z,Ay f= .str z/\∀p,Sr f p=[]:=by
 cases f with
 |kind k b=>exact .inl ⟨_,rfl,λ_=>rfl⟩
 |row b=>exact .inr ⟨_,rfl,λ_=>rfl⟩
 |count b=>exact .inr ⟨_,rfl,λ_=>rfl⟩
 |set b=>cases h
theorem Ij{A:Prop}{G T:Hp->Prop}(rest:∀Hx,T Hx->G Hx)(first:(∀Hx,T Hx->G Hx)->A):A:=first rest
inductive NH(C:Addr)(vs:List V)(H:Hp)(Q:VK)(E:XK):Prop
 |mk(v:V) (p:MA.Pt) (N:Nat) (_:vs=[v]) (_:ki C N H v p) (_:wt p<=16000000) (_:∀H' r us,aF H H'->H' r=some (.lst us)->bK C N H us (Fw p)->Q (.ref r) H')
theorem DD:ax ["twig","found","parts","part"] ["twig"] (aq (top 80)):=↑3
theorem P0{C:Addr}(d:Def K mg "nodes_within" (top 80) ["twig"])(T:JB K C)(kf:NT K)(mC:mg "Twig"=some (.ref C))(ln:mg "len"=none)(isi:mg "isinstance"=none)(mi:mg "int"=none):Ok P w K mg base bj 1 "nodes_within" ["twig"] (NH C):=d.ok λf fd F=>by
 refine F.ok DD (by rintro vs H Q E ⟨v,p,N,rfl,_⟩;rfl) (λUT A outer s H vs Q E hr h=>?_);obtain⟨v,p,N,rfl,hP,hw,q⟩:=h;refine⟨_,aj (aN (i:=1) DD.nd rfl (Or.inl rfl) (bE ao)) (aj (aN (i:=2) DD.nd rfl (Or.inl rfl) (bE (aa (pv 0) ao)))
  (aj (fz PassesOwn.never (aD o9 (bA ln (pv 2)) aw (aK _))
   (aj (aN (i:=3) DD.nd rfl (Or.inl rfl) (tH PySem.F.plainAttrs_list PySem.F.slot_list_pop PySem.F.type_list_pop rS (pv 2)))
   (ai (aR (da (dX h_ (by rfl) isi PyProof.Rows.boot_isinstance (aa (pv 3) (aa (fQ mC) ao))))
    (aj (aR (da (dX h_ (by rfl) isi PyProof.Rows.boot_isinstance (aa (ay (pv 3) rfl) (aa (wZ (v:=.ty "int") (by rfl) mi ↑1 rfl) ao)))) (ai (aS (fW PySem.F.plainAttrs_list PySem.F.slot_list_append PySem.F.type_list_append cH (pv 1) (aa (pv 3) ao)))) aL)
    (ai (aS (fW PySem.F.plainAttrs_list PySem.F.slot_list_extend PySem.F.type_list_extend EK (pv 2) (aa (Jg (ay (pv 3) rfl)) ao)))))
    aL))))
  (ai (aB (pv 1))))),?_⟩
 have hsz:sizeLine=16777216:=sizeLine_eq;refine⟨Nat.zero_le _,λlt hlt=>?_⟩;have s1:=aC (o:=.lst []) hlt;refine⟨_,rfl,(by show 1<=sizeLine;decide),λlp hlp=>?_⟩;have hlp0:H lp=none:=s1.free hlp;have hne:lt≠lp:=au ag hlp;have s2:=s1.trans (aC (o:=.lst [v]) hlp);refine⟨λm σ H'=>∃(us:List V)(xs:List MA.Pt)(ws:List V)(qs:List MA.Pt)(v3:Option V),m=kH qs/\σ=[some v,some (.ref lt),some (.ref lp),v3]/\H' lt=some (.lst us)/\H' lp=some (.lst ws.reverse)/\bK C N H us xs/\bK C N H ws qs/\xs++iZ qs=Fw p/\xs.length+kH qs<=wt p/\aF H H',
  ⟨_,[],[],[v],[p],none,rfl,rfl,by rw[ah hne,ag],ag,.nil,.cons hP .nil,List.append_nil _,by show 0+(wt p+0)<=wt p;omega,s2⟩,?_⟩
 rintro m σ H1 ⟨us,xs,ws,qs,v3,rfl,rfl,h1,h2,hu,hq,ex,hb,sH⟩;refine⟨_,rfl,lp,_,rfl,.inl (bh.of h2),_,_,rfl,rfl,_,rfl,aT (λz=>?_) λz=>?_⟩
 ·cases hq with
  |nil=>exact absurd (of_decide_eq_true z) (by show ¬((0:Int)<0);decide)
  |@cons v0 p0 ws qs hp hq=>
   have er:(v0::ws).reverse=ws.reverse++[v0]:=List.reverse_cons;rw[er] at h2;have hbx:xs.length+(wt p0+kH qs)<=wt p:=hb;refine⟨_,λ_ _ z=>z,_,rfl,.inl ⟨rfl,_,bh.of h2⟩,lp,_,v0,rfl,rfl,h2,(by rw[List.length_append,List.getElem?_append_right (by simp)];simp),?_⟩;rw[List.dropLast_concat];have hl3:(upd H1 lp (.lst ws.reverse)) lt=some (.lst us):=by rw[ah hne];exact h1
   have sU:aF H (upd H1 lp (.lst ws.reverse)):=λb o hb'=>by rw[ah (au hb' hlp0)];exact sH _ _ hb'
   have hp':=hp;cases hp with
   |@leaf a0 b0 ha0=>
    have ha1:=sU _ _ ha0;refine⟨_,rfl,_,_,_,_,rfl,.inr ⟨C,rfl⟩,.inl (.lst ha1),T.kl,_,rfl,dD ?_⟩;exact⟨kH qs,by have:=GP (.leaf b0);show kH qs<wt (.leaf b0)+kH qs;omega,us,xs,ws,qs,_,rfl,rfl,hl3,ag,hu,hq,ex,↑2,sU⟩
   |@aY a0 dx l0 f0 s0 ps0 vs0 d0 ha hl hf hk hc hps=>
    have ha1:=sU _ _ ha;have hll:=hps.length;refine⟨_,rfl,_,_,_,_,rfl,.inr ⟨C,rfl⟩,.inl (.ins ha1 T.cl T.ha T.hn T.ht T.hm),T.yes,_,rfl,fE ?_⟩;have hw0:wt (.aY f0 s0 ps0)=5+kH ps0:=rfl;have hwl:=vF ps0;refine' Ij (T:=λHx=>∃us' xs',Hx lt=some (.lst us')/\Hx lp=some (.lst ws.reverse)/\bK C N H us' xs'/\xs'++(iZ ps0++iZ qs)=Fw p/\xs'.length+kH ps0+kH qs<=wt p/\aF H Hx) ?r ?f
    case f=>
     intro rest;have ex:xs++(Sr f0 (.aY f0 s0 ps0)++iZ ps0++iZ qs)=Fw p:=ex;rcases O4 hf with⟨k,e1,e2⟩|⟨k,e1,e2⟩
     ·rw[e2] at ex;rw[e1] at ha1;have f2:∃us' xs',(upd (upd H1 lp (.lst ws.reverse)) lt (.lst (us++[.ref a0]))) lt=some (.lst us')/\(upd (upd H1 lp (.lst ws.reverse)) lt (.lst (us++[.ref a0]))) lp=some (.lst ws.reverse)/\bK C N H us' xs'/\xs'++(iZ ps0++iZ qs)=Fw p/\xs'.length+kH ps0+kH qs<=wt p/\aF H (upd (upd H1 lp (.lst ws.reverse)) lt (.lst (us++[.ref a0]))):=
       ⟨_,xs++[.aY f0 s0 ps0],ag,by rw[ah (Ne.symm hne),ag],hu.app (.cons hp' .nil),by rw[<-ex];simp only[List.append_assoc],by rw[List.length_append];show xs.length+1+_+_<=_;omega,λx o hx=>by rw[ah (au hx hlt)];exact sU _ _ hx⟩
      have hul:=hu.length;refine rV rfl (rf ha1 T.cl T.nf rk ⟨_,_,_,_,rfl,.inl ⟨_,rfl⟩,.inl (.int _),kr,_,rfl,fE ⟨_,rfl,.inl ⟨rfl,_,bh.of hl3⟩,_,rfl,lt,_,_,rfl,rfl,hl3,(by rw[hul,hsz];omega),?_⟩⟩);revert f2;generalize upd (upd H1 lp (.lst ws.reverse)) lt (.lst (us++[.ref a0]))=Hx;exact λf2=>rest Hx f2
     ·rw[e2] at ex;rw[e1] at ha1;refine rV rfl (rf ha1 T.cl T.nf rk ⟨_,_,_,_,rfl,.inl ⟨_,rfl⟩,.inl (.str _),kf.si,_,rfl,dD ?_⟩);exact rest _ ⟨us,xs,hl3,ag,hu,ex,↑2,sU⟩
    case r=>
     rintro Hx ⟨us',xs',g1,g2,g3,g4,g5,sV⟩;refine⟨_,rfl,.inl ⟨rfl,_,bh.of g2⟩,rV rfl (rf (sV _ _ ha) T.cl T.np eZ ⟨l0,vs0,rfl,.inl ⟨bh.of (sV _ _ hl),λr2 hr2=>?_⟩⟩)⟩;have hne2:lp≠r2:=au g2 hr2;refine⟨lp,r2,_,_,rfl,rfl,(by rw[ah hne2];exact g2),ag,?_,?_⟩
     ·have:=hq.length;have:=vF qs;rw[List.length_reverse,List.length_reverse,hsz];omega
     ·refine⟨kH (ps0++qs),by rw[wO];show kH ps0+kH qs<wt (.aY f0 s0 ps0)+kH qs;omega,us',xs',vs0++ws,ps0++qs,_,rfl,rfl,?_,?_,g3,hps.app hq,?_,?_,?_⟩
      ·rw[ah hne,ah (au g1 hr2)];exact g1
      ·rw[ag,List.reverse_append]
      ·rw[Az];exact g4
      ·rw[wO];omega
      ·exact λb o hb'=>by
        rw[ah (au hb' hlp0),ah (au (sV _ _ hb') hr2)];exact sV _ _ hb'
 ·cases hq with
  |nil=>
   have ex:xs++[]=Fw p:=ex;rw[List.append_nil] at ex;exact⟨_,rfl,q H1 lt us sH h1 (ex▸hu)⟩
  |@cons v0 p0 ws qs hp hq=>exact absurd (decide_eq_true (by rw[List.length_reverse,List.length_cons];omega)) z
end TG
namespace MA
open EwTree RT TW
def xI(b:By):List Int:=
 if 65536<b.length then[-1] else if 100<depth b then[-6] else match EwTree.read b with
  | .error e=>[-2,(e.1:Int),(e.2:Int)]
  | .ok a=>[0,(a.2.length:Int)]
theorem JH(ns:List Int):PyWrxthh.nodes ns=xI (WrxthhNeutral.text ns):=by
 show WrxthhNeutral.told (Wrxthh.answer (.nodes (WrxthhNeutral.text ns)))=_;unfold xI Wrxthh.answer Wrxthh.ofText Wrxthh.fits;generalize WrxthhNeutral.text ns=b;simp only[List.any_cons,List.any_nil,Bool.or_false,decide_eq_true_eq];have hl:Wrxthh.LONG=65536:=rfl;have hd:DEEPEST=100:=rfl;rw[hl,hd];by_cases h1:65536<b.length
 ·rw[if_pos h1,if_pos h1];rfl
 rw[if_neg h1,if_neg h1];by_cases h2:100<depth b
 ·rw[if_pos h2,if_pos h2];rfl
 rw[if_neg h2,if_neg h2];cases h:EwTree.read b with
 |error e=>rfl
 |ok a=>rfl
end MA
namespace TG
open PySem PySem.Spec PyProof.Rows L2 TW
variable{P:Program}{w:World}{K:Frag}{mg:Str->Option Value}{base:Heap}
theorem KW{p:MA.Pt}{st0:EwTree.St}{m:List EwTree.Mark}(h:MA.yk p=m.map MA.yt):(Fw (.aY (.row st0) st0 [p])).length=m.length:=by show([]++(Fw p++[])).length=_;rw[List.append_nil,List.nil_append,<-List.length_map (f:=nk),<-IJ,h,List.length_map]
section
variable{c:Cs}
inductive J9(K:Frag)(vs:List V)(H:Hp)(Q:VK)(E:XK):Prop
 |mk(a:Addr) (b:By) (_:vs=[.ref a]) (_:bh K H a (iv b)) (_:∀H' r,aF H H'->H' r=some (.lst ((MA.xI b).map V.int))->Q (.ref r) H')
theorem HL:ax ["text","tree","e"] ["text"] (aq (top 94)):=↑3
theorem Q_{CR f:Addr}{fd:FuncData}(F:jW K "nodes" "nodes" (top 94) f fd)(TF:AV K c.CF)(opl:Ok P w K mg base (g_ P w) 12 "parse_allowed" ["text"] (Mc K c CR))(onw:Ok P w K mg base bj 1 "nodes_within" ["twig"] (NH c.CW))(ln:mg "len"=none)(mr:mg "Refused"=some (.ref CR))(is:PySem.W.exmOne K (.ref c.CF) (.ref CR)=some true):
  bY P w K mg base bj 13 f fd ["text"] (J9 K):=by
 refine F.Uo HL (by rintro vs H Q E ⟨a,b,rfl,_⟩;rfl) (λUT A outer s H vs Q E hr h=>?_);obtain⟨a,b,rfl,hS,k⟩:=h;have hs:∀e,tN (sx (iL bj P w K mg base ["text","tree","e"] "nodes" (aq (top 94)) f UT A outer s H E).LF e) (yD ((bX (top 94)).getD 0 (.Pass ⟨0,0,0,0⟩)))
   (p8 (Df K (df 2) "numbers")):=λe=>ai (aB (yn (pv 2) rfl))
 refine⟨_,nU (De (i:=2) (R:=UA K CR (MA.xI b) a H 2) ⟨rfl,rfl,rfl⟩
   (ai (aN (i:=1) HL.nd rfl (Or.inl rfl) (nL opl hr (aa (pv 0) ao))))
   hs HL.nd rfl rfl rfl mr)
  (tN.So (ai (aB (bE (aa aw (aa (bA ln (aM onw (hr.mono ↑0) (aa (pv 1) ao))) ao)))))),?_⟩
 refine⟨?_,?_⟩
 ·refine⟨_,rfl,a,b,rfl,hS,λh1 H1 e s1 hR=>⟨e,rfl,rfl,?_,s1⟩,λh1 h2 H1 e s1 hR=>⟨e,rfl,rfl,?_,s1⟩,λh1 h2=>⟨λer e H1 x s1 hF=>⟨x,rfl,rfl,?_,s1⟩,λa' e H1 v p st0 s1 hP y1 y2 y3=>?_⟩⟩
  ·unfold MA.xI;rw[if_pos h1];exact hR
  ·unfold MA.xI;rw[if_neg ↑2,if_pos h2];exact hR
  ·unfold MA.xI;rw[if_neg ↑2,if_neg h2,e];exact nj.QY TF is hF
  ·have hwt:wt (.aY (.row st0) st0 [p])<=16000000:=by
    rw[LC];show 5+(MA.Jw p+0)<=_;omega
   refine⟨_,rfl,v,_,nT b,rfl,hP,hwt,λH2 r us s2 h2' hU=>⟨r,_,rfl,.inl (bh.of h2'),(by show 2<=sizeLine;decide),λm hm=>k _ m (s1.trans (s2.trans (aC hm))) ?_⟩⟩;rw[ag];unfold MA.xI;rw[if_neg ↑2,if_neg h2,e];show some (HO.lst [V.int 0,.int (us.length:Int)])=some (HO.lst [V.int 0,.int (a'.2.length:Int)]);rw[hU.length,KW y2]
 ·rintro e σ' H' he ⟨rfl,⟨C,dF,l,fs,x1,x2,x3,x4,x5,x6,x7⟩,s2⟩;exact⟨⟨C,some dF,x4,x3⟩,_,rfl,e,C,dF,_,_,rfl,x4,x5,x1,x2,x6,k H' l s2 x7⟩
end
section
open MA (nm VC FT flat cZ)
noncomputable def Ux:List String:=["account","and","as","away","both","break","catch","clear","cut","decimal","double","down","else","error","extended","false","fibre","finally","five","flags"]
noncomputable def SM:List String:=["flush","fn","for","fraction","from","giving","half","if","in","inexact","interval","into","invalid","is","leave","let","list","make","match","module"]
noncomputable def T8:List String:=["near","nearaway","nearcut","next","not","of","only","or","out","overflow","packed","picture","post","precision","raise","record","resume","return","rounding","say"]
noncomputable def Tw:List String:=["single","small","spawn","stack","text","then","to","trap","true","truth","try","underflow","up","use","value","while","whole","with","yield","zero"]
noncomputable def sK:List String:=Ux++(SM++(T8++(Tw)))
noncomputable def UN:List String:=["->","==","!=","<=",">=","//","..","(",")","[","]","{","}",",",":",".","=","<",">","+"]
noncomputable def SQ:List String:=["-","*","/","percent","^"]
noncomputable def sS:List String:=UN++(SQ)
noncomputable def Uz:List String:=["<program>","<uses>","<declarations>","<declaration>","<let>","<told sort>","<sort names>","<more names>","<fields>","<more fields>","<field>","<result>","<sort>","<of sort>","<sorts>","<more sorts>","<of a module>","<block>","<statements>","<statement>"]
noncomputable def T6:List String:=["<chain>","<called chain>","<more branches>","<behind else>","<branch>","<to>","<cases>","<else>","<behind try>","<finally>","<into>","<posted text>","<more modes>","<mode>","<direction>","<trapped>","<flushed>","<flag>","<expressions>","<more expressions>"]
noncomputable def Sz:List String:=["<expression>","<more or>","<both>","<more and>","<negated>","<compared>","<cast>","<more as>","<digits>","<rounding>","<sum>","<more sum>","<product>","<more product>","<signed>","<giving>","<power>","<post>","<more post>","<call>"]
noncomputable def Tr:List String:=["<index>","<member>","<name>","<first>","<flags>","<more flags>","<listed>","<more listed>","<made>","<settings>","<more settings>","<setting>"]
noncomputable def sP:List String:=Uz++(T6++(Sz++(Tr)))
noncomputable def sO:List String:=["NAME","CODE","NUMBER","TEXT","END","FAULT"]
def nS(n:Nat):String:=bif Nat.blt n 100 then sK.getD n "" else bif Nat.blt n 200 then sS.getD (n - 100) "" else bif Nat.blt n 1000 then sO.getD (n - 200) "" else sP.getD (n - 1000) ""
theorem MF:(VC.all λn=>decide ((Str.ofString (nS n)).cps.toList=(nm n).cps.toList))=true:=↑1
theorem FX{n:Nat}(h:n∈VC):Str.ofString (nS n)=nm n:=by have h1:=of_decide_eq_true (List.all_eq_true.mp MF n h);have h2:(Str.ofString (nS n)).cps=(nm n).cps:=Array.toList_inj.mp h1;cases hx:Str.ofString (nS n);cases hy:nm n;rw[hx,hy] at h2;exact congrArg Str.mk h2
inductive SV where
 |i(n:Int)
 |s(x:Str)
 |t1(c:Value) (n:Int)
 |t2(c:Value) (x:Str) (n:Int)
 |no
def oP(K:Frag):Value->Option (Value×List Value)
 | .ref a=>match K.lookup a with
  |some ⟨c,_,.seq its _,_⟩=>some (c,its.toList)
  |_=>none
 |_=>none
def Ig(K:Frag):Value->SV
 | .int n _=>.i n
 | .str x _=>.s x
 |v=>match oP K v with
  |some (c,[.int n _])=>.t1 c n
  |some (c,[.str x _,.int n _])=>.t2 c x n
  |_=>.no
abbrev PV:=Option (Value×Str×Value×List SV)
def pairOf(K:Frag)(v:Value):PV:=match oP K v with
 |some (c,[.str x _,w])=>(match oP K w with
  |some (c',l)=>some (c,x,c',l.map (Ig K))
  |none=>none)
 |_=>none
abbrev RV:=Option (Value×List PV)
def BV(K:Frag)(v:Value):RV:=match oP K v with
 |some (c,l)=>some (c,l.map (pairOf K))
 |none=>none
def Dh(K:Frag)(e:DictEntry):Option (Int×Str×RV):=match e.key with
 | .str x _=>some (e.hash,x,BV K e.val)
 |_=>none
abbrev tt:Value:=.type "tuple"
def MQ:MA.Sym->SV
 | .bg (.kind k)=>.i k
 | .bg .row=>.s "@row"
 | .bg .count=>.s "@count"
 | .bg .set=>.s "@set"
 | .bW b=>match b with
  |[c]=>.t1 tt c.toNat
  |_=>.no
 | .turn k=>.t2 tt "@turn" k
 | .take=>.s "@take"
 | .fin=>.s "@end"
 | .w x=>.s (Str.ofString (nS x))
def K_(y:Nat×List MA.Sym):PV:=some (tt,Str.ofString (nS y.1),tt,y.2.map MQ)
def Nv(g:List (Nat×List MA.Sym)):RV:=some (tt,g.map K_)
def DJ(P:Params):Nat->List (List (Nat×List MA.Sym))->List (Option (Int×Str×RV))
 |_,[]=>[]
 |i,g::G=>some (PyData.keyHash P (Str.ofString (nS i)),Str.ofString (nS i),Nv g)::DJ P (i+1) G
def Le(K:Frag)(P:Params):Prop:=∃a es n,PySem.W.nsIn K mainGlobals "RULES"=some (some (.ref a))/\K.lookup a=some ⟨.type "dict",none,.dict es n,#[]⟩/\es.toList.map (Dh K)=DJ P 1000 MA.cM/\(a==sysModules)=false
theorem Ub{K:Frag}{P:Params}{a:Addr}{es:Array DictEntry}{n:Nat}(b:PySem.W.nsIn K mainGlobals "RULES"=some (some (.ref a)))(e:K.lookup a=some ⟨.type "dict",none,.dict es n,#[]⟩)(k:es.toList.map (Dh K)=DJ P 1000 MA.cM)(s:(a==sysModules)=false):Le K P:=⟨a,es,n,b,e,k,s⟩
def OM:MA.Sym->Bool
 | .bg (.kind k)=>Nat.blt k 256
 | .turn k=>Nat.blt k 256
 | .bW b=>Nat.beq b.length 1
 | .w x=>MA.lX x
 |_=>true
theorem JU:(MA.cM.all λg=>Nat.blt g.length 1000&&g.all λy=>MA.lX y.1&&Nat.blt y.2.length 1000&&y.2.all OM)=true:=↑1
section
variable{K:Frag}
theorem jZ{v:Value}{c:Value}{l:List Value}(h:oP K v=some (c,l)):∃(a:Addr)(o:Obj)(its:Array Value)(n:Nat),v= .ref a/\K.lookup a=some o/\o.cls=c/\o.data= .seq its n/\its.toList=l:=by
 unfold oP at h;split at h
 ·rename_i a;split at h
  ·rename_i c0 d its n sl q;injection h with h;injection h with h1 h2;exact⟨a,_,its,n,rfl,q,h1,rfl,h2⟩
  ·cases h
 ·cases h
theorem rE{a:Addr}{o:Obj}{its:Array Value}{n:Nat}{xs:List V}(h1:K.lookup a=some o)(h2:o.cls=tt)(h3:o.data= .seq its n)(h4:Vals xs its.toList)(h5:xs.length<1000):∀H,fN K H a xs:=λH=>.inr ⟨o,its,n,h1,h2,h3,by
 have e:=h4.length;have hs:sizeLine=16777216:=sizeLine_eq;have:its.size=its.toList.length:=rfl;omega,h4⟩
theorem Qi{v:Value}{y:MA.Sym}(hb:OM y=true)(h:Ig K v=MQ y):∃u,RelV u v/\ux K u y:=by
 have key:∀(v:Value)(w:SV),Ig K v=w->(∀n,w= .i n->RelV (.int n) v)/\(∀x,w= .s x->RelV (.str x) v)/\(∀c n,w= .t1 c n->∃a t,v= .ref a/\oP K v=some (c,[.int n t]))/\(∀c x n,w= .t2 c x n->∃a t t',v= .ref a/\oP K v=some (c,[.str x t,.int n t'])):=by
  intro v w h;unfold Ig at h;split at h
  ·subst h;exact⟨λn e=>(by cases e;exact⟨_,rfl⟩),λ_ e=>(by cases e),λ_ _ e=>(by cases e),λ_ _ _ e=>by cases e⟩
  ·subst h;exact⟨λ_ e=>(by cases e),λn e=>(by cases e;exact⟨_,rfl⟩),λ_ _ e=>(by cases e),λ_ _ _ e=>by cases e⟩
  ·split at h
   ·rename_i c n t q;subst h;refine⟨λ_ e=>(by cases e),λ_ e=>(by cases e),λ_ _ e=>?_,λ_ _ _ e=>by cases e⟩;cases e;obtain⟨a,_,_,_,e,_⟩:=jZ q;exact⟨a,t,e,q⟩
   ·rename_i c x t n t' q;subst h;refine⟨λ_ e=>(by cases e),λ_ e=>(by cases e),λ_ _ e=>(by cases e),λ_ _ _ e=>?_⟩;cases e;obtain⟨a,_,_,_,e,_⟩:=jZ q;exact⟨a,t,t',e,q⟩
   ·subst h;exact⟨λ_ e=>(by cases e),λ_ e=>(by cases e),λ_ _ e=>(by cases e),λ_ _ _ e=>by cases e⟩
 obtain⟨k1,k2,k3,k4⟩:=key v _ h
 match y,hb,k1,k2,k3,k4 with
 | .bg (.kind k),hb,k1,_,_,_=>exact⟨_,k1 _ rfl,rfl,Nat.lt_of_lt_of_le (Nat.le_of_ble_eq_true hb) (Nat.le_refl _)⟩
 | .bg .row,_,_,k2,_,_=>exact⟨_,k2 _ rfl,rfl⟩
 | .bg .count,_,_,k2,_,_=>exact⟨_,k2 _ rfl,rfl⟩
 | .bg .set,_,_,k2,_,_=>exact⟨_,k2 _ rfl,rfl⟩
 | .take,_,_,k2,_,_=>exact⟨_,k2 _ rfl,rfl⟩
 | .fin,_,_,k2,_,_=>exact⟨_,k2 _ rfl,rfl⟩
 | .w x,hb,_,k2,_,_=>
  have hv:=MA.cz hb;refine⟨.str (nm x),?_,rfl,hv⟩;rw[<-FX hv];exact k2 _ rfl
 | .turn k,hb,_,_,_,k4=>
  obtain⟨a,t,t',e,q⟩:=k4 _ _ _ rfl;obtain⟨a',o,its,n,e',h1,h2,h3,h4⟩:=jZ q;rw[e] at e';cases e';refine⟨.ref a,e,a,rfl,Nat.lt_of_lt_of_le (Nat.le_of_ble_eq_true hb) (Nat.le_refl _),rE h1 h2 h3 ?_ (by show 2<1000;decide)⟩;rw[h4];exact .cons ⟨_,rfl⟩ (.cons ⟨_,rfl⟩ .nil)
 | .bW [c],hb,_,_,k3,_=>
  obtain⟨a,t,e,q⟩:=k3 _ _ rfl;obtain⟨a',o,its,n,e',h1,h2,h3,h4⟩:=jZ q;rw[e] at e';cases e';refine⟨.ref a,e,a,rfl,rfl,rE h1 h2 h3 ?_ (by show 1<1000;decide)⟩;rw[h4];exact .cons ⟨_,rfl⟩ .nil
 | .bW [],hb,_,_,_,_=>exact absurd hb ↑0
 | .bW (_::_::_),hb,_,_,_,_=>exact absurd (Nat.eq_of_beq_eq_true hb) (by simp)
theorem Hy:∀{vs:List Value}{ys:List MA.Sym},(ys.all OM)=true->vs.map (Ig K)=ys.map MQ->∃us,Vals us vs/\Paired (ux K) us ys
 |[],[],_,_=>⟨[],.nil,.nil⟩
 |[],_::_,_,h=>by cases h
 |_::_,[],_,h=>by cases h
 |v::vs,y::ys,hb,h=>by
  rw[List.all_cons,Bool.and_eq_true] at hb;injection h with h1 h2;obtain⟨u,a1,a2⟩:=Qi hb.1 h1;obtain⟨us,b1,b2⟩:=Hy hb.2 h2;exact⟨u::us,.cons a1 b1,.cons a2 b2⟩
theorem RE{v:Value}{y:Nat×List MA.Sym}(h0:MA.lX y.1=true)(h1:y.2.length<1000)(h2:(y.2.all OM)=true)(h:pairOf K v=K_ y):∃u,RelV u v/\II K u y:=by
 unfold pairOf at h;split at h
 ·rename_i c x t w q;split at h
  ·rename_i c' l q';unfold K_ at h;injection h with h;injection h with e1 h;injection h with e2 h;injection h with e3 e4;obtain⟨a,o,its,n,rfl,a1,a2,a3,a4⟩:=jZ q;obtain⟨b,o',its',n',rfl,b1,b2,b3,b4⟩:=jZ q';obtain⟨us,c1,c2⟩:=Hy h2 e4;refine⟨.ref a,rfl,a,b,us,rfl,rE a1 (a2.trans e1) a3 ?_ (by show 2<1000;decide),rE b1 (b2.trans e3) b3 (by rw[b4];exact c1) (by rw[c2.length];exact h1),c2⟩;rw[a4,e2,FX (MA.cz h0)];exact .cons ⟨_,rfl⟩ (.cons rfl .nil)
  ·cases h
 ·cases h
theorem Gf:∀{vs:List Value}{g:List (Nat×List MA.Sym)},(g.all λy=>MA.lX y.1&&Nat.blt y.2.length 1000&&y.2.all OM)=true->vs.map (pairOf K)=g.map K_->∃us,Vals us vs/\Paired (II K) us g
 |[],[],_,_=>⟨[],.nil,.nil⟩
 |[],_::_,_,h=>by cases h
 |_::_,[],_,h=>by cases h
 |v::vs,y::ys,hb,h=>by
  rw[List.all_cons,Bool.and_eq_true,Bool.and_eq_true,Bool.and_eq_true] at hb;injection h with h1 h2;obtain⟨u,a1,a2⟩:=RE hb.1.1.1 (Nat.lt_of_lt_of_le (Nat.le_of_ble_eq_true hb.1.1.2) (Nat.le_refl _)) hb.1.2 h1;obtain⟨us,b1,b2⟩:=Gf hb.2 h2;exact⟨u::us,.cons a1 b1,.cons a2 b2⟩
theorem Ri{v:Value}{g:List (Nat×List MA.Sym)}(h0:g.length<1000)(h1:(g.all λy=>MA.lX y.1&&Nat.blt y.2.length 1000&&y.2.all OM)=true)(h:BV K v=Nv g):∃u,RelV u v/\IL K u g:=by
 unfold BV at h;split at h
 ·rename_i c l q;unfold Nv at h;injection h with h;injection h with e1 e2;obtain⟨a,o,its,n,rfl,a1,a2,a3,a4⟩:=jZ q;obtain⟨us,c1,c2⟩:=Gf h1 e2;exact⟨.ref a,rfl,a,us,rfl,rE a1 (a2.trans e1) a3 (by rw[a4];exact c1) (by rw[c2.length];exact h0),c2⟩
 ·cases h
theorem CK{P:Params}:∀{es:List DictEntry}{i:Nat}{G:List (List (Nat×List MA.Sym))},(∀m,i<=m->m<i+G.length->m∈VC)->(G.all λg=>Nat.blt g.length 1000&&g.all λy=>MA.lX y.1&&Nat.blt y.2.length 1000&&y.2.all OM)=true->es.map (Dh K)=DJ P i G->∃l,pV P es l/\xD K i l G
 |[],_,[],_,_,_=>⟨[],trivial,trivial⟩
 |[],_,_::_,_,_,h=>by cases h
 |_::_,_,[],_,_,h=>by cases h
 |e::es,i,g::G,hv,hb,h=>by
  rw[List.all_cons,Bool.and_eq_true,Bool.and_eq_true] at hb;injection h with h1 h2;obtain⟨l,b1,b2⟩:=CK (λm a b=>hv m ↑2 (by simp only[List.length_cons];omega)) hb.2 h2;have hi:=FX (hv i (Nat.le_refl _) (by simp only[List.length_cons];omega));unfold Dh at h1;split at h1
  ·rename_i x t q;injection h1 with h1;injection h1 with e1 h1;injection h1 with e2 e3;obtain⟨u,a1,a2⟩:=Ri (Nat.lt_of_lt_of_le (Nat.le_of_ble_eq_true hb.1.1) (Nat.le_refl _)) hb.1.2 e3;rw[hi] at e1 e2;exact⟨(nm i,u)::l,⟨⟨t,by rw[q,e2]⟩,e1,a1,b1⟩,rfl,a2,b2⟩
  ·cases h1
theorem Le.rules{P:Params}{h:Heap}{mg:Str->Option Value}(T:Le K P)(X:K.In h)(G:h.Ns mainGlobals mg):HZ K P mg:=by obtain⟨a,es,n,b,e,k,s⟩:=T;obtain⟨l,h1,h2⟩:=CK CY JU k;exact⟨a,l,PySem.W.mg_of X G b,⟨es,n,e,h1,s⟩,h2⟩
end
end
section
variable{K:Frag}{h:Heap}{mg:Str->Option Value}{nm qual m:Str}{st:Stmt}{f C a:Addr}{oc kV doc pm UT ct:Value}{od an:Option Addr}{osl:Array (Option Value)}{i:Int}{x:Str}{t:PySem.Tok}
def bO(K:Frag)(nm:Str)(st:Stmt):Prop:=∃f fd,PySem.W.nsIn K mainGlobals nm=some (some (.ref f))/\jW K nm nm st f fd
theorem SW(b:PySem.W.nsIn K mainGlobals nm=some (some (.ref f)))(l:K.lookup f=some ⟨oc,od,.func (PySem.W.fnOf nm nm (el st) (bX st) (aq st) .none kV doc pm an UT ct),osl⟩)(c:PySem.W.codeIn K UT nm=true)(k:PySem.W.keepIn K (.ref f)=true):bO K nm st:=⟨f,_,b,sX (st:=st) l c k⟩
def ME(st:Stmt)(nm qual:Str)(ps:List Str):Prop:=∀(kV doc pm:Value)(an:Option Addr)(UT ct:Value)(us:List Value),us.length=ps.length->bindArgs (PySem.W.fnOf nm qual (el st) (bX st) (aq st) .none kV doc pm an UT ct) ⟨us,[]⟩=pure (ps.zip us)
theorem bO.def{ps:List Str}(d:bO K nm st)(X:K.In h)(G:h.Ns mainGlobals mg)(p:ME st nm nm ps):Def K mg nm st ps:=by obtain⟨f,fd,b,F⟩:=d;exact⟨f,fd,F,F.binds p,PySem.W.mg_of X G b⟩
def dC(K:Frag)(nm:Str)(i:Int):Prop:=∃t,PySem.W.nsIn K mainGlobals nm=some (some (.int i t))
theorem Tg(b:PySem.W.nsIn K mainGlobals nm=some (some (.int i t))):dC K nm i:=⟨t,b⟩
theorem dC.gi(d:dC K nm i)(X:K.In h)(G:h.Ns mainGlobals mg):GI mg nm i:=by obtain⟨t,b⟩:=d;exact⟨t,PySem.W.mg_of X G b⟩
def J5(K:Frag)(nm:Str)(x:Str):Prop:=∃t,PySem.W.nsIn K mainGlobals nm=some (some (.str x t))
theorem Tc(b:PySem.W.nsIn K mainGlobals nm=some (some (.str x t))):J5 K nm x:=⟨t,b⟩
theorem J5.gs(d:J5 K nm x)(X:K.In h)(G:h.Ns mainGlobals mg):GS mg nm x:=by obtain⟨t,b⟩:=d;exact⟨t,PySem.W.mg_of X G b⟩
def El(K:Frag)(nm:Str)(l:List V):Prop:=∃a,PySem.W.nsIn K mainGlobals nm=some (some (.ref a))/\∀H,fN K H a l
theorem OX{l:List V}{its:Array Value}{n:Nat}{sl:Array (Option Value)}{dd:Option Addr}(b:PySem.W.nsIn K mainGlobals nm=some (some (.ref a)))(e:K.lookup a=some ⟨.type "tuple",dd,.seq its n,sl⟩)(z:its.size<=sizeLine)(v:Vals l its.toList):El K nm l:=
 ⟨a,b,λH=>.inr ⟨_,its,n,e,rfl,rfl,z,v⟩⟩
theorem El.gt{l:List V}(d:El K nm l)(X:K.In h)(G:h.Ns mainGlobals mg):GT K mg nm l:=by obtain⟨a,b,q⟩:=d;exact⟨a,PySem.W.mg_of X G b,q⟩
def D3(K:Frag)(P:Params)(nm:Str)(l:List Str):Prop:=∃a,PySem.W.nsIn K mainGlobals nm=some (some (.ref a))/\Se K P a l
theorem Ol{P:Params}{l:List Str}{es:Array DictEntry}{n:Nat}(b:PySem.W.nsIn K mainGlobals nm=some (some (.ref a)))(e:K.lookup a=some ⟨.type "dict",none,.dict es n,#[]⟩)(k:oB P es.toList l)(s:(a==sysModules)=false):D3 K P nm l:=⟨a,b,es,n,e,k,s⟩
theorem D3.gd{P:Params}{l:List Str}(d:D3 K P nm l)(X:K.In h)(G:h.Ns mainGlobals mg):GD K P mg nm l:=by obtain⟨a,b,q⟩:=d;exact⟨a,PySem.W.mg_of X G b,q⟩
def HY(K:Frag)(nm:Str)(l:List (Int×Str)):Prop:=∃a,PySem.W.nsIn K mainGlobals nm=some (some (.ref a))/\Sh K a l
theorem QJ{l:List (Int×Str)}{es:Array DictEntry}{n:Nat}(b:PySem.W.nsIn K mainGlobals nm=some (some (.ref a)))(e:K.lookup a=some ⟨.type "dict",none,.dict es n,#[]⟩)(k:o_ es.toList l)(s:(a==sysModules)=false):HY K nm l:=⟨a,b,es,n,e,k,s⟩
theorem HY.gd{l:List (Int×Str)}(d:HY K nm l)(X:K.In h)(G:h.Ns mainGlobals mg):TJ K mg nm l:=by obtain⟨a,b,q⟩:=d;exact⟨a,PySem.W.mg_of X G b,q⟩
def yw(K:Frag)(nm qual:Str)(st:Stmt)(C:Addr):Prop:=PySem.W.nsIn K mainGlobals nm=some (some (.ref C))/\rY K C/\∃f fd,Mk K C f/\jW K "__init__" qual st f fd
theorem TQ(b:PySem.W.nsIn K mainGlobals nm=some (some (.ref C)))(pg:PySem.W.plainGet K C Str.empty=true)(hd:PySem.W.hasDictIn K C=true)(po:PySem.W.plainOver K C=true)(sa:PySem.W.findIn K (.ref C) "__setattr__"=some (some (.builtin "object.__setattr__")))(mk:PySem.W.makesIn K C=true)(kc:PySem.W.keepIn K (.ref C)=true)(b1:PySem.W.findIn K (.ref C) "__init__"=some (some (.ref f)))(i1:PySem.W.isFn K (.ref f)=true)(l:K.lookup f=some ⟨oc,od,.func (PySem.W.fnOf "__init__" qual (el st) (bX st) (aq st) .none kV doc pm an UT ct),osl⟩)(c:PySem.W.codeIn K UT qual=true)(k:PySem.W.keepIn K (.ref f)=true):yw K nm qual st C:=
 ⟨b,⟨pg,hd,po,sa⟩,f,_,⟨mk,b1,i1,kc⟩,sX (st:=st) l c k⟩
theorem yw.D8{ps:List Str}(d:yw K nm qual st C)(X:K.In h)(G:h.Ns mainGlobals mg)(p:ME st "__init__" qual ps):wR K mg nm qual st C ps:=by obtain⟨b,_,f,fd,M,F⟩:=d;exact⟨f,fd,M,F,F.binds p,PySem.W.mg_of X G b⟩
theorem QM(b1:PySem.W.findIn K (.ref C) m=some (some (.ref f)))(i1:PySem.W.isFn K (.ref f)=true)(l:K.lookup f=some ⟨oc,od,.func (PySem.W.fnOf m qual (el st) (bX st) (aq st) .none kV doc pm an UT ct),osl⟩)(c:PySem.W.codeIn K UT qual=true)(k:PySem.W.keepIn K (.ref f)=true):∃f fd,Meth K C m f/\jW K m qual st f fd:=
 ⟨f,_,⟨b1,i1,k⟩,sX (st:=st) l c k⟩
def Kz(K:Frag)(nm qual:Str)(st:Stmt)(C:Addr):Prop:=PySem.W.nsIn K mainGlobals nm=some (some (.ref C))/\sZ K C/\∃f fd,IS K C f/\jW K "__init__" qual st f fd
theorem Ua{nm' q:Str}{N:Addr}{bs bm:List Value}{hdct:Bool}{sn:List Str}{sub:List Value}{ab:Bool}{col:Option Bool}{dd:Option Addr}{k0 k1 k2 k3 k5:Option Value}(b:PySem.W.nsIn K mainGlobals nm=some (some (.ref C)))(sa:PySem.W.findIn K (.ref C) "__setattr__"=some (some (.builtin "object.__setattr__"))){cd0:ClassData}(po:PySem.W.clsIn K C=some cd0)(po2:XM.dO cd0.mro=true)(hd:PySem.W.hasDictIn K C=true)(ga:PySem.W.findIn K (.ref C) "__getattribute__"=some (some (.builtin "BaseException.__getattribute__")))(gt:PySem.W.findIn K (.ref C) "__getattr__"=some none)(su:PySem.W.mroIn K C (.type "BaseException")=some true)(lc:K.lookup C=some (excClassObj nm' q C N bs bm hdct sn sub ab col dd k0 k1 k2 k3 k5 "Exception.__new__"))(ln:XM.Line "Exception" bm)(b1:PySem.W.findIn K (.ref C) "__init__"=some (some (.ref f)))(i1:PySem.W.isFn K (.ref f)=true)(kc:PySem.W.keepIn K (.ref C)=true)(l:K.lookup f=some ⟨oc,od,.func (PySem.W.fnOf "__init__" qual (el st) (bX st) (aq st) .none kV doc pm an UT ct),osl⟩)(c:PySem.W.codeIn K UT qual=true)(k:PySem.W.keepIn K (.ref f)=true):Kz K nm qual st C:=
 ⟨b,⟨sa,⟨cd0,po,po2⟩,hd,ga,gt,su⟩,f,_,⟨⟨_,_,_,_,_,_,_,_,_,_,_,_,_,_,_,_,lc,ln⟩,b1,i1,kc⟩,sX (st:=st) l c k⟩
def RP(K:Frag)(C:Addr):Prop:=PySem.W.nsIn K mainGlobals "Refused"=some (some (.ref C))/\∃f fd,F_ K C "__init__" f/\jW K "__init__" "Refused.__init__" oV f fd
theorem S8(b:PySem.W.nsIn K mainGlobals "Refused"=some (some (.ref C)))(sp:PySem.W.specialIn K (.ref C) "__getattribute__"=some (some (.builtin "type.__getattribute__")))(rd:PySem.W.readsIn K C (.type "type")=true)(at_:PySem.W.findCls K (.ref C) (.type "type") "__init__"=some (.val (.ref f)))(l:K.lookup f=some ⟨oc,od,.func (PySem.W.fnOf "__init__" "Refused.__init__" (el oV) (bX oV) (aq oV) .none kV doc pm an UT ct),osl⟩)(c:PySem.W.codeIn K UT "Refused.__init__"=true)(k:PySem.W.keepIn K (.ref f)=true):RP K C:=⟨b,f,_,⟨sp,rd,at_,k⟩,sX (st:=oV) l c k⟩
end
end TG
namespace TG
open PySem TW
abbrev W0:List Str:=["account","and","as","away","both","break","catch","clear","cut","decimal","double","down","else","error","extended","false","fibre","finally","five","flags"]
abbrev W1:List Str:=["flush","fn","for","fraction","from","giving","half","if","in","inexact","interval","into","invalid","is","leave","let","list","make","match","module"]
abbrev W2:List Str:=["near","nearaway","nearcut","next","not","of","only","or","out","overflow","packed","picture","post","precision","raise","record","resume","return","rounding","say"]
abbrev W3:List Str:=["single","small","spawn","stack","text","then","to","trap","true","truth","try","underflow","up","use","value","while","whole","with","yield","zero"]
theorem ON:W0++(W1++(W2++(W3)))=JN:=↑1
end TG
namespace TG
open PySem PySem.Spec PyProof.Rows L2 TW
variable{P:Program}{w:World}{K:Frag}{mg:Str->Option Value}{base:Heap}
def ji(K:Frag)(C:Addr)(m qual:Str)(st:Stmt):Prop:=∃f fd,Meth K C m f/\jW K m qual st f fd
theorem ji.lI{K:Frag}{C:Addr}{m qual:Str}{st:Stmt}{ps:List Str}(h:ji K C m qual st)(p:ME st m qual ps):dm K C m qual st ps:=by obtain⟨f,fd,M,F⟩:=h;exact⟨f,fd,M,F,F.binds p⟩
structure jy(K:Frag)(P:Params)(CT CN CS CR CL CD CF:Addr):Prop where
 jM:bO K "is_small" (top 10)
 gP:bO K "is_capital" (top 11)
 j_:bO K "is_digit" (top 12)
 fq:bO K "is_printable" (top 13)
 mI:bO K "in_word" (top 14)
 nY:bO K "in_code" (top 15)
 mn:bO K "in_mark" (top 16)
 mz:bO K "byte_at" (top 17)
 mP:bO K "run_end" (top 18)
 cW:bO K "growth_by_clearing" (top 8)
 dc:bO K "growth_by_closing" (top 7)
 qG:bO K "growth" (top 6)
 vX:bO K "depth" (top 5)
 dW:bO K "end_of_fraction" (top 31)
 dN:bO K "end_of_exponent" (top 32)
 gX:bO K "numeral_at" (top 30)
 eN:bO K "mark_is_right" (top 34)
 dQ:bO K "packed_is_right" (top 35)
 dh:bO K "exponent_is_right" (top 36)
 jD:bO K "is_right" (top 33)
 md:bO K "spelled" (top 70)
 nX:bO K "word_at" (top 69)
 nZ:bO K "code_at" (top 71)
 iR:bO K "number_at" (top 72)
 j0:bO K "item_end" (top 74)
 m5:bO K "text_at" (top 73)
 mJ:bO K "sign_at" (top 75)
 j7:bO K "token_at" (top 68)
 fP:bO K "token_place" (top 67)
 Bg:bO K "scan" (top 66)
 fU:bO K "refuse_long" (top 97)
 fm:bO K "scan_shallow" (top 98)
 xr:dC K "POINT" 46
 oa:dC K "SMALL_E" 101
 qe:dC K "MINUS" 45
 w9:dC K "ZERO" 48
 cX:dC K "MOST_PACKED_DIGITS" 31
 cu:dC K "MOST_EXPONENT_DIGITS" 5
 cI:dC K "MOST_BYTES_numerals" 255
 sC:dC K "PACKED" 112
 e_:dC K "KEYWORD" 0
 A5:dC K "NAME" 1
 Be:dC K "CODE" 2
 rb:dC K "NUMBER" 3
 n9:dC K "TEXT" 4
 oq:dC K "SIGN" 5
 dJ:dC K "MOST_NAME_BYTES" 31
 du:dC K "LEAST_CODE_BYTES" 2
 dP:dC K "MOST_CODE_BYTES" 8
 gH:dC K "MOST_ITEMS" 1024
 eg:dC K "LINE_END" 10
 wa:dC K "BLANK" 32
 lE:dC K "QUOTE" 34
 AO:dC K "HASH" 35
 iz:dC K "SEMICOLON" 59
 dv:dC K "BACKSLASH" 92
 eX:dC K "SMALL_N" 110
 dr:dC K "MOST_BYTES_calls" 65536
 gS:dC K "MOST_DEPTH" 100
 c_:PySem.W.nsIn K mainGlobals "len"=some none
 vz:PySem.W.nsIn K mainGlobals "max"=some none
 AB:PySem.W.nsIn K mainGlobals "all"=some none
 yq:PySem.W.nsIn K mainGlobals "range"=some none
 dM:PySem.W.nsIn K mainGlobals "isinstance"=some none
 AL:PySem.W.nsIn K mainGlobals "list"=some none
 DN:PySem.W.nsIn K mainGlobals "int"=some none
 yc:PySem.W.nsIn K mainGlobals "tuple"=some none
 Fu:J5 K "LETTERS" Sf
 Ef:El K "OPENING" (jm.map V.str)
 Em:El K "CLOSING" (gQ.map V.str)
 K8:El K "MARKS" (Px.map V.int)
 Hn:D3 K P "RISING" oE
 A':D3 K P "CLEARING" jX
 B7:D3 K P "KEYWORDS" JN
 Qq:HY K "SIGNS_OF_ONE" Jy
 RJ:HY K "SIGNS_OF_TWO" Jt
 xA:yw K "Token" "Token.__init__" Hq CT
 vy:yw K "Numeral" "Numeral.__init__" Iw CN
 nH:yw K "Scanned" "Scanned.__init__" Lr CS
 Nn:ji K CN "size" "Numeral.size" Gr
 uZ:RP K CR
 Fn:Kz K "TooLong" "TooLong.__init__" MU CL
 Ff:Kz K "TooDeep" "TooDeep.__init__" Mo CD
 i8:Kz K "Fault" "Fault.__init__" Iq CF
 Ad:aE K CT "kind"
 yT:aE K CT "look"
 uH:aE K CT "start"
 DM:aE K CT "end"
 Cb:aE K CN "digits"
 wM:aE K CN "fraction"
 vL:aE K CN "exponent"
 IC:aE K CN "mark"
 uW:aE K CS "found"
 u9:aE K CS "fault"
 yN:aE K CL "numbers"
 yY:aE K CD "numbers"
 pb:aE K CF "numbers"
 Aq:aE K CF "rule"
 vf:aE K CF "place"
 UD:PySem.W.exmOne K (.ref CL) (.ref CR)=some true
 Uv:PySem.W.exmOne K (.ref CD) (.ref CR)=some true
 Us:PySem.W.exmOne K (.ref CF) (.ref CR)=some true
 S9:PySem.W.exmOne K (.ref CF) (.ref CF)=some true
structure nB(K:Frag)(P:Params)(CRd CG CW:Addr):Prop where
 i5:bO K "low_first" (top 81)
 jN:bO K "set_byte" (top 79)
 gE:bO K "item_bytes" (top 84)
 gW:bO K "leaf_bytes" (top 83)
 eL:bO K "rows_by_token" (top 87)
 ye:bO K "parse" (top 90)
 wQ:yw K "Twig" "Twig.__init__" Mt CW
 zc:yw K "Growth" "Growth.__init__" (ni 0) CG
 z9:yw K "Reader" "Reader.__init__" (jK 0) CRd
 yf:ji K CG "begin" "Growth.begin" (ni 1)
 AN:ji K CG "turn" "Growth.turn" (ni 2)
 Iu:ji K CG "put" "Growth.put" (ni 3)
 Bt:ji K CG "take" "Growth.take" (ni 4)
 sG:ji K CG "finish" "Growth.finish" (ni 5)
 xM:ji K CG "grown" "Growth.grown" (ni 6)
 v5:ji K CRd "ahead" "Reader.ahead" (jK 1)
 Ja:ji K CRd "run" "Reader.run" (jK 2)
 AI:ji K CRd "step" "Reader.step" (jK 3)
 Bx:ji K CRd "grow" "Reader.grow" (jK 4)
 A6:ji K CRd "meet" "Reader.meet" (jK 5)
 gI:ji K CRd "pass_token" "Reader.pass_token" (jK 6)
 qz:ji K CRd "refuse" "Reader.refuse" (jK 7)
 Jj:aE K CW "form"
 Eg:aE K CW "parts"
 Et:aE K CW "first"
 B5:aE K CW "behind"
 EC:aE K CG "begun"
 GV:aE K CRd "text"
 As:aE K CRd "scanned"
 BQ:aE K CRd "passed"
 Ik:aE K CRd "rows"
 Bw:aE K CRd "coming"
 BN:aE K CRd "growth"
 ha:PySem.W.findIn K (.ref CW) "__class__"=some (some (.builtin "object.__class__"))
 hn:PySem.W.specialIn K (.builtin "object.__class__") "__get__"=some (some (.builtin "getset_descriptor.__get__"))
 ht:PySem.W.takesIn K (.builtin "object.__class__")=some true
 hm:PySem.W.mroIn K CW (.type "object")=some true
 kl:PySem.W.kitOne K (.type "list") (.ref CW)=some false
 si:PySem.W.kitOne K (.type "str") (.type "int")=some false
 ti:PySem.W.kitOne K (.type "tuple") (.type "int")=some false
 st:PySem.W.kitOne K (.type "str") (.type "tuple")=some false
 tab:Le K P
section
variable{P:Program}{w:World}{K:Frag}{mg:Str->Option Value}{base h:Heap}{CN CR CL CD:Addr}{c:Cs}
theorem FL(T:jy K w.params c.CT CN c.CS CR CL CD c.CF)(X:K.In h)(G:h.Ns mainGlobals mg):Ok P w K mg base (g_ P w) 4 "refuse_long" ["text"] (Nk K CR)/\Ok P w K mg base (g_ P w) 10 "scan_shallow" ["text"] (N7 K c.CS c.CT CR):=by
 have jM:Def K mg "is_small" (top 10) ["byte"]:=T.jM.def X G ↑4;have gP:Def K mg "is_capital" (top 11) ["byte"]:=T.gP.def X G ↑4;have j_:Def K mg "is_digit" (top 12) ["byte"]:=T.j_.def X G ↑4;have fq:Def K mg "is_printable" (top 13) ["byte"]:=T.fq.def X G ↑4;have mI:Def K mg "in_word" (top 14) ["byte"]:=T.mI.def X G ↑4;have nY:Def K mg "in_code" (top 15) ["byte"]:=T.nY.def X G ↑4;have mn:Def K mg "in_mark" (top 16) ["byte"]:=T.mn.def X G ↑4;have mz:Def K mg "byte_at" (top 17) ["text","place"]:=T.mz.def X G ↑5;have mP:Def K mg "run_end" (top 18) ["text","place","fits"]:=T.mP.def X G ↑6;have cW:Def K mg "growth_by_clearing" (top 8) ["numbers"]:=T.cW.def X G ↑4;have dc:Def K mg "growth_by_closing" (top 7) ["numbers","look"]:=T.dc.def X G ↑5;have qG:Def K mg "growth" (top 6) ["numbers","look"]:=T.qG.def X G ↑5;have vX:Def K mg "depth" (top 5) ["found"]:=T.vX.def X G ↑4;have dW:Def K mg "end_of_fraction" (top 31) ["text","place"]:=T.dW.def X G ↑5;have dN:Def K mg "end_of_exponent" (top 32) ["text","place"]:=T.dN.def X G ↑5;have gX:Def K mg "numeral_at" (top 30) ["text","place"]:=T.gX.def X G ↑5;have eN:Def K mg "mark_is_right" (top 34) ["mark"]:=T.eN.def X G ↑4;have dQ:Def K mg "packed_is_right" (top 35) ["numeral"]:=T.dQ.def X G ↑4;have dh:Def K mg "exponent_is_right" (top 36) ["exponent"]:=T.dh.def X G ↑4;have jD:Def K mg "is_right" (top 33) ["numeral"]:=T.jD.def X G ↑4;have md:Def K mg "spelled" (top 70) ["word"]:=T.md.def X G ↑4;have nX:Def K mg "word_at" (top 69) ["text","place"]:=T.nX.def X G ↑5;have nZ:Def K mg "code_at" (top 71) ["text","place"]:=T.nZ.def X G ↑5;have iR:Def K mg "number_at" (top 72) ["text","place"]:=T.iR.def X G ↑5;have j0:Def K mg "item_end" (top 74) ["text","place"]:=T.j0.def X G ↑5;have m5:Def K mg "text_at" (top 73) ["text","place"]:=T.m5.def X G ↑5;have mJ:Def K mg "sign_at" (top 75) ["text","place"]:=T.mJ.def X G ↑5;have j7:Def K mg "token_at" (top 68) ["text","place"]:=T.j7.def X G ↑5;have fP:Def K mg "token_place" (top 67) ["text","place"]:=T.fP.def X G ↑5;have Bg:Def K mg "scan" (top 66) ["text"]:=T.Bg.def X G ↑4;have fU:Def K mg "refuse_long" (top 97) ["text"]:=T.fU.def X G ↑4;have fm:Def K mg "scan_shallow" (top 98) ["text"]:=T.fm.def X G ↑4;have xr:=T.xr.gi X G;have oa:=T.oa.gi X G;have qe:=T.qe.gi X G;have w9:=T.w9.gi X G;have cX:=T.cX.gi X G;have cu:=T.cu.gi X G;have cI:=T.cI.gi X G;have sC:=T.sC.gi X G;have e_:=T.e_.gi X G;have A5:=T.A5.gi X G;have Be:=T.Be.gi X G;have rb:=T.rb.gi X G;have n9:=T.n9.gi X G;have oq:=T.oq.gi X G;have dJ:=T.dJ.gi X G;have du:=T.du.gi X G;have dP:=T.dP.gi X G;have gH:=T.gH.gi X G;have eg:=T.eg.gi X G;have wa:=T.wa.gi X G;have lE:=T.lE.gi X G;have AO:=T.AO.gi X G;have iz:=T.iz.gi X G;have dv:=T.dv.gi X G;have eX:=T.eX.gi X G;have dr:=T.dr.gi X G;have gS:=T.gS.gi X G;have c_:=PySem.W.mg_none_of X G T.c_;have vz:=PySem.W.mg_none_of X G T.vz;have AB:=PySem.W.mg_none_of X G T.AB;have gL:=T.Fu.gs X G;have tO:=T.Ef.gt X G;have tC:=T.Em.gt X G;have tM:=T.K8.gt X G;have kR:=T.Hn.gd X G;have kC:=T.A'.gd X G;have kW:=T.B7.gd X G;have k1:=T.Qq.gd X G;have k2:=T.RJ.gd X G;have TT:wX K c.CT:=⟨T.xA.2.1,T.Ad,T.yT,T.uH,T.DM⟩
 have TN:E8 K CN:=⟨T.vy.2.1,T.Cb,T.wM,T.vL,T.IC⟩
 have TS:yo K c.CS:=⟨T.nH.2.1,T.uW,T.u9⟩
 have nT:EV P w K mg base c.CT:=KR (T.xA.D8 X G ↑7) TT;have nN:va P w K mg base 1 "Numeral" CN ["self","digits","fraction","exponent","mark"] (Bc CN):=K1 (T.vy.D8 X G ↑7) TN;have dS:Pf K mg c.CS:=T.nH.D8 X G ↑6;have mS:jb P w K mg base 1 CN "size" ["self"] (vJ CN):=by
  exact Ka (T.Nn.lI ↑4) TN c_
 have rC:F5 K mg CR:=by
  obtain⟨b,f,fd,M,F⟩:=T.uZ;exact⟨PySem.W.mg_of X G b,f,fd,M,F,F.binds ↑5⟩
 have TF:AV K c.CF:=⟨T.i8.2.1,T.pb,T.Aq,T.vf⟩
 have mf:mg "Fault"=some (.ref c.CF):=PySem.W.mg_of X G T.i8.1;have nF:v7 P w K mg base c.CF:=by
  obtain⟨b,_,f,fd,M,F⟩:=T.i8;exact⟨f,fd,M,HP F rC TF,F.binds ↑6,mf⟩
 have tl:Ry P w K mg base "TooLong" CL CR [-1]:=by
  obtain⟨b,x,f,fd,M,F⟩:=T.Fn;exact⟨⟨f,fd,M,PU F rC,F.binds ↑4,PySem.W.mg_of X G b⟩,x,T.yN,T.UD⟩
 have td:Ry P w K mg base "TooDeep" CD CR [-6]:=by
  obtain⟨b,x,f,fd,M,F⟩:=T.Ff;exact⟨⟨f,fd,M,Rk F rC,F.binds ↑4,PySem.W.mg_of X G b⟩,x,T.yY,T.Uv⟩
 have o1:Ok P w K mg base bj 1 "is_small" ["byte"] (i_ iU):=GJ jM;have o2:Ok P w K mg base bj 1 "is_capital" ["byte"] (i_ t_):=NG gP;have o3:Ok P w K mg base bj 1 "is_digit" ["byte"] (i_ b_):=IA j_;have o4:Ok P w K mg base bj 1 "is_printable" ["byte"] (i_ g8):=Ld fq;have o5:=JK mI o1 o3;have o6:=Ky nY o2 o3;have o7:=Kp mn o5 o2;have ob:Ok P w K mg base bj 1 "byte_at" ["text","place"] (iw K):=Ln mz c_;have orn:Ok P w K mg base bj 4 "run_end" ["text","place","fits"] (lh P w K mg base):=NA mP c_;have oc1:Ok P w K mg base bj 1 "growth_by_clearing" ["numbers"] yH:=NJ cW;have oc2:=MW dc oc1;have og:=Mu qG tO tC kR kC oc2 oc1;have od:=Pb vX TT vz og;have ofr:=Kr dW xr ob o3 orn;have oex:=Ni dN oa qe ob o3 orn;have onu:=OU gX o3 o7 orn ofr oex nN;have omk:Ok P w K mg base bj 1 "mark_is_right" ["mark"] (Co K):=Nr eN tM c_;have opk:Ok P w K mg base bj 1 "packed_is_right" ["numeral"] (Cf CN λd f e _=>ir d f e):=OI dQ TN cX c_;have oer:Ok P w K mg base bj 1 "exponent_is_right" ["exponent"] (wm K):=OB dh qe w9 cu c_;have zD:=NZ jD TN cI sC w9 c_ mS omk opk oer;have osp:=O6 md gL AB o1;have owd:=QK nX o5 orn osp nT nF kW e_ A5 dJ;have ocd:=QE nZ o6 orn nT nF Be du dP;have onr:=Qb iR TN onu zD mS nT nF rb;have oit:=R8 j0 ob o4 nF c_ dv lE eX;have otx:=RC m5 ob oit nT nF c_ n9 lE gH;have osg:=P6 mJ ob nT nF vz oq k1 k2;have ota:=Rb j7 o1 o2 o3 owd ocd onr otx osg lE;have otp:=R1 fP o4 orn c_ AO wa eg iz;have osc:=Kt Bg dS TS TT TF otp ota c_ mf T.S9;have orl:=R4 fU tl c_ dr;have oss:=QX fm TS osc od td gS;exact⟨orl,oss⟩
theorem jy.JA(T:jy K w.params c.CT CN c.CS CR CL CD c.CF)(X:K.In h)(G:h.Ns mainGlobals mg):AV K c.CF/\v7 P w K mg base c.CF/\mg "Refused"=some (.ref CR):=by
 have rC:F5 K mg CR:=by
  obtain⟨b,f,fd,M,F⟩:=T.uZ;exact⟨PySem.W.mg_of X G b,f,fd,M,F,F.binds ↑5⟩
 have TF:AV K c.CF:=⟨T.i8.2.1,T.pb,T.Aq,T.vf⟩
 have mf:mg "Fault"=some (.ref c.CF):=PySem.W.mg_of X G T.i8.1;refine⟨TF,?_,rC.mg⟩;obtain⟨b,_,f,fd,M,F⟩:=T.i8;exact⟨f,fd,M,HP F rC TF,F.binds ↑6,mf⟩
theorem nB.tw(R:nB K w.params c.CR c.CG c.CW):JB K c.CW:=⟨R.wQ.2.1,R.Jj,R.Eg,R.Et,R.B5,R.ha,R.hn,R.ht,R.hm,R.kl⟩
theorem E5(T:jy K w.params c.CT CN c.CS CR CL CD c.CF)(R:nB K w.params c.CR c.CG c.CW)(X:K.In h)(G:h.Ns mainGlobals mg):Ok P w K mg base (g_ P w) 8 "parse" ["text","scanned"] (My K c):=by
 obtain⟨TF,nF,mr⟩:=T.JA (P:=P) (base:=base) X G;have i5:Def K mg "low_first" (top 81) ["number","size"]:=R.i5.def X G ↑5;have jN:Def K mg "set_byte" (top 79) ["bits"]:=R.jN.def X G ↑4;have gE:Def K mg "item_bytes" (top 84) ["items"]:=R.gE.def X G ↑4;have gW:Def K mg "leaf_bytes" (top 83) ["text","token"]:=R.gW.def X G ↑5;have eL:Def K mg "rows_by_token" (top 87) []:=R.eL.def X G (λ_ _ _ _ _ _ us hl=>match us,hl with|[],_=>rfl);have ye:Def K mg "parse" (top 90) ["text","scanned"]:=R.ye.def X G ↑5;have e_:=T.e_.gi X G;have oq:=T.oq.gi X G;have n9:=T.n9.gi X G;have dv:=T.dv.gi X G;have eg:=T.eg.gi X G;have eX:=T.eX.gi X G;have c_:=PySem.W.mg_none_of X G T.c_;have vz:=PySem.W.mg_none_of X G T.vz;have AB:=PySem.W.mg_none_of X G T.AB;have yq:=PySem.W.mg_none_of X G T.yq;have dM:=PySem.W.mg_none_of X G T.dM;have AL:=PySem.W.mg_none_of X G T.AL;have DN:=PySem.W.mg_none_of X G T.DN;have yc:=PySem.W.mg_none_of X G T.yc;have yf:dm K c.CG "begin" "Growth.begin" (ni 1) ["self","form","passed"]:=R.yf.lI ↑6;have AN:dm K c.CG "turn" "Growth.turn" (ni 2) ["self","kind"]:=R.AN.lI ↑5;have Iu:dm K c.CG "put" "Growth.put" (ni 3) ["self","part"]:=R.Iu.lI ↑5;have Bt:dm K c.CG "take" "Growth.take" (ni 4) ["self"]:=R.Bt.lI ↑4;have sG:dm K c.CG "finish" "Growth.finish" (ni 5) ["self","passed"]:=R.sG.lI ↑5;have xM:dm K c.CG "grown" "Growth.grown" (ni 6) ["self"]:=R.xM.lI ↑4;have v5:dm K c.CR "ahead" "Reader.ahead" (jK 1) ["self"]:=R.v5.lI ↑4;have Ja:dm K c.CR "run" "Reader.run" (jK 2) ["self"]:=R.Ja.lI ↑4;have AI:dm K c.CR "step" "Reader.step" (jK 3) ["self","symbol"]:=R.AI.lI ↑5;have Bx:dm K c.CR "grow" "Reader.grow" (jK 4) ["self","symbol"]:=R.Bx.lI ↑5;have A6:dm K c.CR "meet" "Reader.meet" (jK 5) ["self","symbol","look"]:=R.A6.lI ↑6;have gI:dm K c.CR "pass_token" "Reader.pass_token" (jK 6) ["self"]:=R.gI.lI ↑4;have qz:dm K c.CR "refuse" "Reader.refuse" (jK 7) ["self"]:=R.qz.lI ↑4;have TT:wX K c.CT:=⟨T.xA.2.1,T.Ad,T.yT,T.uH,T.DM⟩
 have TS:yo K c.CS:=⟨T.nH.2.1,T.uW,T.u9⟩
 have TW:JB K c.CW:=R.tw;have TG_:FH K c.CG:=⟨R.zc.2.1,R.EC⟩
 have TR:Jv K c.CR:=⟨R.z9.2.1,R.GV,R.As,R.BQ,R.Ik,R.Bw,R.BN⟩
 have kf:NT K:=⟨R.si,R.ti,R.st⟩
 have mT:mg "Twig"=some (.ref c.CW):=PySem.W.mg_of X G R.wQ.1;have nT:va P w K mg base 1 "Twig" c.CW ["self","form","first"] (Dr c.CW):=M_ (R.wQ.D8 X G ↑6) TW;have nG:va P w K mg base 3 "Growth" c.CG ["self"] (N0 c.CG c.CW):=OR (R.zc.D8 X G ↑4) TG_ nT;have olo:Ok P w K mg base bj 1 "low_first" ["number","size"] Ji:=Oi i5 yq;have osb:Ok P w K mg base bj 1 "set_byte" ["bits"] (Nu c.CW):=RU jN;have oib:Ok P w K mg base bj 1 "item_bytes" ["items"] (IQ K):=NK gE c_ dv eg eX;have olf:=Qg gW TT c_ e_ oq n9 oib olo;have orb:Ok P w K mg base bj 1 "rows_by_token" [] (Nc K):=R7 eL (R.tab.rules X G);have obg:=Rz yf TG_ nT;have otu:jb P w K mg base 1 c.CG "turn" ["self","kind"] (O1 c.CG c.CW):=QF AN TG_ TW;have opu:jb P w K mg base 1 c.CG "put" ["self","part"] (Jl c.CG c.CW):=QG Iu TG_ TW;have otk:jb P w K mg base 1 c.CG "take" ["self"] (Je c.CG c.CW):=OA Bt TG_ TW mT dM;have ofi:=QL sG TG_ TW opu osb;have ogn:jb P w K mg base 1 c.CG "grown" ["self"] (OE c.CG c.CW):=RY xM TG_;have orn:∀b,jH P w K mg base 7 c.CR "run" ["self"] (OD K c b):=λb=>by
  have oah:jb P w K mg base 1 c.CR "ahead" ["self"] (NF K c b):=Ql v5 TR TS TT c_;have opt:jb P w K mg base 3 c.CR "pass_token" ["self"] (NW K c b):=P' gI TR TS TT TG_ olf opu;have ore:jH P w K mg base 4 c.CR "refuse" ["self"] (M5 K c b):=RA qz TR TS TT nF c_;have ogw:jb P w K mg base 2 c.CR "grow" ["self","symbol"] (N1 K c b):=Qc Bx TR TG_ AL otu opu;have ome:jH P w K mg base 5 c.CR "meet" ["self","symbol","look"] (M8 K c b):=Qo A6 TR opt ore;have ost:jH P w K mg base 6 c.CR "step" ["self","symbol"] (MG K c b):=QZ AI TR TG_ kf dM DN yc obg ogw otk ofi oah ome;exact P_ Ja TR TG_ c_ ost ogn
 have nR:∀b,va P w K mg base 5 "Reader" c.CR ["self","text","scanned"] (NO K c b):=λb=>Oy (R.z9.D8 X G ↑6) TR orb nG;exact Py ye TR nR orn
end
section
open PySem.W (WData Codec OpenSpec)
section
variable{P:Program}{w:World}{K:Frag}{mg:Str->Option Value}{h:Heap}{CN CR CL CD CRd CG CW CS CT CF:Addr}
structure HV(K:Frag):Prop where
 d1:bO K "scan_allowed" (top 96)
 d2:bO K "parse_allowed" (top 95)
 d3:bO K "nodes_within" (top 80)
 d4:bO K "nodes" (top 94)
theorem Fd{fa:Addr}(X:K.In h)(G:h.Ns mainGlobals mg)(hmg:mg "nodes"=some (.ref fa))(T:jy K w.params CT CN CS CR CL CD CF)(R:nB K w.params CRd CG CW)(N:HV K):
  ∃fd:FuncData,(∀(s:Shared)(us:List Value),us.length=(["text"]:List Str).length->BindsTo s fd ⟨us,[]⟩ ((["text"]:List Str).zip us))/\∀base:Heap,K.In base->base.Ns mainGlobals mg->bY P w K mg base bj 13 fa fd ["text"] (J9 K):=by
 obtain⟨f,fd,b,F⟩:=N.d4;have e:=hmg.symm.trans (PySem.W.mg_of X G b);cases e;refine⟨fd,?_,λbase X' G'=>?_⟩
 ·obtain⟨oc,od,kV,doc,pm,an,UT,ct,osl,rfl,lk,hcd⟩:=F.ex;exact λs us hu=>match us,hu with|[_],_=>.of_eq rfl
 ·obtain⟨TF,nF,mr⟩:=jy.JA (P:=P) (base:=base) (c:=⟨CRd,CG,CW,CS,CT,CF⟩) T X' G';obtain⟨o1,o2⟩:=FL (P:=P) (base:=base) (c:=⟨CRd,CG,CW,CS,CT,CF⟩) T X' G';have o3:=E5 (P:=P) (base:=base) (c:=⟨CRd,CG,CW,CS,CT,CF⟩) T R X' G';have n0:=PySem.W.mg_none_of X' G' T.c_;have o4:=RM (N.d1.def X' G' ↑4) o1 o2;have o5:=Ob (N.d2.def X' G' ↑4) o4 o3;have o6:Ok P w K mg base bj 1 "nodes_within" ["twig"] (NH CW):=P0 (N.d3.def X' G' ↑4) (nB.tw (c:=⟨CRd,CG,CW,CS,CT,CF⟩) R) ⟨R.si,R.ti,R.st⟩ (PySem.W.mg_of X' G' R.wQ.1) n0 (PySem.W.mg_none_of X' G' T.dM) (PySem.W.mg_none_of X' G' T.DN);exact Q_ F TF o5 o6 n0 mr T.Us
end
theorem y0(K:Frag)(H:Hp)(xs:List V)(a:Codec.denoteAll PySem.Challenge.rw_twigtext_s04_nodes.args)(hO:vg H)(hwi:Codec.withinAll PySem.Challenge.rw_twigtext_s04_nodes.args a=true)(hask:Codec.app PySem.Challenge.rw_twigtext_s04_nodes.args PySem.Challenge.rw_twigtext_s04_nodes.asked a=true)(hx:gg K H xs (Codec.encAll PySem.Challenge.rw_twigtext_s04_nodes.args a)):
  J9 K xs H (λv H'=>Dw K H' v (PySem.Challenge.rw_twigtext_s04_nodes.ret.enc (Codec.app PySem.Challenge.rw_twigtext_s04_nodes.args PySem.Challenge.rw_twigtext_s04_nodes.f a))) λ_ _ _=>False:=by
 cases hx with
 |cons h1 h2=>
  cases h2;cases h1 with
  |lst hs ha=>
   have e:=L2.DK a.1 _ ha;subst e;have q:((Codec.inLen 0 66000 a.1&&a.1.all (Codec.inInt 0 255))&&true)=true:=hwi;rw[Bool.and_eq_true,Bool.and_eq_true] at q;have hb:∀n∈a.1,0<=n/\n<=255:=λn hn=>by
    have:=List.all_eq_true.mp q.1.2 n hn;exact Codec.inInt_iff.mp this
   refine⟨_,WrxthhNeutral.text a.1,rfl,?_,λH' p s' hp=>?_⟩
   ·rw[fJ,<-u0 a.1 hb];exact hs
   ·have g:Dw K H' (.ref p) (.list ((MA.xI (WrxthhNeutral.text a.1)).map WData.int)):=.lst (L2.bh.of hp) (L2.DF _);rw[<-MA.JH] at g;exact g
end
end TG
namespace TL
open PySem
section
def t(i:Nat):Stmt:=PySem.Challenge.pw_twigtext_s04_nodes.main.body.getD i (.Pass ⟨0,0,0,0⟩)
set_option compiler.extract_closed false
def l0:Stmt:=t 0
def l1:Stmt:=t 1
def l2:Stmt:=t 2
def l3:Stmt:=t 3
def l4:Stmt:=t 4
def l5:Stmt:=t 5
def l6:Stmt:=t 6
def l7:Stmt:=t 7
def l8:Stmt:=t 8
def l9:Stmt:=t 9
def l10:Stmt:=t 10
def l11:Stmt:=t 11
def l12:Stmt:=t 12
def l13:Stmt:=t 13
def l14:Stmt:=t 14
def l15:Stmt:=t 15
def l16:Stmt:=t 16
def l17:Stmt:=t 17
def l18:Stmt:=t 18
def l19:Stmt:=t 19
def l20:Stmt:=t 20
def l21:Stmt:=t 21
def l22:Stmt:=t 22
def l23:Stmt:=t 23
def l24:Stmt:=t 24
def l25:Stmt:=t 25
def l26:Stmt:=t 26
def l27:Stmt:=t 27
def l28:Stmt:=t 28
def l29:Stmt:=t 29
def l30:Stmt:=t 30
def l31:Stmt:=t 31
def l32:Stmt:=t 32
def l33:Stmt:=t 33
def l34:Stmt:=t 34
def l35:Stmt:=t 35
def l36:Stmt:=t 36
def l37:Stmt:=t 37
def l38:Stmt:=t 38
def l39:Stmt:=t 39
def l40:Stmt:=t 40
def l41:Stmt:=t 41
def l42:Stmt:=t 42
def l43:Stmt:=t 43
def l44:Stmt:=t 44
def l45:Stmt:=t 45
def l46:Stmt:=t 46
def l47:Stmt:=t 47
def l48:Stmt:=t 48
def l49:Stmt:=t 49
def l50:Stmt:=t 50
def l51:Stmt:=t 51
def l52:Stmt:=t 52
def l53:Stmt:=t 53
def l54:Stmt:=t 54
def l55:Stmt:=t 55
def l56:Stmt:=t 56
def l57:Stmt:=t 57
def l58:Stmt:=t 58
def l59:Stmt:=t 59
def l60:Stmt:=t 60
def l61:Stmt:=t 61
def l62:Stmt:=t 62
def l63:Stmt:=t 63
def l64:Stmt:=t 64
def l65:Stmt:=t 65
def l66:Stmt:=t 66
def l67:Stmt:=t 67
def l68:Stmt:=t 68
def l69:Stmt:=t 69
def l70:Stmt:=t 70
def l71:Stmt:=t 71
def l72:Stmt:=t 72
def l73:Stmt:=t 73
def l74:Stmt:=t 74
def l75:Stmt:=t 75
def l76:Stmt:=t 76
def l77:Stmt:=t 77
def l78:Stmt:=t 78
def l79:Stmt:=t 79
def l80:Stmt:=t 80
def l81:Stmt:=t 81
def l82:Stmt:=t 82
def l83:Stmt:=t 83
def l84:Stmt:=t 84
def l85:Stmt:=t 85
def l86:Stmt:=t 86
def l87:Stmt:=t 87
def l88:Stmt:=t 88
def l89:Stmt:=t 89
def l90:Stmt:=t 90
def l91:Stmt:=t 91
def l92:Stmt:=t 92
def l93:Stmt:=t 93
def l94:Stmt:=t 94
def l95:Stmt:=t 95
def l96:Stmt:=t 96
def l97:Stmt:=t 97
def l98:Stmt:=t 98
def lS:Scope:=PySem.Challenge.pw_twigtext_s04_nodes.main.scope
def lG:Given:=PySem.Challenge.pw_twigtext_s04_nodes.given
def prog:Program:={main:={body:=[l0,l1,l2,l3,l4,l5,l6,l7,l8,l9,l10,l11,l12,l13,l14,l15,l16,l17,l18,l19,l20,l21,l22,l23,l24,l25,l26,l27,l28,l29,l30,l31,l32,l33,l34,l35,l36,l37,l38,l39,l40,l41,l42,l43,l44,l45,l46,l47,l48,l49,l50,l51,l52,l53,l54,l55,l56,l57,l58,l59,l60,l61,l62,l63,l64,l65,l66,l67,l68,l69,l70,l71,l72,l73,l74,l75,l76,l77,l78,l79,l80,l81,l82,l83,l84,l85,l86,l87,l88,l89,l90,l91,l92,l93,l94,l95,l96,l97,l98],scope:=lS,futureAnnotations:=false,file:="/claim/cut.py",more:=[]},modules:=[],parses:=[],absent:=[],harvested:=[],given:=lG}
theorem prog_eq:PySem.Challenge.pw_twigtext_s04_nodes=prog:=rfl
def row:PySem.W.OpenSpec:=PySem.W.OpenSpec.mk prog PySem.Challenge.nm_twigtext_s04_nodes PySem.Challenge.fa_twigtext_s04_nodes PySem.Challenge.fr_twigtext_s04_nodes PySem.Challenge.as_twigtext_s04_nodes PyWrxthh.nodes
theorem row_eq:PySem.Challenge.rw_twigtext_s04_nodes=row:=rfl
end
end TL
open Lean in
local macro_rules|`(#check 0)=>return mkNullNode (←(`PySem.Challenge.pw_twigtext_s04_nodes::`TL.t::("heap_1"::(List.range 1799).map λi=>s!"o_{i+1}").map (Name.str `PySem.Challenge.cw_twigtext_s04_nodes_holds)).toArray.mapM λs=>let i:=mkIdent (.str `PySem.W.Fast s!"te{s.hash}");`(theorem $i:ident:True:=trivial))
#check 0
open PySem PySem.W PyProof.Rows
local macro_rules
 |`(tactic|sleep 1)=>`(tactic|as_aux_lemma=>(refine' TG.SW ?a ?l ?c ?k;(case a=>k_is);(case l=>k_is);(case c=>k_is);(case k=>k_is)))
 |`(tactic|sleep 2)=>`(tactic|as_aux_lemma=>(refine' TG.Tg ?a;(case a=>k_is)))
 |`(tactic|sleep 3)=>`(tactic|as_aux_lemma=>(refine' TG.Tc ?a;(case a=>k_is)))
 |`(tactic|sleep 4)=>`(tactic|(refine' TG.TQ ?b ?pg ?hd ?po ?sa ?mk ?kc ?b1 ?i1 ?l ?c ?k;(case b=>k_is);(case pg=>k_is);(case hd=>k_is);(case po=>k_is);(case sa=>k_is);(case mk=>k_is);(case kc=>k_is);(case b1=>k_is);(case i1=>k_is);(case l=>k_is);(case c=>k_is);(case k=>k_is)))
 |`(tactic|sleep 5)=>`(tactic|(refine' TG.Ua ?b ?sa ?po ?po2 ?hd ?ga ?gt ?su ?lc ?ln ?b1 ?i1 ?kc ?l ?c ?k;(case b=>k_is);(case sa=>k_is);(case po=>k_is);(case po2=>decide +kernel);(case hd=>k_is);(case ga=>k_is);(case gt=>k_is);(case su=>k_is);(case lc=>k_is);(case ln=>exact ⟨by decide +kernel,by decide +kernel,by decide +kernel,by decide +kernel⟩);(case b1=>k_is);(case i1=>k_is);(case kc=>k_is);(case l=>k_is);(case c=>k_is);(case k=>k_is)))
 |`(tactic|sleep 6)=>`(tactic|(refine' TG.S8 ?b ?sp ?rd ?z ?l ?c ?k;(case b=>k_is);(case sp=>k_is);(case rd=>k_is);(case z=>k_is);(case l=>k_is);(case c=>k_is);(case k=>k_is)))
 |`(tactic|sleep 7)=>`(tactic|as_aux_lemma=>(refine' TG.QM ?b1 ?i1 ?l ?c ?k;(case b1=>k_is);(case i1=>k_is);(case l=>k_is);(case c=>k_is);(case k=>k_is)))
 |`(tactic|sleep 8)=>`(tactic|as_aux_lemma=>(show PySem.W.findIn _ _ _=_;k_is))
 |`(tactic|o_headS ($f $K $a $e))=>`(tactic|o_headS (HK.hk $K ⟨$a,$e,by kernel_rfl⟩))
set_option maxRecDepth 100000 in
set_option maxHeartbeats 0 in
theorem PySem.Challenge.cw_twigtext_s04_nodes_holds : PySem.Challenge.rw_twigtext_s04_nodes.Holds := by
  rw [TL.row_eq]; w_on; k_headS; (case hw => exact ⟨[.list []], by decide +kernel, by decide +kernel⟩)
  k_fillS
  refine L2.Ce (r := TL.row) (k := 13) (CX := L2.bj) (ps := ["text"]) (sp := TG.J9) (by decide +kernel) rfl rfl ⟨rfl, by decide, by decide⟩ (fun w h Y => HK.hk_in Y) ?F ?S (fun _ _ _ _ z => z)
  case F =>
    intro w mg fa h Y KX G hmg
    refine' TG.Fd KX G hmg ?t ?r ?d
    case t =>
      refine' TG.jy.mk ..
      rotate_left 7
      iterate 32 sleep 1
      iterate 27 sleep 2
      iterate 8 (as_aux_lemma=>k_is)
      sleep 3
      (as_aux_lemma=>(refine' TG.OX ?a1 ?e1 ?z1 ?v1;(case a1=>k_is);(case e1=>k_is);(case z1=>decide);(case v1=>exact (.cons ⟨_,rfl⟩ (.cons ⟨_,rfl⟩ (.cons ⟨_,rfl⟩ .nil))))))
      (as_aux_lemma=>(refine' TG.OX ?a2 ?e2 ?z2 ?v2;(case a2=>k_is);(case e2=>k_is);(case z2=>decide);(case v2=>exact (.cons ⟨_,rfl⟩ (.cons ⟨_,rfl⟩ (.cons ⟨_,rfl⟩ .nil))))))
      (as_aux_lemma=>(refine' TG.OX ?a3 ?e3 ?z3 ?v3;(case a3=>k_is);(case e3=>k_is);(case z3=>decide);(case v3=>exact (.cons ⟨_,rfl⟩ (.cons ⟨_,rfl⟩ (.cons ⟨_,rfl⟩ (.cons ⟨_,rfl⟩ (.cons ⟨_,rfl⟩ (.cons ⟨_,rfl⟩ (.cons ⟨_,rfl⟩ .nil))))))))))
      (as_aux_lemma=>(refine' TG.Ol ?a4 ?e4 ?kk4 ?ss4;(case a4=>k_is);(case e4=>k_is);(case ss4=>decide);(case kk4=>exact ⟨⟨_,rfl⟩,rfl,⟨⟨_,rfl⟩,rfl,⟨⟨_,rfl⟩,rfl,⟨⟨_,rfl⟩,rfl,⟨⟨_,rfl⟩,rfl,⟨⟨_,rfl⟩,rfl,⟨⟨_,rfl⟩,rfl,⟨⟨_,rfl⟩,rfl,⟨⟨_,rfl⟩,rfl,⟨⟨_,rfl⟩,rfl,⟨⟨_,rfl⟩,rfl,⟨⟨_,rfl⟩,rfl,⟨⟨_,rfl⟩,rfl,⟨⟨_,rfl⟩,rfl,⟨⟨_,rfl⟩,rfl,⟨⟨_,rfl⟩,rfl,⟨⟨_,rfl⟩,rfl,⟨⟨_,rfl⟩,rfl,⟨⟨_,rfl⟩,rfl,⟨⟨_,rfl⟩,rfl,⟨⟨_,rfl⟩,rfl,⟨⟨_,rfl⟩,rfl,⟨⟨_,rfl⟩,rfl,⟨⟨_,rfl⟩,rfl,⟨⟨_,rfl⟩,rfl,trivial⟩⟩⟩⟩⟩⟩⟩⟩⟩⟩⟩⟩⟩⟩⟩⟩⟩⟩⟩⟩⟩⟩⟩⟩⟩)))
      (as_aux_lemma=>(refine' TG.Ol ?a5 ?e5 ?kk5 ?ss5;(case a5=>k_is);(case e5=>k_is);(case ss5=>decide);(case kk5=>exact ⟨⟨_,rfl⟩,rfl,⟨⟨_,rfl⟩,rfl,⟨⟨_,rfl⟩,rfl,⟨⟨_,rfl⟩,rfl,⟨⟨_,rfl⟩,rfl,⟨⟨_,rfl⟩,rfl,⟨⟨_,rfl⟩,rfl,⟨⟨_,rfl⟩,rfl,⟨⟨_,rfl⟩,rfl,⟨⟨_,rfl⟩,rfl,⟨⟨_,rfl⟩,rfl,⟨⟨_,rfl⟩,rfl,⟨⟨_,rfl⟩,rfl,⟨⟨_,rfl⟩,rfl,⟨⟨_,rfl⟩,rfl,⟨⟨_,rfl⟩,rfl,⟨⟨_,rfl⟩,rfl,⟨⟨_,rfl⟩,rfl,⟨⟨_,rfl⟩,rfl,⟨⟨_,rfl⟩,rfl,⟨⟨_,rfl⟩,rfl,⟨⟨_,rfl⟩,rfl,⟨⟨_,rfl⟩,rfl,trivial⟩⟩⟩⟩⟩⟩⟩⟩⟩⟩⟩⟩⟩⟩⟩⟩⟩⟩⟩⟩⟩⟩⟩)))
      (as_aux_lemma=>(refine' TG.Ol ?a6 ?e6 ?kk6 ?ss6;(case a6=>k_is);(case e6=>k_is);(case ss6=>decide);(case kk6=>(rw [← TG.ON];exact ⟨⟨_,rfl⟩,rfl,⟨⟨_,rfl⟩,rfl,⟨⟨_,rfl⟩,rfl,⟨⟨_,rfl⟩,rfl,⟨⟨_,rfl⟩,rfl,⟨⟨_,rfl⟩,rfl,⟨⟨_,rfl⟩,rfl,⟨⟨_,rfl⟩,rfl,⟨⟨_,rfl⟩,rfl,⟨⟨_,rfl⟩,rfl,⟨⟨_,rfl⟩,rfl,⟨⟨_,rfl⟩,rfl,⟨⟨_,rfl⟩,rfl,⟨⟨_,rfl⟩,rfl,⟨⟨_,rfl⟩,rfl,⟨⟨_,rfl⟩,rfl,⟨⟨_,rfl⟩,rfl,⟨⟨_,rfl⟩,rfl,⟨⟨_,rfl⟩,rfl,⟨⟨_,rfl⟩,rfl,⟨⟨_,rfl⟩,rfl,⟨⟨_,rfl⟩,rfl,⟨⟨_,rfl⟩,rfl,⟨⟨_,rfl⟩,rfl,⟨⟨_,rfl⟩,rfl,⟨⟨_,rfl⟩,rfl,⟨⟨_,rfl⟩,rfl,⟨⟨_,rfl⟩,rfl,⟨⟨_,rfl⟩,rfl,⟨⟨_,rfl⟩,rfl,⟨⟨_,rfl⟩,rfl,⟨⟨_,rfl⟩,rfl,⟨⟨_,rfl⟩,rfl,⟨⟨_,rfl⟩,rfl,⟨⟨_,rfl⟩,rfl,⟨⟨_,rfl⟩,rfl,⟨⟨_,rfl⟩,rfl,⟨⟨_,rfl⟩,rfl,⟨⟨_,rfl⟩,rfl,⟨⟨_,rfl⟩,rfl,⟨⟨_,rfl⟩,rfl,⟨⟨_,rfl⟩,rfl,⟨⟨_,rfl⟩,rfl,⟨⟨_,rfl⟩,rfl,⟨⟨_,rfl⟩,rfl,⟨⟨_,rfl⟩,rfl,⟨⟨_,rfl⟩,rfl,⟨⟨_,rfl⟩,rfl,⟨⟨_,rfl⟩,rfl,⟨⟨_,rfl⟩,rfl,⟨⟨_,rfl⟩,rfl,⟨⟨_,rfl⟩,rfl,⟨⟨_,rfl⟩,rfl,⟨⟨_,rfl⟩,rfl,⟨⟨_,rfl⟩,rfl,⟨⟨_,rfl⟩,rfl,⟨⟨_,rfl⟩,rfl,⟨⟨_,rfl⟩,rfl,⟨⟨_,rfl⟩,rfl,⟨⟨_,rfl⟩,rfl,⟨⟨_,rfl⟩,rfl,⟨⟨_,rfl⟩,rfl,⟨⟨_,rfl⟩,rfl,⟨⟨_,rfl⟩,rfl,⟨⟨_,rfl⟩,rfl,⟨⟨_,rfl⟩,rfl,⟨⟨_,rfl⟩,rfl,⟨⟨_,rfl⟩,rfl,⟨⟨_,rfl⟩,rfl,⟨⟨_,rfl⟩,rfl,⟨⟨_,rfl⟩,rfl,⟨⟨_,rfl⟩,rfl,⟨⟨_,rfl⟩,rfl,⟨⟨_,rfl⟩,rfl,⟨⟨_,rfl⟩,rfl,⟨⟨_,rfl⟩,rfl,⟨⟨_,rfl⟩,rfl,⟨⟨_,rfl⟩,rfl,⟨⟨_,rfl⟩,rfl,⟨⟨_,rfl⟩,rfl,trivial⟩⟩⟩⟩⟩⟩⟩⟩⟩⟩⟩⟩⟩⟩⟩⟩⟩⟩⟩⟩⟩⟩⟩⟩⟩⟩⟩⟩⟩⟩⟩⟩⟩⟩⟩⟩⟩⟩⟩⟩⟩⟩⟩⟩⟩⟩⟩⟩⟩⟩⟩⟩⟩⟩⟩⟩⟩⟩⟩⟩⟩⟩⟩⟩⟩⟩⟩⟩⟩⟩⟩⟩⟩⟩⟩⟩⟩⟩⟩⟩))))
      (as_aux_lemma=>(refine' TG.QJ ?a7 ?e7 ?kk7 ?ss7;(case a7=>k_is);(case e7=>k_is);(case ss7=>decide);(case kk7=>exact ⟨⟨_,rfl⟩,rfl,⟨_,rfl⟩,⟨⟨_,rfl⟩,rfl,⟨_,rfl⟩,⟨⟨_,rfl⟩,rfl,⟨_,rfl⟩,⟨⟨_,rfl⟩,rfl,⟨_,rfl⟩,⟨⟨_,rfl⟩,rfl,⟨_,rfl⟩,⟨⟨_,rfl⟩,rfl,⟨_,rfl⟩,⟨⟨_,rfl⟩,rfl,⟨_,rfl⟩,⟨⟨_,rfl⟩,rfl,⟨_,rfl⟩,⟨⟨_,rfl⟩,rfl,⟨_,rfl⟩,⟨⟨_,rfl⟩,rfl,⟨_,rfl⟩,⟨⟨_,rfl⟩,rfl,⟨_,rfl⟩,⟨⟨_,rfl⟩,rfl,⟨_,rfl⟩,⟨⟨_,rfl⟩,rfl,⟨_,rfl⟩,⟨⟨_,rfl⟩,rfl,⟨_,rfl⟩,⟨⟨_,rfl⟩,rfl,⟨_,rfl⟩,⟨⟨_,rfl⟩,rfl,⟨_,rfl⟩,⟨⟨_,rfl⟩,rfl,⟨_,rfl⟩,⟨⟨_,rfl⟩,rfl,⟨_,rfl⟩,trivial⟩⟩⟩⟩⟩⟩⟩⟩⟩⟩⟩⟩⟩⟩⟩⟩⟩⟩)))
      (as_aux_lemma=>(refine' TG.QJ ?a8 ?e8 ?kk8 ?ss8;(case a8=>k_is);(case e8=>k_is);(case ss8=>decide);(case kk8=>exact ⟨⟨_,rfl⟩,rfl,⟨_,rfl⟩,⟨⟨_,rfl⟩,rfl,⟨_,rfl⟩,⟨⟨_,rfl⟩,rfl,⟨_,rfl⟩,⟨⟨_,rfl⟩,rfl,⟨_,rfl⟩,⟨⟨_,rfl⟩,rfl,⟨_,rfl⟩,⟨⟨_,rfl⟩,rfl,⟨_,rfl⟩,⟨⟨_,rfl⟩,rfl,⟨_,rfl⟩,trivial⟩⟩⟩⟩⟩⟩⟩)))
      iterate 3 sleep 4
      sleep 7
      sleep 6
      iterate 3 sleep 5
      iterate 15 sleep 8
      iterate 4 (as_aux_lemma=>kts_exm)
    case r =>
      refine' TG.nB.mk ..
      rotate_left 3
      iterate 6 sleep 1
      iterate 3 sleep 4
      iterate 13 sleep 7
      iterate 11 sleep 8
      iterate 4 (as_aux_lemma=>k_is)
      iterate 4 (as_aux_lemma=>kit_is)
      (as_aux_lemma=>(refine' TG.Ub ?a9 ?e9 ?k9 ?s9;(case a9=>k_is);(case e9=>k_is);(case k9=>kernel_rfl);(case s9=>decide)))
    case d =>
      refine' TG.HV.mk ..
      iterate 4 sleep 1
  case S => exact fun K H xs a h1 h2 h3 h4 => TG.y0 K H xs a h1 h2 h3 h4
end
