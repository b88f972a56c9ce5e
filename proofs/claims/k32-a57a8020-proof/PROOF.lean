import PyProof.Rows.All
import Wide.All
import OpenK.AllK
import Wide.FinOn
import Lean
import PyProof.EqAt
import PyProof.EqKinds
import PyProof.TupleCall
import PyProof.CompFree
import PyProof.P3In
import PyProof.RaisesMany
import PyProof.StationsW
import PyProof.ExcClass3
import PyProof.ExcBaseAll.ValueError
import PyProof.RulesTry
import PyProof.RulesAs
import PyProof.NsDelKeeps
import KE.KTryMore
import PyProof.ExcArgs
import KE.RegKIsAll
import PyProof.Rows.EqDataRows
import KE.KIntText
import KE.KDictOf
import PyProof.StrBlockH
import KE.KWords
import PyProof.CallStr
import PyProof.StrLawsTight
import PyProof.StrLawsChain
import PySem.Challenge.RW_twotimes_k32_all_when_who
set_option Elab.async false
set_option linter.all false
set_option maxRecDepth 100000
abbrev Fg:=PySem.W.Frag
namespace PySem.W.Fast
def tw18056272042480235036:=0
def tw2916411333772868638:=0
def tw2362960491715695922:=0
def tw1261188191638089244:=0
def tw14457768375685377639:=0
def tw15493442764559996985:=0
def tw17579462110652696685:=0
def tw17303689825226533765:=0
def tw952514729110884958:=0
def tw9209647895929260742:=0
def tw13567004344992423377:=0
def tw6291055827716399714:=0
def tw2577001286922986990:=0
def tw3284416145398311836:=0
def tw14605158372025209222:=0
def tw17381891380067922577:=0
def tw14473348441159194466:=0
def tw983886825798553772:=0
def tw2292990322679473709:=0
def tw6704922782917827844:=0
def tw15329160974899543952:=0
def tw16718124388343127039:=0
def tw12981177369165396622:=0
def tw15455706086973619112:=0
def tw15679355720163786755:=0
end PySem.W.Fast
namespace L2
open PySem PySem.Spec PyProof.Rows
abbrev Key:=Sum Int Str
def a9n:Key->Value->Bool
 | .inl k,v=>Value.isInt k v
 | .inr x,v=>Value.isStrOf x v
def keyH (w:World):Key->Int
 | .inl k=>hashInt k
 | .inr x=>hashStr w x
theorem a0O:∀ {k:Key}{v:Value},a9n k v=true->(∃ i t,k=Sum.inl i/\v=Value.int i t)\/(∃ x t,k=Sum.inr x/\v=Value.str x t)
 | .inl i,v,h=>by
  obtain⟨t,e⟩:=Value.isInt_shape (k:=i) (v:=v) h;exact .inl ⟨i,t,rfl,e⟩
 | .inr x,v,h=>by
  obtain⟨t,e⟩:=Value.isStrOf_shape (x:=x) (v:=v) h;exact .inr ⟨x,t,rfl,e⟩
theorem a95 (i:Int) (t:Tok):a9n (.inl i) (.int i t)=true:=by simp[a9n,Value.isInt]
theorem a96 (x:Str) (t:Tok):a9n (.inr x) (.str x t)=true:=by simp[a9n,Value.isStrOf]
theorem b5x (a b:Int):decide ((Sum.inl a:Key)=Sum.inl b)=(a==b):=by
 by_cases e:a=b
 ·subst e;simp
 ·have h:¬ (Sum.inl a:Key)=Sum.inl b:=fun q=>e (Sum.inl.inj q);rw[decide_eq_false h];exact (beq_eq_false_iff_ne.mpr e).symm
theorem b5y (a b:Str):decide ((Sum.inr a:Key)=Sum.inr b)=decide (a=b):=by
 by_cases e:a=b
 ·subst e;simp
 ·have h:¬ (Sum.inr a:Key)=Sum.inr b:=fun q=>e (Sum.inr.inj q);rw[decide_eq_false h,decide_eq_false e]
theorem b5z (a:Int) (b:Str):decide ((Sum.inl a:Key)=Sum.inr b)=false:=decide_eq_false (fun q=>nomatch q)
theorem b5A (a:Str) (b:Int):decide ((Sum.inr a:Key)=Sum.inl b)=false:=decide_eq_false (fun q=>nomatch q)
def a0K (prog:Program) (w:World):PySem.KeyKind prog w Key where
 is:=a9n
 hash:=keyH w
 inj:=fun v a b ha hb=>by
  rcases a0O ha with ⟨i,t,rfl,rfl⟩ | ⟨x,t,rfl,rfl⟩
  ·rcases a0O hb with ⟨j,u,rfl,e⟩ | ⟨y,u,rfl,e⟩
   ·injection e with e1 _;rw[e1]
   ·exact nomatch e
  ·rcases a0O hb with ⟨j,u,rfl,e⟩ | ⟨y,u,rfl,e⟩
   ·exact nomatch e
   ·injection e with e1 _;rw[e1]
 byValue:=fun k v h=>by
  rcases a0O h with ⟨i,t,rfl,rfl⟩ | ⟨x,t,rfl,rfl⟩<;>rfl
 pyHash:=fun hv h=>by
  rcases a0O hv with ⟨i,t,rfl,rfl⟩ | ⟨x,t,rfl,rfl⟩
  ·exact wpAny_pyHash_int h
  ·exact wpAny_pyHash_str h
 eqBool:=fun hu hv h=>by
  rcases a0O hu with ⟨i,t,rfl,rfl⟩ | ⟨x,t,rfl,rfl⟩
  ·rcases a0O hv with ⟨j,u,rfl,rfl⟩ | ⟨y,u,rfl,rfl⟩
   ·rw[b5x]at h;exact wpAny_eqBool_int h
   ·rw[b5z]at h;exact SeqAt.EqAt.int_str i t y u _ _ _ _ h
  ·rcases a0O hv with ⟨j,u,rfl,rfl⟩ | ⟨y,u,rfl,rfl⟩
   ·rw[b5A]at h;exact SeqAt.EqAt.str_int x t j u _ _ _ _ h
   ·rw[b5y]at h;exact wpAny_eqBool_str h
 «strs»:=fun k x t v h=>by
  rcases a0O h with ⟨i,u,rfl,e⟩ | ⟨y,u,rfl,e⟩
  ·exact nomatch e
  ·injection e with e1 _
   subst e1;cases v<;>rfl
theorem a7M (prog:Program) (w:World) (i:Int) (t:Tok):(a0K prog w).is (.inl i) (.int i t)=true:=a95 i t
theorem a7N (prog:Program) (w:World) (x:Str) (t:Tok):(a0K prog w).is (.inr x) (.str x t)=true:=a96 x t
end L2
namespace L2
open PySem PySem.Spec PyProof.Rows
inductive V where
 | non | bl (b:Bool) | int (i:Int) | str (x:Str) | byt (b:Array UInt8) | flt (b:UInt64) | ref (a:Addr) | ty (n:String)
 deriving DecidableEq
def RelV:V->Value->Prop
 | .non,u=>u=Value.none
 | .bl b,u=>u=Value.bool b
 | .int i,u=>∃ t,u=Value.int i t
 | .str x,u=>∃ t,u=Value.str x t
 | .byt b,u=>∃ t,u=Value.bytes b t
 | .flt b,u=>∃ t,u=Value.float b t
 | .ref a,u=>u=Value.ref a
 | .ty n,u=>u=Value.type n
abbrev Vals:List V->List Value->Prop:=Paired RelV
theorem Vals.length {xs:List V}{us:List Value}(r:Vals xs us):xs.length=us.length:=Paired.length r
theorem Vals.get:∀ {xs:List V}{us:List Value}{i:Nat}{x:V},Vals xs us->xs[i]?=some x->∃ u,us[i]?=some u/\RelV x u
 | _,_,_,_,.nil,e=>by simp at e
 | _,_,0,_,.cons r _,e=>by simp at e;subst e;exact⟨_,rfl,r⟩
 | _,_,i+1,x,.cons _ t,e=>by
  obtain⟨u,h1,h2⟩:=Vals.get (i:=i) (x:=x) t (by simpa using e);exact⟨u,by simpa using h1,h2⟩
theorem Vals.set {x:V}{u:Value}(r:RelV x u):∀ {xs:List V}{us:List Value}(i:Nat),Vals xs us->Vals (xs.set i x) (us.set i u)
 | _,_,_,.nil=>.nil
 | _,_,0,.cons _ t=>.cons r t
 | _,_,i+1,.cons q t=>.cons q (Vals.set r i t)
theorem Vals.append:∀ {xs ys:List V}{us ws:List Value},Vals xs us->Vals ys ws->Vals (xs++ys) (us++ws)
 | _,_,_,_,.nil,s=>s
 | _,_,_,_,.cons r t,s=>.cons r (Vals.append t s)
theorem Vals.take:∀ {xs:List V}{us:List Value}(n:Nat),Vals xs us->Vals (xs.take n) (us.take n)
 | _,_,0,_=>.nil
 | _,_,_+1,.nil=>.nil
 | _,_,n+1,.cons r t=>.cons r (Vals.take n t)
theorem Vals.drop:∀ {xs:List V}{us:List Value}(n:Nat),Vals xs us->Vals (xs.drop n) (us.drop n)
 | _,_,0,r=>r
 | _,_,_+1,.nil=>.nil
 | _,_,n+1,.cons _ t=>Vals.drop n t
theorem Vals.none_of:∀ {xs:List V}{us:List Value}{i:Nat},Vals xs us->xs[i]?=none->us[i]?=none:=fun {xs us i} r e=>by
 have h1:=r.length;have h2:xs.length≤i:=List.getElem?_eq_none_iff.mp e;exact List.getElem?_eq_none_iff.mpr (by omega)
def RelO:Option V->Option Value->Prop
 | some v,some u=>RelV v u
 | none,none=>True
 | _,_=>False
def KV {κ:Type}:List (κ×V)->List (κ×Value)->Prop:=Paired fun (p:κ×V) (q:κ×Value)=>p.1=q.1/\RelV p.2 q.2
def kV:Key->V
 | .inl i=>.int i
 | .inr x=>.str x
inductive HO where
 /-- a list -/
 | lst (xs:List V)
 /-- a tuple (never changes) -/
 | tup (xs:List V)
 /-- a dict whose keys are ints and texts;one whose keys are tuples of ints and texts (the empty one is both) -/
 | dK (kvs:List (Key×V)) | dT (kvs:List (List Key×V))
 /-- a set of ints: its members,its size -/
 | set (S:Int->Bool) (n:Nat)
 /-- an instance of the class at C,its dict at dx,its attributes -/
 | ins (C dx:Addr) (fs:List (Str×V))
 /-- the dict of the instance at x -/
 | own (x:Addr)
 /-- the dict of an exception -/
 | xd (fs:List (Str×V))
 /-- a bound method,f of x -/
 | met (f x:Addr)
 /-- a range object lo,lo+1,.. below hi -/
 | rng (lo hi:Int)
 /-- a thing that is known to the object (the script;a dict while a loop walks it): read,never written while it is so -/
 | frz (o:Obj) (u:HO)
 /-- a code object's table -/
 | tbl (ps:Array Value)
 /-- any other thing,by what is true of its one object (a def of one's own: SetO a S n:=HO.ext fun h=>..) -/
 | ext (φ:Heap->Prop)
abbrev Hp:=Addr->Option HO
def upd (H:Hp) (a:Addr) (o:HO):Hp:=fun b=>if b=a then some o else H b
theorem a0C {H:Hp}{a:Addr}{o:HO}:upd H a o a=some o:=by unfold upd;rw[if_pos rfl]
theorem a0L {H:Hp}{a b:Addr}{o:HO}(h:b≠a):upd H a o b=H b:=by unfold upd;rw[if_neg h]
theorem b8b {H:Hp}{a b:Addr}{o u:HO}(h:H a=some o) (h':H b=some u) (d:o≠u):a≠b:=by
 intro e;subst e;rw[h]at h';exact d (Option.some.inj h')
theorem a19 {H:Hp}{a b:Addr}{o:HO}(h:H a=some o) (h':H b=none):a≠b:=by
 intro e;subst e;rw[h]at h';cases h'
section
variable (P:Program) (w:World)
def ObjOk (H:Hp) (h:Heap) (a:Addr):HO->Prop
 | .lst xs=>xs.length≤sizeLine/\∃ (its:List Value) (n:Nat),Vals xs its/\h.get? a=some { cls:=.type "list",data:=.seq its.toArray n }
 | .tup xs=>xs.length≤sizeLine/\∃ its:List Value,Vals xs its/\IsTup h a its.toArray
 | .dK kvs=>kvs.length≤sizeLine/\(a==sysModules)=false/\∃ vs,KV kvs vs/\h.DictOf (a0K P w) a vs
 | .dT kvs=>kvs.length≤sizeLine/\(a==sysModules)=false/\∃ xs:List (List Key×Addr×Value),
   Paired (fun (p:List Key×V) (q:List Key×Addr×Value)=>p.1=q.1/\H q.2.1=some (.tup (p.1.map kV))/\RelV p.2 q.2.2) kvs xs /\
   ∃ o es ep,h.get? a=some o/\o.ExactDict/\o.data=.dict es ep/\es.toList=xs.map (entryOfKey (tupleKind (a0K P w)))/\(xs.map (·.1)).Nodup
 | .set S n=>h.SetOf (intKind P w) a S n
 | .ins C dx fs=>H dx=some (.own a)/\fs.length≤1000/\dx≠a/\h.get? a=some (PySem.W.instObj C dx) /\
   ∃ mA,h.Ns1 dx mA/\(∀ f,RelO (fs.lookup f) (mA f))/\PySem.Within mA (fs.map (·.1))
 | .own _=>∃ o,h.get? a=some o
 | .xd fs=>∃ mA,h.Ns1 a mA/\∀ f,RelO (fs.lookup f) (mA f)
 | .rng lo hi=>∃ t u v,h.get? a=some { cls:=.type "range",data:=.fields #[.int lo t,.int hi u,.int 1 v] }
 | .frz o u=>h.get? a=some o/\ObjOk H h a u
 | .tbl ps=>h.get? a=some { cls:=.none,data:=.fields ps }
 | .met f x=>h.get? a=some (PySem.W.methodObj (.ref f) (.ref x))
 | .ext φ=>φ h/\(∃ o,h.get? a=some o)/\∀ h1 h2:Heap,φ h1->(∀ o,h1.get? a=some o->h2.get? a=some o)->φ h2
def HOk (H:Hp) (h:Heap):Prop:=∀ a o,H a=some o->ObjOk P w H h a o
end
section
variable {P:Program}{w:World}{H H':Hp}{h h':Heap}{a:Addr}{o:HO}
theorem ObjOk.lt (x:ObjOk P w H h a o):a<h.objs.size:=by
 cases o with
 | lst xs=>obtain⟨_,_,_,_,e⟩:=x;exact Heap.lt_size e
 | tup xs=>obtain⟨_,_,_,p⟩:=x;exact p.lt
 | dK kvs=>obtain⟨_,_,_,_,o,_,_,e,_⟩:=x;exact Heap.lt_size e
 | dT kvs=>obtain⟨_,_,_,_,o,_,_,e,_⟩:=x;exact Heap.lt_size e
 | set S n=>obtain⟨o,_,_,_,e,_⟩:=x;exact Heap.lt_size e
 | ins C dx fs=>obtain⟨_,_,_,e,_⟩:=x;exact Heap.lt_size e
 | own y=>obtain⟨_,e⟩:=x;exact Heap.lt_size e
 | xd fs=>obtain⟨_,⟨_,_,_,e,_⟩,_⟩:=x;exact Heap.lt_size e
 | rng lo hi=>obtain⟨_,_,_,e⟩:=x;exact Heap.lt_size e
 | frz ob u=>obtain⟨e,_⟩:=x;exact Heap.lt_size e
 | tbl ps=>exact Heap.lt_size (show h.get? a=some _ from x)
 | met f y=>exact Heap.lt_size (show h.get? a=some _ from x)
 | ext φ=>obtain⟨_,⟨_,e⟩,_⟩:=x;exact Heap.lt_size e
theorem Paired.mapP {α β:Type}{F G:α->β->Prop}:∀ {l₁:List α}{l₂:List β},Paired F l₁ l₂->(∀ a b,F a b->G a b)->Paired G l₁ l₂
 | _,_,.nil,_=>.nil
 | _,_,.cons r t,f=>.cons (f _ _ r) (Paired.mapP t f)
theorem ObjOk.stay (x:ObjOk P w H h a o) (k:∀ b u,(b=a\/H b=some (.own a))->h.get? b=some u->h'.get? b=some u)
  (ho:∀ b,H b=some (.own a)->H' b=some (.own a)) (ht:∀ b xs,H b=some (.tup xs)->H' b=some (.tup xs)):ObjOk P w H' h' a o:=by
 induction o with
 | lst xs=>obtain⟨z,its,n,r,e⟩:=x;exact⟨z,its,n,r,k _ _ (.inl rfl) e⟩
 | tup xs=>obtain⟨z,its,r,ob,e,c⟩:=x;exact⟨z,its,r,ob,k _ _ (.inl rfl) e,c⟩
 | dK kvs=>obtain⟨z,y,vs,r,ob,es,ep,e,c⟩:=x;exact⟨z,y,vs,r,ob,es,ep,k _ _ (.inl rfl) e,c⟩
 | dT kvs=>
  obtain⟨z,y,xs,r,ob,es,ep,e,c⟩:=x;exact⟨z,y,xs,Paired.mapP r fun p q z=>⟨z.1,ht _ _ z.2.1,z.2.2⟩,ob,es,ep,k _ _ (.inl rfl) e,c⟩
 | set S n=>obtain⟨ob,es,ep,t,e,c⟩:=x;exact⟨ob,es,ep,t,k _ _ (.inl rfl) e,c⟩
 | ins C dx fs=>
  obtain⟨d,z,ne,e,mA,⟨od,es,ep,e2,c⟩,r⟩:=x;exact⟨ho _ d,z,ne,k _ _ (.inl rfl) e,mA,⟨od,es,ep,k _ _ (.inr d) e2,c⟩,r⟩
 | own y=>obtain⟨ob,e⟩:=x;exact⟨ob,k _ _ (.inl rfl) e⟩
 | xd fs=>obtain⟨mA,⟨od,es,ep,e,c⟩,r⟩:=x;exact⟨mA,⟨od,es,ep,k _ _ (.inl rfl) e,c⟩,r⟩
 | rng lo hi=>obtain⟨t,u,v,e⟩:=x;exact⟨t,u,v,k _ _ (.inl rfl) e⟩
 | frz ob u ih=>obtain⟨e,q⟩:=x;exact⟨k _ _ (.inl rfl) e,ih q⟩
 | tbl ps=>
  have e:h.get? a=some { cls:=.none,data:=.fields ps }:=x
  show h'.get? a=some { cls:=.none,data:=.fields ps }
  exact k a _ (.inl rfl) e
 | met f y=>
  have e:h.get? a=some (PySem.W.methodObj (.ref f) (.ref y)):=x
  show h'.get? a=some (PySem.W.methodObj (.ref f) (.ref y))
  exact k a _ (.inl rfl) e
 | ext φ=>obtain⟨p,⟨o,e⟩,st⟩:=x;exact⟨st _ _ p fun o q=>k _ _ (.inl rfl) q,⟨o,k _ _ (.inl rfl) e⟩,st⟩
theorem HOk.lt (x:HOk P w H h) (e:H a=some o):a<h.objs.size:=(x a o e).lt
theorem HOk.fresh (x:HOk P w H h) (e:h.objs.size≤a):H a=none:=by
 cases q:H a with
 | none=>rfl
 | some u=>exact absurd (Nat.lt_of_lt_of_le (x.lt q) e) (Nat.lt_irrefl _)
theorem HOk.kept (x:HOk P w H h) (k:∀ b u,h.get? b=some u->h'.get? b=some u):HOk P w H h':=fun a o e=>
 (x a o e).stay (fun b u _ q=>k b u q) (fun _ q=>q) fun _ _ q=>q
theorem HOk.laid (x:HOk P w H h) (k:∀ b u,h.get? b=some u->h'.get? b=some u) (hp:h.objs.size≤a) (new:ObjOk P w (upd H a o) h' a o):HOk P w (upd H a o) h':=fun b u e=>by
 have hn:=x.fresh hp
 by_cases hb:b=a
 ·subst hb;rw[a0C]at e;cases e;exact new
 ·rw[a0L hb]at e;exact (x b u e).stay (fun c v _ q=>k c v q) (fun c q=>by rw[a0L (a19 q hn)];exact q) fun c xs q=>by rw[a0L (a19 q hn)];exact q
end
def Rd (H:Hp) (a:Addr) (u:HO):Prop:=H a=some u\/∃ o,H a=some (.frz o u)
theorem Rd.of {H:Hp}{a:Addr}{u:HO}(h:H a=some u):Rd H a u:=.inl h
theorem Rd.ok {P:Program}{w:World}{H:Hp}{h:Heap}{a:Addr}{u:HO}(r:Rd H a u) (x:HOk P w H h):ObjOk P w H h a u:=by
 rcases r with r | ⟨o,r⟩
 ·exact x a u r
 ·obtain⟨_,q⟩:=x a _ r;exact q
def Mut:Option HO->Prop
 | some (.lst _)=>True
 | some (.dK _)=>True
 | some (.dT _)=>True
 | some (.set _ _)=>True
 | some (.ins _ _ _)=>True
 | some (.ext _)=>True
 | _=>False
section
variable {P:Program}{w:World}{H:Hp}{h h':Heap}{x e:Addr}{o':HO}
theorem HOk.write (ok:HOk P w H h) (mu:Mut (H x)) (he:e=x\/H e=some (.own x)) (k:∀ b u,b≠e->h.get? b=some u->h'.get? b=some u) (heo:∃ u,h'.get? e=some u)
  (new:ObjOk P w (upd H x o') h' x o'):HOk P w (upd H x o') h':=fun b u q=>by
 have nown:∀ c y,H c=some (.own y)->c≠x:=fun c y r z=>by subst z;rw[r]at mu;exact mu
 have ntup:∀ c xs,H c=some (.tup xs)->c≠x:=fun c xs r z=>by subst z;rw[r]at mu;exact mu
 by_cases hb:b=x
 ·subst hb;rw[a0C]at q;cases q;exact new
 ·rw[a0L hb]at q
  by_cases hbe:b=e
  ·have q':H b=some (.own x):=by
    rcases he with z | z
    ·exact absurd (hbe.trans z) hb
    ·rw[hbe];exact z
   rw[q]at q';cases q';obtain⟨v,hv⟩:=heo;exact⟨v,by rw[hbe];exact hv⟩
  ·refine (ok b u q).stay (fun c v hc r=>k c v ?_ r) (fun c r=>by rw[a0L (nown c b r)];exact r) fun c xs r=>by rw[a0L (ntup c xs r)];exact r
   rcases hc with rfl | hc
   ·exact hbe
   ·rintro rfl;rcases he with z | z
    ·exact nown c b hc z
    ·rw[hc]at z;cases z;exact hb rfl
end
structure Un (fs ex:List Addr) (H H':Hp) (h h':Heap):Prop where
 keep:∀ b o,h.get? b=some o->H b=none->b∉fs->b∉ex->h'.get? b=some o
 slot:∀ b o,h.get? b=some o->H b=none->b∈fs->b∉ex->∃ sl,h'.get? b=some { o with slots:=sl }
 free:∀ b o,h.get? b=some o->H b=none->b∉ex->H' b=none
 there:∀ b o,h.get? b=some o->b∉ex->∃ o',h'.get? b=some o'
 tups:∀ b xs,H b=some (.tup xs)->H' b=some (.tup xs)
 frzs:∀ b o u,H b=some (.frz o u)->H' b=some (.frz o u)
 tbls:∀ b ps,H b=some (.tbl ps)->∃ more,H' b=some (.tbl (ps++more))
section
variable {fs fs' ex ex':List Addr}{H H1 H2:Hp}{h h1 h2 h':Heap}{a x e:Addr}{o:HO}
theorem Un.any (u:Un fs ex H H1 h h1) {b:Addr}{ob:Obj}(q:h.get? b=some ob) (n:H b=none) (hx:b∉ex):∃ sl,h1.get? b=some { ob with slots:=sl }:=by
 by_cases hb:b∈fs
 ·exact u.slot b ob q n hb hx
 ·exact⟨ob.slots,u.keep b ob q n hb hx⟩
theorem Un.trans (a:Un fs ex H H1 h h1) (b:Un fs ex H1 H2 h1 h2):Un fs ex H H2 h h2 where
 keep:=fun c ob q n hc hx=>b.keep c ob (a.keep c ob q n hc hx) (a.free c ob q n hx) hc hx
 slot:=fun c ob q n hc hx=>by
  obtain⟨sl,e1⟩:=a.slot c ob q n hc hx;obtain⟨sl',e2⟩:=b.slot c _ e1 (a.free c ob q n hx) hc hx;exact⟨sl',e2⟩
 free:=fun c ob q n hx=>by
  obtain⟨o',e1⟩:=a.there c ob q hx;exact b.free c o' e1 (a.free c ob q n hx) hx
 there:=fun c ob q hx=>by
  obtain⟨o',e1⟩:=a.there c ob q hx;exact b.there c o' e1 hx
 tups:=fun c xs q=>b.tups c xs (a.tups c xs q)
 frzs:=fun c ob xs q=>b.frzs c ob xs (a.frzs c ob xs q)
 tbls:=fun c ps q=>by
  obtain⟨m1,e1⟩:=a.tbls c ps q;obtain⟨m2,e2⟩:=b.tbls c _ e1;exact⟨m1++m2,by rw[e2,Array.append_assoc]⟩
theorem Un.kept (k:∀ b u,h.get? b=some u->h'.get? b=some u):Un fs ex H H h h':=
 ⟨fun b ob q _ _ _=>k b ob q,fun b ob q _ _ _=>⟨ob.slots,k b ob q⟩,fun _ _ _ n _=>n,fun b ob q _=>⟨ob,k b ob q⟩,fun _ _ q=>q,fun _ _ _ q=>q,fun _ ps q=>⟨#[],by rw[q];simp⟩⟩
theorem Un.refl:Un fs ex H H h h:=Un.kept fun _ _ q=>q
theorem Un.laid (k:∀ b u,h.get? b=some u->h'.get? b=some u) (hp:h.objs.size≤a) (hn:H a=none):Un fs ex H (upd H a o) h h' where
 keep:=fun b u q _ _ _=>k b u q
 slot:=fun b u q _ _ _=>⟨u.slots,k b u q⟩
 free:=fun b u q n _=>by rw[a0L (Nat.ne_of_lt (Nat.lt_of_lt_of_le (Heap.lt_size q) hp))];exact n
 there:=fun b u q _=>⟨u,k b u q⟩
 tups:=fun b xs q=>by rw[a0L (a19 q hn)];exact q
 frzs:=fun b u xs q=>by rw[a0L (a19 q hn)];exact q
 tbls:=fun b ps q=>⟨#[],by rw[a0L (a19 q hn),q];simp⟩
theorem Un.write (mu:Mut (H x)) (he:e=x\/H e=some (.own x)) (k:∀ b u,b≠e->h.get? b=some u->h'.get? b=some u) (heo:∃ u,h'.get? e=some u):Un fs ex H (upd H x o) h h':=by
 have hx:∀ b,H b=none->b≠x:=fun b n z=>by subst z;rw[n]at mu;exact mu
 have hb:∀ b,H b=none->b≠e:=fun b n z=>by
  subst z;rcases he with r | r
  ·exact hx b n r
  ·rw[n]at r;cases r
 have hm:∀ b u,H b=some u->¬ Mut (some u)->b≠x:=fun b u q nm z=>by subst z;rw[q]at mu;exact nm mu
 refine⟨fun b u q n _ _=>k b u (hb b n) q,fun b u q n _ _=>⟨u.slots,k b u (hb b n) q⟩,fun b u q n _=>by rw[a0L (hx b n)];exact n,fun b u q _=>?_,
  fun b xs q=>by rw[a0L (hm b _ q fun z=>z)];exact q,fun b u xs q=>by rw[a0L (hm b _ q fun z=>z)];exact q,fun b ps q=>⟨#[],by rw[a0L (hm b _ q fun z=>z),q];simp⟩⟩
 by_cases hbe:b=e
 ·subst hbe;exact heo
 ·exact⟨u,k b u hbe q⟩
theorem Un.mono (u:Un fs ex H H1 h h1) (hs:∀ b∈fs,b∈fs') (hx:∀ b∈ex,b∈ex'):Un fs' ex' H H1 h h1:=
 ⟨fun b ob q n hb he=>u.keep b ob q n (fun z=>hb (hs b z)) fun z=>he (hx b z),fun _ _ q n _ he=>u.any q n fun z=>he (hx _ z),fun b ob q n he=>u.free b ob q n fun z=>he (hx b z),fun b ob q he=>u.there b ob q fun z=>he (hx b z),u.tups,u.frzs,u.tbls⟩
end
def trk (h:Heap) (H:Hp):List Addr:=(List.range h.objs.size).filter fun a=>(H a).isSome
def hidT (h:Heap) (H:Hp):Heap:=PySem.W.hideAll h (trk h H)
theorem a97 (h:Heap) (H:Hp):(hidT h H).objs.size=h.objs.size:=PySem.W.hideAll_size _ _
theorem b16 {h:Heap}{H:Hp}{b:Addr}{o:Obj}(e:h.get? b=some o) (n:H b=none):(hidT h H).get? b=some o:=
 PySem.W.hideAll_get _ e fun hm=>by
  have q:(H b).isSome=true:=(List.mem_filter.mp hm).2;rw[n]at q;simp at q
theorem b37 {h:Heap}{H:Hp}{b:Addr}{o:Obj}(e:(hidT h H).get? b=some o):h.get? b=some o/\H b=none:=by
 have e':h.get? b=some o:=PySem.W.of_hideAll (trk h H) e;refine⟨e',?_⟩;cases q:H b with
 | none=>rfl
 | some x=>
  have hm:b∈trk h H:=List.mem_filter.mpr ⟨List.mem_range.mpr (Heap.lt_size e'),by simp[q]⟩;have z:(hidT h H).get? b=none:=PySem.W.hideAll_none (trk h H) hm;rw[z]at e;cases e
def b38 (g h:Heap) (L:Addr):List (Addr×Obj):=(List.range h.objs.size).filterMap fun a=>if a=L\/(g.get? a).isSome=true then none else (h.get? a).map fun o=>(a,o)
def rest (g h:Heap) (L d:Addr):List (Addr×Obj):=(b38 g h L).filter fun p=>decide (p.1≠d)
end L2
namespace L2
open PySem PySem.Spec PyProof.Rows
structure Mod (K:Fg) (mg:Str->Option Value) (base:Heap):Prop where
 kin:K.In base
 glob:base.Ns mainGlobals mg
 blt:∃ mb,base.Ns builtinsNs mb/\∀ x:Str,x≠"__name__"->mb x=bootBuiltins x
 nolimit:base.NoLimit
structure Cx where
 prog:Program
 w:World
 K:Fg
 mg:Str->Option Value
 base:Heap
 A:Around
 N:List Str
 s₀:Shared
 H₀:Hp
 env:Env
 outer:List Env
 stack:List Env
 ex:List Addr
 fn:Str->Bool
 calm:Bool
 pn:List (Addr×Obj)
 xe:Value->Shared->Prop
def frs (l:List Env):List Addr:=l.filterMap (·.frame)
abbrev Cx.fs (X:Cx):List Addr:=frs X.outer
def Vis (sc:Scope) (x:Str):Prop:=sc.names.lookup x=some .local\/sc.names.lookup x=some .cell\/sc.names.lookup x=some .free
def Loc (sc:Scope) (x:Str):Prop:=sc.names.lookup x=some .local\/sc.names.lookup x=some .cell
def Look (env:Env) (h:Heap) (m:Str->Option Value) (x:Str) (u:Value):Prop:=
 (env.kindOf x=some .local/\m x=some u)\/((env.kindOf x=some .cell\/env.kindOf x=some .free)/\∃ c,env.cells.lookup x=some c/\h.IsCell c (some u))
structure Cx.Ok (X:Cx):Prop where
 mod:Mod X.K X.mg X.base
 kind:X.env.scope.kind=.function
 glob:X.env.globals=mainGlobals
 blt:X.env.builtins=builtinsNs
 above:X.s₀.heap.objs.size≤X.env.locals
 inj:∀ x y c,X.env.cells.lookup x=some c->X.env.cells.lookup y=some c->x=y
 has:∀ x,(X.env.kindOf x=some .cell\/X.env.kindOf x=some .free)->∃ c,X.env.cells.lookup x=some c
 cab:∀ x c,X.fn x=true->X.env.cells.lookup x=some c->X.s₀.heap.objs.size≤c
 hd:X.calm=true->X.A.handled=none
 frames:X.A.frames=some X.stack
 stk:X.stack=X.outer\/(X.stack=X.env::X.outer/\X.env.frame=some X.env.locals)
 exf:∀ b∈X.ex,b≠X.env.locals/\∀ x c,X.env.cells.lookup x=some c->c≠b
 bs:∀ b o,X.base.get? b=some o->X.s₀.heap.get? b=some o/\X.H₀ b=none
 bsz:X.base.objs.size≤X.s₀.heap.objs.size
 noex:∀ b o,X.base.get? b=some o->b∉X.ex
 exfs:∀ b∈X.ex,b∉X.fs
 funs:X.s₀.heap.FunFrames X.base X.outer
 frf:∀ b∈X.fs,X.H₀ b=none
structure Inv (X:Cx) (pins:List (Addr×Obj)) (σ:List (Option V)) (H:Hp) (s:Shared):Prop where
 ok:X.Ok
 os:s.os=X.s₀.os
 bare:AllBare s.gens
 base:Un X.fs X.ex X.H₀ H X.s₀.heap s.heap
 loc:∃ m,s.heap.Ns X.env.locals m/\∀ (i:Nat) (x:Str) (v:V),X.N[i]?=some x->σ[i]?=some (some v)->Vis X.env.scope x->∃ u,RelV v u/\Look X.env s.heap m x u
 cell:∀ x c,X.env.cells.lookup x=some c->∃ v,s.heap.IsCell c v
 free:H X.env.locals=none
 freeC:∀ x c,X.env.cells.lookup x=some c->H c=none
 pin:∀ p∈X.pn++pins,s.heap.get? p.1=some p.2/\H p.1=none/\p.1≠X.env.locals/\p.1∉X.fs/\∀ v,p.2.data≠.cell v
 hok:HOk X.prog X.w H s.heap
 len:σ.length=X.N.length
section
variable {X:Cx}{pins:List (Addr×Obj)}{σ:List (Option V)}{H H':Hp}{s:Shared}{h':Heap}
theorem Cx.Ok.nofr (ok:X.Ok) {b:Addr}{o:Obj}(e:X.base.get? b=some o):b∉X.fs:=fun hb=>by
 have:=(ok.funs.mem hb).1
 rw[e]at this;cases this
theorem Inv.bs (I:Inv X pins σ H s):∀ b o,X.base.get? b=some o->s.heap.get? b=some o/\H b=none:=fun b o e=>
 ⟨I.base.keep b o (I.ok.bs b o e).1 (I.ok.bs b o e).2 (I.ok.nofr e) (I.ok.noex b o e),I.base.free b o (I.ok.bs b o e).1 (I.ok.bs b o e).2 (I.ok.noex b o e)⟩
theorem Inv.bk (I:Inv X pins σ H s):∀ b o,X.base.get? b=some o->s.heap.get? b=some o:=fun b o e=>(I.bs b o e).1
theorem Inv.mod (I:Inv X pins σ H s):Mod X.K X.mg X.base:=I.ok.mod
theorem Inv.kIn (I:Inv X pins σ H s):X.K.In s.heap:=I.ok.mod.kin.keeps I.bk
theorem Inv.nolimit (I:Inv X pins σ H s):s.heap.NoLimit:=I.ok.mod.nolimit.keeps I.bk
theorem Inv.fr (I:Inv X pins σ H s):∃ m,Fr X.base X.env.locals s.heap m:=
 let ⟨m,hn,_⟩:=I.loc
 ⟨m,hn,I.bk,Nat.le_trans I.ok.bsz I.ok.above⟩
theorem Inv.lt (I:Inv X pins σ H s):X.env.locals<s.heap.objs.size:=let ⟨_,hn,_⟩:=I.loc;hn.lt
theorem Inv.sz (I:Inv X pins σ H s):X.s₀.heap.objs.size≤s.heap.objs.size:=Nat.le_trans I.ok.above (Nat.le_of_lt I.lt)
theorem Inv.nofs (I:Inv X pins σ H s) {a:Addr}(h:s.heap.objs.size≤a):a∉X.fs:=fun hb=>by
 obtain⟨_,o,ho,_⟩:=I.ok.funs.mem hb;exact absurd (Nat.lt_of_lt_of_le (Heap.lt_size ho) (Nat.le_trans I.sz h)) (Nat.lt_irrefl _)
theorem Inv.cne (I:Inv X pins σ H s):∀ x c,X.env.cells.lookup x=some c->c≠X.env.locals:=fun x c e z=>by
 obtain⟨v,o,ho,hd⟩:=I.cell x c e;obtain⟨m,⟨o',es,ep,ho',hd',_⟩,_⟩:=I.loc;rw[z,ho']at ho;cases ho;rw[hd']at hd;cases hd
theorem Inv.funs (I:Inv X pins σ H s):s.heap.FunFrames X.base X.outer:=by
 have all:∀ (l:List Env),(∀ b∈frs l,b∈X.fs)->X.s₀.heap.FunFrames X.base l->s.heap.FunFrames X.base l:=by
  intro l
  induction l with
  | nil=>intro _ _;trivial
  | cons env r ih=>
   intro hs hl;obtain⟨hk,⟨L,o,hf,hn,ho,hd⟩,hr⟩:=hl;have hL:L∈X.fs:=hs L (by unfold frs;rw[List.filterMap_cons,hf];exact List.mem_cons_self);obtain⟨sl,e⟩:=I.base.slot L o ho (I.ok.frf L hL) hL fun z=>I.ok.exfs L z hL;exact⟨hk,⟨L,_,hf,hn,e,hd⟩,ih (fun b hb=>hs b (by unfold frs;rw[List.filterMap_cons,hf];exact List.mem_cons_of_mem _ hb)) hr⟩
 exact all X.outer (fun _ hb=>hb) I.ok.funs
theorem Inv.stack (I:Inv X pins σ H s):s.heap.FunFrames X.base X.stack:=by
 rcases I.ok.stk with e | ⟨e,hf⟩
 ·rw[e];exact I.funs
 ·rw[e];obtain⟨m,hn,_⟩:=I.loc;refine .cons (by rw[I.ok.kind];decide) hf hn ?_ I.funs;exact Heap.get?_none_of_le (Nat.le_trans I.ok.bsz I.ok.above)
theorem Inv.stkSub (I:Inv X pins σ H s):∀ b∈frs X.stack,b∈X.env.locals::X.fs:=fun b hb=>by
 rcases I.ok.stk with e | ⟨e,hf⟩
 ·rw[e]at hb;exact List.mem_cons_of_mem _ hb
 ·rw[e]at hb;unfold frs at hb;rw[List.filterMap_cons,hf]at hb;exact hb
theorem Inv.stkFree (I:Inv X pins σ H s):∀ b∈frs X.stack,H b=none:=fun b hb=>by
 rcases List.mem_cons.mp (I.stkSub b hb) with e | hb
 ·rw[e];exact I.free
 ·obtain⟨_,o,ho,_⟩:=I.ok.funs.mem hb;exact I.base.free b o ho (I.ok.frf b hb) fun z=>I.ok.exfs b z hb
theorem Inv.step {g':Array GenState}{t':Nat}{d':Drawn}{ch:List Addr}(I:Inv X pins σ H s)
  (hch:∀ b∈ch,(b∈X.ex\/X.s₀.heap.objs.size≤b)/\b≠X.env.locals/\(∀ x c,X.env.cells.lookup x=some c->c≠b)/\∀ p∈X.pn++pins,p.1≠b)
  (keep:∀ b o,b≠X.env.locals->b∉X.fs->b∉ch->s.heap.get? b=some o->H b=none->h'.get? b=some o)
  (slot:∀ b o,b≠X.env.locals->b∈X.fs->b∉ch->s.heap.get? b=some o->H b=none->∃ sl,h'.get? b=some { o with slots:=sl }) (free:∀ b o,b∉ch->s.heap.get? b=some o->H b=none->H' b=none)
  (there:∀ b o,b∉ch->s.heap.get? b=some o->∃ o',h'.get? b=some o')
  (tups:∀ b xs,H b=some (.tup xs)->H' b=some (.tup xs)) (frzs:∀ b o u,H b=some (.frz o u)->H' b=some (.frz o u)) (tbls:∀ b ps,H b=some (.tbl ps)->∃ more,H' b=some (.tbl (ps++more)))
  (ns:∀ m,s.heap.Ns X.env.locals m->h'.Ns X.env.locals m) (hok:HOk X.prog X.w H' h') (hg:AllBare g') :
  Inv X pins σ H' { s with heap:=h',gens:=g',drawn:=d',toks:=t' }:=by
 have neL:∀ b o,X.s₀.heap.get? b=some o->b≠X.env.locals:=fun b o e=>Nat.ne_of_lt (Nat.lt_of_lt_of_le (Heap.lt_size e) I.ok.above);have neC:∀ b o,X.s₀.heap.get? b=some o->b∉X.ex->b∉ch:=fun b o e hx hb=>by
  rcases (hch b hb).1 with z | z
  ·exact hx z
  ·exact absurd (Nat.lt_of_lt_of_le (Heap.lt_size e) z) (Nat.lt_irrefl _)
 have cellK:∀ x c,X.env.cells.lookup x=some c->∀ v,s.heap.IsCell c v->h'.IsCell c v:=fun x c e v ⟨o,ho,hd⟩=>by
  have nch:c∉ch:=fun z=>(hch c z).2.2.1 x c e rfl
  by_cases hc:c∈X.fs
  ·obtain⟨sl,q⟩:=slot c o (I.cne x c e) hc nch ho (I.freeC x c e);exact⟨_,q,hd⟩
  ·exact⟨o,keep c o (I.cne x c e) hc nch ho (I.freeC x c e),hd⟩
 refine⟨I.ok,I.os,hg,⟨fun b o e n hb hx=>?_,fun b o e n hb hx=>?_,fun b o e n hx=>?_,fun b o e hx=>?_,fun b xs e=>tups b xs (I.base.tups b xs e),fun b o xs e=>frzs b o xs (I.base.frzs b o xs e),fun b ps e=>?_⟩,?_,fun x c e=>?_,?_,fun x c e=>?_,fun p hp=>?_,hok,I.len⟩
 ·exact keep b o (neL b o e) hb (neC b o e hx) (I.base.keep b o e n hb hx) (I.base.free b o e n hx)
 ·obtain⟨sl,e1⟩:=I.base.slot b o e n hb hx;obtain⟨sl',e2⟩:=slot b _ (neL b o e) hb (neC b o e hx) e1 (I.base.free b o e n hx);exact⟨sl',e2⟩
 ·obtain⟨o',e1⟩:=I.base.there b o e hx;exact free b o' (neC b o e hx) e1 (I.base.free b o e n hx)
 ·obtain⟨o',e1⟩:=I.base.there b o e hx;exact there b o' (neC b o e hx) e1
 ·obtain⟨m1,e1⟩:=I.base.tbls b ps e;obtain⟨m2,e2⟩:=tbls b _ e1;exact⟨m1++m2,by rw[e2,Array.append_assoc]⟩
 ·obtain⟨m,hn,hl⟩:=I.loc;refine⟨m,ns m hn,fun i x v e1 e2 e3=>?_⟩;obtain⟨u,r,l⟩:=hl i x v e1 e2 e3;refine⟨u,r,?_⟩;rcases l with l | ⟨k,c,e,z⟩
  ·exact .inl l
  ·exact .inr ⟨k,c,e,cellK x c e _ z⟩
 ·obtain⟨v,z⟩:=I.cell x c e;exact⟨v,cellK x c e v z⟩
 ·obtain⟨m,⟨o,_,_,ho,_⟩,_⟩:=I.loc;exact free _ o (fun z=>(hch _ z).2.1 rfl) ho I.free
 ·obtain⟨v,o,ho,hd⟩:=I.cell x c e;exact free c o (fun z=>(hch c z).2.2.1 x c e rfl) ho (I.freeC x c e)
 ·obtain⟨e,n,ne,nf,d⟩:=I.pin p hp;have nch:p.1∉ch:=fun z=>(hch p.1 z).2.2.2 p hp rfl;exact⟨keep p.1 p.2 ne nf nch e n,free p.1 p.2 nch e n,ne,nf,d⟩
theorem Inv.un {t':Nat}(I:Inv X pins σ H s) (u:Un X.fs [] H H' s.heap h') (hok:HOk X.prog X.w H' h'):Inv X pins σ H' { s with heap:=h',toks:=t' }:=by
 obtain⟨m,⟨o,es,ep,ho,r⟩,_⟩:=id I.loc;obtain⟨sl,hL⟩:=u.any ho I.free (by simp);exact I.step (g':=s.gens) (d':=s.drawn) (ch:=[]) (fun _ z=>nomatch z) (fun b o _ hb _ e n=>u.keep b o e n hb (by simp)) (fun b o _ hb _ e n=>u.slot b o e n hb (by simp)) (fun b o _ e n=>u.free b o e n (by simp)) (fun b o _ e=>u.there b o e (by simp)) u.tups u.frzs u.tbls (fun m' hm=>by
  obtain⟨o',es',ep',ho',r'⟩:=hm;rw[ho]at ho';cases ho';exact⟨_,es',ep',hL,r'⟩) hok I.bare
theorem Inv.call {g':Array GenState}{t':Nat}{d':Drawn}{ch:List Addr}(I:Inv X pins σ H s) (u:Un (frs X.stack) ch H H' s.heap h') (hok:HOk X.prog X.w H' h') (hg:AllBare g')
  (hch:∀ b∈ch,(b∈X.ex\/X.s₀.heap.objs.size≤b)/\b≠X.env.locals/\(∀ x c,X.env.cells.lookup x=some c->c≠b)/\∀ p∈X.pn++pins,p.1≠b) :
  Inv X pins σ H' { s with heap:=h',gens:=g',drawn:=d',toks:=t' }:=by
 obtain⟨m,⟨o,es,ep,ho,r⟩,_⟩:=id I.loc;obtain⟨sl,hL⟩:=u.any ho I.free fun z=>(hch _ z).2.1 rfl;exact I.step (ch:=ch) hch (fun b o hL hb hc e n=>u.keep b o e n (fun z=>(List.mem_cons.mp (I.stkSub b z)).elim hL hb) hc) (fun b o _ _ hc e n=>u.any e n hc) (fun b o hc e n=>u.free b o e n hc) (fun b o hc e=>u.there b o e hc) u.tups u.frzs u.tbls (fun m' hm=>by
  obtain⟨o',es',ep',ho',r'⟩:=hm;rw[ho]at ho';cases ho';exact⟨_,es',ep',hL,r'⟩) hok hg
theorem Inv.turned {t':Nat}{it:Addr}(I:Inv X pins σ H s) (k:∀ b o,b≠it->s.heap.get? b=some o->h'.get? b=some o) (hn:H it=none) (hL:it≠X.env.locals)
  (h1:it∈X.ex\/X.s₀.heap.objs.size≤it) (h2:∀ x c,X.env.cells.lookup x=some c->c≠it) (h3:∀ p∈X.pn++pins,p.1≠it):Inv X pins σ H { s with heap:=h',toks:=t' }:=by
 have nit:∀ b u,H b=some u->b≠it:=fun b u e z=>by rw[z,hn]at e;cases e
 refine I.step (g':=s.gens) (d':=s.drawn) (ch:=[it]) (fun b hb=>?_) (fun b o _ _ hc e _=>k b o (fun z=>hc (by simp[z])) e) (fun b o _ _ hc e _=>⟨o.slots,k b o (fun z=>hc (by simp[z])) e⟩) (fun _ _ _ _ n=>n)
  (fun b o hc e=>⟨o,k b o (fun z=>hc (by simp[z])) e⟩) (fun _ _ e=>e) (fun _ _ _ e=>e) (fun b ps e=>⟨#[],by rw[e];simp⟩) (fun m hm=>?_) (fun b u e=>?_) I.bare
 ·have e:b=it:=by simpa using hb
  subst e;exact⟨h1,hL,h2,h3⟩
 ·obtain⟨o,es,ep,ho,r⟩:=hm;exact⟨o,es,ep,k _ o (Ne.symm hL) ho,r⟩
 ·refine (I.hok b u e).stay (fun c v hc q=>k c v ?_ q) (fun _ q=>q) fun _ _ q=>q;rcases hc with z | z
  ·rw[z];exact nit b u e
  ·exact nit c _ z
theorem Inv.tok (I:Inv X pins σ H s) (t:Nat):Inv X pins σ H { s with toks:=t }:=I.un (h':=s.heap) (t':=t) Un.refl I.hok
theorem Inv.kept {t':Nat}(I:Inv X pins σ H s) (k:∀ b u,s.heap.get? b=some u->h'.get? b=some u):Inv X pins σ H { s with heap:=h',toks:=t' }:=I.un (Un.kept k) (I.hok.kept k)
theorem Inv.laid {a:Addr}{o:HO}{t':Nat}(I:Inv X pins σ H s) (k:∀ b u,s.heap.get? b=some u->h'.get? b=some u) (hp:s.heap.objs.size≤a) (new:ObjOk X.prog X.w (upd H a o) h' a o) :
  Inv X pins σ (upd H a o) { s with heap:=h',toks:=t' }:=I.un (Un.laid k hp (I.hok.fresh hp)) (I.hok.laid k hp new)
theorem Inv.write {x e:Addr}{o:HO}{t':Nat}(I:Inv X pins σ H s) (mu:Mut (H x)) (he:e=x\/H e=some (.own x)) (k:∀ b u,b≠e->s.heap.get? b=some u->h'.get? b=some u) (heo:∃ u,h'.get? e=some u)
  (new:ObjOk X.prog X.w (upd H x o) h' x o):Inv X pins σ (upd H x o) { s with heap:=h',toks:=t' }:=I.un (Un.write mu he k heo) (I.hok.write mu he k heo new)
theorem Inv.weak {σ':List (Option V)}(I:Inv X pins σ H s) (hl:σ'.length=σ.length) (w:∀ (i:Nat) v,σ'[i]?=some (some v)->σ[i]?=some (some v)):Inv X pins σ' H s:=
 ⟨I.ok,I.os,I.bare,I.base,let ⟨m,hn,hl'⟩:=I.loc;⟨m,hn,fun i x v e1 e2 e3=>hl' i x v e1 (w i v e2) e3⟩,I.cell,I.free,I.freeC,I.pin,I.hok,hl.trans I.len⟩
theorem Inv.pins_of {pins':List (Addr×Obj)}(I:Inv X pins σ H s) (h:∀ p∈pins',s.heap.get? p.1=some p.2/\H p.1=none/\p.1≠X.env.locals/\p.1∉X.fs/\∀ v,p.2.data≠.cell v):Inv X pins' σ H s:=
 ⟨I.ok,I.os,I.bare,I.base,I.loc,I.cell,I.free,I.freeC,fun p hp=>(List.mem_append.mp hp).elim (fun z=>I.pin p (List.mem_append_left _ z)) (h p),I.hok,I.len⟩
theorem a8n {N:List Str}(hN:N.Nodup) {i j:Nat}{x:Str}(a:N[i]?=some x) (b:N[j]?=some x):i=j:=by
 obtain⟨h1,e1⟩:=List.getElem?_eq_some_iff.mp a;obtain⟨h2,e2⟩:=List.getElem?_eq_some_iff.mp b;exact (List.getElem_inj hN).mp (e1.trans e2.symm)
theorem a6K {M:Model}{A:Around}{E:Value->Shared->Prop}{i:Nat}{x:Str}{v:V}{u:Value}{Q:Unit->Shared->Prop}(I:Inv X pins σ H s) (hN:X.N.Nodup) (hi:X.N[i]?=some x) (hx:Loc X.env.scope x) (r:RelV v u)
  (h:∀ s',Inv X pins (σ.set i (some v)) H s'->(∃ a,Heap.SameBut a s.heap s'.heap/\(a=X.env.locals\/X.env.cells.lookup x=some a))->Q () s') (hf:X.fn x=true\/X.env.scope.names.lookup x=some .local:=by first | exact .inl rfl | exact .inr rfl | assumption):wpAny M A (storeName X.env x u) Q E s:=by
 obtain⟨m,hn,hl⟩:=id I.loc;have hcls:(X.env.scope.kind==.class||(X.env.scope.kind==.module&&X.env.locals != X.env.globals))=false:=by rw[I.ok.kind];rfl
 have hiσ:i<σ.length:=by rw[I.len];exact (List.getElem?_eq_some_iff.mp hi).1
 have cne:=I.cne;have tracked:∀ {a:Addr}{h':Heap},(∃ o,s.heap.get? a=some o/\H a=none)->Heap.SameBut a s.heap h'->HOk X.prog X.w H h':=fun {a h'} ha hs b ob e=>by
  obtain⟨_,_,hfree⟩:=ha;refine (I.hok b ob e).stay (fun c w' hc q=>(hs.2 c ?_).trans q) (fun _ q=>q) fun _ _ q=>q;rintro rfl;rcases hc with rfl | hc
  ·rw[hfree]at e;cases e
  ·rw[hfree]at hc;cases hc
 rcases hx with hk | hk
 ·refine wpAny_storeName_local hk hn (fun h' hn' hs=>?_) hcls;obtain⟨oL,_,_,hoL,_⟩:=id hn;refine h _ ⟨I.ok,I.os,I.bare,⟨fun b o e n hb hx=>?_,fun b o e n hb hx=>?_,I.base.free,fun b o e hx=>?_,I.base.tups,I.base.frzs,I.base.tbls⟩,⟨_,hn',fun j y v' e1 e2 e3=>?_⟩,fun y c e=>?_,I.free,I.freeC,fun p hp=>?_,tracked ⟨oL,hoL,I.free⟩ hs,by simpa using I.len⟩ ⟨_,hs,.inl rfl⟩
  ·exact (hs.2 b (Nat.ne_of_lt (Nat.lt_of_lt_of_le (Heap.lt_size e) I.ok.above))).trans (I.base.keep b o e n hb hx)
  ·obtain⟨sl,e1⟩:=I.base.slot b o e n hb hx;exact⟨sl,(hs.2 b (Nat.ne_of_lt (Nat.lt_of_lt_of_le (Heap.lt_size e) I.ok.above))).trans e1⟩
  ·obtain⟨o',e1⟩:=I.base.there b o e hx;exact⟨o',(hs.2 b (Nat.ne_of_lt (Nat.lt_of_lt_of_le (Heap.lt_size e) I.ok.above))).trans e1⟩
  ·by_cases hj:j=i
   ·subst hj;rw[hi]at e1;cases e1;rw[List.getElem?_set_self hiσ]at e2;cases e2;exact⟨u,r,.inl ⟨hk,by simp⟩⟩
   ·rw[List.getElem?_set_ne (Ne.symm hj)]at e2;obtain⟨u',r',q⟩:=hl j y v' e1 e2 e3;refine⟨u',r',?_⟩;rcases q with ⟨k,e⟩ | ⟨k,c,e,z⟩
    ·refine .inl ⟨k,?_⟩
     have:y≠x:=fun e=>hj (a8n hN e1 (e▸hi))
     simp[this,e]
    ·exact .inr ⟨k,c,e,z.sameBut hs (cne y c e)⟩
  ·obtain⟨w',z⟩:=I.cell y c e;exact⟨w',z.sameBut hs (cne y c e)⟩
  ·obtain⟨e,n,ne,nf,d⟩:=I.pin p hp;exact⟨(hs.2 p.1 ne).trans e,n,ne,nf,d⟩
 ·have hfn:X.fn x=true:=by
   rcases hf with z | z
   ·exact z
   ·rw[z]at hk;cases hk
  obtain⟨c,hc⟩:=I.ok.has x (.inl hk);obtain⟨w',z⟩:=I.cell x c hc;refine wpAny_storeName_cell I.ok.kind hk hc z (fun h' hc' hs=>?_);obtain⟨oc,hoc,hocd⟩:=id z;refine h { s with heap:=h' } ⟨I.ok,I.os,I.bare,⟨fun b o e n hb hx=>?_,fun b o e n hb hx=>?_,I.base.free,fun b o e hx=>?_,I.base.tups,I.base.frzs,I.base.tbls⟩,⟨m,hn.sameBut hs (Ne.symm (cne x c hc)),fun j y v' e1 e2 e3=>?_⟩,fun y c' e=>?_,I.free,I.freeC,fun p hp=>?_,tracked ⟨oc,hoc,I.freeC x c hc⟩ hs,by simpa using I.len⟩ ⟨c,hs,.inr hc⟩
  ·exact (hs.2 b (Nat.ne_of_lt (Nat.lt_of_lt_of_le (Heap.lt_size e) (I.ok.cab x c hfn hc)))).trans (I.base.keep b o e n hb hx)
  ·obtain⟨sl,e1⟩:=I.base.slot b o e n hb hx;exact⟨sl,(hs.2 b (Nat.ne_of_lt (Nat.lt_of_lt_of_le (Heap.lt_size e) (I.ok.cab x c hfn hc)))).trans e1⟩
  ·obtain⟨o',e1⟩:=I.base.there b o e hx;exact⟨o',(hs.2 b (Nat.ne_of_lt (Nat.lt_of_lt_of_le (Heap.lt_size e) (I.ok.cab x c hfn hc)))).trans e1⟩
  ·by_cases hj:j=i
   ·subst hj;rw[hi]at e1;cases e1;rw[List.getElem?_set_self hiσ]at e2;cases e2;exact⟨u,r,.inr ⟨.inl hk,c,hc,hc'⟩⟩
   ·rw[List.getElem?_set_ne (Ne.symm hj)]at e2;obtain⟨u',r',q⟩:=hl j y v' e1 e2 e3;refine⟨u',r',?_⟩;rcases q with q | ⟨k,c',e,z'⟩
    ·exact .inl q
    ·refine .inr ⟨k,c',e,z'.sameBut hs ?_⟩;rintro rfl;exact hj (a8n hN e1 (I.ok.inj _ _ _ e hc▸hi))
  ·by_cases hcc:c'=c
   ·subst hcc;exact⟨_,hc'⟩
   ·obtain⟨w2,z2⟩:=I.cell y c' e;exact⟨w2,z2.sameBut hs hcc⟩
  ·obtain⟨e,n,ne,nf,d⟩:=I.pin p hp;refine⟨(hs.2 p.1 ?_).trans e,n,ne,nf,d⟩;intro q;rw[q,hoc]at e;have q':oc=p.2:=Option.some.inj e;exact d w' (by rw[<- q'];exact hocd)
theorem a58 {M:Model}{A:Around}{E:Value->Shared->Prop}{i:Nat}{x:Str}{v:V}{u:Value}{Q:Unit->Shared->Prop}(I:Inv X pins σ H s) (hN:X.N.Nodup) (hi:X.N[i]?=some x) (hx:Loc X.env.scope x) (r:RelV v u)
  (h:∀ s',Inv X pins (σ.set i (some v)) H s'->Q () s') (hf:X.fn x=true\/X.env.scope.names.lookup x=some .local:=by first | exact .inl rfl | exact .inr rfl | assumption):wpAny M A (storeName X.env x u) Q E s:=
 a6K I hN hi hx r (fun s' I' _=>h s' I') hf
theorem Inv.call' {s':Shared}{ch:List Addr}(I:Inv X pins σ H s) (ho:s'.os=s.os) (u:Un (frs X.stack) ch H H' s.heap s'.heap) (hok:HOk X.prog X.w H' s'.heap) (hg:AllBare s'.gens)
  (hch:∀ b∈ch,(b∈X.ex\/X.s₀.heap.objs.size≤b)/\b≠X.env.locals/\(∀ x c,X.env.cells.lookup x=some c->c≠b)/\∀ p∈X.pn++pins,p.1≠b):Inv X pins σ H' s':=by
 obtain⟨h',g',d',t',o'⟩:=s';have e:o'=s.os:=ho;subst e;exact I.call (g':=g') (t':=t') (d':=d') u hok hg hch
end
abbrev XK:=Value->Option Addr->Hp->Prop
abbrev St:=List (Option V)
abbrev VK:=V->Hp->Prop
abbrev TE:=St->Hp->VK->Prop
abbrev TT:=St->Hp->(Bool->Hp->Prop)->Prop
abbrev TA:=St->Hp->(List V->Hp->Prop)->Prop
structure Ends where
 nx:St->Hp->Prop
 rt:VK
 bk:St->Hp->Prop:=fun _ _=>False
 ct:St->Hp->Prop:=fun _ _=>False
abbrev TS:=Ends->St->Hp->Prop
def EP (X:Cx) (pins:List (Addr×Obj)) (σ:St) (Q:VK) (u:Value) (s':Shared):Prop:=∃ v H',Inv X pins σ H' s'/\RelV v u/\Q v H'
def TP (X:Cx) (pins:List (Addr×Obj)) (σ:St) (Q:Bool->Hp->Prop) (b:Bool) (s':Shared):Prop:=∃ H',Inv X pins σ H' s'/\Q b H'
def AP (X:Cx) (pins:List (Addr×Obj)) (σ:St) (Q:List V->Hp->Prop) (us:List Value) (s':Shared):Prop:=∃ vs H',Inv X pins σ H' s'/\Vals vs us/\Q vs H'
def SP (X:Cx) (pins:List (Addr×Obj)) (D:Ends) (f:Flow) (s':Shared):Prop:=
 match f with
 | .next=>∃ σ' H',Inv X pins σ' H' s'/\D.nx σ' H'
 | .brk=>∃ σ' H',Inv X pins σ' H' s'/\D.bk σ' H'
 | .cont=>∃ σ' H',Inv X pins σ' H' s'/\D.ct σ' H'
 | .ret u=>∃ v σ' H',Inv X pins σ' H' s'/\RelV v u/\D.rt v H'
def PE (X:Cx) (e:Expr) (t:TE):Prop:=
 ∀ (pins:List (Addr×Obj)) (s:Shared) (σ:St) (H:Hp) (Q:VK),Inv X pins σ H s->t σ H Q->wpAny (model X.prog X.w) X.A (eval e X.env) (EP X pins σ Q) X.xe s
def PT (X:Cx) (e:Expr) (t:TT):Prop:=
 ∀ (pins:List (Addr×Obj)) (s:Shared) (σ:St) (H:Hp) (Q:Bool->Hp->Prop),Inv X pins σ H s->t σ H Q->wpAny (model X.prog X.w) X.A (isTrue e X.env (eval e X.env)) (TP X pins σ Q) X.xe s
def PW (X:Cx) (e:Expr) (t:TT):Prop:=
 ∀ (whole:Sem Value) (pins:List (Addr×Obj)) (s:Shared) (σ:St) (H:Hp) (Q:Bool->Hp->Prop),Inv X pins σ H s->t σ H Q->wpAny (model X.prog X.w) X.A (isTrue e X.env whole) (TP X pins σ Q) X.xe s
theorem PW.pt {X:Cx}{e:Expr}{t:TT}(h:PW X e t):PT X e t:=h _
def PA (X:Cx) (es:List Expr) (t:TA):Prop:=
 ∀ (pos:Pos) (pins:List (Addr×Obj)) (s:Shared) (σ:St) (H:Hp) (Q:List V->Hp->Prop),Inv X pins σ H s->t σ H Q->wpAny (model X.prog X.w) X.A (spliced (backTo pos (starEach es X.env))) (AP X pins σ Q) X.xe s
def PS (X:Cx) (st:Stmt) (t:TS):Prop:=
 ∀ (pins:List (Addr×Obj)) (s:Shared) (σ:St) (H:Hp) (D:Ends),Inv X pins σ H s->t D σ H->wpAny (model X.prog X.w) X.A (exec st X.env) (SP X pins D) X.xe s
def PSs (X:Cx) (st:List Stmt) (t:TS):Prop:=
 ∀ (pins:List (Addr×Obj)) (s:Shared) (σ:St) (H:Hp) (D:Ends),Inv X pins σ H s->t D σ H->wpAny (model X.prog X.w) X.A (execs st X.env) (SP X pins D) X.xe s
theorem thn {α:Type}{t:Sem α}{Q Q':α->Shared->Prop}{M:Model}{A:Around}{E:Value->Shared->Prop}{s:Shared}(h:wpAny M A t Q E s) (hQ:∀ a s,Q a s->Q' a s):wpAny M A t Q' E s:=wpAny_mono h hQ fun _ _ x=>x
end L2
namespace L2
open PySem PySem.Spec PyProof.Rows
section
variable {X:Cx}
def tVar (i:Nat):TE:=fun σ H Q=>∃ v,σ[i]?=some (some v)/\Q v H
def tC (v:V):TE:=fun _ H Q=>Q v H
theorem b5B {i:Nat}{x:Str}{pos:Pos}(hN:X.N[i]?=some x) (hv:Vis X.env.scope x) (hd:(x==("__debug__":Str))=false:=by decide) (hcd:(x==("__classdict__":Str))=false:=by decide):PE X (.Name x pos) (tVar i):=by
 intro pins s σ H Q I h;obtain⟨v,e,h⟩:=h;obtain⟨m,hn,hl⟩:=I.loc;obtain⟨u,r,l⟩:=hl i x v hN e hv;have fin:EP X pins σ Q u s:=⟨v,H,I,r,h⟩;rcases l with ⟨hk,hm⟩ | ⟨hk,c,hc,hcell⟩
 ·exact wpAny_Name (wpAny_loadName_local I.ok.kind hk hn hm fin) hd
 ·rcases hk with hk | hk
  ·exact wpAny_Name (wpAny_loadName_cell I.ok.kind hk hc hcell fin) hd
  ·exact wpAny_Name (wpAny_loadName_free I.ok.kind hk hc hcell fin hcd) hd
theorem b5C {i j pos}:PE X (.Constant (.int i) j pos) (tC (.int i)):=fun _ _ _ H _ I h=>wpAny_Constant_int ⟨.int i,H,I.tok _,⟨_,rfl⟩,h⟩
theorem b8c {b j pos}:PE X (.Constant (.bool b) j pos) (tC (.bl b)):=fun _ _ _ H _ I h=>Constant_bool ⟨.bl b,H,I,rfl,h⟩
theorem b5D {j pos}:PE X (.Constant .none j pos) (tC .non):=fun _ _ _ H _ I h=>Constant_none ⟨.non,H,I,rfl,h⟩
theorem b5E {x j pos}:PE X (.Constant (.str x) j pos) (tC (.str x)):=fun _ _ _ H _ I h=>Calls.Constant_str ⟨.str x,H,I.tok _,⟨_,rfl⟩,h⟩
def Gl (X:Cx) (x:Str):Prop:=X.env.kindOf x=some .globalImplicit
theorem a59 {E:Value->Shared->Prop}{pins:List (Addr×Obj)}{s:Shared}{σ:St}{H:Hp}{x:Str}{u:Value}{pos:Pos}{Q:Value->Shared->Prop}(I:Inv X pins σ H s) (hg:Gl X x) (hm:X.mg x=some u) (h:Q u s)
  (hd:(x==("__debug__":Str))=false:=by decide):wpAny (model X.prog X.w) X.A (eval (.Name x pos) X.env) Q E s:=
 Calls.Name_function_global I.ok.kind hg (Calls.loadGlobal_global (by rw[I.ok.glob];exact I.mod.glob.keeps I.bk) hm h) hd
theorem a6L {E:Value->Shared->Prop}{pins:List (Addr×Obj)}{s:Shared}{σ:St}{H:Hp}{x:Str}{u:Value}{pos:Pos}{Q:Value->Shared->Prop}(I:Inv X pins σ H s) (hg:Gl X x) (hm:X.mg x=none) (hv:bootBuiltins x=some u) (h:Q u s)
  (hn:x≠"__name__":=by decide) (hd:(x==("__debug__":Str))=false:=by decide):wpAny (model X.prog X.w) X.A (eval (.Name x pos) X.env) Q E s:=by
 obtain⟨mb,h1,h2⟩:=I.mod.blt;exact Calls.Name_function_global I.ok.kind hg (Calls.loadGlobal_builtin (by rw[I.ok.glob];exact I.mod.glob.keeps I.bk) hm (by rw[I.ok.blt];exact h1.keeps I.bk) ((h2 x hn).trans hv) h) hd
theorem b39 {x:Str}{v:V}{u:Value}{pos:Pos}(hg:Gl X x) (hm:X.mg x=some u) (r:RelV v u) (hd:(x==("__debug__":Str))=false:=by decide):PE X (.Name x pos) (tC v):=
 fun _ _ _ H _ I h=>a59 I hg hm ⟨v,H,I,r,h⟩ hd
theorem a3Y {x:Str}{v:V}{u:Value}{pos:Pos}(hg:Gl X x) (hm:X.mg x=none) (hv:bootBuiltins x=some u) (r:RelV v u) (hn:x≠"__name__":=by decide) (hd:(x==("__debug__":Str))=false:=by decide):PE X (.Name x pos) (tC v):=
 fun _ _ _ H _ I h=>a6L I hg hm hv ⟨v,H,I,r,h⟩ hn hd
variable {a b:Expr}{ta tb:TE}{pos:Pos}
def PC (X:Cx) (op:CmpOp) (a b:Expr) (t:TE):Prop:=
 ∀ (pins:List (Addr×Obj)) (s:Shared) (σ:St) (H:Hp) (Q:VK),Inv X pins σ H s->t σ H Q ->
  wpAny (model X.prog X.w) X.A (eval a X.env) (fun v s₁=>wpAny (model X.prog X.w) X.A (eval b X.env) (fun u s₂=>wpAny (model X.prog X.w) X.A (compareOp op v u) (EP X pins σ Q) X.xe s₂) X.xe s₁) X.xe s
def tB (t:TE):TT:=fun σ H Q=>t σ H fun x H1=>∃ c,x=.bl c/\Q c H1
theorem b5F {e:Expr}{t:TE}(h:PE X e t) (he:∀ whole,isTrue e X.env whole=(do let v <- whole;standAt e.pos;holding [v] (truthy v)):=by intro _;rfl):PT X e (tB t):=by
 intro pins s σ H Q I hw;refine isTrue_plain (thn (h pins s σ H _ I hw) fun v s1 ⟨x,H1,I1,r1,q1⟩=>?_) (he _);obtain⟨d,rfl,q⟩:=q1;cases r1;exact wpAny_truthy_bool ⟨H1,I1,q⟩
variable {tA tB':TT}{rest:List Expr}
def tAnd (t u:TT):TT:=fun σ H Q=>t σ H fun c H1=>if c=true then u σ H1 Q else Q false H1
def tOr (t u:TT):TT:=fun σ H Q=>t σ H fun c H1=>if c=true then Q true H1 else u σ H1 Q
def tNot (t:TT):TT:=fun σ H Q=>t σ H fun c H1=>Q (!c) H1
theorem b4a (ha:PT X a tA):PW X (.BoolOp .And [a] pos) tA:=by
 intro wh pins s σ H Q I h;refine isTrue_and (thn (ha pins s σ H Q I h) fun c s1 e=>?_);cases c with
 | true=>exact isTrue_and_nil e
 | false=>exact e
theorem b5G (ha:PT X a tA):PW X (.BoolOp .Or [a] pos) tA:=by
 intro wh pins s σ H Q I h;refine isTrue_or (thn (ha pins s σ H Q I h) fun c s1 e=>?_);cases c with
 | false=>exact isTrue_or_nil e
 | true=>exact e
theorem b5H (ha:PT X a tA) (hb:PW X (.BoolOp .And (b::rest) pos) tB'):PW X (.BoolOp .And (a::b::rest) pos) (tAnd tA tB'):=by
 intro wh pins s σ H Q I h;refine isTrue_and (thn (ha pins s σ H _ I h) fun c s1 ⟨H1,I1,q1⟩=>?_);cases c with
 | true=>exact hb wh pins s1 σ H1 Q I1 q1
 | false=>exact⟨H1,I1,q1⟩
theorem b8d (ha:PT X a tA) (hb:PW X (.BoolOp .Or (b::rest) pos) tB'):PW X (.BoolOp .Or (a::b::rest) pos) (tOr tA tB'):=by
 intro wh pins s σ H Q I h;refine isTrue_or (thn (ha pins s σ H _ I h) fun c s1 ⟨H1,I1,q1⟩=>?_);cases c with
 | true=>exact⟨H1,I1,q1⟩
 | false=>exact hb wh pins s1 σ H1 Q I1 q1
theorem b5I (ha:PT X a tA):PT X (.UnaryOp .Not a pos) (tNot tA):=by
 intro pins s σ H Q I h;exact isTrue_not (ha pins s σ H (fun c H1=>Q (!c) H1) I h)
def b8e (ta tb:TE):TE:=fun σ H Q=>ta σ H fun x H1=>∃ c,x=.bl c/\if c=true then tb σ H1 Q else Q (.bl false) H1
def tOrV (ta tb:TE):TE:=fun σ H Q=>ta σ H fun x H1=>∃ c,x=.bl c/\if c=true then Q (.bl true) H1 else tb σ H1 Q
theorem b5J {op} {t:TE}(h:PE X a t):PE X (.BoolOp op [a] pos) t:=fun pins s σ H Q I hw=>BoolOp_one (h pins s σ H Q I hw)
theorem b5K (ha:PE X a ta) (hb:PE X (.BoolOp .And (b::rest) pos) tb):PE X (.BoolOp .And (a::b::rest) pos) (b8e ta tb):=by
 intro pins s σ H Q I h;refine BoolOp_and (thn (ha pins s σ H _ I h) fun v s1 ⟨x,H1,I1,r1,q1⟩=>?_);obtain⟨c,rfl,q1⟩:=q1;cases r1;refine wpAny_truthy_bool ?_;cases c with
 | true=>exact hb pins s1 σ H1 Q I1 q1
 | false=>exact⟨.bl false,H1,I1,rfl,q1⟩
theorem b8f (ha:PE X a ta) (hb:PE X (.BoolOp .Or (b::rest) pos) tb):PE X (.BoolOp .Or (a::b::rest) pos) (tOrV ta tb):=by
 intro pins s σ H Q I h;refine BoolOp_or (thn (ha pins s σ H _ I h) fun v s1 ⟨x,H1,I1,r1,q1⟩=>?_);obtain⟨c,rfl,q1⟩:=q1;cases r1;refine wpAny_truthy_bool ?_;cases c with
 | false=>exact hb pins s1 σ H1 Q I1 q1
 | true=>exact⟨.bl true,H1,I1,rfl,q1⟩
def tIf (t:TT) (ta tb:TE):TE:=fun σ H Q=>t σ H fun c H1=>if c=true then ta σ H1 Q else tb σ H1 Q
theorem b17 {c:Expr}(hc:PT X c tA) (ha:PE X a ta) (hb:PE X b tb):PE X (.IfExp c a b pos) (tIf tA ta tb):=by
 intro pins s σ H Q I h;refine wpAny_IfExp (thn (hc pins s σ H _ I h) fun d s1 ⟨H1,I1,q1⟩=>?_);cases d with
 | true=>exact ha pins s1 σ H1 Q I1 q1
 | false=>exact hb pins s1 σ H1 Q I1 q1
end
end L2
namespace L2
open PySem PySem.Spec PyProof.Rows
def SqL (K:Fg) (H:Hp) (a:Addr) (xs:List V):Prop:=
 Rd H a (.lst xs) \/
  ∃ (o:Obj) (its:Array Value) (n:Nat),K.lookup a=some o/\o.cls=.type "list"/\o.dict=none/\o.data=.seq its n/\its.size≤sizeLine/\Vals xs its.toList
def SqT (K:Fg) (H:Hp) (a:Addr) (xs:List V):Prop:=
 Rd H a (.tup xs) \/
  ∃ (o:Obj) (its:Array Value) (n:Nat),K.lookup a=some o/\o.cls=.type "tuple"/\o.data=.seq its n/\its.size≤sizeLine/\Vals xs its.toList
def absV:Value->Option V
 | .none=>some .non
 | .bool b=>some (.bl b)
 | .int i _=>some (.int i)
 | .str x _=>some (.str x)
 | .bytes b _=>some (.byt b)
 | .float b _=>some (.flt b)
 | .ref a=>some (.ref a)
 | .type n=>some (.ty n)
 | _=>none
theorem RelV.abs {x:V}{u:Value}(r:RelV x u):absV u=some x:=by
 cases x with
 | non=>cases r;rfl
 | bl _=>cases r;rfl
 | int _=>obtain⟨t,rfl⟩:=r;rfl
 | str _=>obtain⟨t,rfl⟩:=r;rfl
 | byt _=>obtain⟨t,rfl⟩:=r;rfl
 | flt _=>obtain⟨t,rfl⟩:=r;rfl
 | ref _=>cases r;rfl
 | ty _=>cases r;rfl
theorem RelV.inj {x y:V}{u:Value}(r:RelV x u) (q:RelV y u):x=y:=Option.some.inj (r.abs.symm.trans q.abs)
theorem Vals.inj:∀ {xs ys:List V}{us:List Value},Vals xs us->Vals ys us->xs=ys
 | _,_,_,.nil,.nil=>rfl
 | _,_,_,.cons r t,.cons r' t'=>by rw[r.inj r',Vals.inj t t']
section
variable {X:Cx}{pins:List (Addr×Obj)}{σ:St}{H:Hp}{s:Shared}{a:Addr}{xs ys:List V}
theorem SqL.of {K:Fg}(h:H a=some (.lst xs)):SqL K H a xs:=.inl (.inl h)
theorem SqT.of {K:Fg}(h:H a=some (.tup xs)):SqT K H a xs:=.inl (.inl h)
theorem Inv.list (I:Inv X pins σ H s) (h:SqL X.K H a xs):∃ its:List Value,Vals xs its/\PlainL s.heap a its.toArray/\xs.length≤sizeLine:=by
 rcases h with h | ⟨o,its,n,hk,hc,hd,hs,hz,r⟩
 ·obtain⟨z,its,n,r,e⟩:=h.ok I.hok;exact⟨its,r,⟨_,n,e,rfl,rfl,rfl⟩,z⟩
 ·refine⟨its.toList,r,⟨o,n,I.kIn a o hk,hc,hd,by simpa using hs⟩,?_⟩;have e:=r.length;simp only[Array.length_toList]at e;omega
theorem Inv.tuple (I:Inv X pins σ H s) (h:SqT X.K H a xs):∃ its:List Value,Vals xs its/\IsTup s.heap a its.toArray/\xs.length≤sizeLine:=by
 rcases h with h | ⟨o,its,n,hk,hc,hs,hz,r⟩
 ·obtain⟨z,its,r,p⟩:=h.ok I.hok;exact⟨its,r,p,z⟩
 ·refine⟨its.toList,r,⟨o,I.kIn a o hk,hc,n,by simpa using hs⟩,?_⟩;have e:=r.length;simp only[Array.length_toList]at e;omega
theorem Inv.list_inj (I:Inv X pins σ H s) (h:SqL X.K H a xs) (h':SqL X.K H a ys):xs=ys:=by
 obtain⟨its,r,⟨o,n,e,_,_,d⟩,_⟩:=I.list h;obtain⟨its',r',⟨o',n',e',_,_,d'⟩,_⟩:=I.list h';rw[e]at e';cases e';rw[d]at d';injection d' with d1 _
 have:its=its':=by simpa using congrArg Array.toList d1
 subst this;exact r.inj r'
theorem Inv.tuple_inj (I:Inv X pins σ H s) (h:SqT X.K H a xs) (h':SqT X.K H a ys):xs=ys:=by
 obtain⟨its,r,⟨o,e,_,n,d⟩,_⟩:=I.tuple h;obtain⟨its',r',⟨o',e',_,n',d'⟩,_⟩:=I.tuple h';rw[e]at e';cases e';rw[d]at d';injection d' with d1 _
 have:its=its':=by simpa using congrArg Array.toList d1
 subst this;exact r.inj r'
end
abbrev Cx.wish (X:Cx) (E:Value->Shared->Prop):Cx:={ X with xe:=E }
abbrev Cx.nox (X:Cx):Cx:=X.wish fun _ _=>False
theorem Cx.Ok.wish {X:Cx}(ok:X.Ok) (E:Value->Shared->Prop):(X.wish E).Ok:=
 ⟨ok.mod,ok.kind,ok.glob,ok.blt,ok.above,ok.inj,ok.has,ok.cab,ok.hd,ok.frames,ok.stk,ok.exf,ok.bs,ok.bsz,ok.noex,ok.exfs,ok.funs,ok.frf⟩
theorem Cx.Ok.unwish {X:Cx}{E:Value->Shared->Prop}(ok:(X.wish E).Ok):X.Ok:=
 ⟨ok.mod,ok.kind,ok.glob,ok.blt,ok.above,ok.inj,ok.has,ok.cab,ok.hd,ok.frames,ok.stk,ok.exf,ok.bs,ok.bsz,ok.noex,ok.exfs,ok.funs,ok.frf⟩
section
variable {X:Cx}{pins:List (Addr×Obj)}{σ:St}{H:Hp}{s:Shared}{E:Value->Shared->Prop}
theorem Inv.wish (I:Inv X pins σ H s) (E:Value->Shared->Prop):Inv (X.wish E) pins σ H s:=⟨I.ok.wish E,I.os,I.bare,I.base,I.loc,I.cell,I.free,I.freeC,I.pin,I.hok,I.len⟩
theorem Inv.unwish (I:Inv (X.wish E) pins σ H s):Inv X pins σ H s:=⟨I.ok.unwish,I.os,I.bare,I.base,I.loc,I.cell,I.free,I.freeC,I.pin,I.hok,I.len⟩
theorem SP.unwish {D:Ends}{f:Flow}{s':Shared}(h:SP (X.wish E) pins D f s'):SP X pins D f s':=by
 cases f with
 | next=>obtain⟨σ',H',I,q⟩:=h;exact⟨σ',H',I.unwish,q⟩
 | brk=>obtain⟨σ',H',I,q⟩:=h;exact⟨σ',H',I.unwish,q⟩
 | cont=>obtain⟨σ',H',I,q⟩:=h;exact⟨σ',H',I.unwish,q⟩
 | ret u=>obtain⟨v,σ',H',I,r,q⟩:=h;exact⟨v,σ',H',I.unwish,r,q⟩
theorem PE.nox {e:Expr}{t:TE}(h:PE X.nox e t):PE X e t:=fun pins s σ H Q I hw=>
 wpAny_mono (h pins s σ H Q (I.wish _) hw) (fun _ _ ⟨v,H',I',r,q⟩=>⟨v,H',I'.unwish,r,q⟩) fun _ _ z=>False.elim z
theorem PT.nox {e:Expr}{t:TT}(h:PT X.nox e t):PT X e t:=fun pins s σ H Q I hw=>
 wpAny_mono (h pins s σ H Q (I.wish _) hw) (fun _ _ ⟨H',I',q⟩=>⟨H',I'.unwish,q⟩) fun _ _ z=>False.elim z
theorem PSs.nox {st:List Stmt}{t:TS}(h:PSs X.nox st t):PSs X st t:=fun pins s σ H D I hw=>
 wpAny_mono (h pins s σ H D (I.wish _) hw) (fun _ _ q=>q.unwish) fun _ _ z=>False.elim z
end
section
variable {X:Cx}{st:Stmt}{rest:List Stmt}{t u:TS}{e:Expr}{te:TE}{pos:Pos}
def b8g:TS:=fun D σ H=>D.nx σ H
def tSeq (t u:TS):TS:=fun D σ H=>t { D with nx:=u D } σ H
theorem b4b:PSs X [] b8g:=fun _ _ σ H _ I h=>wpAny_execs_nil ⟨σ,H,I,h⟩
theorem a8o (h1:PS X st t) (h2:PSs X rest u):PSs X (st::rest) (tSeq t u):=by
 intro pins s σ H D I h;refine wpAny_execs_cons (thn (h1 pins s σ H { D with nx:=u D } I h) fun f s1 q=>?_);cases f with
 | next=>
  obtain⟨σ',H',I',q⟩:=q;exact h2 pins s1 σ' H' D I' q
 | ret v=>exact q
 | brk=>exact q
 | cont=>exact q
theorem b4c (h1:PS X st t):PSs X [st] t:=by
 intro pins s σ H D I h;refine wpAny_execs_cons (thn (h1 pins s σ H D I h) fun f s1 q=>?_);cases f with
 | next=>exact wpAny_execs_nil q
 | ret v=>exact q
 | brk=>exact q
 | cont=>exact q
theorem Inv.quiet {pins:List (Addr×Obj)}{σ:St}{H:Hp}{s:Shared}(I:Inv X pins σ H s):interactive X.env=false:=by simp[interactive,I.ok.kind]
def b8h (te:TE):TS:=fun D σ H=>te σ H fun _ H1=>D.nx σ H1
theorem b4d (he:PE X e te) (hs:swapsWith e none pos.line X.env=pure false:=by rfl):PS X (.Expr e pos) (b8h te):=by
 intro pins s σ H D I h;exact wpAny_Expr_any (thn (he pins s σ H _ I h) fun v s1 ⟨x,H1,I1,r1,q1⟩=>⟨σ,H1,I1,q1⟩) I.quiet hs
def tRet (te:TE):TS:=fun D σ H=>te σ H D.rt
theorem b5L (he:PE X e te):PS X (.Return (some e) pos) (tRet te):=by
 intro pins s σ H D I h;exact wpAny_Return_some (thn (he pins s σ H _ I h) fun v s1 ⟨x,H1,I1,r1,q1⟩=>⟨x,σ,H1,I1,r1,q1⟩)
def tIfS (c:TT) (t u:TS):TS:=fun D σ H=>c σ H fun b H1=>if b=true then t D σ H1 else u D σ H1
theorem b8i {c:Expr}{a b:List Stmt}{tc:TT}(hc:PT X c tc) (ha:PSs X a t) (hb:PSs X b u):PS X (.If c a b pos) (tIfS tc t u):=by
 intro pins s σ H D I h;refine wpAny_If (thn (hc pins s σ H _ I h) fun d s1 ⟨H1,I1,q1⟩=>?_);cases d with
 | true=>exact ha pins s1 σ H1 D I1 q1
 | false=>exact hb pins s1 σ H1 D I1 q1
end
abbrev TG:=V->St->Hp->(St->Hp->Prop)->Prop
abbrev TGs:=List V->St->Hp->(St->Hp->Prop)->Prop
def PG (X:Cx) (target:Expr) (t:TG):Prop:=
 ∀ (pins:List (Addr×Obj)) (s:Shared) (σ:St) (H:Hp) (v:V) (u:Value) (Q:St->Hp->Prop),Inv X pins σ H s->RelV v u->t v σ H Q ->
  wpAny (model X.prog X.w) X.A (assign target X.env u) (fun _ s'=>∃ σ' H',Inv X pins σ' H' s'/\Q σ' H') X.xe s
def PGs (X:Cx) (ts:List Expr) (t:TGs):Prop:=
 ∀ (pins:List (Addr×Obj)) (s:Shared) (σ:St) (H:Hp) (vs:List V) (us:List Value) (Q:St->Hp->Prop),Inv X pins σ H s->Vals vs us->t vs σ H Q ->
  wpAny (model X.prog X.w) X.A (assignInOrder ((assignEach ts X.env).map (·.2)) us) (fun _ s'=>∃ σ' H',Inv X pins σ' H' s'/\Q σ' H') X.xe s
abbrev TSet:=V->V->V->Hp->(Hp->Prop)->Prop
def PSet (X:Cx) (t:TSet):Prop:=
 ∀ (pins:List (Addr×Obj)) (s:Shared) (σ:St) (H:Hp) (o i v:V) (ov iv u:Value) (Q:Hp->Prop),Inv X pins σ H s->RelV o ov->RelV i iv->RelV v u->t o i v H Q ->
  wpAny (model X.prog X.w) X.A (setItem ov iv u) (fun _ s'=>∃ H',Inv X pins σ H' s'/\Q H') X.xe s
abbrev TIp:=V->V->Hp->VK->Prop
def PIp (X:Cx) (op:Operator) (t:TIp):Prop:=
 ∀ (pins:List (Addr×Obj)) (s:Shared) (σ:St) (H:Hp) (x y:V) (v u:Value) (Q:VK),Inv X pins σ H s->RelV x v->RelV y u->t x y H Q ->
  wpAny (model X.prog X.w) X.A (inplaceOp op v u) (EP X pins σ Q) X.xe s
section
variable {X:Cx}{pos:Pos}
def a98 (i:Nat):TG:=fun v σ H Q=>Q (σ.set i (some v)) H
theorem a0o {i:Nat}{x:Str}(hN:X.N.Nodup) (hi:X.N[i]?=some x) (hx:Loc X.env.scope x) (hf:X.fn x=true\/X.env.scope.names.lookup x=some .local:=by first | exact .inl rfl | exact .inr rfl | assumption):PG X (.Name x pos) (a98 i):=by
 intro pins s σ H v u Q I r h;exact wpAny_assign_Name (a58 I hN hi hx r (fun s' I'=>⟨_,H,I',h⟩) hf)
def gNil:TGs:=fun vs σ H Q=>vs=[]/\Q σ H
def b5M (t:TG) (u:TGs):TGs:=fun vs σ H Q=>∃ v r,vs=v::r/\t v σ H fun σ' H'=>u r σ' H' Q
theorem a2k:PGs X [] gNil:=by
 intro pins s σ H vs us Q I r h;obtain⟨e,h⟩:=h;subst e;cases r;exact assignInOrder_nil ⟨σ,H,I,h⟩
theorem a0z {e:Expr}{es:List Expr}{t:TG}{u:TGs}(h1:PG X e t) (h2:PGs X es u)
  (hs:(assignEach (e::es) X.env).map (·.2)=assign e X.env::(assignEach es X.env).map (·.2):=by rfl):PGs X (e::es) (b5M t u):=by
 intro pins s σ H vs us Q I r h;obtain⟨v,vr,e1,h⟩:=h;subst e1;cases r with
 | cons r rr=>
  rw[hs];refine assignInOrder_cons (thn (h1 pins s σ H _ _ _ I r h) fun _ s1 ⟨σ1,H1,I1,q1⟩=>?_);exact h2 pins s1 σ1 H1 _ _ Q I1 rr q1
def gTup (K:Fg) (n:Nat) (t:TGs):TG:=fun v σ H Q=>∃ a xs,v=.ref a/\SqT K H a xs/\xs.length=n/\t xs σ H Q
theorem a3x {es:List Expr}{k:Nat}{t:TGs}{n:Nat}(hc:X.calm=true) (h:PGs X es t)
  (hn:(assignEach es X.env).length=n:=by rfl) (hst:(assignEach es X.env).findIdx? (·.1)=none:=by rfl):PG X (.Tuple es k pos) (gTup X.K n t):=by
 intro pins s σ H v u Q I r hw;obtain⟨a,xs,e1,hq,hl,hw⟩:=hw;subst e1;cases r;obtain⟨its,rv,ht,hz⟩:=I.tuple hq;refine assign_Tuple_tuple (I.ok.hd hc) ht (by simp[hn,<- hl,rv.length]) hst fun h' hx=>?_;have I1:Inv X pins σ H { s with heap:=h' }:=I.kept (t':=s.toks) fun b o e=>hx b o (Nat.ne_of_lt (Heap.lt_size e)) e;exact h pins _ σ H xs _ Q I1 (by simpa using rv) hw
def gSub (to ti:TE) (t:TSet):TG:=fun v σ H Q=>to σ H fun o H1=>ti σ H1 fun i H2=>t o i v H2 fun H3=>Q σ H3
theorem b5N {o i:Expr}{to ti:TE}{t:TSet}(ho:PE X o to) (hi:PE X i ti) (hs:PSet X t)
  (ha:∀ v,assign (.Subscript o i pos) X.env v=(do
   let ov <- holding [v] (eval o X.env)
   let iv <- holding [v,ov] (eval i X.env)
   standAt pos
   holding [v,ov,iv] (setItem ov iv v)
   release [v,ov,iv] []):=by intro _;rfl):PG X (.Subscript o i pos) (gSub to ti t):=by
 intro pins s σ H v u Q I r h;rw[ha];refine wpAny_bind (wpAny_holding (thn (ho pins s σ H _ I h) fun ov s1 ⟨x,H1,I1,r1,q1⟩=>?_));refine wpAny_bind (wpAny_holding (thn (hi pins s1 σ H1 _ I1 q1) fun iv s2 ⟨y,H2,I2,r2,q2⟩=>?_));refine wpAny_bind (wpAny_standAt (wpAny_bind (wpAny_holding (thn (hs pins s2 σ H2 x y v ov iv u _ I2 r1 r2 r q2) fun _ s3 ⟨H3,I3,q3⟩=>?_))));exact wpAny_release ⟨σ,H3,I3,q3⟩
def tAsg (te:TE) (g:TG):TS:=fun D σ H=>te σ H fun x H1=>g x σ H1 D.nx
theorem b3q {tg e:Expr}{te:TE}{g:TG}(he:PE X e te) (hg:PG X tg g) (hs:swapsWithSole [tg] e pos.line X.env=pure false:=by rfl) (hw:swappedStores [tg] e X.env=pure none:=by rfl)
  (h1:(assignEach [tg] X.env).map (·.2)=[assign tg X.env]:=by rfl):PS X (.Assign [tg] e pos) (tAsg te g):=by
 intro pins s σ H D I h;refine wpAny_Assign_stores (thn (he pins s σ H _ I h) fun v s1 ⟨x,H1,I1,r1,q1⟩=>?_) hs hw;rw[h1];exact thn (hg pins s1 σ H1 x v _ I1 r1 q1) fun _ s2 q=>q
theorem b5O {i:Nat}{x:Str}{e:Expr}{te:TE}{pos':Pos}(hN:X.N.Nodup) (hi:X.N[i]?=some x) (hx:Loc X.env.scope x) (he:PE X e te) (hs:swapsWith e (some (.Name x pos')) pos.line X.env=pure false:=by rfl) (hf:X.fn x=true\/X.env.scope.names.lookup x=some .local:=by first | exact .inl rfl | exact .inr rfl | assumption) :
  PS X (.Assign [.Name x pos'] e pos) (tAsg te (a98 i)):=by
 intro pins s σ H D I h;refine wpAny_Assign_Name (thn (he pins s σ H _ I h) fun v s1 ⟨y,H1,I1,r1,q1⟩=>?_) hs;exact a58 I1 hN hi hx r1 (fun s2 I2=>⟨_,H1,I2,q1⟩) hf
def tAug (i:Nat) (te:TE) (ti:TIp):TS:=fun D σ H=>∃ x,σ[i]?=some (some x)/\te σ H fun y H1=>ti x y H1 fun z H2=>D.nx (σ.set i (some z)) H2
theorem b5P {i:Nat}{x:Str}{e:Expr}{te:TE}{op:Operator}{ti:TIp}{pos':Pos}(hN:X.N.Nodup) (hi:X.N[i]?=some x) (hx:Loc X.env.scope x) (he:PE X e te) (ho:PIp X op ti) (hf:X.fn x=true\/X.env.scope.names.lookup x=some .local:=by first | exact .inl rfl | exact .inr rfl | assumption) :
  PS X (.AugAssign (.Name x pos') op e pos) (tAug i te ti):=by
 intro pins s σ H D I h;obtain⟨v,e1,h⟩:=h;obtain⟨m,hn,hl⟩:=I.loc;have vis:Vis X.env.scope x:=by rcases hx with k | k;exact .inl k;exact .inr (.inl k)
 obtain⟨u,r,l⟩:=hl i x v hi e1 vis;refine wpAny_AugAssign_Name ?_;have go:wpAny (model X.prog X.w) X.A (eval e X.env) (fun w s₂=>wpAny (model X.prog X.w) X.A (inplaceOp op u w) (fun r s₃=>wpAny (model X.prog X.w) X.A (storeName X.env x r) (fun _=>SP X pins D .next) X.xe s₃) X.xe s₂) X.xe s:=by
  refine thn (he pins s σ H _ I h) fun w s1 ⟨y,H1,I1,r1,q1⟩=>?_;refine thn (ho pins s1 σ H1 v y u w _ I1 r r1 q1) fun z s2 ⟨zv,H2,I2,r2,q2⟩=>?_;exact a58 I2 hN hi hx r2 (fun s3 I3=>⟨_,H2,I3,q2⟩) hf
 rcases l with ⟨hk,hm⟩ | ⟨hk,c,hc,hcell⟩
 ·exact wpAny_loadName_local I.ok.kind hk hn hm go
 ·rcases hk with hk | hk
  ·exact wpAny_loadName_cell I.ok.kind hk hc hcell go
  ·rcases hx with k | k
   ·have:X.env.scope.names.lookup x=some .free:=hk
    rw[k]at this;cases this
   ·have:X.env.scope.names.lookup x=some .free:=hk
    rw[k]at this;cases this
end
section
variable {X:Cx}{pos:Pos}
def b5Q (c:TT) (tb:TS):TS:=fun D σ H=>∃ W:Nat->St->Hp->Prop,(∃ m,W m σ H)/\∀ m σ H,W m σ H ->
 c σ H fun b H1=>if b=true then ∃ N:St->Hp->Prop,(∀ σ' H',N σ' H'->∃ m',m'<m/\W m' σ' H')/\tb { D with nx:=N,ct:=N,bk:=D.nx } σ H1 else D.nx σ H1
theorem b18 {c:Expr}{body:List Stmt}{tc:TT}{tb:TS}(hp:PassesOwn (model X.prog X.w) X.A X.env X.xe) (hc:PT X c tc) (hb:PSs X body tb):PS X (.While c body [] pos) (b5Q tc tb):=by
 intro pins s σ H D I h;obtain⟨W,⟨m0,w0⟩,turn⟩:=h;refine wpAny_While (codeAny_whileLoop (fun n s'=>∃ σ' H',Inv X pins σ' H' s'/\W n σ' H') ?_ m0 ⟨σ,H,I,w0⟩);rintro n s1 ⟨σ1,H1,I1,w1⟩;refine wpAny_passesOwn hp (thn (hc pins s1 σ1 H1 _ I1 (turn n σ1 H1 w1)) fun b s2 ⟨H2,I2,q2⟩=>?_);cases b with
 | true=>
  obtain⟨N,hN,q2⟩:=q2;rw[if_pos rfl];refine wpAny_passesOwn hp (thn (hb pins s2 σ1 H2 _ I2 q2) fun f s3 q3=>?_);cases f with
  | next=>
   obtain⟨σ3,H3,I3,n3⟩:=q3;obtain⟨m',hm,w3⟩:=hN σ3 H3 n3;exact⟨m',hm,σ3,H3,I3,w3⟩
  | cont=>
   obtain⟨σ3,H3,I3,n3⟩:=q3;obtain⟨m',hm,w3⟩:=hN σ3 H3 n3;exact⟨m',hm,σ3,H3,I3,w3⟩
  | brk=>exact q3
  | ret v=>exact q3
 | false=>
  rw[if_neg Bool.false_ne_true];exact wpAny_execs_nil ⟨σ1,H2,I2,q2⟩
end
structure It where
 go:Nat->Hp->Prop
 yld:Nat->Hp->V->Hp->Prop
 stop:Nat->Hp->Prop
def FpOk (X:Cx) (pins:List (Addr×Obj)) (H:Hp) (b:Addr):Prop:=
 H b=none/\b≠X.env.locals/\b∉X.fs/\(b∈X.ex\/X.s₀.heap.objs.size≤b)/\(∀ x c,X.env.cells.lookup x=some c->c≠b)/\∀ p∈X.pn++pins,p.1≠b
theorem Inv.fpOk {X:Cx}{pins:List (Addr×Obj)}{σ:St}{H H':Hp}{s:Shared}{b:Addr}(I:Inv X pins σ H s) (hb:s.heap.objs.size≤b) (hn:H' b=none):FpOk X pins H' b:=by
 refine⟨hn,Nat.ne_of_gt (Nat.lt_of_lt_of_le I.lt hb),I.nofs hb,.inr (Nat.le_trans I.sz hb),fun x c e z=>?_,fun p hp z=>?_⟩
 ·obtain⟨v,q⟩:=I.cell x c e;exact absurd (Nat.lt_of_lt_of_le q.lt (by rw[z];exact hb)) (Nat.lt_irrefl _)
 ·exact absurd (Nat.lt_of_lt_of_le (Heap.lt_size (I.pin p hp).1) (by rw[z];exact hb)) (Nat.lt_irrefl _)
structure Turn (P:Program) (w:World) (K:Fg) (tg:Expr) (J:It) (fp:List Addr) (it:Addr) (tn:Nat->Heap->Prop):Prop where
 mem:it∈fp
 obj:∀ i h,tn i h->∀ b∈fp,∃ o,h.get? b=some o/\∀ v,o.data≠.cell v
 keep:∀ i h h',tn i h->(∀ b∈fp,∀ o,h.get? b=some o->h'.get? b=some o)->tn i h'
 item:∀ (X:Cx),X.prog=P->X.w=w->X.K=K->X.calm=true->∀ (i:Nat) (pins:List (Addr×Obj)) (s:Shared) (σ:St) (H:Hp) (E:Value->Shared->Prop),Inv X pins σ H s->(∀ b∈fp,FpOk X pins H b)->tn i s.heap->J.go i H ->
  wpAny (model P w) X.A (pyNext (.ref it)) (fun r s1=>∃ u,r=some u /\
   wpAny (model P w) X.A (letOwnedTupleGo tg (.ref it) u) (fun _ s2=>∃ x H',Inv X pins σ H' s2/\RelV x u/\J.yld i H x H'/\tn (i+1) s2.heap/\∀ b∈fp,H' b=none) E s1) E s
 done:∀ (X:Cx),X.prog=P->X.w=w->X.K=K->X.calm=true->∀ (i:Nat) (pins:List (Addr×Obj)) (s:Shared) (σ:St) (H:Hp) (E:Value->Shared->Prop),Inv X pins σ H s->(∀ b∈fp,FpOk X pins H b)->tn i s.heap->J.stop i H ->
  wpAny (model P w) X.A (pyNext (.ref it)) (fun r s1=>r=none/\Inv X pins σ H s1) E s
 self:∀ (A:Around) (i:Nat) (s:Shared) (Q:Value->Shared->Prop) (E:Value->Shared->Prop),tn i s.heap->Q (.ref it) s->wpAny (model P w) A (pyIter (.ref it)) Q E s
abbrev TI:=St->Hp->(It->Hp->Prop)->Prop
def PIE (X:Cx) (pins:List (Addr×Obj)) (σ:St) (tg:Expr) (R:It->Hp->Prop) (itv:Value) (s2:Shared):Prop:=
 ∃ (it:Addr) (fp:List Addr) (tn:Nat->Heap->Prop) (J:It) (H':Hp),itv=.ref it/\Inv X pins σ H' s2/\Turn X.prog X.w X.K tg J fp it tn/\tn 0 s2.heap/\(∀ b∈fp,FpOk X pins H' b)/\R J H'
def PI (X:Cx) (tg iter:Expr) (wi:TI):Prop:=
 ∀ (pins:List (Addr×Obj)) (s:Shared) (σ:St) (H:Hp) (R:It->Hp->Prop),Inv X pins σ H s->wi σ H R ->
  wpAny (model X.prog X.w) X.A (eval iter X.env) (fun v s1=>wpAny (model X.prog X.w) X.A (pyIter v) (PIE X pins σ tg R) X.xe s1) X.xe s
theorem a9o {M:Model}{A:Around}{E:Value->Shared->Prop}{s:Shared}{tg:Expr}{it:Addr}{u:Value}{o:Obj}{n:String}{vs:Array Value}{Q:Unit->Shared->Prop}(ho:s.heap.get? it=some o) (hc:o.cls=.type n) (hd:o.data=.fields vs)
    (hn:["enumerate","zip","dict_itemiterator","dict_reverseitemiterator","odict_iterator","itertools.zip_longest","itertools.pairwise"].contains n=false) (hQ:Q () s):wpAny M A (letOwnedTupleGo tg (.ref it) u) Q E s:=by
  unfold letOwnedTupleGo;cases tg<;>first
    | exact wpAny_pure hQ
    | (cases u<;>first
        | exact wpAny_pure hQ
        | (refine wpAny_bind (wpAny_load ho ?_)
           rw[hc,hd]
           show wpAny M A (if (["enumerate","zip","dict_itemiterator","dict_reverseitemiterator","odict_iterator","itertools.zip_longest","itertools.pairwise"].contains n&&vs[0]?==some (rawInt _))=true then _ else _) Q E s
           rw[if_neg (by intro h;rw[hn,Bool.false_and]at h;cases h)];exact wpAny_pure hQ))
def Itl (K:Fg) (a:Addr):It:=
 ⟨fun i H=>∃ xs x,SqL K H a xs/\xs[i]?=some x,fun i H x H'=>H'=H/\∀ xs,SqL K H a xs->xs[i]?=some x,fun i H=>∃ xs,SqL K H a xs/\xs.length≤i⟩
def Itt (K:Fg) (a:Addr):It:=
 ⟨fun i H=>∃ xs x,SqT K H a xs/\xs[i]?=some x,fun i H x H'=>H'=H/\∀ xs,SqT K H a xs->xs[i]?=some x,fun i H=>∃ xs,SqT K H a xs/\xs.length≤i⟩
def Itr (lo:Int) (n:Nat):It:=⟨fun i _=>i<n,fun i H x H'=>H'=H/\x=.int (lo+i),fun i _=>n≤i⟩
theorem a99 {P:Program}{w:World}{K:Fg}{tg:Expr}(a it:Addr):Turn P w K tg (Itl K a) [it] it (fun i h=>h.IsListIter it a i) where
 mem:=by simp
 obj:=fun i h st b hb=>by
  have e:b=it:=by simpa using hb
  subst e;obtain⟨o,e,c,d⟩:=st;exact⟨o,e,fun v z=>by rw[d]at z;cases z⟩
 keep:=fun i h h' st k=>st.at fun o e=>k it (by simp) o e
 item:=by
  intro X hP hw hK hc i pins s σ H E I hf st hg;subst hP hw hK;obtain⟨xs,x,hq,hx⟩:=hg;obtain⟨its,rv,p,hz⟩:=I.list hq;obtain⟨u,hu,ru⟩:=rv.get hx;obtain⟨f0,f1,f2,f3,f4,f5⟩:=hf it (by simp);refine wpAny_pyNext_list_item st p.isList (x:=u) (by simpa using hu) fun h' st' sb=>?_;have I1:Inv X pins σ H { s with heap:=h' }:=I.turned (t':=s.toks) (fun b o hb e=>(sb.2 b hb).trans e) f0 f1 f3 f4 f5;obtain⟨o,e,c,d⟩:=id st';exact⟨u,rfl,a9o (s:={ s with heap:=h' }) e c d (by decide) ⟨x,H,I1,ru,⟨rfl,fun ys hy=>by rw[I.list_inj hy hq];exact hx⟩,st',fun b hb=>(hf b hb).1⟩⟩
 done:=by
  intro X hP hw hK hc i pins s σ H E I hf st hg;subst hP hw hK;obtain⟨xs,hq,hx⟩:=hg;obtain⟨its,rv,p,hz⟩:=I.list hq;obtain⟨f0,f1,f2,f3,f4,f5⟩:=hf it (by simp);have hl:=rv.length;exact wpAny_pyNext_list_end (I.ok.hd hc) st p.isList (by simp;omega) fun h' eb=>⟨rfl,I.turned (t':=s.toks) (fun b o hb e=>eb b o hb e) f0 f1 f3 f4 f5⟩
 self:=fun _ _ _ _ _ st h=>wpAny_pyIter_listiter st h
theorem a9p {P:Program}{w:World}{K:Fg}{tg:Expr}(a it:Addr):Turn P w K tg (Itt K a) [it] it (fun i h=>h.IsTupleIter it a i) where
 mem:=by simp
 obj:=fun i h st b hb=>by
  have e:b=it:=by simpa using hb
  subst e;obtain⟨o,e,c,d⟩:=st;exact⟨o,e,fun v z=>by rw[d]at z;cases z⟩
 keep:=fun i h h' st k=>st.at fun o e=>k it (by simp) o e
 item:=by
  intro X hP hw hK hc i pins s σ H E I hf st hg;subst hP hw hK;obtain⟨xs,x,hq,hx⟩:=hg;obtain⟨its,rv,p,hz⟩:=I.tuple hq;obtain⟨u,hu,ru⟩:=rv.get hx;obtain⟨f0,f1,f2,f3,f4,f5⟩:=hf it (by simp);refine wpAny_pyNext_tuple_item st (show s.heap.IsTuple a its.toArray from p) (x:=u) (by simpa using hu) fun h' st' sb=>?_;have I1:Inv X pins σ H { s with heap:=h' }:=I.turned (t':=s.toks) (fun b o hb e=>(sb.2 b hb).trans e) f0 f1 f3 f4 f5;obtain⟨o,e,c,d⟩:=id st';exact⟨u,rfl,a9o (s:={ s with heap:=h' }) e c d (by decide) ⟨x,H,I1,ru,⟨rfl,fun ys hy=>by rw[I.tuple_inj hy hq];exact hx⟩,st',fun b hb=>(hf b hb).1⟩⟩
 done:=by
  intro X hP hw hK hc i pins s σ H E I hf st hg;subst hP hw hK;obtain⟨xs,hq,hx⟩:=hg;obtain⟨its,rv,p,hz⟩:=I.tuple hq;obtain⟨f0,f1,f2,f3,f4,f5⟩:=hf it (by simp);have hl:=rv.length;exact wpAny_pyNext_tuple_end (I.ok.hd hc) st (show s.heap.IsTuple a its.toArray from p) (by simp;omega) fun h' eb=>⟨rfl,I.turned (t':=s.toks) (fun b o hb e=>eb b o hb e) f0 f1 f3 f4 f5⟩
 self:=fun _ _ _ _ _ st h=>wpAny_pyIter_tupleiter st h
theorem a9q {P:Program}{w:World}{K:Fg}{tg:Expr}(it:Addr) (lo:Int) (n:Nat):Turn P w K tg (Itr lo n) [it] it (fun i h=>IsRangeIter h it (lo+(i:Nat)*1) ((n:Int) - (i:Nat)) 1) where
 mem:=by simp
 obj:=fun i h st b hb=>by
  have e:b=it:=by simpa using hb
  subst e;exact⟨_,st,fun v z=>by
   have z':Data.fields _=Data.cell v:=z;cases z'⟩
 keep:=fun i h h' st k=>k it (by simp) _ st
 item:=by
  intro X hP hw hK hc i pins s σ H E I hf st hg;subst hP hw hK;obtain⟨f0,f1,f2,f3,f4,f5⟩:=hf it (by simp);have W:=Walks.range (prog:=X.prog) (w:=X.w) (I.ok.hd hc) it lo 1 n;refine W.item i s _ _ hg st fun v h' tk hv st' kk=>?_;obtain⟨t,rfl⟩:=hv;have I1:Inv X pins σ H { s with heap:=h',toks:=tk }:=I.turned (fun b o hb e=>kk b o (by simpa using hb) e) f0 f1 f3 f4 f5;refine⟨_,rfl,a9o (s:={ s with heap:=h',toks:=tk }) (n:="range_iterator") st' rfl rfl (by decide) ⟨.int (lo+i),H,I1,⟨t,?_⟩,⟨rfl,rfl⟩,st',fun b hb=>(hf b hb).1⟩⟩;rw[Int.mul_one]
 done:=by
  intro X hP hw hK hc i pins s σ H E I hf st hg;subst hP hw hK;obtain⟨f0,f1,f2,f3,f4,f5⟩:=hf it (by simp);exact wpAny_pyNext_range_end (I.ok.hd hc) st (by have:n≤i:=hg;omega) fun h' eb=>⟨rfl,I.turned (t':=s.toks) (fun b o hb e=>eb b o hb e) f0 f1 f3 f4 f5⟩
 self:=fun _ _ _ _ _ st h=>wpAny_pyIter_rangeiter st h
end L2
namespace L2
open PySem PySem.Spec PyProof.Rows
section
variable {X:Cx}{tg:Expr}
def b8j (K:Fg) (tl:TE):TI:=fun σ H R=>tl σ H fun x H1=>∃ a,x=.ref a/\(∃ xs,SqL K H1 a xs)/\R (Itl K a) H1
def iTup (K:Fg) (tl:TE):TI:=fun σ H R=>tl σ H fun x H1=>∃ a,x=.ref a/\(∃ xs,SqT K H1 a xs)/\R (Itt K a) H1
theorem b4e {l:Expr}{tl:TE}(hl:PE X l tl):PI X tg l (b8j X.K tl):=by
 intro pins s σ H R I h;refine thn (hl pins s σ H _ I h) fun v s1 ⟨x,H1,I1,r1,q1⟩=>?_;obtain⟨a,e,⟨xs,hq⟩,q⟩:=q1;subst e;cases r1;obtain⟨its,rv,p,hz⟩:=I1.list hq;refine wpAny_pyIter_list p.isList ?_;refine⟨s1.heap.objs.size,[s1.heap.objs.size],_,_,H1,rfl,I1.kept (t':=s1.toks) fun b o e=>Heap.get?_push_of_some _ e,a99 a _,⟨_,Heap.get?_push_size _ rfl,rfl,rfl⟩,fun b hb=>?_,q⟩;have e:b=s1.heap.objs.size:=by simpa using hb
 subst e;exact I1.fpOk (Nat.le_refl _) (I1.hok.fresh (Nat.le_refl _))
theorem b5R {l:Expr}{tl:TE}(hl:PE X l tl):PI X tg l (iTup X.K tl):=by
 intro pins s σ H R I h;refine thn (hl pins s σ H _ I h) fun v s1 ⟨x,H1,I1,r1,q1⟩=>?_;obtain⟨a,e,⟨xs,hq⟩,q⟩:=q1;subst e;cases r1;obtain⟨its,rv,p,hz⟩:=I1.tuple hq;refine wpAny_pyIter_tuple (show s1.heap.IsTuple a its.toArray from p) ?_;refine⟨s1.heap.objs.size,[s1.heap.objs.size],_,_,H1,rfl,I1.kept (t':=s1.toks) fun b o e=>Heap.get?_push_of_some _ e,a9p a _,⟨_,Heap.get?_push_size _ rfl,rfl,rfl⟩,fun b hb=>?_,q⟩;have e:b=s1.heap.objs.size:=by simpa using hb
 subst e;exact I1.fpOk (Nat.le_refl _) (I1.hok.fresh (Nat.le_refl _))
theorem b19 {pins:List (Addr×Obj)}{σ:St}{H:Hp}{s:Shared}{R:It->Hp->Prop}{E:Value->Shared->Prop}{lo hi:Int}{t u v:Tok}{tk:Nat}(I:Inv X pins σ H s) (h1:-(2 ^ 62)≤lo) (h2:lo<2 ^ 62) (h3:-(2 ^ 62)≤hi) (h4:hi<2 ^ 62)
  (q:R (Itr lo (hi - lo).toNat) H):wpAny (model X.prog X.w) X.A (pyIter (.ref s.heap.objs.size)) (PIE X pins σ tg R) E { s with heap:=s.heap.push { cls:=.type "range",data:=.fields #[.int lo t,.int hi u,.int 1 v] },toks:=tk }:=by
 refine wpAny_pyIter_range (IsRange.new ..) (small_one h1 h2 h3 h4) ?_;have I1:Inv X pins σ H { s with heap:=s.heap.push { cls:=.type "range",data:=.fields #[.int lo t,.int hi u,.int 1 v] },toks:=tk }:=I.kept fun b o e=>Heap.get?_push_of_some _ e;refine⟨(s.heap.push { cls:=.type "range",data:=.fields #[.int lo t,.int hi u,.int 1 v] }).objs.size,[(s.heap.push { cls:=.type "range",data:=.fields #[.int lo t,.int hi u,.int 1 v] }).objs.size],_,_,H,rfl,
  I1.kept (t':=tk) fun b o e=>Heap.get?_push_of_some _ e,a9q _ lo (hi - lo).toNat,?_,fun b hb=>?_,q⟩
 ·have e1:lo+((0:Nat):Int)*1=lo:=by simp
  have e2:(((hi - lo).toNat:Nat):Int) - ((0:Nat):Int)=Builtin.Range.rangeSize lo hi 1:=by rw[rangeSize_one];split<;>omega
  show IsRangeIter _ _ (lo+((0:Nat):Int)*1) ((((hi - lo).toNat:Nat):Int) - ((0:Nat):Int)) 1
  rw[e1,e2];exact Heap.get?_push_size _ rfl
 ·have e:b=(s.heap.push { cls:=.type "range",data:=.fields #[.int lo t,.int hi u,.int 1 v] }).objs.size:=by simpa using hb
  subst e;exact I1.fpOk (Nat.le_refl _) (I1.hok.fresh (Nat.le_refl _))
def b5S (ta:TA):TI:=fun σ H R=>ta σ H fun vs H1=>∃ j:Int,vs=[.int j]/\-(2 ^ 62)≤j/\j<2 ^ 62/\R (Itr 0 j.toNat) H1
theorem b0a {a:Expr}{ta:TA}{p pos:Pos}(hg:Gl X "range") (hm:X.mg "range"=none) (ha:PA X [a] ta) (hs:starEach [a] X.env=[(false,eval a X.env)]:=by rfl):PI X tg (.Call (.Name "range" p) [a] [] pos) (b5S ta):=by
 intro pins s σ H R I h;refine Call_ (a6L I hg hm boot_range (PyProof.Rows.callWith_type1 (thn (ha pos pins s σ H _ I h) fun us s1 ⟨vs,H1,I1,r1,q1⟩=>?_) hs rfl));obtain⟨j,e,q1,q2,q⟩:=q1;subst e;cases r1 with
 | cons r rr=>
  cases rr;obtain⟨t,rfl⟩:=r;exact call_range_1 (b19 I1 (by omega) (by omega) q1 q2 (by simpa using q))
def tFor (wi:TI) (g:TG) (tb:TS):TS:=fun D σ H=>wi σ H fun J H1=>∃ W:Nat->Nat->St->Hp->Prop,(∃ m,W 0 m σ H1)/\∀ i m σ H,W i m σ H ->
 (J.stop i H/\D.nx σ H)\/(J.go i H/\∃ N:St->Hp->Prop,(∀ σ' H',N σ' H'->∃ m',m'<m/\W (i+1) m' σ' H')/\∀ x H',J.yld i H x H'->g x σ H' fun σ2 H2=>tb { D with nx:=N,ct:=N,bk:=D.nx } σ2 H2)
def a6M (fp:List Addr) (h:Heap):List (Addr×Obj):=fp.filterMap fun b=>(h.get? b).map fun o=>(b,o)
theorem a2X {fp:List Addr}{h:Heap}{b:Addr}{o:Obj}(hb:b∈fp) (e:h.get? b=some o):(b,o)∈a6M fp h:=List.mem_filterMap.mpr ⟨b,hb,by rw[e];rfl⟩
theorem b0b {fp:List Addr}{h:Heap}{p:Addr×Obj}(hp:p∈a6M fp h):p.1∈fp/\h.get? p.1=some p.2:=by
 obtain⟨b,hb,e⟩:=List.mem_filterMap.mp hp;cases q:h.get? b with
 | none=>rw[q]at e;cases e
 | some o=>
  rw[q]at e;have e':(b,o)=p:=Option.some.inj e;subst e';exact⟨hb,q⟩
theorem Inv.pinned {pins:List (Addr×Obj)}{σ:St}{H:Hp}{s:Shared}{fp:List Addr}(I:Inv X pins σ H s) (hf:∀ b∈fp,FpOk X pins H b) (ho:∀ b∈fp,∃ o,s.heap.get? b=some o/\∀ v,o.data≠.cell v):Inv X (pins++a6M fp s.heap) σ H s:=
 I.pins_of fun p hp=>(List.mem_append.mp hp).elim (fun z=>I.pin p (List.mem_append_right _ z)) fun z=>by
  obtain⟨hb,e⟩:=b0b z;obtain⟨f0,f1,f2,_⟩:=hf p.1 hb;obtain⟨o,e',d⟩:=ho p.1 hb;rw[e]at e';cases e';exact⟨e,f0,f1,f2,d⟩
theorem Inv.unpinned {pins pl:List (Addr×Obj)}{σ:St}{H:Hp}{s:Shared}(I:Inv X (pins++pl) σ H s):Inv X pins σ H s:=I.pins_of fun p hp=>I.pin p (List.mem_append_right _ (List.mem_append_left _ hp))
theorem b5T {iter:Expr}{body:List Stmt}{wi:TI}{g:TG}{tb:TS}{pos:Pos}(hp:PassesOwn (model X.prog X.w) X.A X.env X.xe) (hc:X.calm=true) (hi:PI X tg iter wi) (hg:PG X tg g) (hb:PSs X body tb)
  (hs:∀ x,foldedSetIterable iter X.env x=pure x:=by intro _;rfl):PS X (.For tg iter body [] pos) (tFor wi g tb):=by
 intro pins s σ H D I h;refine wpAny_For (thn (hi pins s σ H _ I h) fun v s1 h1=>thn h1 fun itv s2 h2=>?_) hs;obtain⟨it,fp,tn,J,H2,e,I2,T,st2,f2,W,⟨m0,w0⟩,turn⟩:=h2;subst e;have stat:∀ {H':Hp},(∀ b∈fp,H' b=none)->∀ b∈fp,FpOk X pins H' b:=fun hn b hb=>⟨hn b hb,(f2 b hb).2⟩;refine codeAny_forLoop_any (fun n s'=>∃ i σ' H',Inv X pins σ' H' s'/\tn i s'.heap/\(∀ b∈fp,H' b=none)/\W i n σ' H') ?_ m0 ⟨0,σ,H2,I2,st2,fun b hb=>(f2 b hb).1,w0⟩;rintro n s3 ⟨i,σ3,H3,I3,st3,fr3,w3⟩;rcases turn i n σ3 H3 w3 with ⟨stop,qn⟩ | ⟨go,N,hN,step⟩
 ·refine wpAny_passesOwn hp (thn (T.done X rfl rfl rfl hc i pins s3 σ3 H3 X.xe I3 (stat fr3) st3 stop) fun r s4 ⟨hr,I4⟩=>?_);subst hr;exact wpAny_execs_nil ⟨σ3,H3,I4,qn⟩
 ·refine wpAny_passesOwn hp (thn (T.item X rfl rfl rfl hc i pins s3 σ3 H3 X.xe I3 (stat fr3) st3 go) fun r s4 ⟨u,hr,h4⟩=>?_);subst hr;refine wpAny_passesOwn hp (thn h4 fun _ s5 ⟨x,H5,I5,r5,y5,st5,fr5⟩=>?_);have I5':=I5.pinned (stat fr5) (T.obj _ _ st5);refine wpAny_passesOwn hp (thn (hg _ s5 σ3 H5 x u _ I5' r5 (step x H5 y5)) fun _ s6 ⟨σ6,H6,I6,q6⟩=>?_);refine wpAny_passesOwn hp (thn (hb _ s6 σ6 H6 _ I6 q6) fun f s7 q7=>?_);have again:∀ {σ7:St}{H7:Hp},Inv X (pins++a6M fp s5.heap) σ7 H7 s7->N σ7 H7->∃ m,m<n/\∃ i σ' H',Inv X pins σ' H' s7/\tn i s7.heap/\(∀ b∈fp,H' b=none)/\W i m σ' H':=fun {σ7 H7} I7 n7=>by
   obtain⟨m',hm,w7⟩:=hN σ7 H7 n7;refine⟨m',hm,i+1,σ7,H7,I7.unpinned,T.keep _ _ _ st5 fun b hb o e=>(I7.pin (b,o) (List.mem_append_right _ (List.mem_append_right _ (a2X hb e)))).1,fun b hb=>?_,w7⟩;obtain⟨o,e,d⟩:=T.obj _ _ st5 b hb;exact (I7.pin (b,o) (List.mem_append_right _ (List.mem_append_right _ (a2X hb e)))).2.1
  cases f with
  | next=>obtain⟨σ7,H7,I7,n7⟩:=q7;exact again I7 n7
  | cont=>obtain⟨σ7,H7,I7,n7⟩:=q7;exact again I7 n7
  | brk=>obtain⟨σ7,H7,I7,q7⟩:=q7;exact⟨σ7,H7,I7.unpinned,q7⟩
  | ret v=>obtain⟨x7,σ7,H7,I7,r7,q7⟩:=q7;exact⟨x7,σ7,H7,I7.unpinned,r7,q7⟩
end
end L2
namespace L2
open PySem PySem.Spec PyProof.Rows
abbrev R2:=V->V->Hp->VK->Prop
def OpR (X:Cx) (f:Value->Value->Sem Value) (r:R2):Prop:=
 ∀ (pins:List (Addr×Obj)) (s:Shared) (σ:St) (H:Hp) (x y:V) (v u:Value) (Q:VK),Inv X pins σ H s->RelV x v->RelV y u->r x y H Q ->
  wpAny (model X.prog X.w) X.A (f v u) (EP X pins σ Q) X.xe s
def UnR (X:Cx) (f:Value->Sem Value) (r:V->Hp->VK->Prop):Prop:=
 ∀ (pins:List (Addr×Obj)) (s:Shared) (σ:St) (H:Hp) (x:V) (v:Value) (Q:VK),Inv X pins σ H s->RelV x v->r x H Q ->
  wpAny (model X.prog X.w) X.A (f v) (EP X pins σ Q) X.xe s
def CallR (X:Cx) (f:Value) (r:List V->Hp->VK->Prop):Prop:=
 ∀ (pins:List (Addr×Obj)) (s:Shared) (σ:St) (H:Hp) (xs:List V) (us:List Value) (Q:VK),Inv X pins σ H s->Vals xs us->r xs H Q ->
  wpAny (model X.prog X.w) X.A (call f us) (EP X pins σ Q) X.xe s
def TruR (X:Cx) (r:V->Hp->(Bool->Hp->Prop)->Prop):Prop:=
 ∀ (pins:List (Addr×Obj)) (s:Shared) (σ:St) (H:Hp) (x:V) (v:Value) (Q:Bool->Hp->Prop),Inv X pins σ H s->RelV x v->r x H Q ->
  wpAny (model X.prog X.w) X.A (truthy v) (TP X pins σ Q) X.xe s
def tOp (r:R2) (ta tb:TE):TE:=fun σ H Q=>ta σ H fun x H1=>tb σ H1 fun y H2=>r x y H2 Q
def tUn (r:V->Hp->VK->Prop) (ta:TE):TE:=fun σ H Q=>ta σ H fun x H1=>r x H1 Q
def rI (C:Int->Int->Prop) (g:Int->Int->V):R2:=fun x y H Q=>∃ i j,x=.int i/\y=.int j/\C i j/\Q (g i j) H
def rI0 (g:Int->Int->V):R2:=fun x y H Q=>∃ i j,x=.int i/\y=.int j/\Q (g i j) H
def rU (g:Int->V):V->Hp->VK->Prop:=fun x H Q=>∃ i,x=.int i/\Q (g i) H
section
variable {X:Cx}{a b c:Expr}{ta tb tc:TE}{pos:Pos}
theorem binT (ha:PE X a ta) (hb:PE X b tb) {pins:List (Addr×Obj)}{s:Shared}{σ:St}{H:Hp}{R:V->V->Hp->Prop}(I:Inv X pins σ H s)
  (h:ta σ H fun x H1=>tb σ H1 fun y H2=>R x y H2) {Q:Value->Shared->Prop}{f:Value->Value->Sem Value}
  (hf:∀ v u s2 x y H2,Inv X pins σ H2 s2->RelV x v->RelV y u->R x y H2->wpAny (model X.prog X.w) X.A (f v u) Q X.xe s2) :
  wpAny (model X.prog X.w) X.A (eval a X.env) (fun v s₁=>wpAny (model X.prog X.w) X.A (eval b X.env) (fun u s₂=>wpAny (model X.prog X.w) X.A (f v u) Q X.xe s₂) X.xe s₁) X.xe s:=by
 refine thn (ha pins s σ H _ I h) fun v s1 ⟨x,H1,I1,r1,q1⟩=>?_;refine thn (hb pins s1 σ H1 _ I1 q1) fun u s2 ⟨y,H2,I2,r2,q2⟩=>?_;exact hf v u s2 x y H2 I2 r1 r2 q2
theorem b8k {op:Operator}{r:R2}(ho:OpR X (binaryOp op) r) (ha:PE X a ta) (hb:PE X b tb):PE X (.BinOp a op b pos) (tOp r ta tb):=by
 intro pins s σ H Q I h;exact wpAny_BinOp (binT ha hb I h fun v u s2 x y H2 I2 rx ry q=>ho pins s2 σ H2 x y v u Q I2 rx ry q)
theorem b8l {op:UnaryOp}{r:V->Hp->VK->Prop}(ho:UnR X (unaryOp op) r) (ha:PE X a ta):PE X (.UnaryOp op a pos) (tUn r ta):=by
 intro pins s σ H Q I h;exact UnaryOp_ (thn (ha pins s σ H _ I h) fun v s1 ⟨x,H1,I1,r1,q1⟩=>ho pins s1 σ H1 x v Q I1 r1 q1)
theorem opI {f:Value->Value->Sem Value}{C:Int->Int->Prop}{g:Int->Int->Int}
  (rule:∀ (i j:Int) (t u:Tok) (s:Shared) (Q:Value->Shared->Prop) (E:Value->Shared->Prop),C i j->Q (.int (g i j) s.toks) { s with toks:=s.toks+1 }->wpAny (model X.prog X.w) X.A (f (.int i t) (.int j u)) Q E s) :
  OpR X f (rI C fun i j=>.int (g i j)):=by
 intro pins s σ H x y v u Q I rx ry h;obtain⟨i,j,rfl,rfl,hc,q⟩:=h;obtain⟨t,rfl⟩:=rx;obtain⟨t',rfl⟩:=ry;exact rule i j t t' s _ _ hc ⟨.int (g i j),H,I.tok _,⟨_,rfl⟩,q⟩
theorem opI0 {f:Value->Value->Sem Value}{g:Int->Int->Int}
  (rule:∀ (i j:Int) (t u:Tok) (s:Shared) (Q:Value->Shared->Prop) (E:Value->Shared->Prop),Q (.int (g i j) s.toks) { s with toks:=s.toks+1 }->wpAny (model X.prog X.w) X.A (f (.int i t) (.int j u)) Q E s) :
  OpR X f (rI0 fun i j=>.int (g i j)):=by
 intro pins s σ H x y v u Q I rx ry h;obtain⟨i,j,rfl,rfl,q⟩:=h;obtain⟨t,rfl⟩:=rx;obtain⟨t',rfl⟩:=ry;exact rule i j t t' s _ _ ⟨.int (g i j),H,I.tok _,⟨_,rfl⟩,q⟩
theorem opB0 {f:Value->Value->Sem Value}{g:Int->Int->Bool}
  (rule:∀ (i j:Int) (t u:Tok) (s:Shared) (Q:Value->Shared->Prop) (E:Value->Shared->Prop),Q (.bool (g i j)) s->wpAny (model X.prog X.w) X.A (f (.int i t) (.int j u)) Q E s) :
  OpR X f (rI0 fun i j=>.bl (g i j)):=by
 intro pins s σ H x y v u Q I rx ry h;obtain⟨i,j,rfl,rfl,q⟩:=h;obtain⟨t,rfl⟩:=rx;obtain⟨t',rfl⟩:=ry;exact rule i j t t' s _ _ ⟨.bl (g i j),H,I,rfl,q⟩
def CPow (i j:Int):Prop:=0≤j/\j≤1000000/\i.natAbs<2 ^ 64
def CMul (i j:Int):Prop:=(-(2 ^ 64)<i/\i<2 ^ 64)\/(-(2 ^ 64)<j/\j<2 ^ 64)
theorem CMul.ok {i j:Int}(h:CMul i j):IntMulOk i j:=by
 rcases h with ⟨h1,h2⟩ | ⟨h1,h2⟩
 ·exact .of_left (intBits_le_64 h1 h2)
 ·exact .of_right (intBits_le_64 h1 h2)
theorem op_add:OpR X (binaryOp .Add) (rI0 fun i j=>.int (i+j)):=opI0 fun _ _ _ _ _ _ _ q=>add_int q
theorem b5U:OpR X (binaryOp .Sub) (rI0 fun i j=>.int (i - j)):=opI0 fun _ _ _ _ _ _ _ q=>sub_int q
theorem b5V:OpR X (binaryOp .Mult) (rI CMul fun i j=>.int (i*j)):=opI fun _ _ _ _ _ _ _ hc q=>mul_int q hc.ok
theorem b5W:OpR X (binaryOp .Mod) (rI (fun _ j=>0<j) fun i j=>.int (i % j)):=opI fun i j _ _ _ _ _ hc q=>by
 have h1:(0:Int)<j:=hc;exact mod_int' (by omega) (by rw[Int.fmod_eq_emod_of_nonneg i (by omega)];exact q)
theorem b5X:OpR X (binaryOp .Pow) (rI CPow fun i j=>.int (i ^ j.toNat)):=opI fun _ _ _ _ _ _ _ hc q=>pow_int_small hc.1 hc.2.1 hc.2.2 q
theorem b4f:OpR X (inplaceOp .Add) (rI0 fun i j=>.int (i+j)):=opI0 fun _ _ _ _ _ _ _ q=>iadd_int q
theorem unI {f:Value->Sem Value}{g:Int->Int}
  (rule:∀ (i:Int) (t:Tok) (s:Shared) (Q:Value->Shared->Prop) (E:Value->Shared->Prop),Q (.int (g i) s.toks) { s with toks:=s.toks+1 }->wpAny (model X.prog X.w) X.A (f (.int i t)) Q E s) :
  UnR X f (rU fun i=>.int (g i)):=by
 intro pins s σ H x v Q I rx h;obtain⟨i,rfl,q⟩:=h;obtain⟨t,rfl⟩:=rx;exact rule i t s _ _ ⟨.int (g i),H,I.tok _,⟨_,rfl⟩,q⟩
theorem b5Y:UnR X (unaryOp .USub) (rU fun i=>.int (-i)):=unI fun _ _ _ _ _ q=>neg_int q
end
def scal:V->V->Bool
 | .non,.non=>true | .non,.int _=>true | .int _,.non=>true | .non,.bl _=>true | .bl _,.non=>true | .non,.str _=>true | .str _,.non=>true
 | .int _,.int _=>true | .bl _,.bl _=>true | .str _,.str _=>true | .byt _,.byt _=>true
 | .int _,.str _=>true | .str _,.int _=>true | .bl _,.str _=>true | .str _,.bl _=>true
 | _,_=>false
def rEq:R2:=fun x y H Q=>scal x y=true/\Q (.bl (decide (x=y))) H
def rNe:R2:=fun x y H Q=>scal x y=true/\Q (.bl (!decide (x=y))) H
theorem b0c {i j:Int}:decide (V.int i=V.int j)=(i==j):=by
 rw[Bool.eq_iff_iff];simp
theorem b0d {i j:Bool}:decide (V.bl i=V.bl j)=(i==j):=by
 rw[Bool.eq_iff_iff];simp
theorem b0e {i j:Str}:decide (V.str i=V.str j)=(i==j):=by
 rw[Bool.eq_iff_iff];simp
theorem b0f {i j:Array UInt8}:decide (V.byt i=V.byt j)=(i.toList==j.toList):=by
 rw[Bool.eq_iff_iff];cases i;cases j;simp
section
variable {X:Cx}{a b c:Expr}{ta tb tc:TE}{pos:Pos}
theorem a0B {pins:List (Addr×Obj)}{σ:St}{H:Hp}{s:Shared}{Q:VK}{k k':Bool}(I:Inv X pins σ H s) (q:Q (.bl k) H) (e:k=k'):EP X pins σ Q (.bool k') s:=by
 subst e;exact⟨.bl k,H,I,rfl,q⟩
theorem op_eq:OpR X (compareOp .Eq) rEq:=by
 intro pins s σ H x y v u Q I rx ry h;obtain⟨hs,q⟩:=h;cases x with
 | non=>
  cases rx;cases y with
  | non=>cases ry;exact PySem.EqNone.eq_none_none (a0B I q (by simp))
  | bl j=>cases ry;exact PySem.EqNone.eq_none_bool (a0B I q (by simp))
  | int j=>obtain⟨t',rfl⟩:=ry;exact PySem.EqNone.eq_none_int (a0B I q (by simp))
  | str j=>obtain⟨t',rfl⟩:=ry;exact PySem.EqNone.eq_none_str (a0B I q (by simp))
  | _=>exact absurd (show false=true from hs) Bool.false_ne_true
 | bl i=>
  cases rx;cases y with
  | non=>cases ry;exact PySem.EqNone.eq_bool_none (a0B I q (by simp))
  | bl j=>cases ry;exact eq_bool (a0B I q b0d)
  | str j=>obtain⟨t',rfl⟩:=ry;exact PySem.EqMixed.eq_bool_str (a0B I q (by simp))
  | _=>exact absurd (show false=true from hs) Bool.false_ne_true
 | int i=>
  obtain⟨t,rfl⟩:=rx;cases y with
  | non=>cases ry;exact PySem.EqNone.eq_int_none (a0B I q (by simp))
  | int j=>obtain⟨t',rfl⟩:=ry;exact eq_int (a0B I q b0c)
  | str j=>obtain⟨t',rfl⟩:=ry;exact PySem.EqMixed.eq_int_str (a0B I q (by simp))
  | _=>exact absurd (show false=true from hs) Bool.false_ne_true
 | str i=>
  obtain⟨t,rfl⟩:=rx;cases y with
  | non=>cases ry;exact PySem.EqNone.eq_str_none (a0B I q (by simp))
  | bl j=>cases ry;exact PySem.EqMixed.eq_str_bool (a0B I q (by simp))
  | int j=>obtain⟨t',rfl⟩:=ry;exact PySem.EqMixed.eq_str_int (a0B I q (by simp))
  | str j=>obtain⟨t',rfl⟩:=ry;exact eq_str (a0B I q b0e)
  | _=>exact absurd (show false=true from hs) Bool.false_ne_true
 | byt i=>
  obtain⟨t,rfl⟩:=rx;cases y with
  | byt j=>obtain⟨t',rfl⟩:=ry;exact PySem.W.eq_bytes (a0B I q b0f)
  | _=>exact absurd (show false=true from hs) Bool.false_ne_true
 | _=>cases y<;>exact absurd (show false=true from hs) Bool.false_ne_true
theorem op_ne:OpR X (compareOp .NotEq) rNe:=by
 intro pins s σ H x y v u Q I rx ry h;obtain⟨hs,q⟩:=h;cases x with
 | non=>
  cases rx;cases y with
  | non=>cases ry;exact PySem.EqNone.ne_none_none (a0B I q (by simp))
  | bl j=>cases ry;exact PySem.EqNone.ne_none_bool (a0B I q (by simp))
  | int j=>obtain⟨t',rfl⟩:=ry;exact PySem.EqNone.ne_none_int (a0B I q (by simp))
  | str j=>obtain⟨t',rfl⟩:=ry;exact PySem.EqNone.ne_none_str (a0B I q (by simp))
  | _=>exact absurd (show false=true from hs) Bool.false_ne_true
 | bl i=>
  cases rx;cases y with
  | non=>cases ry;exact PySem.EqNone.ne_bool_none (a0B I q (by simp))
  | bl j=>cases ry;exact ne_bool (a0B I q (congrArg not b0d))
  | str j=>obtain⟨t',rfl⟩:=ry;exact PySem.EqMixed.ne_bool_str (a0B I q (by simp))
  | _=>exact absurd (show false=true from hs) Bool.false_ne_true
 | int i=>
  obtain⟨t,rfl⟩:=rx;cases y with
  | non=>cases ry;exact PySem.EqNone.ne_int_none (a0B I q (by simp))
  | int j=>obtain⟨t',rfl⟩:=ry;exact ne_int (a0B I q (congrArg not b0c))
  | str j=>obtain⟨t',rfl⟩:=ry;exact PySem.EqMixed.ne_int_str (a0B I q (by simp))
  | _=>exact absurd (show false=true from hs) Bool.false_ne_true
 | str i=>
  obtain⟨t,rfl⟩:=rx;cases y with
  | non=>cases ry;exact PySem.EqNone.ne_str_none (a0B I q (by simp))
  | bl j=>cases ry;exact PySem.EqMixed.ne_str_bool (a0B I q (by simp))
  | int j=>obtain⟨t',rfl⟩:=ry;exact PySem.EqMixed.ne_str_int (a0B I q (by simp))
  | str j=>obtain⟨t',rfl⟩:=ry;exact ne_str (a0B I q (congrArg not b0e))
  | _=>exact absurd (show false=true from hs) Bool.false_ne_true
 | byt i=>
  obtain⟨t,rfl⟩:=rx;cases y with
  | byt j=>obtain⟨t',rfl⟩:=ry;exact PySem.W.ne_bytes (a0B I q (congrArg not b0f))
  | _=>exact absurd (show false=true from hs) Bool.false_ne_true
 | _=>cases y<;>exact absurd (show false=true from hs) Bool.false_ne_true
theorem b8m:OpR X (compareOp .Lt) (rI0 fun i j=>.bl (decide (i<j))):=opB0 fun _ _ _ _ _ _ _ q=>lt_int q
theorem b8n:OpR X (compareOp .LtE) (rI0 fun i j=>.bl (decide (i≤j))):=opB0 fun _ _ _ _ _ _ _ q=>le_int q
theorem b8o:OpR X (compareOp .Gt) (rI0 fun i j=>.bl (decide (j<i))):=opB0 fun _ _ _ _ _ _ _ q=>gt_int q
theorem b0g:OpR X (compareOp .Lt) (fun x y H Q=>∃ i j,x=.str i/\y=.str j/\Q (.bl (decide (i.cps.toList<j.cps.toList))) H):=by
 intro pins s σ H x y v u Q I rx ry h;obtain⟨i,j,rfl,rfl,q⟩:=h;obtain⟨t,rfl⟩:=rx;obtain⟨t',rfl⟩:=ry;exact lt_str (a0B I q rfl)
theorem op_isN:OpR X (compareOp .Is) (fun x y H Q=>y=.non/\Q (.bl (decide (x=.non))) H):=by
 intro pins s σ H x y v u Q I rx ry h;obtain⟨rfl,q⟩:=h;cases ry;refine is_none_gen (a0B I q ?_);cases x<;>first
  | (cases rx;rfl)
  | (obtain⟨t,rfl⟩:=rx;rfl)
theorem b4g:OpR X (compareOp .IsNot) (fun x y H Q=>y=.non/\Q (.bl (!decide (x=.non))) H):=by
 intro pins s σ H x y v u Q I rx ry h;obtain⟨rfl,q⟩:=h;cases ry;refine isnot_none_gen (a0B I q ?_);cases x<;>first
  | (cases rx;rfl)
  | (obtain⟨t,rfl⟩:=rx;rfl)
theorem OpR.or {f:Value->Value->Sem Value}{r r':R2}(h:OpR X f r) (h':OpR X f r'):OpR X f (fun x y H Q=>r x y H Q\/r' x y H Q):=by
 intro pins s σ H x y v u Q I rx ry q;rcases q with q | q
 ·exact h pins s σ H x y v u Q I rx ry q
 ·exact h' pins s σ H x y v u Q I rx ry q
theorem a0s (b:Expr) {op:CmpOp}(h:op≠.In:=by decide) (h2:op≠.NotIn:=by decide):behindInMarks op b=false:=by
 have e1:(op==CmpOp.In)=false:=by cases op<;>first | rfl | exact absurd rfl h
 have e2:(op==CmpOp.NotIn)=false:=by cases op<;>first | rfl | exact absurd rfl h2
 cases b<;>simp[behindInMarks,e1,e2]
theorem b4h {op:CmpOp}{r:R2}(ho:OpR X (compareOp op) r) (ha:PE X a ta) (hb:PE X b tb) (hm:behindInMarks op b=false):PE X (.Compare a [op] [b] pos) (tOp r ta tb):=by
 intro pins s σ H Q I h;exact wpAny_Compare1 (binT ha hb I h fun v u s2 x y H2 I2 rx ry q=>ho pins s2 σ H2 x y v u Q I2 rx ry q) hm
def b8p (t:TE):TT:=fun σ H Q=>t σ H fun x H'=>∃ k,x=.bl k/\Q k H'
theorem b4i {op:CmpOp}{r:R2}(ho:OpR X (compareOp op) r) (ha:PE X a ta) (hb:PE X b tb) (hm:behindInMarks op b=false):PT X (.Compare a [op] [b] pos) (b8p (tOp r ta tb)):=by
 intro pins s σ H Q I h;refine wpAny_isTrue_Compare1 (thn (ha pins s σ H _ I h) fun v s1 ⟨x,H1,I1,r1,q1⟩=>thn (hb pins s1 σ H1 _ I1 q1) fun u s2 ⟨y,H2,I2,r2,q2⟩=>
  thn (ho pins s2 σ H2 x y v u _ I2 r1 r2 q2) fun c s3 ⟨z,H3,I3,r3,k,e,q3⟩=>?_) hm
 subst e;cases r3;exact wpAny_truthy_bool ⟨H3,I3,q3⟩
def b3r (r r':R2) (ta tb tc:TE):TE:=fun σ H Q=>ta σ H fun x H1=>tb σ H1 fun y H2=>r x y H2 fun z H3=>∃ k,z=.bl k /\
 (if k=true then tc σ H3 fun w' H4=>r' y w' H4 Q else Q (.bl false) H3)
theorem b2a {op op':CmpOp}{r r':R2}(ho:OpR X (compareOp op) r) (ho':OpR X (compareOp op') r') (ha:PE X a ta) (hb:PE X b tb) (hc:PE X c tc)
  (hm:lastMarks [op,op'] [b,c]=false:=by with_unfolding_all rfl):PE X (.Compare a [op,op'] [b,c] pos) (b3r r r' ta tb tc):=by
 intro pins s σ H Q I h;refine Compare_chain (thn (ha pins s σ H _ I h) fun v s1 ⟨x,H1,I1,r1,q1⟩=>chain_link (thn (hb pins s1 σ H1 _ I1 q1) fun u s2 ⟨y,H2,I2,r2,q2⟩=>
  thn (ho pins s2 σ H2 x y v u _ I2 r1 r2 q2) fun d s3 ⟨z,H3,I3,r3,k,e,q3⟩=>?_)) hm
 subst e;cases r3;refine wpAny_truthy_bool ?_;cases k with
 | false=>exact ite_ff ⟨.bl false,H3,I3,rfl,q3⟩
 | true=>exact ite_tt (chain_last (thn (hc pins s3 σ H3 _ I3 q3) fun w' s4 ⟨z',H4,I4,r4,q4⟩=>ho' pins s4 σ H4 y z' u w' Q I4 r2 r4 q4))
def TruV (K:Fg) (x:V) (H:Hp) (k:Bool):Prop:=
 match x with
 | .non=>k=false
 | .bl b=>k=b
 | .int i=>k=(i != 0)
 | .str y=>y.length≤sizeLine/\k=((y.length:Int) != 0)
 | .byt y=>y.size≤sizeLine/\k=((y.size:Int) != 0)
 | .ref p=>(∃ xs,SqL K H p xs/\k=!xs.isEmpty)\/(∃ xs,SqT K H p xs/\k=!xs.isEmpty)\/∃ kvs,H p=some (.dK kvs)/\k=!kvs.isEmpty
 | _=>False
theorem a9r {κ:Type}{kvs:List (κ×V)}{vs:List (κ×Value)}(r:KV kvs vs):(!vs.isEmpty)=!kvs.isEmpty:=by
 cases r<;>rfl
theorem a5H {xs:List V}{its:List Value}(r:Vals xs its):(!its.toArray.isEmpty)=!xs.isEmpty:=by
 cases r<;>simp
theorem a5I:(sizeLine:Nat)<2 ^ 63:=by rw[sizeLine_eq];decide
theorem b5Z:TruR X (fun x H Q=>∃ k,TruV X.K x H k/\Q k H):=by
 intro pins s σ H x v Q I rx h;obtain⟨k,e,q⟩:=h;have hl:=a5I;have hs:sizeLine=16777216:=sizeLine_eq;cases x with
 | non=>
  cases rx;have e':k=false:=e;subst e';exact truthy_none ⟨H,I,q⟩
 | bl b=>
  cases rx;have e':k=b:=e;subst e';exact wpAny_truthy_bool ⟨H,I,q⟩
 | int i=>
  obtain⟨t,rfl⟩:=rx;have e':k=(i != 0):=e;subst e';exact PySem.P.truthy_int ⟨H,I,q⟩
 | str y=>
  obtain⟨t,rfl⟩:=rx;obtain⟨hy,e'⟩:y.length≤sizeLine/\k=((y.length:Int) != 0):=e;subst e';exact PySem.P.truthy_str (by omega) ⟨H,I.tok _,q⟩
 | byt y=>
  obtain⟨t,rfl⟩:=rx;obtain⟨hy,e'⟩:y.size≤sizeLine/\k=((y.size:Int) != 0):=e;subst e';exact PySem.W.truthy_bytes (by omega) ⟨H,I.tok _,q⟩
 | ref p=>
  cases rx;have e':(∃ xs,SqL X.K H p xs/\k=!xs.isEmpty)\/(∃ xs,SqT X.K H p xs/\k=!xs.isEmpty)\/∃ kvs,H p=some (.dK kvs)/\k=!kvs.isEmpty:=e;rcases e' with ⟨xs,hx,e'⟩ | ⟨xs,hx,e'⟩ | ⟨kvs,hx,e'⟩
  ·subst e';obtain⟨its,r,pl,hz⟩:=I.list hx;have hlen:=r.length;exact wpAny_truthy_list pl.isList (by simp only[List.size_toArray];omega) ⟨H,I.tok _,by rw[a5H r];exact q⟩
  ·subst e';obtain⟨its,r,pl,hz⟩:=I.tuple hx;have hlen:=r.length;exact truthy_tuple pl (by simp only[List.size_toArray];omega) ⟨H,I.tok _,by rw[a5H r];exact q⟩
  ·subst e';obtain⟨hz,hS,vs,r,m⟩:kvs.length≤sizeLine/\(p==sysModules)=false/\∃ vs,KV kvs vs/\s.heap.DictOf (a0K X.prog X.w) p vs:=I.hok p _ hx;have hlen:kvs.length=vs.length:=Paired.length r;exact wpAny_truthy_dict hS m (by omega) ⟨H,I.tok _,by rw[a9r r];exact q⟩
 | _=>exact (show False from e).elim
theorem b2b (ha:PE X a ta) (he:∀ whole,isTrue a X.env whole=(do let v <- whole;standAt a.pos;holding [v] (truthy v))) :
  PT X a (fun σ H Q=>ta σ H fun x H'=>∃ k,TruV X.K x H' k/\Q k H'):=by
 intro pins s σ H Q I h;exact isTrue_plain (thn (ha pins s σ H _ I h) fun v s1 ⟨x,H1,I1,r1,q1⟩=>b5Z pins s1 σ H1 x v Q I1 r1 q1) (he _)
theorem op_add_str:OpR X (binaryOp .Add) (fun x y H Q=>∃ i j,x=.str i/\y=.str j/\i.length+j.length≤sizeLine/\Q (.str (i++j)) H):=by
 intro pins s σ H x y v u Q I rx ry h;obtain⟨i,j,rfl,rfl,hz,q⟩:=h;obtain⟨t,rfl⟩:=rx;obtain⟨t',rfl⟩:=ry;exact add_str (fun t' tk=>⟨.str (i++j),H,I.tok _,⟨_,rfl⟩,q⟩) hz
theorem a3d {x:V}{us:List Value}(r:Vals [x] us):∃ u,us=[u]/\RelV x u:=by
 cases r with
 | cons r1 r2=>cases r2;exact⟨_,rfl,r1⟩
theorem b0h {x y:V}{us:List Value}(r:Vals [x,y] us):∃ u w',us=[u,w']/\RelV x u/\RelV y w':=by
 cases r with
 | cons r1 r2=>
  cases r2 with
  | cons r3 r4=>cases r4;exact⟨_,_,rfl,r1,r3⟩
theorem b0i (hc:X.calm=true):CallR X (.builtin "max") (fun xs H Q=>∃ i j,xs=[.int i,.int j]/\Q (.int (if j > i then j else i)) H):=by
 intro pins s σ H xs us Q I r h;obtain⟨i,j,rfl,q⟩:=h;obtain⟨u,w',rfl,⟨t,rfl⟩,⟨t',rfl⟩⟩:=b0h r;refine max_two_ints (I.ok.hd hc) fun h' tk k=>⟨_,H,I.kept k,?_,q⟩
 by_cases hj:j > i
 ·rw[if_pos hj,if_pos hj];exact⟨_,rfl⟩
 ·rw[if_neg hj,if_neg hj];exact⟨_,rfl⟩
theorem b0j (hc:X.calm=true):CallR X (.builtin "min") (fun xs H Q=>∃ i j,xs=[.int i,.int j]/\Q (.int (if j<i then j else i)) H):=by
 intro pins s σ H xs us Q I r h;obtain⟨i,j,rfl,q⟩:=h;obtain⟨u,w',rfl,⟨t,rfl⟩,⟨t',rfl⟩⟩:=b0h r;refine min_two_ints (I.ok.hd hc) fun h' tk k=>⟨_,H,I.kept k,?_,q⟩
 by_cases hj:j<i
 ·rw[if_pos hj,if_pos hj];exact⟨_,rfl⟩
 ·rw[if_neg hj,if_neg hj];exact⟨_,rfl⟩
def LenV (K:Fg) (x:V) (H:Hp) (n:Nat):Prop:=
 match x with
 | .str y=>y.length≤sizeLine/\n=y.length
 | .byt y=>y.size≤sizeLine/\n=y.size
 | .ref p=>(∃ xs,SqL K H p xs/\n=xs.length)\/∃ xs,SqT K H p xs/\n=xs.length
 | _=>False
theorem b2c:CallR X (.builtin "len") (fun xs H Q=>∃ x n,xs=[x]/\LenV X.K x H n/\Q (.int n) H):=by
 intro pins s σ H xs us Q I r h;obtain⟨x,n,rfl,e,q⟩:=h;obtain⟨u,rfl,rx⟩:=a3d r;have hl:=a5I;have hs:sizeLine=16777216:=sizeLine_eq;cases x with
 | str y=>
  obtain⟨t,rfl⟩:=rx;obtain⟨hy,e'⟩:y.length≤sizeLine/\n=y.length:=e;subst e';exact len_str (by omega) ⟨.int _,H,I.tok _,⟨_,rfl⟩,q⟩
 | byt y=>
  obtain⟨t,rfl⟩:=rx;obtain⟨hy,e'⟩:y.size≤sizeLine/\n=y.size:=e;subst e';exact PySem.W.len_bytes (by omega) ⟨.int _,H,I.tok _,⟨_,rfl⟩,q⟩
 | ref p=>
  cases rx;have e':(∃ xs,SqL X.K H p xs/\n=xs.length)\/∃ xs,SqT X.K H p xs/\n=xs.length:=e;rcases e' with ⟨xs,hx,e'⟩ | ⟨xs,hx,e'⟩
  ·subst e';obtain⟨its,r',pl,hz⟩:=I.list hx;have hlen:=r'.length;exact Calls.call_len_list pl.isList (by simp only[List.size_toArray];omega) ⟨.int xs.length,H,I.tok _,⟨_,by simp only[List.size_toArray];rw[hlen]⟩,q⟩
  ·subst e';obtain⟨its,r',pl,hz⟩:=I.tuple hx;have hlen:=r'.length;exact len_tuple pl (by simp only[List.size_toArray];omega) ⟨.int xs.length,H,I.tok _,⟨_,by simp only[List.size_toArray];rw[hlen]⟩,q⟩
 | _=>exact (show False from e).elim
end
end L2
namespace L2
open PySem PySem.Spec PyProof.Rows
structure ObjM (h:Heap) (x dx C:Addr) (mA:Str->Option Value):Prop where
 obj:h.get? x=some (PySem.W.instObj C dx)
 ns:h.Ns1 dx mA
 ne:dx≠x
theorem b0k {h:Heap}{dx:Addr}{mA:Str->Option Value}(n:h.Ns1 dx mA):∃ od,h.get? dx=some od/\∀ name,PySem.W.lookIn name od=some (mA name):=by
 obtain⟨o,es,ep,ho,hd,hk,_,hm⟩:=n;refine⟨o,ho,fun name=>?_⟩;have e:=hm name;unfold nsFind findBy at e;rw[<- Array.find?_toList]at e;unfold PySem.W.lookIn;rw[hd];dsimp only
 split
 ·rename_i y q
  rw[q]at e;exact congrArg some e
 ·rename_i q
  rw[q]at e;have a:es.toList.any (·.refKey)=false:=by
   rw[List.any_eq_false];intro y hy;obtain⟨z,t,hkey⟩:=hk y (Array.mem_toList_iff.mp hy);simp[DictEntry.refKey,hkey]
  have a':¬ es.toList.any (·.refKey)=true:=by rw[a];exact Bool.false_ne_true
  rw[if_neg a'];exact congrArg some e
theorem ObjM.look {h:Heap}{x dx C:Addr}{mA:Str->Option Value}(I:ObjM h x dx C mA):∃ od,PySem.W.InstAt h x (PySem.W.instObj C dx) C (some od)/\∀ name,PySem.W.lookIn name od=some (mA name):=
 let ⟨od,ho,hl⟩:=b0k I.ns
 ⟨od,⟨I.obj,rfl,rfl,ho⟩,hl⟩
section
variable {prog:Program}{w:World}{A:Around}{E:Value->Shared->Prop}{s:Shared}{K:Fg}{x dx C f:Addr}{mA:Str->Option Value}{name:Str}{v:Value}
theorem b4j {expr:Bool}{Q:Value->Shared->Prop}(X:K.In s.heap) (I:ObjM s.heap x dx C mA) (hg:PySem.W.plainGet K C name=true) (hh:PySem.W.hasDictIn K C=true)
  (ha:PySem.W.findIn K (.ref C) name=some none) (hv:mA name=some v) (hv':PySem.W.handedIn v=true) (h:Q v { s with toks:=s.toks+1 }) :
  wpAny (model prog w) A (getAttr (.ref x) name expr) Q E s:=by
 obtain⟨od,J,hl⟩:=I.look;exact PySem.W.get_value X J (PySem.W.plainGet_of hg).1 (PySem.W.findObj_own hh ha rfl (by rw[hl,hv])) hv' h
theorem b2d {pl:Sem Bool}{Q:Value×List Value->Shared->Prop}(X:K.In s.heap) (I:ObjM s.heap x dx C mA) (hg:PySem.W.plainGet K C name=true)
  (hf:PySem.W.findIn K (.ref C) name=some (some (.ref f))) (ht:PySem.W.isFn K (.ref f)=true) (hv:mA name=none) (h:Q (.ref f,[.ref x]) s) :
  wpAny (model prog w) A (getMethod (.ref x) name pl) Q E s:=by
 obtain⟨od,J,hl⟩:=I.look;exact PySem.W.method_fn X J (PySem.W.plainGet_of hg).1 (PySem.W.plainGet_of hg).2 hf (beq_iff_eq.mp ht) (by show (PySem.W.lookIn name od).map (·.isSome)=some false;rw[hl,hv];rfl) h
theorem b4k {ns:List Str}{Q:Unit->Shared->Prop}(X:K.In s.heap) (I:ObjM s.heap x dx C mA)
  (hs:PySem.W.findIn K (.ref C) "__setattr__"=some (some (.builtin "object.__setattr__"))) (hp:PySem.W.plainOver K C=true) (ht:PySem.W.takerIn K C name=some none) (hh:PySem.W.hasDictIn K C=true)
  (hw:PySem.Within mA ns) (hsz:ns.length≤sizeLine)
  (h:∀ h',ObjM h' x dx C (fun y=>if y=name then some v else mA y)->Heap.SameBut dx s.heap h'->Q () { s with heap:=h',toks:=s.toks+2 }) :
  wpAny (model prog w) A (setAttr (.ref x) name v) Q E s:=by
 obtain⟨od,J,hl⟩:=I.look;refine PySem.W.set_plain X J hs (PySem.W.osa_open (s:={ s with toks:=s.toks+1 }) (r:=none) X J hp ht fun b=>?_);obtain⟨cd,hc,hd'⟩:=PySem.W.any_some hh;have hx:s.heap.get? x=some ⟨.ref C,some dx,.plain,#[]⟩:=I.obj;refine wpAny_bind (wpAny_pure (wpAny_bind (wpAny_bind (wpAny_loadPart hx (wpAny_bind (PySem.W.Looks.here (s:={ s with toks:=s.toks+1 }) (PySem.W.looks_clsIn X hc) ?_))))));rw[hd'];refine wpAny_pure (a:=some dx) (wpAny_bind (wpAny_pure (wpAny_bind ?_)));refine wpAny_nsSet1 (s:={ s with toks:=s.toks+1 }) I.ns fun h' hn2 hs2=>?_;obtain⟨oD,esD,epD,hoD,hdD,hcD⟩:=hn2.count (PySem.Within.cons name v hw);refine wpAny_bind (wpAny_lookBehind hoD (by rw[hdD];exact pastItsLine_dict (Nat.le_trans hcD (by rw[List.length_cons];omega))) ?_);exact wpAny_pure (h _ ⟨(hs2.2 _ (Ne.symm I.ne)).trans I.obj,hn2,I.ne⟩ hs2)
theorem b2e {R:Result->Shared->Prop}{vs:List Value}{kw:List (Str×Value)}(X:K.In s.heap) (hm:PySem.W.makesIn K C=true)
  (hi:PySem.W.findIn K (.ref C) "__init__"=some (some (.ref f))) (hf:PySem.W.typeIn K (.ref f)=some (.type "function"))
  (h:codeAny (model prog w) (A.under (.builtin "type.__call__" ⟨.ref C::vs,kw⟩)) (.call (.ref f) ⟨.ref (s.heap.objs.size+1)::vs,kw⟩) (PySem.W.InitBack (s.heap.objs.size+1) R)
   { s with heap:=(s.heap.push PySem.W.emptyDict).push (PySem.W.instObj C s.heap.objs.size) }) :
  codeAny (model prog w) A (.call (.ref C) ⟨vs,kw⟩) R s:=by
 obtain⟨hh,g,d,t,os⟩:=s;exact PySem.W.make_core (PySem.W.makes_of X hm) (PySem.W.looks_findIn X hi) (fun self=>PySem.W.bind_fn X self hf) (.inl rfl) h
end
def putF (f:Str) (v:V):List (Str×V)->List (Str×V)
 | []=>[(f,v)]
 | (g,x)::r=>if g=f then (g,v)::r else (g,x)::putF f v r
theorem a4X (f g:Str) (v:V):∀ fs:List (Str×V),(putF f v fs).lookup g=if g=f then some v else fs.lookup g
 | []=>by
  show List.lookup g [(f,v)]=_
  by_cases h:g=f
  ·have hb:(g==f)=true:=beq_iff_eq.mpr h;simp only[List.lookup,hb,if_pos h]
  ·have hb:(g==f)=false:=beq_eq_false_iff_ne.mpr h;simp only[List.lookup,hb,if_neg h]
 | (k,x)::r=>by
  have ih:=a4X f g v r;rw[show putF f v ((k,x)::r)=(if k=f then (k,v)::r else (k,x)::putF f v r) from rfl]
  by_cases hk:k=f
  ·rw[if_pos hk]
   by_cases h:g=k
   ·have hb:(g==k)=true:=beq_iff_eq.mpr h;simp only[List.lookup,hb,if_pos (h.trans hk)]
   ·have hb:(g==k)=false:=beq_eq_false_iff_ne.mpr h;simp only[List.lookup,hb,if_neg (fun e:g=f=>h (e.trans hk.symm))]
  ·rw[if_neg hk]
   by_cases h:g=k
   ·have hb:(g==k)=true:=beq_iff_eq.mpr h;simp only[List.lookup,hb,if_neg (fun e:g=f=>hk (h.symm.trans e))]
   ·have hb:(g==k)=false:=beq_eq_false_iff_ne.mpr h;simp only[List.lookup,hb];exact ih
theorem a4Y (f:Str) (v:V):∀ fs:List (Str×V),f∈(putF f v fs).map (·.1)/\∀ g,g∈fs.map (·.1)->g∈(putF f v fs).map (·.1)
 | []=>⟨by simp[putF],fun g h=>by simp at h⟩
 | (k,x)::r=>by
  obtain⟨i1,i2⟩:=a4Y f v r;rw[show putF f v ((k,x)::r)=(if k=f then (k,v)::r else (k,x)::putF f v r) from rfl]
  by_cases hk:k=f
  ·rw[if_pos hk];subst hk;exact⟨by simp,fun g h=>by simpa using h⟩
  ·rw[if_neg hk];refine⟨?_,fun g h=>?_⟩
   ·rw[List.map_cons];exact List.mem_cons_of_mem _ i1
   ·rw[List.map_cons]at h ⊢;rcases List.mem_cons.mp h with e | e
    ·exact List.mem_cons.mpr (.inl e)
    ·exact List.mem_cons_of_mem _ (i2 g e)
theorem a4Z (f:Str) (v:V):∀ fs:List (Str×V),(putF f v fs).length≤fs.length+1
 | []=>by simp[putF]
 | (k,x)::r=>by
  have ih:=a4Z f v r;rw[show putF f v ((k,x)::r)=(if k=f then (k,v)::r else (k,x)::putF f v r) from rfl]
  by_cases hk:k=f
  ·rw[if_pos hk,List.length_cons,List.length_cons];omega
  ·rw[if_neg hk,List.length_cons,List.length_cons];omega
theorem RelO.some_of {v:V}{o:Option Value}(r:RelO (some v) o):∃ u,o=some u/\RelV v u:=by
 cases o with
 | none=>exact (show False from r).elim
 | some u=>exact⟨u,rfl,r⟩
theorem RelO.none_of {o:Option Value}(r:RelO none o):o=none:=by
 cases o with
 | none=>rfl
 | some u=>exact (show False from r).elim
theorem b0l {v:V}{u:Value}(r:RelV v u):PySem.W.handedIn u=true:=by
 cases v with
 | non=>cases (show u=Value.none from r);rfl
 | bl b=>cases (show u=Value.bool b from r);rfl
 | int i=>obtain⟨t,e⟩:=(show ∃ t,u=Value.int i t from r);cases e;rfl
 | str x=>obtain⟨t,e⟩:=(show ∃ t,u=Value.str x t from r);cases e;rfl
 | byt b=>obtain⟨t,e⟩:=(show ∃ t,u=Value.bytes b t from r);cases e;rfl
 | flt b=>obtain⟨t,e⟩:=(show ∃ t,u=Value.float b t from r);cases e;rfl
 | ref a=>cases (show u=Value.ref a from r);rfl
 | ty n=>cases (show u=Value.type n from r);rfl
section
variable {P:Program}{w:World}{H H':Hp}{h h':Heap}{a C dx:Addr}{fs fs':List (Str×V)}
theorem a6a (hok:HOk P w H h) (e:H a=some (.ins C dx fs)):∃ mA,ObjM h a dx C mA/\(∀ f,RelO (fs.lookup f) (mA f))/\PySem.Within mA (fs.map (·.1))/\fs.length≤1000/\H dx=some (.own a):=by
 obtain⟨d,z,ne,ob,mA,n,r,q⟩:=(show ObjOk P w H h a (.ins C dx fs) from hok a _ e);exact⟨mA,⟨ob,n,ne⟩,r,q,z,d⟩
end
structure Cls (K:Fg) (C:Addr):Prop where
 pg:PySem.W.plainGet K C Str.empty=true
 hd:PySem.W.hasDictIn K C=true
 po:PySem.W.plainOver K C=true
 sa:PySem.W.findIn K (.ref C) "__setattr__"=some (some (.builtin "object.__setattr__"))
theorem Cls.get {K:Fg}{C:Addr}(c:Cls K C) (f:Str):PySem.W.plainGet K C f=true:=c.pg
def NoAttr (K:Fg) (C:Addr) (f:Str):Prop:=PySem.W.findIn K (.ref C) f=some none
theorem NoAttr.taker {K:Fg}{C:Addr}{f:Str}(n:NoAttr K C f):PySem.W.takerIn K C f=some none:=by
 unfold PySem.W.takerIn;rw[show PySem.W.findIn K (.ref C) f=some none from n]
 rfl
structure Meth (K:Fg) (C:Addr) (m:Str) (f:Addr):Prop where
 at_:PySem.W.findIn K (.ref C) m=some (some (.ref f))
 fn:PySem.W.isFn K (.ref f)=true
 kp:PySem.W.keepIn K (.ref f)=true
section
variable {X:Cx}{pins:List (Addr×Obj)}{σ:St}{H:Hp}{s:Shared}{a C dx:Addr}{fs:List (Str×V)}{f:Str}{v:V}{A:Around}{E:Value->Shared->Prop}
theorem a5J {b:Bool}{Q:Value->Shared->Prop}(I:Inv X pins σ H s) (e:H a=some (.ins C dx fs)) (c:Cls X.K C) (n:NoAttr X.K C f) (l:fs.lookup f=some v)
  (h:∀ u s',Inv X pins σ H s'->RelV v u->Q u s'):wpAny (model X.prog X.w) A (getAttr (.ref a) f b) Q E s:=by
 obtain⟨mA,O,r,_,_,_⟩:=a6a I.hok e;obtain⟨u,hu,ru⟩:=RelO.some_of (v:=v) (o:=mA f) (by rw[<- l];exact r f);exact b4j I.kIn O (c.get f) c.hd n hu (b0l ru) (h u _ (I.tok _) ru)
theorem a9s {m:Str}{g:Addr}{pl:Sem Bool}{Q:Value×List Value->Shared->Prop}(I:Inv X pins σ H s) (e:H a=some (.ins C dx fs)) (c:Cls X.K C) (k:Meth X.K C m g) (l:fs.lookup m=none)
  (h:Q (.ref g,[.ref a]) s):wpAny (model X.prog X.w) A (getMethod (.ref a) m pl) Q E s:=by
 obtain⟨mA,O,r,_,_,_⟩:=a6a I.hok e;have hn:mA m=none:=RelO.none_of (by rw[<- l];exact r m);exact b2d I.kIn O (c.get m) k.at_ k.fn hn h
theorem a5K {y:V}{u:Value}{Q:Unit->Shared->Prop}(I:Inv X pins σ H s) (e:H a=some (.ins C dx fs)) (c:Cls X.K C) (n:NoAttr X.K C f) (hl:fs.length<1000) (ry:RelV y u)
  (h:∀ s',Inv X pins σ (upd H a (.ins C dx (putF f y fs))) s'->Q () s'):wpAny (model X.prog X.w) A (setAttr (.ref a) f u) Q E s:=by
 obtain⟨mA,O,r,wi,_,ho⟩:=a6a I.hok e;have hz:(fs.map (·.1)).length≤sizeLine:=by rw[List.length_map,sizeLine_eq];omega
 refine b4k I.kIn O c.sa c.po n.taker c.hd wi hz fun h' O' sb=>h _ ?_;have hd:∃ o,h'.get? dx=some o:=let ⟨o,_,_,e',_⟩:=O'.ns;⟨o,e'⟩
 refine I.write (x:=a) (e:=dx) (by rw[e];exact True.intro) (.inr ho) (fun b q hb z=>(sb.2 b hb).trans z) hd ?_;refine⟨by rw[a0L O.ne];exact ho,?_,O.ne,O'.obj,_,O'.ns,fun g=>?_,fun g hg=>?_⟩
 ·have:=a4Z f y fs;omega
 ·show RelO ((putF f y fs).lookup g) (if g=f then some u else mA g)
  rw[a4X]
  by_cases q:g=f
  ·rw[if_pos q,if_pos q];exact ry
  ·rw[if_neg q,if_neg q];exact r g
 ·by_cases q:g=f
  ·rw[q];exact (a4Y f y fs).1
  ·refine (a4Y f y fs).2 g (wi g fun z=>hg ?_)
   show (if g=f then some u else mA g)=none
   rw[if_neg q];exact z
theorem Inv.made (I:Inv X pins σ H s):Inv X pins σ (upd (upd H s.heap.objs.size (.own (s.heap.objs.size+1))) (s.heap.objs.size+1) (.ins C s.heap.objs.size []))
  { s with heap:=(s.heap.push PySem.W.emptyDict).push (PySem.W.instObj C s.heap.objs.size) }:=by
 have e1:(s.heap.push PySem.W.emptyDict).get? s.heap.objs.size=some PySem.W.emptyDict:=Heap.get?_push_size s.heap rfl;have e2:((s.heap.push PySem.W.emptyDict).push (PySem.W.instObj C s.heap.objs.size)).get? (s.heap.objs.size+1)=some (PySem.W.instObj C s.heap.objs.size):=by
  have:=Heap.get?_push_size (s.heap.push PySem.W.emptyDict) (o:=PySem.W.instObj C s.heap.objs.size) rfl
  rwa [Heap.size_push]at this
 have e3:(s.heap.push PySem.W.emptyDict).Ns s.heap.objs.size (fun _=>none):=⟨PySem.W.emptyDict,#[],_,e1,rfl,(fun e he=>absurd he (by simp)),fun _=>rfl⟩;have I1:=I.laid (a:=s.heap.objs.size) (o:=.own (s.heap.objs.size+1)) (h':=s.heap.push PySem.W.emptyDict) (t':=s.toks) (fun b u q=>Heap.get?_push_of_some _ q) (Nat.le_refl _) ⟨_,e1⟩;refine I1.laid (a:=s.heap.objs.size+1) (o:=.ins C s.heap.objs.size []) (t':=s.toks) (fun b u q=>Heap.get?_push_of_some _ q) (Nat.le_of_eq (Heap.size_push _ _)) ?_;have ne:s.heap.objs.size≠s.heap.objs.size+1:=Nat.ne_of_lt (Nat.lt_succ_self _);refine⟨by rw[a0L ne,a0C],Nat.zero_le _,ne,e2,fun _=>none,(Heap.Ns1.of_empty e3).at fun o q=>Heap.get?_push_of_some _ q,fun _=>True.intro,fun y hy=>absurd rfl hy⟩
theorem b4l {prog:Program}{w:World}{env:Env}{e:Expr}{f:Str}{pos:Pos}{s:Shared}{Q:Value->Shared->Prop}(hb:attributeBase e f env (eval e env)=eval e env)
  (h:wpAny (model prog w) A (eval e env) (fun o s₁=>wpAny (model prog w) A (getAttr o f true) Q E s₁) E s):wpAny (model prog w) A (eval (.Attribute e f pos) env) Q E s:=
 Attribute_any_ h (by rw[arm_eval_Attribute,hb])
end
def tFld (K:Fg) (ta:TE) (f:Str):TE:=fun σ H Q=>ta σ H fun x H1=>∃ a C dx fs v,x=.ref a/\H1 a=some (.ins C dx fs)/\Cls K C/\NoAttr K C f/\fs.lookup f=some v/\Q v H1
def sFld (K:Fg) (ta tv:TE) (f:Str):TS:=fun D σ H=>tv σ H fun y H1=>ta σ H1 fun x H2=>∃ a C dx fs,x=.ref a/\H2 a=some (.ins C dx fs)/\Cls K C/\NoAttr K C f/\fs.length<1000 /\
 D.nx σ (upd H2 a (.ins C dx (putF f y fs)))
def InOp (X:Cx) (op:Operator) (rd:V->V->Hp->VK->Prop):Prop:=
 ∀ (pins:List (Addr×Obj)) (s:Shared) (σ:St) (H:Hp) (x y:V) (u v:Value) (Q:VK),Inv X pins σ H s->RelV x u->RelV y v->rd x y H Q->wpAny (model X.prog X.w) X.A (inplaceOp op u v) (EP X pins σ Q) X.xe s
def b4m (K:Fg) (ta tv:TE) (rd:V->V->Hp->VK->Prop) (f:Str):TS:=fun D σ H=>ta σ H fun x H1=>∃ a C dx fs v,x=.ref a/\H1 a=some (.ins C dx fs)/\Cls K C/\NoAttr K C f/\fs.lookup f=some v /\
 tv σ H1 fun y H2=>rd v y H2 fun z H3=>∃ dx' fs',H3 a=some (.ins C dx' fs')/\fs'.length<1000/\D.nx σ (upd H3 a (.ins C dx' (putF f z fs')))
section
variable {X:Cx}{o e value:Expr}{f:Str}{pos pos' tpos:Pos}{ta tv:TE}
theorem b50 (he:PE X e ta) (hb:attributeBase e f X.env (eval e X.env)=eval e X.env):PE X (.Attribute e f pos) (tFld X.K ta f):=by
 intro pins s σ H Q I h;refine b4l hb (thn (he pins s σ H _ I h) fun u s1 ⟨x,H1,I1,rx,a,C,dx,fs,v,ex,ea,c,n,l,q⟩=>?_);subst ex;obtain rfl:u=Value.ref a:=rx;exact a5J I1 ea c n l fun u' s2 I2 ru=>⟨v,H1,I2,ru,q⟩
theorem b51 (ha:PE X o ta) (hv:PE X value tv) (hs:swapsWith value (some (.Attribute o f pos')) pos.line X.env=pure false):PS X (.Assign [.Attribute o f pos'] value pos) (sFld X.K ta tv f):=by
 intro pins s σ H D I h;refine plainObj_wpAny_Assign_Attribute (thn (hv pins s σ H _ I h) fun u s1 ⟨y,H1,I1,ry,q⟩=>thn (ha pins s1 σ H1 _ I1 q) fun ov s2 ⟨x,H2,I2,rx,a,C,dx,fs,ex,ea,c,n,l,q2⟩=>?_) hs;subst ex;obtain rfl:ov=Value.ref a:=rx;exact a5K I2 ea c n l ry fun s3 I3=>⟨σ,_,I3,q2⟩
theorem b0m {op:Operator}{rd:V->V->Hp->VK->Prop}(ha:PE X o ta) (hv:PE X value tv) (hop:InOp X op rd):PS X (.AugAssign (.Attribute o f tpos) op value pos) (b4m X.K ta tv rd f):=by
 intro pins s σ H D I h;refine wpAny_AugAssign_AttributeAny (thn (ha pins s σ H _ I h) fun ov s1 ⟨x,H1,I1,rx,a,C,dx,fs,v,ex,ea,c,n,l,q⟩=>?_);subst ex;obtain rfl:ov=Value.ref a:=rx;refine a5J I1 ea c n l fun u s2 I2 ru=>thn (hv pins s2 σ H1 _ I2 q) fun w3 s3 ⟨y,H2,I3,ry,q3⟩=>thn (hop pins s3 σ H2 v y u w3 _ I3 ru ry q3) fun w4 s4 ⟨z,H3,I4,rz,dx',fs',ea',l',q4⟩=>?_;exact a5K I4 ea' c n l' rz fun s5 I5=>⟨σ,_,I5,q4⟩
end
section
variable {X:Cx}{pins:List (Addr×Obj)}{σ:St}{H:Hp}{s:Shared}{A:Around}{E:Value->Shared->Prop}{Q:Value->Shared->Prop}{c:Value}{b:Bool}
inductive TyOf (K:Fg) (H:Hp):V->Value->Prop where
 | non:TyOf K H .non (.type "NoneType")
 | bl (x:Bool):TyOf K H (.bl x) (.type "bool")
 | int (i:Int):TyOf K H (.int i) (.type "int")
 | str (x:Str):TyOf K H (.str x) (.type "str")
 | flt (x:UInt64):TyOf K H (.flt x) (.type "float")
 | lst {a:Addr} {xs:List V} (e:H a=some (.lst xs)):TyOf K H (.ref a) (.type "list")
 | frz {a:Addr} {o:Obj} {xs:List V} (e:H a=some (.frz o (.lst xs))):TyOf K H (.ref a) (.type "list")
 | tup {a:Addr} {xs:List V} (e:H a=some (.tup xs)):TyOf K H (.ref a) (.type "tuple")
 | dK {a:Addr} {kvs:List (Key×V)} (e:H a=some (.dK kvs)):TyOf K H (.ref a) (.type "dict")
 | dT {a:Addr} {kvs:List (List Key×V)} (e:H a=some (.dT kvs)):TyOf K H (.ref a) (.type "dict")
 | ins {a C dx:Addr} {fs:List (Str×V)} (e:H a=some (.ins C dx fs)) (cl:Cls K C) (ha:PySem.W.findIn K (.ref C) "__class__"=some (some (.builtin "object.__class__")))
   (hn:PySem.W.specialIn K (.builtin "object.__class__") "__get__"=some (some (.builtin "getset_descriptor.__get__"))) (htk:PySem.W.takesIn K (.builtin "object.__class__")=some true)
   (hm:PySem.W.mroIn K C (.type "object")=some true):TyOf K H (.ref a) (.ref C)
theorem b0n {x:V}{u t:Value}(I:Inv X pins σ H s) (rx:RelV x u) (ty:TyOf X.K H x t) (e:PySem.W.kitOne X.K t c=some b) (h:∀ tk,Q (.bool b) { s with toks:=tk }) :
  wpAny (model X.prog X.w) A (call (.builtin "isinstance") [u,c]) Q E s:=by
 cases ty with
 | non=>cases (show u=Value.none from rx);exact PySem.W.kia_one PySem.W.kitx_none I.kIn True.intro e (fun z=>nomatch z) h
 | bl y=>cases (show u=Value.bool y from rx);exact PySem.W.kia_one PySem.W.kitx_bool I.kIn True.intro e (fun z=>nomatch z) h
 | int i=>obtain⟨t,q⟩:=(show ∃ t,u=Value.int i t from rx);cases q;exact PySem.W.kia_one PySem.W.kitx_int I.kIn True.intro e (fun z=>nomatch z) h
 | str y=>obtain⟨t,q⟩:=(show ∃ t,u=Value.str y t from rx);cases q;exact PySem.W.kia_one PySem.W.kitx_str I.kIn True.intro e (fun z=>nomatch z) h
 | flt y=>obtain⟨t,q⟩:=(show ∃ t,u=Value.float y t from rx);cases q;exact PySem.W.kia_one PySem.W.kitx_float I.kIn True.intro e (fun z=>nomatch z) h
 | @lst a xs ea=>
  cases (show u=Value.ref a from rx);obtain⟨_,_,n,_,h1⟩:=(show ObjOk X.prog X.w H s.heap a (.lst xs) from I.hok a _ ea);exact PySem.W.kia_one PySem.W.kitx_list I.kIn ⟨_,h1,rfl⟩ e (fun z=>nomatch z) h
 | @frz a ob xs ea=>
  cases (show u=Value.ref a from rx);obtain⟨_,_,_,n,_,h1⟩:=(show ObjOk X.prog X.w H s.heap a (.frz ob (.lst xs)) from I.hok a _ ea);exact PySem.W.kia_one PySem.W.kitx_list I.kIn ⟨_,h1,rfl⟩ e (fun z=>nomatch z) h
 | @tup a xs ea=>
  cases (show u=Value.ref a from rx);obtain⟨_,_,_,p⟩:=(show ObjOk X.prog X.w H s.heap a (.tup xs) from I.hok a _ ea);obtain⟨o,h1,h2,_⟩:=p;exact PySem.W.kia_one PySem.W.kitx_tuple I.kIn ⟨o,h1,h2⟩ e (fun z=>nomatch z) h
 | @dK a kvs ea=>
  cases (show u=Value.ref a from rx);obtain⟨_,_,vs,_,p⟩:=(show ObjOk X.prog X.w H s.heap a (.dK kvs) from I.hok a _ ea);obtain⟨o,es,ep,h1,h2,_⟩:=p;exact PySem.W.kia_one PySem.W.kitx_dict I.kIn ⟨o,h1,h2.1⟩ e (fun z=>nomatch z) h
 | @dT a kvs ea=>
  cases (show u=Value.ref a from rx);obtain⟨_,_,xs,_,o,es,ep,h1,h2,_⟩:=(show ObjOk X.prog X.w H s.heap a (.dT kvs) from I.hok a _ ea);exact PySem.W.kia_one PySem.W.kitx_dict I.kIn ⟨o,h1,h2.1⟩ e (fun z=>nomatch z) h
 | @ins a C dx fs ea cl ha hn htk hm=>
  cases (show u=Value.ref a from rx);obtain⟨mA,O,_⟩:=a6a I.hok ea;obtain⟨od,J,_⟩:=O.look;exact PySem.W.kia_one (PySem.W.kitx_own (cl.get _) cl.hd ha hn htk hm) I.kIn J e (fun z=>nomatch z) h
end
end L2
namespace L2
open PySem PySem.Spec PyProof.Rows
structure Room (k:Nat) (A:Around):Prop where
 hd:A.handled=none
 dp:A.depth+3*k+5<recursionLimit
 un:A.units+16*k+200<cLine
theorem Room.mono {j k:Nat}{A:Around}(r:Room k A) (h:j≤k):Room j A:=⟨r.hd,by have:=r.dp;omega,by have:=r.un;omega⟩
theorem Room.deeper {k:Nat}{A:Around}(r:Room (k+1) A) (env:Env):Room k (A.deeper env):=
 ⟨r.hd,by have:=r.dp;show A.depth+1+3*k+5<_;omega,by have:=r.un;show A.units+3+16*k+200<_;omega⟩
theorem Room.in1 {k:Nat}{A:Around}(r:Room (k+1) A):Room k A.in1:=
 ⟨r.hd,by have:=r.dp;show A.depth+3*k+5<_;omega,by have:=r.un;show A.units+1+16*k+200<_;omega⟩
theorem a9t {A:Around}{C:Addr}{us:List Value}{kw:List (Str×Value)}:(A.under (.builtin "type.__call__" ⟨.ref C::us,kw⟩)).depth=A.depth+1:=by
 first | rfl | simp[Around.under,Code.weight,Code.isCreation,Code.isGuard,Code.isCaller,Code.frames,Code.isFrame,guardIds]
theorem a9u {A:Around}{C:Addr}{us:List Value}{kw:List (Str×Value)}:(A.under (.builtin "type.__call__" ⟨.ref C::us,kw⟩)).units=A.units+1:=by
 first | rfl | simp[Around.under,Code.cUnits,Code.frames,Code.isFrame]
theorem Room.make {k:Nat}{A:Around}(r:Room (k+1) A) (C:Addr) (us:List Value) (kw:List (Str×Value)):Room k (A.under (.builtin "type.__call__" ⟨.ref C::us,kw⟩)):=
 ⟨r.hd,by have:=r.dp;rw[a9t];omega,by have:=r.un;rw[a9u];omega⟩
theorem Room.depth {k:Nat}{A:Around}(r:Room k A):A.depth<recursionLimit:=by have:=r.dp;omega
theorem Room.units {k:Nat}{A:Around}(r:Room k A):A.units+64<cLine:=by have:=r.un;omega
def tNil:TA:=fun _ H Q=>Q [] H
def b8q (ta:TE) (tr:TA):TA:=fun σ H Q=>ta σ H fun x H1=>tr σ H1 fun xs H2=>Q (x::xs) H2
section
variable {X:Cx}{e:Expr}{es:List Expr}{te:TE}{t:TA}{pos:Pos}
theorem b3s:PA X [] tNil:=fun _ _ _ _ H Q I h=>Calls.spliced_nil ⟨[],H,I,.nil,h⟩
theorem b0o (ha:PE X e te) (hr:PA X es t) (hs:starEach (e::es) X.env=(false,eval e X.env)::starEach es X.env:=by rfl):PA X (e::es) (b8q te t):=by
 intro pos pins s σ H Q I h;rw[hs]
 show wpAny _ _ (spliced ((false,eval e X.env)::backTo pos (starEach es X.env))) _ _ s
 refine Calls.spliced_cons (thn (ha pins s σ H _ I h) fun u s1 ⟨x,H1,I1,r1,q1⟩=>?_);exact thn (hr pos pins s1 σ H1 _ I1 q1) fun us s2 ⟨xs,H2,I2,r2,q2⟩=>⟨x::xs,H2,I2,.cons r1 r2,q2⟩
def tTup (t:TA):TE:=fun σ H Q=>t σ H fun xs H1=>xs.length≤sizeLine/\∀ p,H1 p=none->Q (.ref p) (upd H1 p (.tup xs))
def tLst (t:TA):TE:=fun σ H Q=>t σ H fun xs H1=>xs.length≤sizeLine/\∀ p,H1 p=none->Q (.ref p) (upd H1 p (.lst xs))
theorem b52 {x1} (h:PA X es t):PE X (.Tuple es x1 pos) (tTup t):=by
 intro pins s σ H Q I hq;refine wpAny_Tuple_spliced (thn (h pos pins s σ H _ I hq) fun us s1 ⟨xs,H1,I1,r,z,q⟩=>⟨by rw[<- r.length];exact z,?_⟩);have hf:H1 s1.heap.objs.size=none:=I1.hok.fresh (Nat.le_refl _);refine⟨.ref s1.heap.objs.size,upd H1 s1.heap.objs.size (.tup xs),I1.laid (t':=s1.toks) (fun b u e=>Heap.get?_push_of_some _ e) (Nat.le_refl _) ?_,rfl,q _ hf⟩;exact⟨z,us,r,⟨_,Heap.get?_push_size _ rfl,rfl,_,rfl⟩⟩
theorem b53 (h:PA X es t):PE X (.List es pos) (tLst t):=by
 intro pins s σ H Q I hq;refine wpAny_List_spliced (thn (h pos pins s σ H _ I hq) fun us s1 ⟨xs,H1,I1,r,z,q⟩=>⟨by rw[<- r.length];exact z,?_⟩);have hf:H1 s1.heap.objs.size=none:=I1.hok.fresh (Nat.le_refl _);refine⟨.ref s1.heap.objs.size,upd H1 s1.heap.objs.size (.lst xs),I1.laid (t':=s1.toks) (fun b u e=>Heap.get?_push_of_some _ e) (Nat.le_refl _) ?_,rfl,q _ hf⟩;exact⟨z,us,0,r,Heap.get?_push_size _ rfl⟩
end
abbrev Sp:=List V->Hp->VK->XK->Prop
abbrev CXT:=List Env->Hp->Shared->XK->Value->Shared->Prop
structure Env0 (P:Program) (w:World) (K:Fg) (mg:Str->Option Value) (base:Heap) (A:Around) (outer:List Env) (s:Shared) (H:Hp):Prop where
 frames:A.frames=some outer
 mod:Mod K mg base
 bs:∀ b o,base.get? b=some o->s.heap.get? b=some o/\H b=none
 bsz:base.objs.size≤s.heap.objs.size
 funs:s.heap.FunFrames base outer
 frf:∀ b∈frs outer,H b=none
 hok:HOk P w H s.heap
 bare:AllBare s.gens
def CE (outer:List Env) (P:Program) (w:World) (H:Hp) (s:Shared) (Q:VK) (u:Value) (s':Shared):Prop:=
 ∃ v H',s'.os=s.os/\AllBare s'.gens/\Un (frs outer) [] H H' s.heap s'.heap/\HOk P w H' s'.heap/\RelV v u/\Q v H'
def CR (CX:CXT) (outer:List Env) (P:Program) (w:World) (H:Hp) (s:Shared) (Q:VK) (E:XK) (r:Result) (s':Shared):Prop:=
 match r with
 | .ok (.ret u)=>CE outer P w H s Q u s'
 | .ok _=>False
 | .error e=>CX outer H s E e s'
structure FnOk (P:Program) (w:World) (K:Fg) (mg:Str->Option Value) (base:Heap) (CX:CXT) (k:Nat) (f:Addr) (fd:FuncData) (ps:List Str) (sp:Sp):Prop where
 len:∀ vs H Q E,sp vs H Q E->vs.length=ps.length
 run:∀ (A:Around) (outer:List Env) (s:Shared) (H:Hp) (args:Args) (us:List Value) (vs:List V) (Q:VK) (E:XK),Room k A->Env0 P w K mg base A outer s H->BindsTo s fd args (ps.zip us)->Vals vs us->sp vs H Q E ->
  codeAny (model P w) A (.call (.ref f) args) (CR CX outer P w H s Q E) s
theorem FnOk.mono {P:Program}{w:World}{K:Fg}{mg:Str->Option Value}{base:Heap}{CX:CXT}{j k:Nat}{f:Addr}{fd:FuncData}{ps:List Str}{sp:Sp}(F:FnOk P w K mg base CX j f fd ps sp) (h:j≤k) :
  FnOk P w K mg base CX k f fd ps sp:=⟨F.len,fun A outer s H args us vs Q E hr=>F.run A outer s H args us vs Q E (hr.mono h)⟩
theorem FnOk.imp {P:Program}{w:World}{K:Fg}{mg:Str->Option Value}{base:Heap}{CX:CXT}{k:Nat}{f:Addr}{fd:FuncData}{ps:List Str}{sp sp':Sp}(F:FnOk P w K mg base CX k f fd ps sp)
  (h:∀ vs H Q E,sp' vs H Q E->sp vs H Q E):FnOk P w K mg base CX k f fd ps sp':=
 ⟨fun vs H Q E q=>F.len vs H Q E (h _ _ _ _ q),fun A outer s H args us vs Q E hr he hb hv hs=>F.run A outer s H args us vs Q E hr he hb hv (h _ _ _ _ hs)⟩
theorem Env0.make {P:Program}{w:World}{K:Fg}{mg:Str->Option Value}{base:Heap}{A:Around}{outer:List Env}{s:Shared}{H:Hp}(e:Env0 P w K mg base A outer s H) (C:Addr) (us:List Value) (kw:List (Str×Value)) :
  Env0 P w K mg base (A.under (.builtin "type.__call__" ⟨.ref C::us,kw⟩)) outer s H:=⟨by first | exact e.frames | (simpa[Around.under,Code.envs,Code.isFrame,pushEnvs]using e.frames),e.mod,e.bs,e.bsz,e.funs,e.frf,e.hok,e.bare⟩
theorem Env0.in1 {P:Program}{w:World}{K:Fg}{mg:Str->Option Value}{base:Heap}{A:Around}{outer:List Env}{s:Shared}{H:Hp}(e:Env0 P w K mg base A outer s H) :
  Env0 P w K mg base A.in1 outer s H:=⟨e.frames,e.mod,e.bs,e.bsz,e.funs,e.frf,e.hok,e.bare⟩
section
variable {X:Cx}{pins:List (Addr×Obj)}{σ:St}{H:Hp}{s s':Shared}
theorem Inv.env0 (I:Inv X pins σ H s):Env0 X.prog X.w X.K X.mg X.base X.A X.stack s H:=
 ⟨I.ok.frames,I.ok.mod,I.bs,Nat.le_trans I.ok.bsz I.sz,I.stack,I.stkFree,I.hok,I.bare⟩
theorem Inv.after {Q:VK}{u:Value}(I:Inv X pins σ H s) (h:CE X.stack X.prog X.w H s Q u s'):EP X pins σ Q u s':=by
 obtain⟨v,H',os,bare,un,hok,r,q⟩:=h;obtain⟨hh,g,d,t,os'⟩:=s';obtain rfl:os'=s.os:=os;exact⟨v,H',I.call (h':=hh) (g':=g) (d':=d) (t':=t) (ch:=[]) un hok bare (fun b z=>absurd z (by simp)),r,q⟩
end
def b8r (sp:Sp) (dvs:List V) (E:XK) (t:TA):TE:=fun σ H Q=>t σ H fun vs H1=>sp (vs++dvs) H1 Q E
def b54 (C:Addr) (m:Str) (sp:Sp) (dvs:List V) (E:XK) (ta:TE) (t:TA):TE:=fun σ H Q=>ta σ H fun x H1=>∃ a dx fs,x=.ref a/\H1 a=some (.ins C dx fs)/\fs.lookup m=none /\
 t σ H1 fun vs H2=>sp (x::(vs++dvs)) H2 Q E
def b8s (C:Addr) (sp:Sp) (dvs:List V) (E:XK) (t:TA):TE:=fun σ H Q=>t σ H fun vs H1=>∀ x dx,H1 x=none->H1 dx=none->dx≠x ->
 sp (.ref x::(vs++dvs)) (upd (upd H1 dx (.own x)) x (.ins C dx [])) (fun v H2=>v=.non/\Q (.ref x) H2) E
def Binds (K:Fg) (fd:FuncData) (ps:List Str) (ds:List Value):Prop:=
 ∀ (s:Shared) (us:List Value),K.In s.heap->(us++ds).length=ps.length->BindsTo s fd ⟨us,[]⟩ (ps.zip (us++ds))
theorem Binds.all {K:Fg}{fd:FuncData}{ps:List Str}(h:∀ us:List Value,us.length=ps.length->bindArgs fd ⟨us,[]⟩=pure (ps.zip us)):Binds K fd ps []:=fun s us _ hl=>by
 rw[List.append_nil]at hl ⊢;exact .of_eq (h us hl)
def a28 (CX:CXT) (X:Cx) (E:XK):Prop:=∀ (pins:List (Addr×Obj)) (σ:St) (H:Hp) (s:Shared) (e:Value) (s':Shared),Inv X pins σ H s->CX X.stack H s E e s'->X.xe e s'
section
variable {X:Cx}{CX:CXT}{k:Nat}{f C:Addr}{fd:FuncData}{ps:List Str}{sp:Sp}{dvs:List V}{ds:List Value}{E:XK}{x m:Str}{p pos apos:Pos}{e o:Expr}{es:List Expr}{ta:TE}{t:TA}
theorem b3t {pins:List (Addr×Obj)}{σ:St}{H:Hp}{s:Shared}{Q:VK}{us:List Value}{vs:List V}(F:FnOk X.prog X.w X.K X.mg X.base CX k f fd ps sp) (hr:Room k X.A) (hb:Binds X.K fd ps ds) (hd:Vals dvs ds) (hx:a28 CX X E)
  (I:Inv X pins σ H s) (r:Vals vs us) (h:sp (vs++dvs) H Q E):wpAny (model X.prog X.w) X.A (call (.ref f) us) (EP X pins σ Q) X.xe s:=by
 have r2:Vals (vs++dvs) (us++ds):=r.append hd;have hl:(us++ds).length=ps.length:=by rw[<- r2.length];exact F.len _ _ _ _ h
 refine wpAny_call (codeAny_mono (F.run X.A X.stack s H ⟨us,[]⟩ (us++ds) (vs++dvs) Q E hr I.env0 (hb s us I.kIn hl) r2 h) fun r s' hq=>?_);cases r with
 | error e=>exact hx pins σ H s e s' I hq
 | ok fl=>
  cases fl with
  | ret u=>exact I.after hq
  | next=>exact False.elim hq
  | brk=>exact False.elim hq
  | cont=>exact False.elim hq
theorem b0p (F:FnOk X.prog X.w X.K X.mg X.base CX k f fd ps sp) (hr:Room k X.A) (hg:Gl X x) (hm:X.mg x=some (.ref f)) (hk:PySem.W.keepIn X.K (.ref f)=true) (hb:Binds X.K fd ps ds) (hd:Vals dvs ds) (hx:a28 CX X E)
  (ha:PA X (e::es) t) (hdb:(x==("__debug__":Str))=false:=by decide) (he:starEach (e::es) X.env=(false,eval e X.env)::starEach es X.env:=by rfl) (hpl:(backTo pos (starEach es X.env)).any (·.1)=false:=by rfl) :
  PE X (.Call (.Name x p) (e::es) [] pos) (b8r sp dvs E t):=by
 intro pins s σ H Q I h;refine wpAny_Call_Name_kw (a59 I hg hm ?_ hdb);refine PySem.W.callWith_K (h₀:=X.base) I.ok.mod.kin hk (thn (ha pos pins s σ H _ I h) fun us s1 ⟨vs,H1,I1,r,q⟩=>⟨I1.kIn,?_⟩) he hpl;exact b3t F hr hb hd hx I1 r q
theorem b0q {pl:Sem Bool}(he:PE X o ta) (c:Cls X.K C) (hm:Meth X.K C m f) (F:FnOk X.prog X.w X.K X.mg X.base CX k f fd ps sp) (hr:Room k X.A) (hb:Binds X.K fd ps ds) (hd:Vals dvs ds) (hx:a28 CX X E) (ha:PA X (e::es) t)
  (hst:starEach (e::es) X.env=(false,eval e X.env)::starEach es X.env:=by rfl) (hpl:(backTo pos (starEach es X.env)).any (·.1)=false:=by rfl)
  (ht:eval (.Call (.Attribute o m apos) (e::es) [] pos) X.env=(do
   let ov <- eval o X.env
   standAt apos.atName
   let (f,first) <- holding [ov] (getMethod ov m pl)
   callWith pos f first (backTo pos (starEach (e::es) X.env)) (backToKw pos (keywordEach [] X.env))):=by rfl) :
  PE X (.Call (.Attribute o m apos) (e::es) [] pos) (b54 C m sp dvs E ta t):=by
 intro pins s σ H Q I h;refine PySem.W.methodCall_KW (pl:=pl) (thn (he pins s σ H _ I h) fun u s1 ⟨x,H1,I1,rx,a,dx,fs,ex,ea,l,q⟩=>?_) ht;subst ex;obtain rfl:u=Value.ref a:=rx;refine a9s I1 ea c hm l ?_;refine PySem.W.callWith_K (first:=[.ref a]) (h₀:=X.base) I.ok.mod.kin hm.kp (thn (ha pos pins s1 σ H1 _ I1 q) fun us s2 ⟨vs,H2,I2,r,q2⟩=>⟨I2.kIn,?_⟩) hst hpl;exact b3t (us:=.ref a::us) (vs:=.ref a::vs) F hr hb hd hx I2 (.cons rfl r) q2
structure Mk (K:Fg) (C f:Addr):Prop where
 makes:PySem.W.makesIn K C=true
 init:PySem.W.findIn K (.ref C) "__init__"=some (some (.ref f))
 fn:PySem.W.isFn K (.ref f)=true
 kp:PySem.W.keepIn K (.ref C)=true
theorem b2f {pins:List (Addr×Obj)}{σ:St}{H:Hp}{s:Shared}{Q:VK}{us:List Value}{vs:List V}(M:Mk X.K C f) (F:FnOk X.prog X.w X.K X.mg X.base CX k f fd ps sp) (hr:Room (k+1) X.A) (hb:Binds X.K fd ps ds) (hd:Vals dvs ds)
  (hx:a28 CX X E) (I:Inv X pins σ H s) (r:Vals vs us)
  (h:∀ x dx,H x=none->H dx=none->dx≠x->sp (.ref x::(vs++dvs)) (upd (upd H dx (.own x)) x (.ins C dx [])) (fun v H2=>v=.non/\Q (.ref x) H2) E) :
  wpAny (model X.prog X.w) X.A (call (.ref C) us) (EP X pins σ Q) X.xe s:=by
 have hq:=h (s.heap.objs.size+1) s.heap.objs.size (I.hok.fresh (Nat.le_succ _)) (I.hok.fresh (Nat.le_refl _)) (Nat.ne_of_lt (Nat.lt_succ_self _));have I2:=Inv.made (C:=C) I;have r2:Vals (V.ref (s.heap.objs.size+1)::(vs++dvs)) (Value.ref (s.heap.objs.size+1)::(us++ds)):=.cons rfl (r.append hd);have hl:(Value.ref (s.heap.objs.size+1)::us++ds).length=ps.length:=by
  have e:=r2.length;rw[F.len _ _ _ _ hq]at e;exact e.symm
 refine wpAny_call (b2e (f:=f) I.kIn M.makes M.init (beq_iff_eq.mp M.fn) (codeAny_mono (F.run _ X.stack _ _ ⟨Value.ref (s.heap.objs.size+1)::us,[]⟩ (Value.ref (s.heap.objs.size+1)::(us++ds)) _ _ E (hr.make C us [])
  (I2.env0.make C us []) (hb _ (Value.ref (s.heap.objs.size+1)::us) I2.kIn hl) r2 hq) fun r s' hq'=>?_))
 cases r with
 | error e=>exact hx pins σ _ _ e s' I2 hq'
 | ok fl=>
  cases fl with
  | ret u=>
   obtain⟨v,H',I3,rv,ev,q3⟩:=I2.after hq';subst ev;exact⟨rv,⟨V.ref (s.heap.objs.size+1),H',I3,rfl,q3⟩⟩
  | next=>exact False.elim hq'
  | brk=>exact False.elim hq'
  | cont=>exact False.elim hq'
theorem b2g (M:Mk X.K C f) (F:FnOk X.prog X.w X.K X.mg X.base CX k f fd ps sp) (hr:Room (k+1) X.A) (hg:Gl X x) (hm:X.mg x=some (.ref C)) (hb:Binds X.K fd ps ds) (hd:Vals dvs ds) (hx:a28 CX X E)
  (hdb:(x==("__debug__":Str))=false:=by decide):PE X (.Call (.Name x p) [] [] pos) (b8s C sp dvs E tNil):=by
 intro pins s σ H Q I h;refine wpAny_Call_Name_kw (a59 I hg hm ?_ hdb);exact PySem.W.callWith_K0 I.kIn M.kp (b2f (us:=[]) M F hr hb hd hx I .nil h)
end
section
variable {X:Cx}{CX:CXT}{k:Nat}{f C:Addr}{fd:FuncData}{ps ks:List Str}{sp:Sp}{E:XK}{x m:Str}{p pos apos kpos:Pos}{e o:Expr}{es:List Expr}{kws:List Keyword}{te ta:TE}{t tk:TA}{nm:Option Str}
variable {g:List Value->List Value->List Value}{gV:List V->List V->List V}
end
structure FnScope (N P:List Str) (sc:Scope):Prop where
 kind:sc.kind=.function
 co:sc.isCoroutine=false
 gen:sc.isGenerator=false
 nd:N.Nodup
 pre:N.take P.length=P
 par:∀ x∈P,sc.names.lookup x=some .local\/sc.names.lookup x=some .cell
 nofree:∀ y∈sc.names,y.2≠.free
theorem a6N {kindOf:Str->Option NameKind}{x:Str}:∀ {binds:List (Str×Value)}{m:Str->Option Value},(∀ v,(x,v)∉binds)->bindL kindOf binds m x=m x
 | [],_,_=>rfl
 | (n,v)::r,m,h=>by
  unfold bindL;rw[a6N fun w hw=>h w (List.mem_cons_of_mem _ hw)]
  split
  ·have:x≠n:=by rintro rfl;exact h v List.mem_cons_self
   simp[this]
  ·rfl
theorem a6O {kindOf:Str->Option NameKind}{x:Str}:∀ {binds:List (Str×Value)}{m:Str->Option Value},(∀ v,(x,v)∉binds)->bindC kindOf binds m x=m x
 | [],_,_=>rfl
 | (n,v)::r,m,h=>by
  unfold bindC;rw[a6O fun w hw=>h w (List.mem_cons_of_mem _ hw)]
  split
  ·rfl
  ·have:x≠n:=by rintro rfl;exact h v List.mem_cons_self
   simp[this]
theorem a6P {kindOf:Str->Option NameKind}{x:Str}{v:Value}:∀ {P:List Str}{vs:List Value}{i:Nat}{m:Str->Option Value},P.Nodup->P[i]?=some x->vs[i]?=some v->kindOf x=some .local ->
  bindL kindOf (P.zip vs) m x=some v
 | [],_,_,_,_,h,_,_=>by simp at h
 | _::_,[],_,_,_,_,h,_=>by simp at h
 | p::P,w::vs,0,m,nd,h1,h2,hk=>by
  simp at h1 h2;subst h1;subst h2
  show bindL kindOf ((p,w)::P.zip vs) m p=_
  unfold bindL;rw[a6N fun v hv=>(List.nodup_cons.mp nd).1 (List.of_mem_zip hv).1,if_pos hk];simp
 | p::P,w::vs,i+1,m,nd,h1,h2,hk=>by
  show bindL kindOf ((p,w)::P.zip vs) m x=_
  unfold bindL;exact a6P (i:=i) (List.nodup_cons.mp nd).2 (by simpa using h1) (by simpa using h2) hk
theorem a6Q {kindOf:Str->Option NameKind}{x:Str}{v:Value}:∀ {P:List Str}{vs:List Value}{i:Nat}{m:Str->Option Value},P.Nodup->P[i]?=some x->vs[i]?=some v->kindOf x≠some .local ->
  bindC kindOf (P.zip vs) m x=some v
 | [],_,_,_,_,h,_,_=>by simp at h
 | _::_,[],_,_,_,_,h,_=>by simp at h
 | p::P,w::vs,0,m,nd,h1,h2,hk=>by
  simp at h1 h2;subst h1;subst h2
  show bindC kindOf ((p,w)::P.zip vs) m p=_
  unfold bindC;rw[a6O fun v hv=>(List.nodup_cons.mp nd).1 (List.of_mem_zip hv).1,if_neg hk];simp
 | p::P,w::vs,i+1,m,nd,h1,h2,hk=>by
  show bindC kindOf ((p,w)::P.zip vs) m x=_
  unfold bindC;exact a6Q (i:=i) (List.nodup_cons.mp nd).2 (by simpa using h1) (by simpa using h2) hk
def start (N:List Str) (vs:List V):St:=vs.map some++List.replicate (N.length - vs.length) none
def cxOf (CX:CXT) (P:Program) (w:World) (K:Fg) (mg:Str->Option Value) (base:Heap) (N:List Str) (qual:Str) (scope:Scope) (f:Addr) (cd:Value) (A:Around) (outer:List Env) (s:Shared) (H:Hp) (E:XK):Cx where
 prog:=P
 w:=w
 K:=K
 mg:=mg
 base:=base
 A:=A.deeper (envOfC qual scope s.heap.objs.size f cd)
 N:=N
 s₀:=s
 H₀:=H
 env:=envOfC qual scope s.heap.objs.size f cd
 outer:=outer
 stack:=envOfC qual scope s.heap.objs.size f cd::outer
 ex:=[]
 calm:=true
 fn:=fun _=>true
 pn:=[]
 xe:=fun e s'=>wpAny (model P w) (A.deeper (envOfC qual scope s.heap.objs.size f cd)) (leaving (envOfC qual scope s.heap.objs.size f cd) e) (fun _ s''=>CX outer H s E e s'') (fun e' s''=>CX outer H s E e' s'') s'
theorem a8p {sc:Scope}{n:Nat}{x:Str}(h:sc.names.lookup x=some .cell):∃ c,(cellsFrom n sc.names []).lookup x=some c:=by
 have q:=PySem.W.cellsFrom_some sc.names n [] (.inl h);exact Option.isSome_iff_exists.mp q
theorem b0r {CX:CXT}{P:Program}{w:World}{K:Fg}{mg:Str->Option Value}{base:Heap}{N ps:List Str}{qual:Str}{scope:Scope}{f:Addr}{cd:Value}{A:Around}{outer:List Env}{s s1:Shared}{H:Hp}{E:XK}{us:List Value}{vs:List V}
  (S:FnScope N ps scope) (hd:A.handled=none) (e0:Env0 P w K mg base A outer s H) (hl:vs.length=ps.length) (r:Vals vs us)
  (x:InCallC s s.heap.objs.size (bindL (envOfC qual scope s.heap.objs.size f cd).kindOf (ps.zip us) fun _=>none) (cellsFrom (s.heap.objs.size+1) scope.names []) (bindC (envOfC qual scope s.heap.objs.size f cd).kindOf (ps.zip us) fun _=>none) s1) :
  Inv (cxOf CX P w K mg base N qual scope f cd A outer s H E) [] (start N vs) H s1:=by
 have hpl:ps.length≤N.length:=by have:=congrArg List.length S.pre;rw[List.length_take]at this;omega
 obtain⟨h1,tk,rfl,hk⟩:=x.done;have noA:∀ b:Addr,b∉(cxOf CX P w K mg base N qual scope f cd A outer s H E).ex:=fun b z=>absurd (show b∈([]:List Addr) from z) (by simp);refine⟨⟨e0.mod,S.kind,rfl,rfl,Nat.le_refl _,fun y z c h1 h2=>?_,fun y hy=>?_,fun y c _ h=>?_,fun _=>hd,Around.frames_deeper e0.frames,.inr ⟨rfl,rfl⟩,fun b z=>absurd z (noA b),e0.bs,e0.bsz,fun b _ _=>noA b,fun b z=>absurd z (noA b),e0.funs,e0.frf⟩,
  rfl,e0.bare,Un.kept hk,⟨_,x.toInCall.ns,fun i y v h1 h2 h3=>?_⟩,fun y c h=>⟨_,x.cell y c h⟩,e0.hok.fresh (Nat.le_refl _),fun y c h=>?_,fun p hp=>absurd (show p∈([]:List (Addr×Obj)) from hp) (by simp),e0.hok.kept hk,?_⟩
 ·exact name_of_addr x.apart (PySem.mem_of_lookup h1) (PySem.mem_of_lookup h2)
 ·have hy:scope.names.lookup y=some .cell\/scope.names.lookup y=some .free:=hy;rcases hy with hy | hy
  ·exact a8p hy
  ·exact absurd rfl (S.nofree _ (PySem.mem_of_lookup hy))
 ·exact Nat.le_of_lt (x.above y c (PySem.mem_of_lookup h))
 ·have hi:i<vs.length:=by
   unfold start at h2
   by_cases hi:i<vs.length
   ·exact hi
   ·rw[List.getElem?_append_right (by simpa using hi)]at h2;rw[List.getElem?_replicate]at h2
    split at h2<;>cases h2
  have ha:vs[i]?=some v:=by
   unfold start at h2;rw[List.getElem?_append_left (by simpa using hi),List.getElem?_map]at h2;cases e:vs[i]? with
   | none=>rw[e]at h2;cases h2
   | some a=>rw[e]at h2;cases h2;rfl
  obtain⟨u,hu,rv⟩:=r.get ha;have hp:ps[i]?=some y:=by
   rw[<- S.pre,List.getElem?_take_of_lt (by omega)];exact h1
  have ndP:ps.Nodup:=by rw[<- S.pre];exact S.nd.sublist (List.take_sublist _ _)
  refine⟨u,rv,?_⟩;rcases S.par y (List.mem_of_getElem? hp) with k | k
  ·exact .inl ⟨k,a6P ndP hp hu k⟩
  ·obtain⟨c,e⟩:=a8p (n:=s.heap.objs.size+1) k;refine .inr ⟨.inl k,c,e,?_⟩;have q:=x.cell y c e;rw[a6Q ndP hp hu (by show scope.names.lookup y≠_;rw[k];decide)]at q;exact q
 ·exact e0.hok.fresh (Nat.le_of_lt (x.above y c (PySem.mem_of_lookup h)))
 ·unfold start
  show _=N.length
  rw[List.length_append,List.length_map,List.length_replicate];omega
theorem b55 {CX:CXT}{P:Program}{w:World}{K:Fg}{mg:Str->Option Value}{base:Heap}{k:Nat}{f:Addr}{name qual:Str}{params:Arguments}{body:List Stmt}{scope:Scope}{dV kV doc pm cdv ct oc:Value}{an od:Option Addr}
  {osl:Array (Option Value)}{N ps:List Str}{sp:Sp}(lk:K.lookup f=some ⟨oc,od,.func (PySem.W.fnOf name qual params body scope dV kV doc pm an cdv ct),osl⟩) (hcd:PySem.W.codeIn K cdv qual=true) (S:FnScope N ps scope)
  (len:∀ vs H Q E,sp vs H Q E->vs.length=ps.length)
  (hbody:∀ (A:Around) (outer:List Env) (s:Shared) (H:Hp) (vs:List V) (Q:VK) (E:XK),Room k (A.deeper (envOfC qual scope s.heap.objs.size f cdv))->sp vs H Q E ->
   ∃ t,PSs (cxOf CX P w K mg base N qual scope f cdv A outer s H E) body t/\t { nx:=fun _ H'=>Q .non H',rt:=Q } (start N vs) H) :
  FnOk P w K mg base CX (k+1) f (PySem.W.fnOf name qual params body scope dV kV doc pm an cdv ct) ps sp:=by
 refine⟨len,fun A outer s H args us vs Q E hr e0 hb r hsp=>?_⟩;have hl:=len _ _ _ _ hsp;have KX:K.In s.heap:=e0.mod.kin.keeps fun b o e=>(e0.bs b o e).1;have lim:s.heap.NoLimit:=e0.mod.nolimit.keeps fun b o e=>(e0.bs b o e).1;have hkind:∀ y∈ps.zip us,scope.names.lookup y.1=some .local\/(scope.names.lookup y.1=some .cell/\((cellsFrom (s.heap.objs.size+1) scope.names []).lookup y.1).isSome=true):=fun ⟨n,v⟩ hy=>by
  rcases S.par n (List.of_mem_zip hy).1 with q | q
  ·exact .inl q
  ·exact .inr ⟨q,PySem.W.cellsFrom_some _ _ _ (.inl q)⟩
 refine codeAny_call_function hr.depth (KX _ _ lk) rfl S.co S.gen rfl (PySem.W.codeRec_of KX hcd) (hb _ _ _ _ ?_);refine wpAny_newFunctionEnv_cells S.kind hkind fun env he s1 x=>?_;subst he;refine⟨lim.keeps x.toInCall.keep,codeAny_func ?_⟩;obtain⟨t,ht,hq⟩:=hbody A outer s H vs Q E (hr.deeper _) hsp;have I:Inv (cxOf CX P w K mg base N qual scope f cdv A outer s H E) [] (start N vs) H s1:=b0r S hr.hd e0 hl r x;refine wpAny_mono (ht [] s1 (start N vs) H _ I hq) (fun fl s' hs=>?_) fun e s' hs=>hs;have fin:∀ {σ':St}{H':Hp}{v:V}{u:Value},Inv (cxOf CX P w K mg base N qual scope f cdv A outer s H E) [] σ' H' s'->RelV v u->Q v H'->CE outer P w H s Q u s':=
  fun {σ' H' v u} J rv q=>⟨v,H',J.os,J.bare,J.base,J.hok,rv,q⟩
 cases fl with
 | ret u=>
  obtain⟨v,σ',H',J,rv,q⟩:=hs;exact fin J rv q
 | next=>
  obtain⟨σ',H',J,q⟩:=hs;exact fin (v:=V.non) (u:=Value.none) J rfl q
 | brk=>
  obtain⟨_,_,_,q⟩:=hs;exact False.elim q
 | cont=>
  obtain⟨_,_,_,q⟩:=hs;exact False.elim q
end L2
namespace L2
open PySem PySem.Spec PyProof.Rows
section
variable {X:Cx}{x:Str}{p pos:Pos}{e:Expr}{es:List Expr}{t:TA}{id T:String}{r:List V->Hp->VK->Prop}
def tCB (r:List V->Hp->VK->Prop) (t:TA):TE:=fun σ H Q=>t σ H fun vs H1=>r vs H1 Q
theorem a8q (hc:CallR X (.builtin id) r) (hg:Gl X x) (hm:X.mg x=none) (hv:bootBuiltins x=some (.builtin id)) (ha:PA X (e::es) t) (hn:x≠"__name__":=by decide) (hdb:(x==("__debug__":Str))=false:=by decide)
  (he:starEach (e::es) X.env=(false,eval e X.env)::starEach es X.env:=by rfl) (hpl:(backTo pos (starEach es X.env)).any (·.1)=false:=by rfl):PE X (.Call (.Name x p) (e::es) [] pos) (tCB r t):=by
 intro pins s σ H Q I h;refine wpAny_Call_Name_kw (a6L I hg hm hv ?_ hn hdb);exact PyProof.Rows.callWith_builtin1 (thn (ha pos pins s σ H _ I h) fun us s1 ⟨vs,H1,I1,r1,q1⟩=>hc pins s1 σ H1 vs us Q I1 r1 q1) he hpl
theorem a6R (hc:CallR X (.type T) r) (hg:Gl X x) (hm:X.mg x=none) (hv:bootBuiltins x=some (.type T)) (ha:PA X (e::es) t) (hn:x≠"__name__":=by decide) (hdb:(x==("__debug__":Str))=false:=by decide)
  (he:starEach (e::es) X.env=(false,eval e X.env)::starEach es X.env:=by rfl) (hpl:(backTo pos (starEach es X.env)).any (·.1)=false:=by rfl):PE X (.Call (.Name x p) (e::es) [] pos) (tCB r t):=by
 intro pins s σ H Q I h;refine wpAny_Call_Name_kw (a6L I hg hm hv ?_ hn hdb);exact PyProof.Rows.callWith_type1 (thn (ha pos pins s σ H _ I h) fun us s1 ⟨vs,H1,I1,r1,q1⟩=>hc pins s1 σ H1 vs us Q I1 r1 q1) he hpl
end
end L2
namespace HT
open PySem PyProof.Rows
section
open PySem.SeqAt
open PySem.AutoSeq1 (wpAny_loadPart')
open PySem.MeetsSeq PySem.MeetsSeq2 PySem.MeetsSeq3
end
section
variable {prog:Program}{w:World}{A:Around}{E:Value->Shared->Prop}{s:Shared}
theorem cat_tup {t b:Addr}{vs ws:List Value}{Q:Value->Shared->Prop}(ht:IsTup s.heap t vs.toArray) (hb:IsTup s.heap b ws.toArray) (hv:vs≠[])
  (h1:ws=[]->Q (.ref t) s) (h2:ws≠[]->Q (.ref s.heap.objs.size) { s with heap:=s.heap.push { cls:=.type "tuple",data:=.seq (vs++ws).toArray } })
  (hsz:vs.length+ws.length≤sizeLine):wpAny (model prog w) A (binaryOp .Add (.ref t) (.ref b)) Q E s:=by
 obtain⟨⟨cls,dd,data,sl⟩,ho,hc,n,hd⟩:=id ht;obtain⟨⟨cls2,dd2,data2,sl2⟩,ho2,hc2,n2,hd2⟩:=id hb;simp only at hc hd hc2 hd2;subst hc hd hc2 hd2;have e:vs.toArray++ws.toArray=(vs++ws).toArray:=by simp
 by_cases hw:ws=[]
 ·exact concat_meets ⟨_,ho,rfl⟩ ⟨_,ho2,rfl⟩ noFill_tuple_add seq_tuple_add PySem.F.slot_tuple_add PySem.F.entry_tuple_add (PySem.F.args_tuple_add_2 _ _)
   (tuple_addW1 t b vs.toArray ws.toArray n n2 dd dd2 sl sl2 (by simpa using hv) (by simp[hw])) ⟨ho,ho2,h1 hw⟩
 ·refine concat_meets ⟨_,ho,rfl⟩ ⟨_,ho2,rfl⟩ noFill_tuple_add seq_tuple_add PySem.F.slot_tuple_add PySem.F.entry_tuple_add (PySem.F.args_tuple_add_2 _ _)
   (tuple_addW2 t b vs.toArray ws.toArray n n2 dd dd2 sl sl2 (by simpa using hv) (by simpa using hw) (by rw[List.size_toArray,List.size_toArray];exact hsz)) ⟨ho,ho2,?_⟩
  rw[e];exact h2 hw
def sIx (n d:Nat):Option Int->Nat
 | none=>d
 | some v=>if v<0 then (v+(n:Int)).toNat else min v.toNat n
theorem sIx_none (n d:Nat):sIx n d none=d:=rfl
theorem sIx_nat (n d k:Nat):sIx n d (some (k:Int))=min k n:=by
 show (if (k:Int)<0 then ((k:Int)+(n:Int)).toNat else min (k:Int).toNat n)=min k n
 rw[if_neg (by omega),Int.toNat_natCast]
theorem b56 (n d:Nat) (hd:d≤n) (o:Option Int):sIx n d o≤n:=by
 cases o with
 | none=>exact hd
 | some v=>
  show (if v<0 then (v+(n:Int)).toNat else min v.toNat n)≤n
  by_cases hv:v<0
  ·rw[if_pos hv];omega
  ·rw[if_neg hv];exact Nat.min_le_right _ _
theorem b0s (v:Int) (n d:Nat):(if v<0 then max (v+(n:Int)) 0 else min v (n:Int))=((sIx n d (some v):Nat):Int):=by
 show (if v<0 then max (v+(n:Int)) 0 else min v (n:Int))=(((if v<0 then (v+(n:Int)).toNat else min v.toNat n):Nat):Int)
 by_cases hv:v<0
 ·simp only[if_pos hv];omega
 ·simp only[if_neg hv];omega
theorem a9v (lo hi:Option Int) (n:Nat):Builtin.Slice.sliceAdjust lo hi 1 (n:Int)=(((sIx n 0 lo:Nat):Int),((sIx n n hi:Nat):Int)):=by
 have h1:¬ ((1:Int)<0):=by omega
 unfold Builtin.Slice.sliceAdjust;simp only[h1,if_false];refine Prod.ext ?_ ?_
 ·cases lo with
  | none=>rfl
  | some v=>exact b0s v n 0
 ·cases hi with
  | none=>rfl
  | some v=>exact b0s v n n
theorem a9w (i j:Nat):Builtin.Slice.slicePlaces (i:Int) (j:Int) 1=j - i:=by
 unfold Builtin.Slice.slicePlaces;have h1:(1:Int) > 0:=by omega
 simp only[h1,if_true,Int.ediv_one]
 split<;>omega
theorem a5L {v:Value}{o:Option Int}{Q:Option Int->Shared->Prop}(p:IsPart v o) (h:Q o s):wpAny (model prog w) A (Builtin.Slice.slicePartIndex v) Q E s:=by
 cases p with
 | none=>exact slicePart_none h
 | int i t=>exact slicePart_int h
theorem a4x {sl:Addr}{vl vu:Value}{lo hi:Option Int}{n:Nat}{Q:Int×Int×Nat->Shared->Prop}(hs:s.heap.IsSliceOf sl vl vu .none) (pl:IsPart vl lo) (pu:IsPart vu hi)
  (h:Q (((sIx n 0 lo:Nat):Int),1,sIx n n hi - sIx n 0 lo) s):wpAny (model prog w) A (Builtin.Slice.sliceApplied (.ref sl) (pure (n:Int))) Q E s:=by
 obtain⟨os,hos,hcs,hds⟩:=id hs;unfold Builtin.Slice.sliceApplied Builtin.Slice.sliceFields;refine wpAny_bind (wpAny_bind (wpAny_field hos hds (x:=vl) rfl (wpAny_bind (wpAny_field hos hds (x:=vu) rfl (wpAny_bind (wpAny_field hos hds (x:=.none) rfl (wpAny_pure ?_)))))));refine wpAny_bind (slicePart_none ?_)
 show wpAny _ _ (if ((1:Int)==0)=true then _ else _) _ _ s
 rw[if_neg (by decide)];refine wpAny_bind (a5L pl (wpAny_bind (a5L pu (wpAny_bind (wpAny_pure ?_)))))
 show wpAny _ _ (match Builtin.Slice.sliceAdjust lo hi 1 (n:Int) with | (lo,hi)=>pure (lo,(1:Int),Builtin.Slice.slicePlaces lo hi 1)) _ _ s
 rw[a9v lo hi n]
 show wpAny _ _ (pure (((sIx n 0 lo:Nat):Int),(1:Int),Builtin.Slice.slicePlaces ((sIx n 0 lo:Nat):Int) ((sIx n n hi:Nat):Int) 1)) _ _ s
 rw[a9w];exact wpAny_pure h
theorem b2h (xs:Array Value) (i k:Nat):((List.range k).filterMap fun (m:Nat)=>xs[((i:Int)+(m:Int)*1).toNat]?).toArray=((xs.toList.drop i).take k).toArray:=by
 have e:(fun (m:Nat)=>xs[((i:Int)+(m:Int)*1).toNat]?)=fun m=>xs[i+m]?:=by
  funext m
  have:((i:Int)+(m:Int)*1).toNat=i+m:=by omega
  rw[this]
 rw[e]
 have:=pick_run xs i k
 rw[List.filterMap_map]at this;have e2:((fun x=>xs[x]?)∘fun x=>i+x)=fun m=>xs[i+m]?:=rfl;rw[e2]at this;rw[this]
theorem getItem_tuple_cut {t sl:Addr}{items:Array Value}{vl vu:Value}{lo hi:Option Int}{Q:Value->Shared->Prop}(ht:IsTup s.heap t items) (hs:s.heap.IsSliceOf sl vl vu .none) (pl:IsPart vl lo) (pu:IsPart vu hi)
  (hw:¬ (sIx items.size 0 lo=0/\sIx items.size items.size hi=items.size))
  (h:Q (.ref s.heap.objs.size) { s with heap:=s.heap.push { cls:=.type "tuple",data:=.seq ((items.toList.drop (sIx items.size 0 lo)).take (sIx items.size items.size hi - sIx items.size 0 lo)).toArray } })
  (hsz:items.size≤sizeLine):wpAny (model prog w) A (getItem (.ref t) (.ref sl)) Q E s:=by
 have htake:sizeOk (.seq ((items.toList.drop (sIx items.size 0 lo)).take (sIx items.size items.size hi - sIx items.size 0 lo)).toArray):=by
  show ((items.toList.drop (sIx items.size 0 lo)).take (sIx items.size items.size hi - sIx items.size 0 lo)).toArray.size≤sizeLine
  rw[List.size_toArray,List.length_take,List.length_drop,Array.length_toList];omega
 have hj:sIx items.size items.size hi≤items.size:=b56 _ _ (Nat.le_refl _) hi;obtain⟨os,hos,hcs,hds⟩:=id hs;have hTs:s.TypeIs (.ref sl) "slice":=⟨os,hos,hcs⟩;unfold getItem
 try with_reducible refine wpAny_holding ?_
 first | refine wpAny_bind (wpAny_pure ?_) | skip
 refine wpAny_bind (wpAny_sequenceKey ht.typeIs (by decide) ?_);refine wpAny_bind (wpAny_callSpecial?_slot (name:=Str.ofString "__getitem__") ht.typeIs PyProof.Rows.slot_tuple_getitem
  (wpAny_call_entry PyProof.Rows.slot_tuple_getitem ht.typeIs entry_tuple_getitem ?_ (args_tuple_getitem _ _)))
 show wpAny _ _ (Builtin.Tuple.tupleItemsOf (.ref t) >>= _) _ _ s
 refine wpAny_bind (tupleItemsOf_ ht ?_);refine wpAny_bind (wpAny_typeOf hTs ?_);rw[if_pos (by decide)];refine wpAny_bind (a4x hs pl pu ?_);have hno:¬ ((((sIx items.size 0 lo:Nat):Int)==0&&(1:Int)==1&&(sIx items.size items.size hi - sIx items.size 0 lo)==items.size)=true):=by
  intro q;rw[Bool.and_eq_true,Bool.and_eq_true]at q;have q1:((sIx items.size 0 lo:Nat):Int)=0:=eq_of_beq q.1.1;have q2:sIx items.size items.size hi - sIx items.size 0 lo=items.size:=eq_of_beq q.2;exact hw ⟨by omega,by omega⟩
 show wpAny _ _ (if (((sIx items.size 0 lo:Nat):Int)==0&&(1:Int)==1&&(sIx items.size items.size hi - sIx items.size 0 lo)==items.size)=true then _ else _) _ _ s
 rw[if_neg hno,b2h]
 first
  | exact wpAny_bind (m:=Builtin.Tuple.tupleExact _) (wpAny_newObj_type (wpAny_pure ⟨_,rfl,wpAny_pure h⟩) htake)
  | exact wpAny_bind (m:=Builtin.Tuple.tupleExact _) (wpAny_newObj_type (wpAny_bind (wpAny_pure (wpAny_pure ⟨_,rfl,wpAny_pure h⟩))) htake)
  | exact wpAny_bind (wpAny_bind (m:=Builtin.Tuple.tupleExact _) (wpAny_newObj_type (wpAny_pure (wpAny_pure ⟨_,rfl,wpAny_pure h⟩)) htake))
  | exact wpAny_bind (wpAny_bind (m:=Builtin.Tuple.tupleExact _) (wpAny_newObj_type (wpAny_pure ⟨_,rfl,wpAny_pure h⟩) htake))
end
end HT
namespace L2
open PySem PySem.Spec PyProof.Rows
abbrev TO:=St->Hp->(Option Int->Hp->Prop)->Prop
def PO (X:Cx) (e:Option Expr) (t:TO):Prop:=
 ∀ (pins:List (Addr×Obj)) (s:Shared) (σ:St) (H:Hp) (Q:Option Int->Hp->Prop),Inv X pins σ H s->t σ H Q ->
  wpAny (model X.prog X.w) X.A (evalPart e X.env) (fun u s'=>∃ o H',Inv X pins σ H' s'/\IsPart u o/\Q o H') X.xe s
def b4n:TO:=fun _ H Q=>Q none H
def b8t (t:TE):TO:=fun σ H Q=>t σ H fun x H1=>∃ i,x=.int i/\Q (some i) H1
theorem a5M {ns:List Int}:∀ {us:List Value},Vals (ns.map V.int) us->IntsAre us ns:=by
 induction ns with
 | nil=>intro us r;rw[List.map_nil]at r;cases r;exact .nil
 | cons n ns ih=>
  intro us r;rw[List.map_cons]at r;cases r with
  | cons r1 r2=>
   obtain⟨t,e⟩:=r1;subst e;exact .cons n t (ih r2)
section
variable {X:Cx}{e:Expr}{te:TE}{lo hi:Option Expr}{tl th:TO}{pos p2:Pos}
theorem b4o:PO X none b4n:=by
 intro pins s σ H Q I h;rw[evalPart_none];exact wpAny_pure ⟨none,H,I,.none,h⟩
theorem b4p (h:PE X e te):PO X (some e) (b8t te):=by
 intro pins s σ H Q I hw;rw[evalPart_some];refine thn (h pins s σ H _ I hw) fun u s1 ⟨x,H1,I1,r1,q1⟩=>?_;obtain⟨i,rfl,q⟩:=q1;obtain⟨t,rfl⟩:=r1;exact⟨some i,H1,I1,.int i t,q⟩
def SlR (X:Cx) (r:V->Option Int->Option Int->Hp->VK->Prop):Prop:=
 ∀ (pins:List (Addr×Obj)) (s:Shared) (σ:St) (H:Hp) (x:V) (v vl vu:Value) (lo hi:Option Int) (sl:Addr) (Q:VK),Inv X pins σ H s->RelV x v->s.heap.IsSliceOf sl vl vu .none->IsPart vl lo->IsPart vu hi->r x lo hi H Q ->
  ∃ T id,typeLookup (.type T) "__getitem__"=pure (some (.builtin id))/\s.TypeIs v T/\wpAny (model X.prog X.w) X.A (getItem v (.ref sl)) (EP X pins σ Q) X.xe s
theorem SlR.or {r r':V->Option Int->Option Int->Hp->VK->Prop}(h:SlR X r) (h':SlR X r'):SlR X (fun x lo hi H Q=>r x lo hi H Q\/r' x lo hi H Q):=by
 intro pins s σ H x v vl vu lo hi sl Q I rx hs pl pu q;rcases q with q | q
 ·exact h pins s σ H x v vl vu lo hi sl Q I rx hs pl pu q
 ·exact h' pins s σ H x v vl vu lo hi sl Q I rx hs pl pu q
def tSl (r:V->Option Int->Option Int->Hp->VK->Prop) (te:TE) (tl th:TO):TE:=fun σ H Q=>te σ H fun x H1=>tl σ H1 fun l H2=>th σ H2 fun u H3=>r x l u H3 Q
theorem b2i {r:V->Option Int->Option Int->Hp->VK->Prop}(hr:SlR X r) (he:PE X e te) (hl:PO X lo tl) (hu:PO X hi th):PE X (.Subscript e (.Slice lo hi none p2) pos) (tSl r te tl th):=by
 intro pins s σ H Q I h;refine Subscript_ (thn (he pins s σ H _ I h) fun v s1 ⟨x,H1,I1,r1,q1⟩=>?_);refine wpAny_Slice (thn (hl pins s1 σ H1 _ I1 q1) fun vl s2 ⟨l,H2,I2,pl,q2⟩=>thn (hu pins s2 σ H2 _ I2 q2) fun vu s3 ⟨u,H3,I3,pu,q3⟩=>?_);rw[evalPart_none];refine wpAny_pure ?_;have I4:Inv X pins σ H3 { s3 with heap:=s3.heap.push { cls:=.type "slice",data:=.fields #[vl,vu,.none] } }:=I3.kept (t':=s3.toks) fun b ob q=>Heap.get?_push_of_some _ q;obtain⟨T,id,hT,ht,hg⟩:=hr pins { s3 with heap:=s3.heap.push { cls:=.type "slice",data:=.fields #[vl,vu,.none] } } σ H3 x v vl vu l u s3.heap.objs.size Q I4 r1 (Heap.IsSliceOf.new ..) pl pu q3
 show wpAny (model X.prog X.w) X.A (subscriptTail e (.Slice lo hi none p2) v (.ref s3.heap.objs.size)) (EP X pins σ Q) X.xe { s3 with heap:=s3.heap.push { cls:=.type "slice",data:=.fields #[vl,vu,.none] } }
 exact tail_any (ops:=[.ref s3.heap.objs.size,v]) ht hT hg (by with_unfolding_all rfl)
def cutV (xs:List V) (lo hi:Option Int):List V:=(xs.drop (HT.sIx xs.length 0 lo)).take (HT.sIx xs.length xs.length hi - HT.sIx xs.length 0 lo)
theorem a40 (xs:List V) (lo hi:Option Int):(cutV xs lo hi).length≤xs.length:=by
 unfold cutV;rw[List.length_take,List.length_drop];omega
def rSlT (K:Fg):V->Option Int->Option Int->Hp->VK->Prop:=fun x lo hi H Q=>∃ a xs,x=.ref a/\SqT K H a xs /\
 ¬ (HT.sIx xs.length 0 lo=0/\HT.sIx xs.length xs.length hi=xs.length)/\∀ p,H p=none->Q (.ref p) (upd H p (.tup (cutV xs lo hi)))
theorem sl_tup:SlR X (rSlT X.K):=by
 intro pins s σ H x v vl vu lo hi sl Q I rx hs pl pu h;obtain⟨a,xs,rfl,hx,hw,q⟩:=h;cases rx;obtain⟨its,r,ht,hz⟩:=I.tuple hx;have hlen:its.toArray.size=xs.length:=by rw[List.size_toArray];exact r.length.symm
 refine⟨"tuple",_,PyProof.Rows.slot_tuple_getitem.lookup,ht.typeIs,?_⟩;refine HT.getItem_tuple_cut ht hs pl pu (by rw[hlen];exact hw) ?_ (by rw[hlen];exact hz);rw[hlen];refine⟨.ref s.heap.objs.size,_,I.laid (t':=s.toks) (o:=.tup (cutV xs lo hi)) (fun b ob q=>Heap.get?_push_of_some _ q) (Nat.le_refl _) ?_,rfl,q _ (I.hok.fresh (Nat.le_refl _))⟩;exact⟨Nat.le_trans (a40 xs lo hi) hz,_,(r.drop (HT.sIx xs.length 0 lo)).take (HT.sIx xs.length xs.length hi - HT.sIx xs.length 0 lo),IsTup.new _ _⟩
def b8u (K:Fg):R2:=fun x y H Q=>∃ a b xs ys,x=.ref a/\y=.ref b/\SqT K H a xs/\SqT K H b ys/\xs≠[]/\xs.length+ys.length≤sizeLine /\
 (ys=[]->Q (.ref a) H)/\(ys≠[]->∀ p,H p=none->Q (.ref p) (upd H p (.tup (xs++ys))))
theorem Vals.nil_iff {xs:List V}{us:List Value}(r:Vals xs us):us=[]↔xs=[]:=by
 cases r with
 | nil=>simp
 | cons _ _=>simp
theorem op_catT:OpR X (binaryOp .Add) (b8u X.K):=by
 intro pins s σ H x y v u Q I rx ry h;obtain⟨a,b,xs,ys,rfl,rfl,ha,hb,hx,hz,q1,q2⟩:=h;cases rx;cases ry;obtain⟨its,r1,p1,_⟩:=I.tuple ha;obtain⟨its2,r2,p2,_⟩:=I.tuple hb;refine HT.cat_tup p1 p2 (fun z=>hx (r1.nil_iff.mp z)) (fun z=>⟨.ref a,H,I,rfl,q1 (r2.nil_iff.mp z)⟩) (fun z=>?_) (by rw[<- r1.length,<- r2.length];exact hz);refine⟨.ref s.heap.objs.size,_,I.laid (t':=s.toks) (o:=.tup (xs++ys)) (fun b ob q=>Heap.get?_push_of_some _ q) (Nat.le_refl _) ?_,rfl,q2 (fun w=>z (r2.nil_iff.mpr w)) _ (I.hok.fresh (Nat.le_refl _))⟩;exact⟨by rw[List.length_append];exact hz,_,r1.append r2,IsTup.new _ _⟩
end
end L2
namespace L2
open PySem PySem.Spec PyProof.Rows
def ixN (n:Nat) (i:Int):Option Nat:=if 0≤i then (if i<n then some i.toNat else none) else if -(n:Int)≤i then some (i+n).toNat else none
def atI {α:Type}(xs:List α) (i:Int):Option α:=(ixN xs.length i).bind fun j=>xs[j]?
theorem b0t {n:Nat}{i:Int}{j:Nat}(h:ixN n i=some j):seqIndex? i n=some j/\j<n/\-(n:Int)≤i/\i<n:=by
 unfold ixN at h
 by_cases h0:0≤i
 ·rw[if_pos h0]at h
  by_cases h1:i<n
  ·rw[if_pos h1]at h;have e:i.toNat=j:=Option.some.inj h;exact⟨by rw[seqIndex_of h0 h1,e],by omega,by omega,h1⟩
  ·rw[if_neg h1]at h;cases h
 ·rw[if_neg h0]at h
  by_cases h1:-(n:Int)≤i
  ·rw[if_pos h1]at h;have e:(i+n).toNat=j:=Option.some.inj h;exact⟨by rw[seqIndex_neg (by omega) h1,e],by omega,h1,by omega⟩
  ·rw[if_neg h1]at h;cases h
theorem a7O {α:Type}{xs:List α}{i:Int}{v:α}(h:atI xs i=some v):∃ j,seqIndex? i xs.length=some j/\xs[j]?=some v/\j<xs.length/\-(xs.length:Int)≤i/\i<xs.length:=by
 unfold atI at h;cases e:ixN xs.length i with
 | none=>rw[e]at h;cases h
 | some j=>
  rw[e]at h;obtain⟨h1,h2,h3,h4⟩:=b0t e;exact⟨j,h1,h,h2,h3,h4⟩
theorem a1y {α:Type}{xs:List α}{j:Nat}{v:α}(h:xs[j]?=some v):atI xs (j:Int)=some v:=by
 have hj:j<xs.length:=(List.getElem?_eq_some_iff.mp h).1;have e:ixN xs.length (j:Int)=some j:=by
  unfold ixN;rw[if_pos (by omega),if_pos (by omega)];simp
 unfold atI;rw[e];exact h
def b0u (b:Expr):Prop:=∀ o i,subscripted b false o i=operate [o,i] (getItem o i)
def IxR (X:Cx) (r:R2):Prop:=
 ∀ (value slice:Expr) (pins:List (Addr×Obj)) (s:Shared) (σ:St) (H:Hp) (x y:V) (v u:Value) (Q:VK),Inv X pins σ H s->RelV x v->RelV y u->r x y H Q ->
  subscripted slice false v u=operate [v,u] (getItem v u)->wpAny (model X.prog X.w) X.A (subscriptTail value slice v u) (EP X pins σ Q) X.xe s
def MtR (X:Cx) (id:String) (r:V->List V->Hp->VK->Prop):Prop:=
 ∀ (pins:List (Addr×Obj)) (s:Shared) (σ:St) (H:Hp) (x:V) (xs:List V) (v:Value) (us:List Value) (Q:VK),Inv X pins σ H s->RelV x v->Vals xs us->r x xs H Q ->
  wpAny (model X.prog X.w) X.A (call (.builtin id) (v::us)) (EP X pins σ Q) X.xe s
section
variable {X:Cx}{a b:Expr}{ta tb:TE}{pos:Pos}
theorem IxR.or {r r':R2}(h:IxR X r) (h':IxR X r'):IxR X (fun x y H Q=>r x y H Q\/r' x y H Q):=by
 intro value slice pins s σ H x y v u Q I rx ry q hs;rcases q with q | q
 ·exact h value slice pins s σ H x y v u Q I rx ry q hs
 ·exact h' value slice pins s σ H x y v u Q I rx ry q hs
theorem MtR.or {id:String}{r r':V->List V->Hp->VK->Prop}(h:MtR X id r) (h':MtR X id r'):MtR X id (fun x xs H Q=>r x xs H Q\/r' x xs H Q):=by
 intro pins s σ H x xs v us Q I rx rs q;rcases q with q | q
 ·exact h pins s σ H x xs v us Q I rx rs q
 ·exact h' pins s σ H x xs v us Q I rx rs q
theorem b8v {r:R2}(hr:IxR X r) (ha:PE X a ta) (hb:PE X b tb) (hs:b0u b):PE X (.Subscript a b pos) (tOp r ta tb):=by
 intro pins s σ H Q I h;exact Subscript_ (binT ha hb I h fun v u s2 x y H2 I2 rx ry q=>hr a b pins s2 σ H2 x y v u Q I2 rx ry q (hs _ _))
def rIxL (K:Fg):R2:=fun x y H Q=>∃ p xs i v,x=.ref p/\y=.int i/\SqL K H p xs/\atI xs i=some v/\Q v H
def rIxT (K:Fg):R2:=fun x y H Q=>∃ p xs i v,x=.ref p/\y=.int i/\SqT K H p xs/\atI xs i=some v/\Q v H
def rIxS:R2:=fun x y H Q=>∃ z i c,x=.str z/\y=.int i/\z.length≤sizeLine/\atI z.cps.toList i=some c/\Q (.str ⟨#[c]⟩) H
theorem ix_list:IxR X (rIxL X.K):=by
 intro value slice pins s σ H x y v u Q I rx ry h hs;obtain⟨p,xs,i,z,rfl,rfl,hq,he,q⟩:=h;cases rx;obtain⟨t,rfl⟩:=ry;obtain⟨its,r,pl,hz⟩:=I.list hq;obtain⟨j,h1,h2,h3,h4,h5⟩:=a7O he;obtain⟨w,ew,rw'⟩:=r.get h2;have hl:=r.length;have hn:=a5I;have fin:EP X pins σ Q w s:=⟨z,H,I,rw',q⟩
 by_cases h0:0≤i
 ·have hj:i.toNat=j:=by
   rw[seqIndex_of h0 h5]at h1;exact Option.some.inj h1
  exact item_listR pl.isList h0 (by omega) (by rw[hj];simpa using ew) fin hs
 ·have hj:(i+(its.toArray.size:Int)).toNat=j:=by
   rw[seqIndex_neg (by omega) h4]at h1;rw[List.size_toArray,<- hl];exact Option.some.inj h1
  exact subscriptTail_builtinR (x:=w) pl.isList.typeIs slot_list_getitem.lookup
   (wpAny_getItem_list_neg (Q:=fun r s'=>r=w/\EP X pins σ Q r s') pl.isList (by omega) (by rw[List.size_toArray]<;>omega) (by omega) (by rw[hj];simpa using ew) ⟨rfl,fin⟩) hs
theorem ix_tup:IxR X (rIxT X.K):=by
 intro value slice pins s σ H x y v u Q I rx ry h hs;obtain⟨p,xs,i,z,rfl,rfl,hq,he,q⟩:=h;cases rx;obtain⟨t,rfl⟩:=ry;obtain⟨its,r,pl,hz⟩:=I.tuple hq;obtain⟨j,h1,h2,h3,h4,h5⟩:=a7O he;obtain⟨w,ew,rw'⟩:=r.get h2;have hl:=r.length;have hn:=a5I;have fin:EP X pins σ Q w s:=⟨z,H,I,rw',q⟩;exact subscriptTail_builtinR (x:=w) pl.typeIs slot_tuple_getitem.lookup
  (getItem_tuple (j:=j) (Q:=fun r s'=>r=w/\EP X pins σ Q r s') pl (by omega) (by omega) (by rw[List.size_toArray,<- hl];exact h1) (by simpa using ew) ⟨rfl,fin⟩) hs
theorem b57:IxR X rIxS:=by
 intro value slice pins s σ H x y v u Q I rx ry h hs;obtain⟨z,i,c,rfl,rfl,hz,he,q⟩:=h;obtain⟨t,rfl⟩:=rx;obtain⟨t',rfl⟩:=ry;obtain⟨j,h1,h2,h3,h4,h5⟩:=a7O he;have hl:z.cps.toList.length=z.length:=by simp[Str.length]
 rw[hl]at h1 h4 h5;have hn:=a5I;exact tail_any (typeIs_str s z t) slot_str_getitem.lookup (getItem_str (c:=c) (by
  have e1:decide (i < -(2 ^ 63:Int))=false:=decide_eq_false (by omega);have e2:decide (i≥2 ^ 63)=false:=decide_eq_false (by omega);rw[e1,e2,Bool.or_false]) (by rw[h1];simpa using h2) ⟨.str ⟨#[c]⟩,H,I.tok _,⟨_,rfl⟩,q⟩) hs
def rIx (K:Fg):R2:=fun x y H Q=>rIxL K x y H Q\/rIxT K x y H Q\/rIxS x y H Q
theorem b58:IxR X (rIx X.K):=ix_list.or (ix_tup.or b57)
theorem a9x (its:List Value) (n j:Nat) (u:Value):Obj.mapSeq (·.setIfInBounds j u) { cls:=.type "list",data:=.seq its.toArray n }={ cls:=.type "list",data:=.seq (its.set j u).toArray n }:=by
 simp[Obj.mapSeq]
theorem Inv.lst {pins:List (Addr×Obj)}{σ:St}{H:Hp}{s:Shared}{p:Addr}{xs:List V}(I:Inv X pins σ H s) (h:H p=some (.lst xs)) :
  ∃ (its:List Value) (n:Nat),Vals xs its/\s.heap.get? p=some { cls:=.type "list",data:=.seq its.toArray n }/\xs.length≤sizeLine:=by
 obtain⟨z,its,n,r,e⟩:=I.hok p _ h;exact⟨its,n,r,e,z⟩
theorem Inv.lstUpd {pins:List (Addr×Obj)}{σ:St}{H:Hp}{s:Shared}{p:Addr}{xs ys:List V}{its its':List Value}{n n':Nat}{f:Obj->Obj}(I:Inv X pins σ H s) (h:H p=some (.lst xs))
  (ho:s.heap.get? p=some { cls:=.type "list",data:=.seq its.toArray n }) (hf:f { cls:=.type "list",data:=.seq its.toArray n }={ cls:=.type "list",data:=.seq its'.toArray n' }) (r:Vals ys its') (hz:ys.length≤sizeLine) (t:Nat) :
  Inv X pins σ (upd H p (.lst ys)) { s with heap:=s.heap.update p f,toks:=t }:=by
 have e:(s.heap.update p f).get? p=some { cls:=.type "list",data:=.seq its'.toArray n' }:=by
  rw[Heap.get?_update_self f ho (by rw[hf]<;>rfl),hf]
 refine I.write (x:=p) (e:=p) (by rw[h];trivial) (.inl rfl) (fun b u hb q=>(Heap.get?_update_other _ _ (Ne.symm hb)).trans q) ⟨_,e⟩ ?_;exact⟨hz,its',n',r,e⟩
def b8w:V->V->V->Hp->(Hp->Prop)->Prop:=fun o i v H Q=>∃ p xs k j,o=.ref p/\i=.int k/\H p=some (.lst xs)/\ixN xs.length k=some j/\Q (upd H p (.lst (xs.set j v)))
theorem b2j:PSet X b8w:=by
 intro pins s σ H o i v ov iv u Q I ro ri rv h;obtain⟨p,xs,k,j,rfl,rfl,hp,hj,q⟩:=h;cases ro;obtain⟨t,rfl⟩:=ri;obtain⟨its,n,r,ho,hz⟩:=I.lst hp;obtain⟨h1,h2,h3,h4⟩:=b0t hj;have hl:=r.length;have hn:=a5I;have I':Inv X pins σ (upd H p (.lst (xs.set j v))) { s with heap:=s.heap.update p (Obj.mapSeq (·.setIfInBounds j u)) }:=
  I.lstUpd hp ho (a9x its n j u) (r.set rv j) (by rw[List.length_set];exact hz) s.toks
 by_cases h0:0≤k
 ·have hk:k.toNat=j:=by
   rw[seqIndex_of h0 h4]at h1;exact Option.some.inj h1
  exact PySem.W.ki_setAt ho h0 (by omega) (by rw[List.size_toArray,<- hl];exact h4) (by rw[hk];exact⟨_,I',q⟩)
 ·have hk:(k+(its.toArray.size:Int)).toNat=j:=by
   rw[seqIndex_neg (by omega) h3]at h1;rw[List.size_toArray,<- hl];exact Option.some.inj h1
  exact PySem.W.ki_setBack ho (by omega) (by rw[List.size_toArray,<- hl];exact h3) (by omega) (by rw[hk];exact⟨_,I',q⟩)
theorem a6S (lo hi:Option Int) (n:Nat):(sliceBounds lo hi none n).1=((HT.sIx n 0 lo:Nat):Int)/\(sliceBounds lo hi none n).2.1=((HT.sIx n n hi:Nat):Int)/\(sliceBounds lo hi none n).2.2=1:=by
 refine⟨?_,?_,rfl⟩
 ·cases lo with
  | none=>simp[sliceBounds,HT.sIx]
  | some i=>
   simp only[sliceBounds,HT.sIx,Option.getD_none,show (1:Int) > 0 by decide,if_true]
   by_cases h:i<0
   ·simp only[h,if_true]<;>omega
   ·simp only[h,if_false]<;>omega
 ·cases hi with
  | none=>simp[sliceBounds,HT.sIx]
  | some i=>
   simp only[sliceBounds,HT.sIx,Option.getD_none,show (1:Int) > 0 by decide,if_true]
   by_cases h:i<0
   ·simp only[h,if_true]<;>omega
   ·simp only[h,if_false]<;>omega
theorem a6b (its:List Value) (lo hi:Option Int):slicePick its.toArray lo hi none=((its.drop (HT.sIx its.length 0 lo)).take (HT.sIx its.length its.length hi - HT.sIx its.length 0 lo)).toArray:=by
 obtain⟨h1,h2,h3⟩:=a6S lo hi its.toArray.size;unfold slicePick;rw[h1,h2,h3];simp only[sliceRange_one,pick_run,List.size_toArray]<;>rfl
def rSlL (K:Fg):V->Option Int->Option Int->Hp->VK->Prop:=fun x lo hi H Q=>∃ a xs,x=.ref a/\SqL K H a xs/\∀ p,H p=none->Q (.ref p) (upd H p (.lst (cutV xs lo hi)))
theorem sl_list:SlR X (rSlL X.K):=by
 intro pins s σ H x v vl vu lo hi sl Q I rx hs pl pu h;obtain⟨a,xs,rfl,hx,q⟩:=h;cases rx;obtain⟨its,r,ht,hz⟩:=I.list hx;have hlen:=r.length;refine⟨"list",_,slot_list_getitem.lookup,ht.isList.typeIs,?_⟩;refine wpAny_getItem_list_slice ht.isList hs pl pu .none (by simp) ?_ (by rw[List.size_toArray]<;>omega)
 rw[a6b,<- hlen];refine⟨.ref s.heap.objs.size,_,I.laid (t':=s.toks) (o:=.lst (cutV xs lo hi)) (fun b ob q=>Heap.get?_push_of_some _ q) (Nat.le_refl _) ?_,rfl,q _ (I.hok.fresh (Nat.le_refl _))⟩;exact⟨Nat.le_trans (a40 xs lo hi) hz,_,0,(r.drop (HT.sIx xs.length 0 lo)).take (HT.sIx xs.length xs.length hi - HT.sIx xs.length 0 lo),Heap.get?_push_size _ rfl⟩
theorem CallR.or {f:Value}{r r':List V->Hp->VK->Prop}(h:CallR X f r) (h':CallR X f r'):CallR X f (fun xs H Q=>r xs H Q\/r' xs H Q):=by
 intro pins s σ H xs us Q I rs q;rcases q with q | q
 ·exact h pins s σ H xs us Q I rs q
 ·exact h' pins s σ H xs us Q I rs q
theorem a6T:CallR X (.type "list") (fun xs H Q=>∃ p ys,xs=[.ref p]/\(SqL X.K H p ys\/SqT X.K H p ys)/\∀ l,H l=none->Q (.ref l) (upd H l (.lst ys))):=by
 intro pins s σ H xs us Q I r h;obtain⟨p,ys,rfl,hq,q⟩:=h;obtain⟨u,rfl,rx⟩:=a3d r;cases rx;have fin:∀ (its:List Value),Vals ys its->ys.length≤sizeLine->∀ (h':Heap) (c':Nat),(∀ b o',s.heap.get? b=some o'->h'.get? b=some o') ->
   h'.get? s.heap.objs.size=some { cls:=.type "list",dict:=none,data:=.seq its.toArray c',slots:=#[] }->EP X pins σ Q (.ref s.heap.objs.size) { s with heap:=h' }:=fun its r' hz h' c' kp e=>
  ⟨.ref s.heap.objs.size,_,I.laid (t':=s.toks) kp (Nat.le_refl _) (show ObjOk X.prog X.w _ h' _ (.lst ys) from ⟨hz,its,c',r',e⟩),rfl,q _ (I.hok.fresh (Nat.le_refl _))⟩
 rcases hq with hq | hq
 ·obtain⟨its,r',pl,hz⟩:=I.list hq;have hlen:=r'.length;obtain⟨o,ho,hc,n,hd⟩:=pl.isList;exact call_list_seq p (.inl rfl) ho hc hd (fun h' c' kp e=>fin its r' hz h' c' kp e) (by simp only[List.size_toArray]<;>omega)
 ·obtain⟨its,r',pl,hz⟩:=I.tuple hq;have hlen:=r'.length;obtain⟨o,ho,hc,n,hd⟩:=pl;exact call_list_seq p (.inr rfl) ho hc hd (fun h' c' kp e=>fin its r' hz h' c' kp e) (by simp only[List.size_toArray]<;>omega)
theorem a6c:CallR X (.type "tuple") (fun xs H Q=>∃ p ys,xs=[.ref p]/\((SqL X.K H p ys/\∀ l,H l=none->Q (.ref l) (upd H l (.tup ys)))\/(SqT X.K H p ys/\Q (.ref p) H))):=by
 intro pins s σ H xs us Q I r h;obtain⟨p,ys,rfl,h⟩:=h;obtain⟨u,rfl,rx⟩:=a3d r;cases rx;rcases h with ⟨hq,q⟩ | ⟨hq,q⟩
 ·obtain⟨its,r',pl,hz⟩:=I.list hq;have hlen:=r'.length;refine call_tuple_list pl.isList (fun h' kp=>?_) (by simp only[List.size_toArray]<;>omega)
  have I1:Inv X pins σ H { s with heap:=h' }:=I.kept (t':=s.toks) kp;have I2:Inv X pins σ (upd H h'.objs.size (.tup ys)) { s with heap:=h'.push { cls:=.type "tuple",data:=.seq its.toArray } }:=
   I1.laid (t':=s.toks) (fun b o e=>Heap.get?_push_of_some _ e) (Nat.le_refl _) (show ObjOk X.prog X.w _ _ _ (.tup ys) from ⟨hz,its,r',IsTup.new _ _⟩)
  exact⟨.ref h'.objs.size,_,I2,rfl,q _ (I1.hok.fresh (Nat.le_refl _))⟩
 ·obtain⟨its,r',pl,hz⟩:=I.tuple hq;exact call_tuple_same pl ⟨.ref p,H,I,rfl,q⟩
def tyV (K:Fg) (T:String) (x:V) (H:Hp):Prop:=match x with
 | .str _=>T="str"
 | .int _=>T="int"
 | .ref p=>(T="list"/\∃ xs,SqL K H p xs)\/(T="tuple"/\∃ o,K.lookup p=some o/\o.cls=.type "tuple"/\o.dict=none) \/
   (T="dict"/\((∃ kvs,H p=some (.dK kvs))\/(∃ kvs,H p=some (.dT kvs))\/∃ ob kvs,H p=some (.frz ob (.dK kvs))))\/(T="set"/\∃ S n,H p=some (.set S n))
 | _=>False
theorem b3u {pins:List (Addr×Obj)}{σ:St}{H:Hp}{s:Shared}{T:String}{x:V}{v:Value}(I:Inv X pins σ H s) (r:RelV x v) (ty:tyV X.K T x H) :
  s.TypeIs v T/\∀ a,v=.ref a->∃ ob,s.heap.get? a=some ob/\ob.dict=none:=by
 cases x with
 | str z=>
  obtain⟨t,rfl⟩:=r;cases (show T="str" from ty);exact⟨typeIs_str s z t,fun _ e=>nomatch e⟩
 | int i=>
  obtain⟨t,rfl⟩:=r;cases (show T="int" from ty);exact⟨typeIs_int s i t,fun _ e=>nomatch e⟩
 | ref p=>
  cases r;rcases ty with ⟨rfl,xs,hq⟩ | ⟨rfl,o,hk,hc,hd⟩ | ⟨rfl,hk⟩ | ⟨rfl,S,n,hk⟩
  ·obtain⟨its,_,pl,_⟩:=I.list hq;refine⟨pl.isList.typeIs,fun a e=>?_⟩;cases e;obtain⟨o,n,e,c,hd,_⟩:=pl;exact⟨o,e,hd⟩
  ·refine⟨⟨o,I.kIn p o hk,hc⟩,fun a e=>?_⟩;cases e;exact⟨o,I.kIn _ o hk,hd⟩
  ·have z:∃ o,s.heap.get? p=some o/\o.ExactDict:=by
    rcases hk with ⟨kvs,hk⟩ | ⟨kvs,hk⟩ | ⟨ob,kvs,hk⟩
    ·obtain⟨_,_,_,_,o,_,_,e,ex,_⟩:=I.hok p _ hk;exact⟨o,e,ex⟩
    ·obtain⟨_,_,_,_,o,_,_,e,ex,_⟩:=I.hok p _ hk;exact⟨o,e,ex⟩
    ·obtain⟨_,_,_,_,_,o,_,_,e,ex,_⟩:=I.hok p _ hk;exact⟨o,e,ex⟩
   obtain⟨o,e,ex⟩:=z;refine⟨⟨o,e,ex.1⟩,fun a e2=>?_⟩;cases e2;exact⟨o,e,ex.2.1⟩
  ·obtain⟨o,_,_,_,e,ex,_⟩:=I.hok p _ hk;refine⟨⟨o,e,ex.1⟩,fun a e2=>?_⟩;cases e2;exact⟨o,e,ex.2.1⟩
 | _=>exact False.elim ty
def tBM0 (K:Fg) (T:String) (r:V->List V->Hp->VK->Prop) (to:TE):TE:=fun σ H Q=>to σ H fun x H1=>tyV K T x H1/\r x [] H1 Q
def tBM (K:Fg) (T:String) (r:V->List V->Hp->VK->Prop) (to:TE) (t:TA):TE:=fun σ H Q=>to σ H fun x H1=>tyV K T x H1/\t σ H1 fun xs H2=>r x xs H2 Q
variable {o e:Expr}{es:List Expr}{to:TE}{t:TA}{name:Str}{apos cpos:Pos}{T id:String}{r:V->List V->Hp->VK->Prop}
theorem b59 (pa:PlainAttrs T) (slot:Slot T name id) (hty:typeOf (.builtin id)=pure (.type "method_descriptor")) (hm:MtR X id r) (ho:PE X o to)
  (hbase:attributeBase o name X.env (eval o X.env)=eval o X.env:=by rfl) (hline:(apos.endLine==cpos.line)=true:=by rfl):PE X (.Call (.Attribute o name apos) [] [] cpos) (tBM0 X.K T r to):=by
 intro pins s σ H Q I h;refine wpAny_Call_method0_late hbase hline (thn (ho pins s σ H _ I h) fun v s1 ⟨x,H1,I1,r1,ty,q1⟩=>?_);obtain⟨h1,h2⟩:=b3u I1 r1 ty;exact⟨T,id,pa,slot,hty,h1,h2,Calls.callWith_builtin rfl (PySem.evalArgs_none (hm pins s1 σ H1 x [] v [] Q I1 r1 .nil q1))⟩
theorem b8x (pa:PlainAttrs T) (slot:Slot T name id) (hty:typeOf (.builtin id)=pure (.type "method_descriptor")) (hm:MtR X id r) (ho:PE X o to) (ha:PA X (e::es) t)
  (hbase:attributeBase o name X.env (eval o X.env)=eval o X.env:=by rfl)
  (hfew:((backTo cpos (starEach (e::es) X.env)).all (fun x=>!x.1)&&(backToKw cpos (keywordEach [] X.env)).all (fun x=>x.1.isSome)
   && decide ((e::es).length+([]:List Keyword).length+(if ([]:List Keyword).isEmpty then 0 else 1)<30))=true:=by rfl)
  (hline:(apos.endLine==cpos.line)=true:=by rfl) (hs:starEach (e::es) X.env=(false,eval e X.env)::starEach es X.env:=by rfl) (hplain:(backTo cpos (starEach es X.env)).any (·.1)=false:=by rfl) :
  PE X (.Call (.Attribute o name apos) (e::es) [] cpos) (tBM X.K T r to t):=by
 intro pins s σ H Q I h;refine wpAny_Call_method_late hbase hfew hline rfl (thn (ho pins s σ H _ I h) fun v s1 ⟨x,H1,I1,r1,ty,q1⟩=>?_);obtain⟨h1,h2⟩:=b3u I1 r1 ty;refine⟨T,id,pa,slot,hty,h1,h2,?_⟩;have hA:=ha cpos pins s1 σ H1 _ I1 q1;rw[hs]at hA ⊢;refine Calls.callWith_builtin (by show (false||(backTo cpos (starEach es X.env)).any (·.1))=false;rw[hplain]<;>rfl) (Calls.evalArgs_plain ?_)
 exact thn hA fun us s2 ⟨vs,H2,I2,r2,q2⟩=>hm pins s2 σ H2 x vs v us Q I2 r1 r2 q2
end
end L2
namespace L2
open PySem PySem.Spec PyProof.Rows
def MtM (X:Cx) (id:String) (r:V->List V->Hp->VK->Prop):Prop:=
 ∀ (pins:List (Addr×Obj)) (s:Shared) (σ:St) (H:Hp) (x:V) (xs:List V) (v:Value) (us:List Value) (Q:VK),Inv X pins σ H s->RelV x v->Vals xs us->r x xs H Q ->
  wpAny (model X.prog X.w) X.A (call (.builtin id) (v::us)) (EP X pins σ Q) X.xe s
theorem Vals.one:∀ {x:V}{us:List Value},Vals [x] us->∃ u,us=[u]/\RelV x u
 | _,_,.cons r .nil=>⟨_,rfl,r⟩
theorem Vals.two:∀ {x y:V}{us:List Value},Vals [x,y] us->∃ u v,us=[u,v]/\RelV x u/\RelV y v:=by
 intro x y us h;cases h with
 | cons r h=>cases h with
  | cons q h=>cases h;exact⟨_,_,rfl,r,q⟩
theorem Vals.zero:∀ {us:List Value},Vals [] us->us=[]
 | _,.nil=>rfl
theorem Vals.dropLast {xs:List V}{us:List Value}(h:Vals xs us):Vals xs.dropLast us.dropLast:=by
 induction h with
 | nil=>exact .nil
 | cons r t ih=>
  cases t with
  | nil=>exact .nil
  | cons q t'=>exact .cons r ih
theorem Vals.eraseIdx:∀ {xs:List V}{us:List Value}(i:Nat),Vals xs us->Vals (xs.eraseIdx i) (us.eraseIdx i)
 | _,_,_,.nil=>.nil
 | _,_,0,.cons _ t=>t
 | _,_,i+1,.cons r t=>.cons r (Vals.eraseIdx i t)
theorem Vals.reverse {xs:List V}{us:List Value}(h:Vals xs us):Vals xs.reverse us.reverse:=by
 induction h with
 | nil=>exact .nil
 | cons r t ih=>rw[List.reverse_cons,List.reverse_cons];exact Vals.append ih (.cons r .nil)
section
variable {X:Cx}{pins:List (Addr×Obj)}{σ:St}{H:Hp}{s:Shared}{l b:Addr}{xs ys zs:List V}
theorem Inv.lset {its its':List Value}{n:Nat}{f:Array Value->Array Value}{t':Nat}(I:Inv X pins σ H s) (hH:H l=some (.lst xs))
  (e:s.heap.get? l=some { cls:=.type "list",data:=.seq its.toArray n }) (hf:f its.toArray=its'.toArray) (hv:Vals ys its') (hz:ys.length≤sizeLine) :
  Inv X pins σ (upd H l (.lst ys)) { s with heap:=s.heap.update l (Obj.mapSeq f),toks:=t' }:=by
 have q:=PySem.IsL.update e f;rw[hf]at q;refine I.write (x:=l) (e:=l) (by rw[hH];exact trivial) (.inl rfl) (fun b' u hb hu=>(Heap.get?_update_other s.heap (Obj.mapSeq f) (Ne.symm hb)).trans hu) ⟨_,q⟩ ?_;exact⟨hz,its',_,hv,q⟩
theorem Inv.lnew {its:List Value}{t':Nat}(I:Inv X pins σ H s) (hv:Vals ys its) (hz:ys.length≤sizeLine) :
  Inv X pins σ (upd H s.heap.objs.size (.lst ys)) { s with heap:=s.heap.push { cls:=.type "list",data:=.seq its.toArray },toks:=t' }:=
 I.laid (fun _ _ q=>Heap.get?_push_of_some _ q) (Nat.le_refl _) ⟨hz,its,0,hv,Heap.get?_push_size _ rfl⟩
theorem Inv.fresh (I:Inv X pins σ H s):H s.heap.objs.size=none:=I.hok.fresh (Nat.le_refl _)
theorem Inv.lstM (I:Inv X pins σ H s) (hH:H l=some (.lst xs)):xs.length≤sizeLine/\∃ (its:List Value) (n:Nat),Vals xs its/\xs.length=its.length/\s.heap.get? l=some { cls:=.type "list",data:=.seq its.toArray n }:=by
 obtain⟨z,its,n,r,e⟩:=I.hok l _ hH;exact⟨z,its,n,r,r.length,e⟩
theorem b2k {n:Nat}(h:n≤sizeLine):Builtin.List.listTooLong n=false:=by
 unfold Builtin.List.listTooLong;exact decide_eq_false (by omega)
end
section
variable {X:Cx}
def b4q:V->List V->Hp->VK->Prop:=fun x vs H Q=>∃ l xs y,x=.ref l/\vs=[y]/\H l=some (.lst xs)/\xs.length<sizeLine/\Q .non (upd H l (.lst (xs++[y])))
theorem a6U:MtM X "list.append" b4q:=by
 intro pins s σ H x vs v us Q I rx rv h;obtain⟨l,xs,y,rfl,rfl,hH,hz,q⟩:=h;cases rx;obtain⟨u,rfl,ru⟩:=rv.one;obtain⟨z,its,n,r,hl,e⟩:=I.lstM hH;refine call_meets F.slot_list_append ⟨_,e,rfl⟩ F.entry_list_append (F.args_list_append_2 _ _) (PySem.list_append l its.toArray n u (by rw[List.size_toArray];omega)) ⟨e,?_⟩;refine⟨.non,_,I.lset (its':=its++[u]) hH e (by simp) (r.append (.cons ru .nil)) ?_,rfl,q⟩;rw[List.length_append,List.length_singleton];omega
def b4r:V->List V->Hp->VK->Prop:=fun x vs H Q=>∃ l b xs zs,x=.ref l/\vs=[.ref b]/\H l=some (.lst xs)/\H b=some (.lst zs)/\xs.length+zs.length≤sizeLine/\Q .non (upd H l (.lst (xs++zs)))
theorem b0v:MtM X "list.extend" b4r:=by
 intro pins s σ H x vs v us Q I rx rv h;obtain⟨l,b,xs,zs,rfl,rfl,hH,hB,hz,q⟩:=h;cases rx;obtain⟨u,rfl,ru⟩:=rv.one;cases ru;obtain⟨z,its,n,r,hl,e⟩:=I.lstM hH;obtain⟨z2,its2,n2,r2,hl2,e2⟩:=I.lstM hB;have hsz:its.toArray.size+its2.toArray.size≤sizeLine:=by rw[List.size_toArray,List.size_toArray];omega
 have hlong:¬ (!its.toArray.isEmpty&&Builtin.List.listTooLong (its.toArray.size+its2.toArray.size))=true:=by
  rw[b2k hsz,Bool.and_false];exact Bool.false_ne_true
 refine call_meets F.slot_list_extend ⟨_,e,rfl⟩ F.entry_list_extend (F.args_list_extend_2 _ _)
  (AutoSeq1.list_extend_list_list_0 l its.toArray n b its2.toArray n2 hlong (by rw[List.size_toArray];omega) (by omega)) ⟨e,e2,?_⟩
 refine⟨.non,_,I.lset (its':=its++its2) hH e (by simp) (r.append r2) ?_,rfl,q⟩;rw[List.length_append];omega
def b6a:V->List V->Hp->VK->Prop:=fun x vs H Q=>∃ l xs,x=.ref l/\vs=[]/\H l=some (.lst xs)/\Q .non (upd H l (.lst []))
theorem b2l:MtM X "list.clear" b6a:=by
 intro pins s σ H x vs v us Q I rx rv h;obtain⟨l,xs,rfl,rfl,hH,q⟩:=h;cases rx;have hus:=rv.zero;subst hus;obtain⟨z,its,n,r,hl,e⟩:=I.lstM hH;refine call_meets F.slot_list_clear ⟨_,e,rfl⟩ F.entry_list_clear (F.args_list_clear_1 _) (AutoSeq1.list_clear_list_0 l its.toArray n (by rw[List.size_toArray];omega)) ⟨e,?_⟩;exact⟨.non,_,I.lset (its':=[]) (ys:=[]) hH e rfl .nil (Nat.zero_le _),rfl,q⟩
def rCat:R2:=fun x y H Q=>∃ l b xs zs,x=.ref l/\y=.ref b/\H l=some (.lst xs)/\H b=some (.lst zs)/\xs.length+zs.length≤sizeLine/\∀ p,H p=none->Q (.ref p) (upd H p (.lst (xs++zs)))
theorem b6b:OpR X (binaryOp .Add) rCat:=by
 intro pins s σ H x y v u Q I rx ry h;obtain⟨l,b,xs,zs,rfl,rfl,hH,hB,hz,q⟩:=h;cases rx;cases ry;obtain⟨z,its,n,r,hl,e⟩:=I.lstM hH;obtain⟨z2,its2,n2,r2,hl2,e2⟩:=I.lstM hB;refine PySem.P.add_list e e2 ?_ (by rw[List.size_toArray,List.size_toArray];omega);have ea:its.toArray++its2.toArray=(its++its2).toArray:=by simp
 rw[ea];exact⟨.ref _,_,I.lnew (t':=s.toks) (r.append r2) (by rw[List.length_append];omega),rfl,q _ I.fresh⟩
end
section
variable {prog:Program}{w:World}{A:Around}{E:Value->Shared->Prop}{s:Shared}
end
section
variable {X:Cx}
end
end L2
namespace Att
open PySem PySem.W PySem.Calls PyProof.Rows
theorem a41 {P:Params}{h:Heap}:∀ (ns:List Int) (vs:List Value),WellAll P h vs (ns.map WData.int)->IntsAre vs ns:=by
 intro ns
 induction ns with
 | nil=>
  intro vs w;rw[List.map_nil]at w;cases w;exact .nil
 | cons n ns ih=>
  intro vs w;rw[List.map_cons]at w;cases w with
  | cons a b=>
   cases a;exact .cons _ _ (ih _ b)
theorem b0w {l:OpenLaw}{n:Nat}(hn:l.most=some n) {P:Params}{h:Heap}{args:List WData}{vals:List Value}
  (hpre:l.row.toRowW.claim.pre args=true) (hwl:WellAll P h vals args) :
  ∃ a vs ns,vals=[Value.ref a]/\args=[WData.list (ns.map WData.int)]/\h.get? a=some { cls:=.type "list",data:=.seq vs.toArray }/\IntsAre vs ns/\ns.length≤n:=by
 have hsh:WShape.hasAll [] args [.list .int]=true:=(pre_splitW hpre).1;have hc:l.pre.holds [] { args:=args }=true:=(pre_splitW hpre).2;obtain⟨d,r,rfl,h1,h2⟩:=hasAllW_cons hsh;obtain rfl:=hasAllW_nil h2;obtain⟨xs,rfl,h3⟩:=hasW_list h1;obtain⟨ns,rfl⟩:=items_int h3;have hlen:ns.length≤n:=by
  unfold OpenLaw.pre at hc;have h4:(WTm.not (.lt (.lit (.int (n:Int))) (.len (.arg 0)))).holds [] { args:=[.list (ns.map .int)] }=true:=by
   have h4:=(holds_andW hc).1;rw[hn]at h4;exact h4
  have h5:=condW_of h4 (w_not (w_lt w_lit (w_len_list (w_arg rfl))));rw[List.length_map]at h5;refine Nat.le_of_not_lt fun q=>?_;have q':(n:Int)<((ns.length:Nat):Int):=by omega
  first
   | (rw[decide_eq_true q']at h5;exact absurd h5 (by decide))
   | (simp at h5;omega)
 cases hwl with
 | cons w1 w2=>
  cases w2;cases w1 with
  | list ho hall=>exact⟨_,_,ns,rfl,rfl,ho,a41 ns _ hall,hlen⟩
theorem b0x (l:OpenLaw) (args:List WData):l.row.toRowW.claim.post args (.bool true) args=true:=
 postW_of (r:=l.row.toRowW) (X:=(true==true))
  (show WShape.has [] (.bool true) .bool=true by first | rfl | decide | simp[WShape.has,WShape.arms,WShape.armsAll])
  (show (WTm.eq .res (.lit (.bool true))).value [] { args:=args,res:=some (.bool true),after:=args }=some (.bool (true==true)) from w_eq_bool (w_res rfl) w_lit) rfl
theorem attach_call {l:OpenLaw}{n:Nat}{q:Program}{loose:List Str}{XP:(Str->Option Value)->Heap->Prop}{YP:World->Heap->Prop}{d:DefRec}
  (hn:l.most=some n) (hdf:d.params.defaults=[])
  (call:∀ (w:World) (s₀ s₁:Shared) (mg mb:Str->Option Value) (fa:Addr) (o:Obj) (pm cd doc:Value) (a:Addr) (vs:List Value) (ns:List Int),
   Ground q loose [] XP w s₀ mg mb s₁.heap->YP w s₁.heap ->
   s₁.heap.get? fa=some o->o.data=.func (docDef d.name d.params d.body d.scope pm cd doc)->s₁.heap.CodeRec cd d.name->mg d.name=some (.ref fa) ->
   s₁.heap.get? a=some { cls:=.type "list",data:=.seq vs.toArray }->IntsAre vs ns->ns.length≤n->s₁.gens=#[] ->
   codeAny (model l.prog w) callerA (.call (.ref fa) ⟨[.ref a],[]⟩) (fun r s'=>r=.ok (.ret (.bool true))/\OldK s₁.heap s'.heap/\s'.os=s₁.os/\AllBare s'.gens) s₁) :
  WalkO q loose XP YP l.row.toRowW d [] (fun f vs=>PySem.call f vs):=by
 intro w s₀ s₁ mg mb G Y fa o pm cd doc dV kV ho hd hcd hD hmg hg args vals as hpre hlay hrd hwl hlo;obtain rfl:dV=.none:=Dflts.none hD hdf;obtain rfl:kV=.none:=Dflts.noKw hD;obtain⟨a,vs,ns,rfl,rfl,hobj,hints,hlen⟩:=b0w hn hpre hwl;refine enter_call (codeAny_mono (call w s₀ s₁ mg mb fa o pm cd doc a vs ns G Y ho (fd_plain hd) hcd hmg hobj hints hlen hg) fun r s' hq=>?_);obtain⟨rfl,h2,h3,h4⟩:=hq;exact⟨.inl ⟨.bool true,.bool true,[],rfl,fun _=>rfl,.bool true,b0x l _,fun _=>⟨List.Pairwise.nil,fun _ hm=>(nomatch hm)⟩⟩,h2,h3,h4⟩
section
variable {prog:Program}{w:World}{A:Around}{E:Value->Shared->Prop}{s:Shared}{K:Frag}
end
end Att
namespace L2
open PySem PySem.Spec PyProof.Rows
theorem a6V:∀ {vs:List Value}{ns:List Int},IntsAre vs ns->Vals (ns.map V.int) vs
 | _,_,.nil=>.nil
 | _,_,.cons n t h=>.cons ⟨t,rfl⟩ (a6V h)
def Only (H:Hp):Prop:=∀ b,H b=none\/∃ o xs,H b=some (.frz o (.lst xs))
theorem b2m {P:Program}{w:World}{K:Fg}{mg mb:Str->Option Value}{CX:CXT}{k:Nat}{fa a:Addr}{fd:FuncData}{x:Str}{sp:Sp}{s₁:Shared}{vs:List Value}{ns:List Int}
  (KX:K.In s₁.heap) (hns:s₁.heap.Ns mainGlobals mg) (hb:s₁.heap.Ns builtinsNs mb) (hbb:∀ x:Str,x≠"__name__"->mb x=bootBuiltins x) (hlim:s₁.heap.NoLimit) (hg:s₁.gens=#[])
  (ha:s₁.heap.get? a=some { cls:=.type "list",data:=.seq vs.toArray }) (hi:IntsAre vs ns) (hl:ns.length≤sizeLine) (hr:Room k callerA)
  (F:∀ base:Heap,K.In base->base.Ns mainGlobals mg->FnOk P w K mg base CX k fa fd [x] sp) (hbind:∀ (s:Shared) (u:Value),BindsTo s fd ⟨[u],[]⟩ [(x,u)])
  (hsp:∀ H:Hp,Only H->SqL K H a (ns.map V.int)->sp [.ref a] H (fun v _=>v=.bl true) fun _ _ _=>False)
  (hCX:∀ H e s',CX [] H s₁ (fun _ _ _=>False) e s'->False) :
  codeAny (model P w) callerA (.call (.ref fa) ⟨[.ref a],[]⟩) (fun r s'=>r=.ok (.ret (.bool true))/\OldK s₁.heap s'.heap/\s'.os=s₁.os/\AllBare s'.gens) s₁:=by
 have rv:=a6V hi;have lenV:=hi.length;have core:∀ H:Hp,Only H->SqL K H a (ns.map V.int)->HOk P w H s₁.heap->(∀ b,H b≠none->b=a)->(H a≠none->K.lookup a=none) ->
   codeAny (model P w) callerA (.call (.ref fa) ⟨[.ref a],[]⟩) (fun r s'=>r=.ok (.ret (.bool true))/\OldK s₁.heap s'.heap/\s'.os=s₁.os/\AllBare s'.gens) s₁:=by
  intro H hO hS hok hA hK;have base_of:∀ {b:Addr}{o:Obj},s₁.heap.get? b=some o->H b=none->(hidT s₁.heap H).get? b=some o:=fun e n=>b16 e n;have noA:∀ {b:Addr}{o:Obj}{es:Array DictEntry}{ep:Nat},s₁.heap.get? b=some o->o.data=.dict es ep->H b=none:=fun {b o es ep} e d=>by
   cases q:H b with
   | none=>rfl
   | some u=>
    have e':b=a:=hA b (by rw[q];simp);subst e';rw[ha]at e;cases e;have d':Data.seq vs.toArray _=Data.dict es ep:=d;cases d'
  have nsK:∀ {b:Addr}{m:Str->Option Value},s₁.heap.Ns b m->(hidT s₁.heap H).Ns b m:=fun {b m} ⟨o,es,ep,e,d,r⟩=>⟨o,es,ep,base_of e (noA e d),d,r⟩;have hKb:K.In (hidT s₁.heap H):=fun b o e=>base_of (KX b o e) (by
   cases q:H b with
   | none=>rfl
   | some u=>
    have e':b=a:=hA b (by rw[q];simp);subst e';rw[hK (by rw[q];simp)]at e;cases e)
  have hM:Mod K mg (hidT s₁.heap H):=⟨hKb,nsK hns,⟨mb,nsK hb,hbb⟩,let ⟨mc,h1,h2⟩:=hlim;⟨mc,nsK h1,h2⟩⟩;have e0:Env0 P w K mg (hidT s₁.heap H) callerA [] s₁ H:=⟨rfl,hM,fun b o e=>b37 e,Nat.le_of_eq (a97 _ _),trivial,fun b hb=>absurd (show b∈([]:List Addr) from hb) (by simp),hok,.of_eq hg⟩;refine codeAny_mono ((F _ hKb (nsK hns)).run callerA [] s₁ H ⟨[.ref a],[]⟩ [.ref a] [.ref a] _ _ hr e0 (hbind s₁ (.ref a)) (.cons rfl .nil) (hsp H hO hS)) fun r s' h=>?_;cases r with
  | error e=>exact (hCX H e s' h).elim
  | ok fl=>
   cases fl with
   | next=>exact False.elim h
   | brk=>exact False.elim h
   | cont=>exact False.elim h
   | ret u=>
    obtain⟨v,H',os,bare,un,hok',r',q⟩:=h;have q':v=.bl true:=q;subst q';obtain rfl:u=Value.bool true:=r';refine⟨rfl,OldK.of_keep fun b o e=>?_,os,bare⟩;cases q:H b with
    | none=>exact un.keep b o e q (by intro z;exact absurd (show b∈([]:List Addr) from z) (by simp)) (by simp)
    | some u=>
     rcases hO b with z | ⟨ob,xs,z⟩
     ·rw[q]at z;cases z
     ·have z2:=un.frzs b ob _ z;obtain⟨e1,_⟩:=hok b _ z;obtain⟨e2,_⟩:=hok' b _ z2;rw[e]at e1;cases e1;exact e2
 cases hk:K.lookup a with
 | some o=>
  have e:=KX a o hk;rw[ha]at e;cases e;refine core (fun _=>none) (fun _=>.inl rfl) (.inr ⟨_,vs.toArray,_,hk,rfl,rfl,rfl,by rw[List.size_toArray,lenV];exact hl,by simpa using rv⟩) (fun b u z=>by have z':(none:Option HO)=some u:=z;cases z') (fun b z=>absurd rfl z) fun z=>absurd rfl z
 | none=>
  refine core (fun b=>if b=a then some (.frz { cls:=.type "list",data:=.seq vs.toArray } (.lst (ns.map V.int))) else none) (fun b=>?_) (.inl (.inr ⟨{ cls:=.type "list",data:=.seq vs.toArray },if_pos rfl⟩)) (fun b u z=>?_) (fun b z=>?_) fun _=>hk
  ·by_cases hb:b=a
   ·exact .inr ⟨_,_,if_pos hb⟩
   ·exact .inl (if_neg hb)
  ·by_cases hb:b=a
   ·have z':=(if_pos hb).symm.trans z;cases z';subst hb;exact⟨ha,by rw[List.length_map];exact hl,vs,_,rv,ha⟩
   ·have z':=(if_neg hb).symm.trans z;cases z'
  ·by_cases hb:b=a
   ·exact hb
   ·exact absurd (if_neg hb) z
end L2
namespace L2
open PySem PySem.Spec PyProof.Rows
theorem walk_of {l:PySem.W.OpenLaw}{n k:Nat}{q:Program}{loose:List Str}{XP:(Str->Option Value)->Heap->Prop}{YP:World->Heap->Prop}{d:DefRec}{K:Params->Fg}{CX:World->CXT}{sp:World->Sp}{x:Str}
  (hn:l.most=some n) (hn2:n≤sizeLine) (hdf:d.params.defaults=[]) (hr:Room k callerA)
  (hY:∀ (w:World) (h:Heap),YP w h->(K w.params).In h)
  (F:∀ (w:World) (mg:Str->Option Value) (fa:Addr) (h:Heap),(K w.params).In h->h.Ns mainGlobals mg->mg d.name=some (.ref fa) ->
   ∃ fd:FuncData,(∀ (s:Shared) (u:Value),BindsTo s fd ⟨[u],[]⟩ [(x,u)]) /\
    ∀ base:Heap,(K w.params).In base->base.Ns mainGlobals mg->FnOk l.prog w (K w.params) mg base (CX w) k fa fd [x] (sp w))
  (hsp:∀ (w:World) (H:Hp) (a:Addr) (ns:List Int),ns.length≤n->Only H->SqL (K w.params) H a (ns.map V.int)->sp w [.ref a] H (fun v _=>v=.bl true) fun _ _ _=>False)
  (hCX:∀ (w:World) (H:Hp) (s:Shared) (e:Value) (s':Shared),CX w [] H s (fun _ _ _=>False) e s'->False) :
  PySem.W.WalkO q loose XP YP l.row.toRowW d [] (fun f vs=>PySem.call f vs):=by
 refine Att.attach_call hn hdf fun w s₀ s₁ mg mb fa o pm cd doc a vs ns G Y ho hd hcd hmg hobj hints hlen hg=>?_;have KX:=hY w _ Y;obtain⟨fd,hb,hF⟩:=F w mg fa _ KX G.T.g hmg;exact b2m KX G.T.g G.T.b G.T.builtins G.T.nolimit hg hobj hints (Nat.le_trans hlen hn2) hr hF hb (fun H hO hS=>hsp w H a ns hlen hO hS) fun H e s'=>hCX w H s₁ e s'
end L2
namespace L2
open PySem PySem.Spec PyProof.Rows
def a2Q (s:Stmt) (j:Nat):Stmt:=match s with
 | .ClassDef _ _ _ body _ _ _ _ _ _ _=>body.getD j (.Pass ⟨0,0,0,0⟩)
 | _=>.Pass ⟨0,0,0,0⟩
def a3e (s:Stmt):Arguments:=match s with
 | .FunctionDef _ a _ _ _ _ _ _ _ _=>a
 | _=>{ posonlyargs:=[],args:=[],vararg:=none,kwonlyargs:=[],kw_defaults:=[],kwarg:=none,defaults:=[] }
def a1Y (s:Stmt):List Stmt:=match s with
 | .FunctionDef _ _ b _ _ _ _ _ _ _=>b
 | _=>[]
def a0f (s:Stmt):Scope:=match s with
 | .FunctionDef _ _ _ _ _ _ sc _ _ _=>sc
 | _=>{ kind:=.function,names:=[],isGenerator:=false,isCoroutine:=false }
abbrev CX0:CXT:=fun _ _ _ _ _ _=>False
abbrev E0:XK:=fun _ _ _=>False
theorem b4s {X:Cx}:a28 CX0 X E0:=fun _ _ _ _ _ _ _ h=>h.elim
structure Fun (K:Fg) (x qual:Str) (st:Stmt) (f:Addr) (fd:FuncData):Prop where
 ex:∃ (oc:Value) (od:Option Addr) (kV doc pm:Value) (an:Option Addr) (cdv ct:Value) (osl:Array (Option Value)),
  fd=PySem.W.fnOf x qual (a3e st) (a1Y st) (a0f st) .none kV doc pm an cdv ct/\K.lookup f=some ⟨oc,od,.func fd,osl⟩/\PySem.W.codeIn K cdv qual=true
 kp:PySem.W.keepIn K (.ref f)=true
section
variable {P:Program}{w:World}{K:Fg}{mg:Str->Option Value}{base:Heap}
theorem Fun.ok {x qual:Str}{st:Stmt}{f:Addr}{fd:FuncData}{N ps:List Str}{k:Nat}{sp:Sp}(F:Fun K x qual st f fd) (S:FnScope N ps (a0f st)) (len:∀ vs H Q E,sp vs H Q E->vs.length=ps.length)
  (hbody:∀ (cdv:Value) (A:Around) (outer:List Env) (s:Shared) (H:Hp) (vs:List V) (Q:VK) (E:XK),Room k (A.deeper (envOfC qual (a0f st) s.heap.objs.size f cdv))->sp vs H Q E ->
   ∃ t,PSs (cxOf CX0 P w K mg base N qual (a0f st) f cdv A outer s H E).nox (a1Y st) t/\t { nx:=fun _ H'=>Q .non H',rt:=Q } (start N vs) H):FnOk P w K mg base CX0 (k+1) f fd ps sp:=by
 obtain⟨oc,od,kV,doc,pm,an,cdv,ct,osl,rfl,lk,hcd⟩:=F.ex;refine b55 lk hcd S len fun A outer s H vs Q E hr hsp=>?_;obtain⟨t,h,q⟩:=hbody cdv A outer s H vs Q E hr hsp;exact⟨t,h.nox,q⟩
theorem Fun.binds {x qual:Str}{st:Stmt}{f:Addr}{fd:FuncData}{ps:List Str}(F:Fun K x qual st f fd)
  (h:∀ (kV doc pm:Value) (an:Option Addr) (cdv ct:Value) (us:List Value),us.length=ps.length->bindArgs (PySem.W.fnOf x qual (a3e st) (a1Y st) (a0f st) .none kV doc pm an cdv ct) ⟨us,[]⟩=pure (ps.zip us)):Binds K fd ps []:=by
 obtain⟨oc,od,kV,doc,pm,an,cdv,ct,osl,rfl,lk,hcd⟩:=F.ex;exact .all (h kV doc pm an cdv ct)
theorem b3v {x qual:Str}{st:Stmt}{f:Addr}{oc:Value}{od an:Option Addr}{osl:Array (Option Value)}{kV doc pm cdv ct:Value}(l:K.lookup f=some ⟨oc,od,.func (PySem.W.fnOf x qual (a3e st) (a1Y st) (a0f st) .none kV doc pm an cdv ct),osl⟩)
  (c:PySem.W.codeIn K cdv qual=true) (k:PySem.W.keepIn K (.ref f)=true):Fun K x qual st f (PySem.W.fnOf x qual (a3e st) (a1Y st) (a0f st) .none kV doc pm an cdv ct):=⟨⟨oc,od,kV,doc,pm,an,cdv,ct,osl,rfl,l,c⟩,k⟩
end
theorem a0t {n:Nat}(h:n≤1000):n<sizeLine:=Nat.lt_of_le_of_lt h (by decide)
section
variable {X:Cx}
theorem pv (i:Nat) {x:Str}{pos:Pos}(hN:X.N[i]?=some x:=by rfl) (hv:Vis X.env.scope x:=by first | exact Or.inl rfl | exact Or.inr (Or.inl rfl) | exact Or.inr (Or.inr rfl)) (hd:(x==("__debug__":Str))=false:=by decide)
  (hcd:(x==("__classdict__":Str))=false:=by decide):PE X (.Name x pos) (tVar i):=b5B hN hv hd hcd
end
def Same (H H':Hp):Prop:=∀ b o,H b=some o->H' b=some o
theorem Same.refl (H:Hp):Same H H:=fun _ _ h=>h
theorem Same.trans {H H1 H2:Hp}(a:Same H H1) (b:Same H1 H2):Same H H2:=fun c o h=>b c o (a c o h)
theorem Same.free {H H':Hp}(e:Same H H') {l:Addr}(h:H' l=Option.none):H l=Option.none:=by
 cases q:H l with
 | none=>rfl
 | some o=>
  rw[e l o q]at h;cases h
theorem Same.seq {K:Fg}{H H':Hp}{a:Addr}{xs:List V}(e:Same H H') (h:SqL K H a xs):SqL K H' a xs:=by
 rcases h with (h | ⟨o,h⟩) | h
 ·exact .inl (.inl (e _ _ h))
 ·exact .inl (.inr ⟨o,e _ _ h⟩)
 ·exact .inr h
end L2
namespace L2
open PySem PySem.Spec PyProof.Rows
section
variable {κ:Type}[DecidableEq κ]
def valV (kvs:List (κ×V)) (k:κ):Option V:=(kvs.find? fun kv=>decide (kv.1=k)).map (·.2)
def putK (kvs:List (κ×V)) (k:κ) (v:V):List (κ×V):=
 if (kvs.any fun kv=>decide (kv.1=k))=true then kvs.map (fun kv=>if kv.1=k then (kv.1,v) else kv) else kvs++[(k,v)]
def b6c (kvs:List (κ×V)) (k:κ):List (κ×V):=kvs.filter fun kv=>decide (kv.1≠k)
theorem a6d {p:κ×V}{r:List (κ×V)}{k:κ}(e:p.1=k):valV (p::r) k=some p.2:=by simp[valV,List.find?_cons,e]
theorem a6e {p:κ×V}{r:List (κ×V)}{k:κ}(e:¬ p.1=k):valV (p::r) k=valV r k:=by simp[valV,List.find?_cons,e]
theorem a8r (k:κ):∀ kvs:List (κ×V),(kvs.any fun kv=>decide (kv.1=k))=(valV kvs k).isSome
 | []=>rfl
 | p::r=>by
  rw[List.any_cons]
  by_cases e:p.1=k
  ·simp only[a6d e,decide_eq_true e,Bool.true_or,Option.isSome_some]
  ·rw[a6e e,decide_eq_false e,Bool.false_or];exact a8r k r
theorem a3f (kvs:List (κ×V)) (k:κ) (v:V):(putK kvs k v).length≤kvs.length+1:=by
 unfold putK
 split
 ·rw[List.length_map];omega
 ·rw[List.length_append,List.length_cons,List.length_nil];omega
theorem RelO.isSome_eq {o:Option V}{u:Option Value}(r:RelO o u):o.isSome=u.isSome:=by
 cases o with
 | none=>cases u with
  | none=>rfl
  | some _=>exact (show False from r).elim
 | some _=>cases u with
  | none=>exact (show False from r).elim
  | some _=>rfl
theorem RelO.getD {o:Option V}{u:Option Value}{d:V}{d':Value}(r:RelO o u) (rd:RelV d d'):RelV (o.getD d) (u.getD d'):=by
 cases o with
 | none=>cases u with
  | none=>exact rd
  | some _=>exact (show False from r).elim
 | some _=>cases u with
  | none=>exact (show False from r).elim
  | some _=>exact r
theorem KV.val {kvs:List (κ×V)}{vs:List (κ×Value)}(r:KV kvs vs) (k:κ):RelO (valV kvs k) (valueAt vs k):=by
 unfold KV at r
 induction r with
 | nil=>exact True.intro
 | @cons p q ps qs h t ih=>
  obtain⟨h1,h2⟩:=h
  by_cases e:p.1=k
  ·have e':q.1=k:=h1.symm.trans e;have b:valueAt (q::qs) k=some q.2:=by simp[valueAt,List.find?_cons,e']
   rw[a6d e,b];exact h2
  ·have e':¬ q.1=k:=fun z=>e (h1.trans z);have b:valueAt (q::qs) k=valueAt qs k:=by simp[valueAt,List.find?_cons,e']
   rw[a6e e,b];exact ih
theorem KV.any {kvs:List (κ×V)}{vs:List (κ×Value)}(r:KV kvs vs) (k:κ):(kvs.any fun kv=>decide (kv.1=k))=vs.any fun kv=>decide (kv.1=k):=by
 unfold KV at r
 induction r with
 | nil=>rfl
 | cons h t ih=>rw[List.any_cons,List.any_cons,ih,h.1]
theorem KV.repl {kvs:List (κ×V)}{vs:List (κ×Value)}(r:KV kvs vs) (k:κ) {y:V}{u:Value}(ry:RelV y u) :
  KV (kvs.map fun kv=>if kv.1=k then (kv.1,y) else kv) (vs.map fun kv=>if kv.1=k then (kv.1,u) else kv):=by
 unfold KV at r ⊢
 induction r with
 | nil=>exact .nil
 | @cons p q ps qs h t ih=>
  rw[List.map_cons,List.map_cons];refine .cons ?_ ih;obtain⟨h1,h2⟩:=h
  by_cases e:p.1=k
  ·rw[if_pos e,if_pos (h1.symm.trans e)];exact⟨h1,ry⟩
  ·rw[if_neg e,if_neg (fun z=>e (h1.trans z))];exact⟨h1,h2⟩
theorem KV.put {kvs:List (κ×V)}{vs:List (κ×Value)}(r:KV kvs vs) (k:κ) {y:V}{u:Value}(ry:RelV y u):KV (putK kvs k y) (stored vs k u):=by
 unfold putK stored;rw[r.any k]
 by_cases e:(vs.any fun kv=>decide (kv.1=k))=true
 ·rw[if_pos e,if_pos e];exact r.repl k ry
 ·rw[if_neg e,if_neg e];exact Paired.snoc r ⟨rfl,ry⟩
theorem KV.drop {kvs:List (κ×V)}{vs:List (κ×Value)}(r:KV kvs vs) (k:κ):KV (b6c kvs k) (without vs k):=by
 unfold KV at r ⊢;unfold b6c without
 induction r with
 | nil=>exact .nil
 | @cons p q ps qs h t ih=>
  obtain⟨h1,h2⟩:=h;rw[List.filter_cons,List.filter_cons]
  by_cases e:p.1=k
  ·have a:¬ decide (p.1≠k)=true:=by simp[e]
   have b:¬ decide (q.1≠k)=true:=by simp[h1.symm.trans e]
   rw[if_neg a,if_neg b];exact ih
  ·have e':¬ q.1=k:=fun z=>e (h1.trans z);have a:decide (p.1≠k)=true:=by simp[e]
   have b:decide (q.1≠k)=true:=by simp[e']
   rw[if_pos a,if_pos b];exact .cons ⟨h1,h2⟩ ih
theorem KV.keys {kvs:List (κ×V)}{vs:List (κ×Value)}(r:KV kvs vs):kvs.map (·.1)=vs.map (·.1):=by
 unfold KV at r
 induction r with
 | nil=>rfl
 | cons h t ih=>rw[List.map_cons,List.map_cons,ih,h.1]
theorem KV.length {kvs:List (κ×V)}{vs:List (κ×Value)}(r:KV kvs vs):kvs.length=vs.length:=Paired.length r
end
theorem b0y {P:Program}{w:World}{k:Key}{u:Value}(r:RelV (kV k) u):(a0K P w).is k u=true:=by
 cases k with
 | inl i=>obtain⟨t,e⟩:=(show ∃ t,u=Value.int i t from r);subst e;exact a7M P w i t
 | inr x=>obtain⟨t,e⟩:=(show ∃ t,u=Value.str x t from r);subst e;exact a7N P w x t
theorem a6W {P:Program}{w:World}:∀ {ks:List Key}{us:List Value},Vals (ks.map kV) us->ItemsAre (a0K P w) ks us
 | [],_,r=>by rw[List.map_nil]at r;cases r;exact .nil
 | k::ks,_,r=>by
  rw[List.map_cons]at r;cases r with
  | cons h t=>exact .cons (b0y h) (a6W t)
abbrev KT (H:Hp):List (List Key×V)->List (List Key×Addr×Value)->Prop:=Paired fun p q=>p.1=q.1/\H q.2.1=some (.tup (p.1.map kV))/\RelV p.2 q.2.2
theorem KT.val {H:Hp}{kvs:List (List Key×V)}{xs:List (List Key×Addr×Value)}(r:KT H kvs xs) (k:List Key):RelO (valV kvs k) ((atKey xs k).map (·.2)):=by
 induction r with
 | nil=>exact True.intro
 | @cons p q ps qs h t ih=>
  obtain⟨h1,_,h2⟩:=h
  by_cases e:p.1=k
  ·have e':q.1=k:=h1.symm.trans e;have b:atKey (q::qs) k=some q.2:=by simp[atKey,List.find?_cons,e']
   rw[a6d e,b];exact h2
  ·have e':¬ q.1=k:=fun z=>e (h1.trans z);have b:atKey (q::qs) k=atKey qs k:=by simp[atKey,List.find?_cons,e']
   rw[a6e e,b];exact ih
theorem KT.repl {H:Hp}{kvs:List (List Key×V)}{xs:List (List Key×Addr×Value)}(r:KT H kvs xs) (k:List Key) {y:V}{u:Value}(ry:RelV y u) :
  KT H (kvs.map fun kv=>if kv.1=k then (kv.1,y) else kv) (xs.map (putAt k u)):=by
 induction r with
 | nil=>exact .nil
 | @cons p q ps qs h t ih=>
  rw[List.map_cons,List.map_cons];refine .cons ?_ ih;obtain⟨h1,h2,h3⟩:=h;unfold putAt
  by_cases e:p.1=k
  ·rw[if_pos e,if_pos (h1.symm.trans e)];exact⟨h1,h2,ry⟩
  ·rw[if_neg e,if_neg (fun z=>e (h1.trans z))];exact⟨h1,h2,h3⟩
theorem KT.put {H:Hp}{kvs:List (List Key×V)}{xs:List (List Key×Addr×Value)}(r:KT H kvs xs) (k:List Key) {b:Addr}{y:V}{u:Value}(hb:H b=some (.tup (k.map kV))) (ry:RelV y u) :
  KT H (putK kvs k y) (storedH xs k b u):=by
 have e:(kvs.any fun kv=>decide (kv.1=k))=(atKey xs k).isSome:=by
  rw[a8r,(r.val k).isSome_eq,Option.isSome_map]
 unfold putK storedH;rw[e]
 by_cases q:(atKey xs k).isSome=true
 ·rw[if_pos q,if_pos q];exact r.repl k ry
 ·rw[if_neg q,if_neg q];exact Paired.snoc r ⟨rfl,hb,ry⟩
theorem KT.keeps {H H':Hp}{kvs:List (List Key×V)}{xs:List (List Key×Addr×Value)}(r:KT H kvs xs) (ht:∀ b ys,H b=some (.tup ys)->H' b=some (.tup ys)):KT H' kvs xs:=
 Paired.mapP r fun _ _ z=>⟨z.1,ht _ _ z.2.1,z.2.2⟩
section
variable {P:Program}{w:World}{H:Hp}{h:Heap}{a:Addr}
theorem b6d {u:HO}(ok:HOk P w H h) (e:Rd H a u):ObjOk P w H h a u:=e.ok ok
theorem b6e {kvs:List (Key×V)}(ok:HOk P w H h) (e:Rd H a (.dK kvs)):kvs.length≤sizeLine/\(a==sysModules)=false/\∃ vs,KV kvs vs/\h.DictOf (a0K P w) a vs:=
 show ObjOk P w H h a (.dK kvs) from b6d ok e
theorem b2n {kvs:List (Key×V)}(ok:HOk P w H h) (e:H a=some (.dK kvs)):kvs.length≤sizeLine/\(a==sysModules)=false/\∃ vs,KV kvs vs/\h.DictOf (a0K P w) a vs:=b6e ok (.inl e)
theorem b0z {ks:List Key}(ok:HOk P w H h) (e:H a=some (.tup (ks.map kV))):(tupleKind (a0K P w)).is h ks a:=by
 obtain⟨_,its,r,o,h1,h2,n,h3⟩:=(show ObjOk P w H h a (.tup (ks.map kV)) from ok a _ e);exact⟨o,its.toArray,n,h1,h2,h3,by simpa using a6W r⟩
theorem b6f {kvs:List (List Key×V)}(ok:HOk P w H h) (e:Rd H a (.dT kvs)):kvs.length≤sizeLine/\(a==sysModules)=false /\
  ∃ xs,KT H kvs xs/\h.DictOfH (tupleKind (a0K P w)) a xs:=by
 obtain⟨z,y,xs,r,o,es,ep,h1,h2,h3,h4,h5⟩:=(show ObjOk P w H h a (.dT kvs) from b6d ok e);refine⟨z,y,xs,r,o,es,ep,h1,h2,h3,h4,fun x hx=>?_,h5⟩;have all:∀ {l:List (List Key×V)}{m:List (List Key×Addr×Value)},KT H l m->∀ x∈m,(tupleKind (a0K P w)).is h x.1 x.2.1:=by
  intro l m q
  induction q with
  | nil=>intro x hx;exact nomatch hx
  | @cons p q ps qs hq t ih=>
   intro x hx;rcases List.mem_cons.mp hx with e | hx
   ·subst e;exact b0z ok (by rw[<- hq.1];exact hq.2.1)
   ·exact ih x hx
 exact all r x hx
theorem b8y {kvs:List (List Key×V)}(ok:HOk P w H h) (e:H a=some (.dT kvs)):kvs.length≤sizeLine/\(a==sysModules)=false /\
  ∃ xs,KT H kvs xs/\h.DictOfH (tupleKind (a0K P w)) a xs:=b6f ok (.inl e)
end
def DGet (H:Hp) (a:Addr) (y:V) (r:Option V):Prop:=
 (∃ kvs k,Rd H a (.dK kvs)/\y=kV k/\r=valV kvs k)\/∃ kvs k b,Rd H a (.dT kvs)/\y=.ref b/\H b=some (.tup (k.map kV))/\r=valV kvs k
def DPut (H:Hp) (a:Addr) (y v:V) (H':Hp):Prop:=
 (∃ kvs k,H a=some (.dK kvs)/\y=kV k/\kvs.length<sizeLine/\H'=upd H a (.dK (putK kvs k v))) \/
 ∃ kvs k b,H a=some (.dT kvs)/\y=.ref b/\H b=some (.tup (k.map kV))/\kvs.length<sizeLine/\H'=upd H a (.dT (putK kvs k v))
theorem DGet.k {H:Hp}{a:Addr}{kvs:List (Key×V)}{k:Key}(e:H a=some (.dK kvs)):DGet H a (kV k) (valV kvs k):=.inl ⟨kvs,k,.inl e,rfl,rfl⟩
theorem DGet.t {H:Hp}{a b:Addr}{kvs:List (List Key×V)}{k:List Key}(e:H a=some (.dT kvs)) (eb:H b=some (.tup (k.map kV))):DGet H a (.ref b) (valV kvs k):=.inr ⟨kvs,k,b,.inl e,rfl,eb,rfl⟩
theorem DPut.k {H:Hp}{a:Addr}{kvs:List (Key×V)}{k:Key}{v:V}(e:H a=some (.dK kvs)) (hl:kvs.length<sizeLine):DPut H a (kV k) v (upd H a (.dK (putK kvs k v))):=.inl ⟨kvs,k,e,rfl,hl,rfl⟩
theorem DPut.t {H:Hp}{a b:Addr}{kvs:List (List Key×V)}{k:List Key}{v:V}(e:H a=some (.dT kvs)) (eb:H b=some (.tup (k.map kV))) (hl:kvs.length<sizeLine) :
  DPut H a (.ref b) v (upd H a (.dT (putK kvs k v))):=.inr ⟨kvs,k,b,e,rfl,eb,hl,rfl⟩
section
variable {X:Cx}{pins:List (Addr×Obj)}{σ:St}{H:Hp}{s:Shared}{a:Addr}{y v:V}{u r:Value}{o:Option V}{A:Around}{E:Value->Shared->Prop}
theorem Inv.big (I:Inv X pins σ H s):sysModules<s.heap.objs.size:=by
 have h:mainGlobals<s.heap.objs.size:=(I.mod.glob.keeps I.bk).lt;exact Nat.lt_trans (by decide) h
theorem a7P {h':Heap}{t':Nat}{ob:HO}(I:Inv X pins σ H s) (mu:Mut (H a)) (hs:Heap.SameBut a s.heap h') (he:∃ q,h'.get? a=some q) (new:ObjOk X.prog X.w (upd H a ob) h' a ob) :
  Inv X pins σ (upd H a ob) { s with heap:=h',toks:=t' }:=
 I.write (x:=a) (e:=a) mu (.inl rfl) (fun b q hb z=>(hs.2 b hb).trans z) he new
theorem b3w {P:Program}{w:World}{H':Hp}{h':Heap}{kvs:List (Key×V)}{vs:List (Key×Value)}(z:kvs.length≤sizeLine) (hd:(a==sysModules)=false) (rel:KV kvs vs) (dd:h'.DictOf (a0K P w) a vs) :
  ObjOk P w H' h' a (.dK kvs):=⟨z,hd,vs,rel,dd⟩
theorem b0A {H':Hp}{Q:Unit->Shared->Prop}(hu:A.units+1<cLine) (I:Inv X pins σ H s) (g:DPut H a y v H') (ry:RelV y u) (rv:RelV v r) (h:∀ s',Inv X pins σ H' s'->Q () s') :
  wpAny (model X.prog X.w) A (setItem (.ref a) u r) Q E s:=by
 rcases g with ⟨kvs,k,e,ey,l,eH⟩ | ⟨kvs,k,b,e,ey,eb,l,eH⟩
 ·subst ey eH;obtain⟨z,hd,vs,rel,dd⟩:=b2n I.hok e;have hz:vs.length≤sizeLine:=by rw[<- rel.length];exact z
  have hl:(putK kvs k v).length≤sizeLine:=by have:=a3f kvs k v;omega
  refine wpAny_setItem_pairs (hsz:=hz) (b0y ry) dd fun h' dd' hs=>h _ ?_;have he:∃ q,h'.get? a=some q:=let ⟨q,_,_,hq,_⟩:=dd';⟨q,hq⟩
  exact a7P I (by rw[e];exact True.intro) hs he (b3w hl hd (rel.put k rv) dd')
 ·subst ey eH;cases (show u=Value.ref b from ry);obtain⟨z,hd,xs,rel,dd⟩:=b8y I.hok e;have hz:xs.length≤sizeLine:=by rw[<- Paired.length rel];exact z
  have hl:(putK kvs k v).length≤sizeLine:=by have:=a3f kvs k v;omega
  refine wpAny_setItem_heap (hsz:=hz) (tupleKind_room_in1 hu) (b0z I.hok eb) dd fun h' dd' hs=>h _ ?_;obtain⟨q,es,ep,hq,h2,h3,h4,_,h5⟩:=dd';refine a7P I (by rw[e];exact True.intro) hs ⟨q,hq⟩ ⟨hl,hd,_,(rel.put k eb rv).keeps fun c ys ec=>?_,q,es,ep,hq,h2,h3,h4,h5⟩;rw[a0L (b8b ec e (fun z=>nomatch z))];exact ec
end
section
variable {X:Cx}{pins:List (Addr×Obj)}{σ:St}{H:Hp}{s:Shared}{a:Addr}{kvs:List (Key×V)}{k:Key}{u:Value}{A:Around}{E:Value->Shared->Prop}
end
section
variable {X:Cx}{o i e value:Expr}{pos pos' tpos:Pos}{td ty tv:TE}
end
theorem b2o {P:Program}{w:World}{H:Hp}(h:Heap) (hb:sysModules<h.objs.size):ObjOk P w H (h.push { cls:=.type "dict",data:=.dict #[] }) h.objs.size (.dK []):=
 ⟨Nat.zero_le _,beq_eq_false_iff_ne.mpr (Ne.symm (Nat.ne_of_lt hb)),[],.nil,Heap.DictOf.new h⟩
def b6g:TE:=fun _ H Q=>∀ p,H p=none->Q (.ref p) (upd H p (.dK []))
section
variable {X:Cx}{pos:Pos}
theorem b2p:PE X (.Dict [] [] pos) b6g:=fun pins s σ H Q I h=>
 wpAny_Dict_empty ⟨.ref s.heap.objs.size,_,I.laid (a:=s.heap.objs.size) (o:=.dK []) (t':=s.toks) (fun _ _ q=>Heap.get?_push_of_some _ q) (Nat.le_refl _) (b2o s.heap I.big),rfl,h _ (I.hok.fresh (Nat.le_refl _))⟩
end
def b6h (kvs more:List (Key×V)):List (Key×V):=more.foldl (fun acc kv=>putK acc kv.1 kv.2) kvs
theorem KV.merge:∀ {more:List (Key×V)}{rs:List (Key×Value)}{kvs:List (Key×V)}{vs:List (Key×Value)},KV more rs->KV kvs vs->KV (b6h kvs more) (merged vs rs):=by
 intro more rs kvs vs r;unfold KV at r
 induction r generalizing kvs vs with
 | nil=>intro q;exact q
 | @cons p q ps qs h t ih=>
  intro r0;have e:KV (putK kvs p.1 p.2) (stored vs q.1 q.2):=by
   have:=r0.put p.1 h.2
   rw[<- h.1];exact this
  exact ih e
section
variable {X:Cx}{pins:List (Addr×Obj)}{σ:St}{H:Hp}{s:Shared}{a:Addr}{y d:V}{u r:Value}{o:Option V}{A:Around}{E:Value->Shared->Prop}
theorem b6i {Q:Value->Shared->Prop}(hu:A.units+1<cLine) (I:Inv X pins σ H s) (g:DGet H a y o) (ry:RelV y u) (rd:RelV d r) (h:∀ w' s',Inv X pins σ H s'->RelV (o.getD d) w'->Q w' s') :
  wpAny (model X.prog X.w) A (call (.builtin "dict.get") [.ref a,u,r]) Q E s:=by
 rcases g with ⟨kvs,k,e,ey,l⟩ | ⟨kvs,k,b,e,ey,eb,l⟩
 ·subst ey;obtain⟨z,hd,vs,rel,dd⟩:=b6e I.hok e;refine call_meetsIn PySem.F.slot_dict_get dd.typeIs PySem.F.entry_dict_get (PySem.F.args_dict_get_3 _ _ _) (meets_dict_get_default (a0K X.prog X.w) a (b0y ry) hd r) ⟨_,dd.mapOf,h _ _ (I.tok _) ?_⟩;rw[l];exact (rel.val k).getD rd
 ·subst ey;cases (show u=Value.ref b from ry);obtain⟨z,hd,xs,rel,dd⟩:=b6f I.hok e;refine call_meetsIn PySem.F.slot_dict_get dd.typeIs PySem.F.entry_dict_get (PySem.F.args_dict_get_3 _ _ _) (meetsH_dict_get_default (tupleKind (a0K X.prog X.w)) a b hd r) ⟨tupleKind_room_in1 hu,k,xs,b0z I.hok eb,dd,h _ _ (I.tok _) ?_⟩;rw[l];exact (rel.val k).getD rd
end
section
variable {X:Cx}{o e f:Expr}{apos cpos:Pos}{td ty tx:TE}
end
section
variable {X:Cx}{pins:List (Addr×Obj)}{σ:St}{H:Hp}{s:Shared}{a:Addr}{kvs:List (Key×V)}{A:Around}{E:Value->Shared->Prop}
end
section
variable {X:Cx}{pins:List (Addr×Obj)}{σ:St}{H:Hp}{s:Shared}{a:Addr}{y:V}{u:Value}{A:Around}{E:Value->Shared->Prop}
end
end L2
namespace PySem
def a00 (env:Env):List (Str×NameKind)->List (Str×Addr)->List (Str×Addr)
 | [],cs=>cs
 | (n,k)::r,cs=>if (k==.free)=true then a00 env r ((n,(env.cells.lookup n).getD 0)::cs) else a00 env r cs
theorem a6f {scope:Scope}{env:Env}(h:∀ x∈scope.names,x.2=.free->∃ c,env.cells.lookup x.1=some c):closureFor scope env=pure (a00 env scope.names []):=by
 simp only[closureFor]
 suffices H:∀ (l:List (Str×NameKind)) (cs:List (Str×Addr)),(∀ x∈l,x.2=.free->∃ c,env.cells.lookup x.1=some c) ->
   (forIn l cs (fun (x:Str×NameKind) (r:List (Str×Addr))=>if (x.snd==NameKind.free)=true then do let a <- cellOf env x.fst;pure (ForInStep.yield ((x.fst,a)::r)) else pure (ForInStep.yield r)):Sem (List (Str×Addr)))=pure (a00 env l cs) by
  rw[H scope.names [] h];rfl
 intro l
 induction l with
 | nil=>intro cs _;rfl
 | cons x l ih=>
  intro cs hx;obtain⟨n,k⟩:=x;have ih':=fun cs=>ih cs fun y hy=>hx y (List.mem_cons_of_mem _ hy);rw[List.forIn_cons]
  by_cases hk:k=.free
  ·subst hk;obtain⟨c,hc⟩:=hx (n,.free) List.mem_cons_self rfl;have hcell:cellOf env n=pure c:=by unfold cellOf;rw[hc]
   dsimp only;rw[if_pos (show (NameKind.free==NameKind.free)=true from rfl),hcell];have e:a00 env ((n,NameKind.free)::l) cs=a00 env l ((n,c)::cs):=by
    show (if (NameKind.free==NameKind.free)=true then _ else _)=_
    rw[if_pos (show (NameKind.free==NameKind.free)=true from rfl)];show a00 env l ((n,(List.lookup n env.cells).getD 0)::cs)=_;rw[show List.lookup n env.cells=some c from hc];rfl
   rw[e,<- ih' ((n,c)::cs)]
   rfl
  ·have hb:(k==NameKind.free)=false:=by simpa using hk
   have e:a00 env ((n,k)::l) cs=a00 env l cs:=by
    show (if (k==NameKind.free)=true then _ else _)=_
    rw[hb];rfl
   rw[e,<- ih' cs];dsimp only;rw[hb,if_neg Bool.false_ne_true]
   rfl
theorem a2l {env:Env}{x:Str}:∀ (l:List (Str×NameKind)) (cs:List (Str×Addr)),(∀ y∈l,y.2=.free->∃ c,env.cells.lookup y.1=some c)->(∀ y c,cs.lookup y=some c->env.cells.lookup y=some c) ->
  ∀ c,(a00 env l cs).lookup x=some c->env.cells.lookup x=some c
 | [],cs,_,hc,c,h=>hc x c h
 | (n,k)::r,cs,hx,hc,c,h=>by
  have hr:=fun y hy=>hx y (List.mem_cons_of_mem _ hy);unfold a00 at h
  split at h
  ·rename_i hk
   have hk':k=.free:=by simpa using hk
   obtain⟨d,hd⟩:=hx (n,k) List.mem_cons_self hk';refine a2l r _ hr (fun y c' h'=>?_) c h;rw[List.lookup_cons]at h';cases e:y==n with
   | true=>
    rw[e]at h';have e':y=n:=by simpa using e
    subst e';have hd':env.cells.lookup y=some d:=hd;rw[hd']at h' ⊢;exact h'
   | false=>rw[e]at h';exact hc y c' h'
  ·exact a2l r cs hr hc c h
theorem a2m {env:Env}{x:Str}:∀ (l:List (Str×NameKind)) (cs:List (Str×Addr)) (c:Addr),cs.lookup x=some c->∃ c',(a00 env l cs).lookup x=some c'
 | [],cs,c,h=>⟨c,h⟩
 | (n,k)::r,cs,c,h=>by
  unfold a00
  split
  ·cases e:x==n with
   | true=>exact a2m r _ _ (by rw[List.lookup_cons,e])
   | false=>exact a2m r _ c (by rw[List.lookup_cons,e];exact h)
  ·exact a2m r cs c h
theorem a2Y {env:Env}{x:Str}:∀ (l:List (Str×NameKind)) (cs:List (Str×Addr)),(x,NameKind.free)∈l->∃ c,(a00 env l cs).lookup x=some c
 | [],cs,h=>by cases h
 | (n,k)::r,cs,h=>by
  unfold a00;rcases List.mem_cons.mp h with e | e
  ·cases e;rw[if_pos (show (NameKind.free==NameKind.free)=true from rfl)];exact a2m r _ ((env.cells.lookup x).getD 0) (by rw[List.lookup_cons];simp)
  ·split
   ·exact a2Y r _ e
   ·exact a2Y r _ e
end PySem
namespace PySem
theorem a29 {env:Env}{x:Str}:∀ (names:List (Str×NameKind)),
  (names.map fun (n,k)=>if (k==NameKind.free&&env.scope.kind==.function&&env.kindOf n==some .cell) then (n,NameKind.cell) else (n,k)).lookup x =
   (names.lookup x).map fun k=>if (k==NameKind.free&&env.scope.kind==.function&&env.kindOf x==some .cell)=true then NameKind.cell else k
 | []=>rfl
 | (n,k)::r=>by
  have ih:=a29 (env:=env) (x:=x) r
  show List.lookup x ((if (k==NameKind.free&&env.scope.kind==.function&&env.kindOf n==some .cell)=true then (n,NameKind.cell) else (n,k))::_)=_
  cases hx:x==n with
  | true=>
   have e:x=n:=by simpa using hx
   subst e
   by_cases hc:(k==NameKind.free&&env.scope.kind==.function&&env.kindOf x==some .cell)=true
   ·rw[if_pos hc];simp only[List.lookup_cons,hx,Option.map_some,if_pos hc]
   ·rw[if_neg hc];simp only[List.lookup_cons,hx,Option.map_some,if_neg hc]
  | false=>
   by_cases hc:(k==NameKind.free&&env.scope.kind==.function&&env.kindOf n==some .cell)=true
   ·rw[if_pos hc];simp only[List.lookup_cons,hx];exact ih
   ·rw[if_neg hc];simp only[List.lookup_cons,hx];exact ih
theorem a3g {prog:Program}{w:World}{A:Around}{R:Result->Shared->Prop}{s:Shared}{elt target iter:Expr}{ifs:List Expr}{scope:Scope}{pos:Pos}{it acc:Value}{env:Env}(I:Nat->Shared->Prop)
  (turn:∀ n s,I n s->wpAny (model prog w) A (pyNext it) (fun r s₁=>match r with
   | none=>R (.ok .next) s₁
   | some v=>wpAny (model prog w) A (letOwnedTupleGo target it v) (fun _ s₁=>wpAny (model prog w) A (assign target env v) (fun _ s₂=>
     wpAny (model prog w) A (forIn ifs true fun c r=>if r=true then do let ok <- isTrue c env (eval c env);pure (ForInStep.yield ok) else pure (ForInStep.yield r)) (fun ok s₃=>
      if ok=true then wpAny (model prog w) A (eval elt env) (fun x s₄=>
       wpAny (model prog w) A (call (.builtin "list.append") [acc,x]) (fun _ s₅=>∃ m,m<n/\I m s₅) (notedBy (model prog w) A env fun e s'=>R (.error e) s') s₄) (notedBy (model prog w) A env fun e s'=>R (.error e) s') s₃
      else ∃ m,m<n/\I m s₃) (notedBy (model prog w) A env fun e s'=>R (.error e) s') s₂) (notedBy (model prog w) A env fun e s'=>R (.error e) s') s₁) (fun _ _=>False) s₁) (fun _ _=>False) s)
  (n:Nat) (h:I n s) :
  codeAny (model prog w) A (.compLoop (.ListComp elt [⟨target,iter,ifs,0⟩] scope pos) 0 it acc env) R s:=by
 have up:∀ {α:Type}{t:Sem α}{Q:α->Shared->Prop}{E:Value->Shared->Prop}{s:Shared},wpAny (model prog w) A t Q (fun _ _=>False) s->wpAny (model prog w) A t Q E s:=fun h=>wpAny_mono h (fun _ _ q=>q) fun _ _ f=>f.elim;refine codeAny_loop rfl I (fun n s hI=>?_) n h
 show wpAny _ A ((compTurn (.ListComp elt [⟨target,iter,ifs,0⟩] scope pos) 0 it acc env).onRaise (fun x=>do noteFrame x env;theTreesLotGoes x)) _ _ s
 refine wpAny_noted ?_;rw[compTurn_list];refine wpAny_bind (wpAny_standAt (wpAny_bind (wpAny_mono (turn n s hI) (fun r s₁ h₁=>?_) fun _ _ f=>f.elim)));cases r with
 | none=>exact wpAny_pure h₁
 | some v=>
  refine wpAny_bind (wpAny_mono h₁ (fun _ s₁ h₁=>?_) fun _ _ f=>f.elim);refine wpAny_bind (wpAny_mono h₁ (fun _ s₂ h₂=>wpAny_bind (wpAny_mono h₂ (fun ok s₃ h₃=>?_) fun _ _ f=>f)) fun _ _ f=>f);cases ok with
  | false=>exact wpAny_pure ⟨rfl,h₃⟩
  | true=>
   exact wpAny_bind (wpAny_bind (wpAny_mono h₃ (fun x s₄ h₄=>wpAny_bind (wpAny_mono h₄ (fun _ s₅ h₅=>wpAny_pure (wpAny_pure ⟨rfl,h₅⟩)) fun _ _ f=>f)) fun _ _ f=>f))
end PySem
namespace L2
open PySem PySem.Spec PyProof.Rows
def a3y (cap:List (Option Nat)) (σ:St):St:=cap.map fun o=>o.bind fun j=>(σ[j]?).join
def a1Z:St->St->Prop
 | [],[]=>True
 | none::a,_::b=>a1Z a b
 | some x::a,y::b=>y=some x/\a1Z a b
 | _,_=>False
theorem a3Z:∀ {a b:St},a1Z a b->a.length=b.length/\∀ (i:Nat) v,a[i]?=some (some v)->b[i]?=some (some v)
 | [],[],_=>⟨rfl,fun i v h=>by simp at h⟩
 | none::a,y::b,h=>by
  have ih:=a3Z (a:=a) (b:=b) h;refine⟨by simp[ih.1],fun i v e=>?_⟩;cases i with
  | zero=>simp at e
  | succ i=>simpa using ih.2 i v (by simpa using e)
 | some x::a,y::b,h=>by
  obtain⟨e0,h⟩:=(show y=some x/\a1Z a b from h);have ih:=a3Z (a:=a) (b:=b) h;refine⟨by simp[ih.1],fun i v e=>?_⟩;cases i with
  | zero=>rw[e0];simpa using e
  | succ i=>simpa using ih.2 i v (by simpa using e)
 | [],_::_,h=>False.elim h
 | none::_,[],h=>False.elim h
 | some _::_,[],h=>False.elim h
theorem a2R:∀ a:St,a1Z a a
 | []=>True.intro
 | none::a=>a2R a
 | some _::a=>⟨rfl,a2R a⟩
def capB (N:List Str) (so sc:Scope) (N':List Str) (cap:List (Option Nat)):Bool:=
 decide (sc.kind=.function)&&decide N'.Nodup&&decide (cap.length=N'.length)&&(sc.names.all fun y=>decide (y.2≠.cell)) &&
 (sc.names.all fun y=>decide (y.2=.local->sc.names.lookup y.1=some .local)) &&
 (sc.names.all fun y=>decide (y.2=.free->so.names.lookup y.1=some .cell\/so.names.lookup y.1=some .free)) &&
 ((N'.zip cap).all fun y=>match y.2 with | none=>true | some j=>decide (N[j]?=some y.1)&&decide (sc.names.lookup y.1=some .free))
structure CapOk (N:List Str) (so sc:Scope) (N':List Str) (cap:List (Option Nat)):Prop where
 kind:sc.kind=.function
 nd:N'.Nodup
 len:cap.length=N'.length
 nocell:∀ y∈sc.names,y.2≠.cell
 nms:∀ y∈sc.names,y.2=.local->sc.names.lookup y.1=some .local
 fre:∀ y∈sc.names,y.2=.free->so.names.lookup y.1=some .cell\/so.names.lookup y.1=some .free
 cap:∀ (i:Nat) x j,N'[i]?=some x->cap[i]?=some (some j)->N[j]?=some x/\sc.names.lookup x=some .free
theorem b0B {N:List Str}{so sc:Scope}{N':List Str}{cap:List (Option Nat)}(h:capB N so sc N' cap=true):CapOk N so sc N' cap:=by
 unfold capB at h;simp only[Bool.and_eq_true,decide_eq_true_eq,List.all_eq_true]at h;obtain⟨⟨⟨⟨⟨⟨h1,h2⟩,h3⟩,h4⟩,h5⟩,h6⟩,h7⟩:=h;refine⟨h1,h2,h3,h4,h5,h6,fun i x j e1 e2=>?_⟩;have e3:(N'.zip cap)[i]?=some (x,some j):=by rw[List.getElem?_zip_eq_some];exact⟨e1,e2⟩
 have q:=h7 (x,some j) (List.mem_of_getElem? e3);simpa using q
end L2
namespace L2
open PySem PySem.Spec PyProof.Rows
structure Lk (fr:List Addr) (ex:Addr->Prop) (h h':Heap):Prop where
 keep:∀ b o,h.get? b=some o->b∉fr->¬ ex b->h'.get? b=some o
 slot:∀ b o,h.get? b=some o->¬ ex b->∃ sl,h'.get? b=some { o with slots:=sl }
 size:h.objs.size≤h'.objs.size
theorem Lk.refl {fr:List Addr}{ex:Addr->Prop}{h:Heap}:Lk fr ex h h:=⟨fun _ _ q _ _=>q,fun _ o q _=>⟨o.slots,q⟩,Nat.le_refl _⟩
theorem Lk.trans {fr:List Addr}{ex ex2:Addr->Prop}{h h1 h2:Heap}(a:Lk fr ex h h1) (b:Lk fr ex2 h1 h2) (i:∀ x,ex2 x->ex x\/h.objs.size≤x):Lk fr ex h h2:=by
 have n:∀ {x o},h.get? x=some o->¬ ex x->¬ ex2 x:=fun {x o} q n z=>by
  rcases i x z with z | z
  ·exact n z
  ·exact absurd (Heap.lt_size q) (Nat.not_lt.mpr z)
 refine⟨fun x o q f z=>b.keep x o (a.keep x o q f z) f (n q z),fun x o q z=>?_,Nat.le_trans a.size b.size⟩;obtain⟨sl,e⟩:=a.slot x o q z;obtain⟨sl2,e2⟩:=b.slot x _ e (n q z);exact⟨sl2,e2⟩
theorem Lk.funs {fr:List Addr}{ex:Addr->Prop}{h h' base:Heap}(k:Lk fr ex h h'):∀ {l:List Env},(∀ b∈frs l,¬ ex b)->h.FunFrames base l->h'.FunFrames base l
 | [],_,_=>True.intro
 | env::rest,hx,⟨hk,⟨L,o,hf,hn,ho,hd⟩,hr⟩=>by
  have hL:L∈frs (env::rest):=by show L∈(env::rest).filterMap (·.frame);rw[List.filterMap_cons,hf];exact .head _
  obtain⟨sl,e⟩:=k.slot L o ho (hx L hL);exact⟨hk,⟨L,_,hf,hn,e,hd⟩,k.funs (fun b hb=>hx b (by show b∈(env::rest).filterMap (·.frame);rw[List.filterMap_cons,hf];exact .tail _ hb)) hr⟩
def FlyT (e:Addr) (cls:Value) (T:Addr) (fl:Value) (h:Heap):Prop:=∃ oe vs oT ts,h.get? e=some oe/\(oe.cls=cls/\oe.dict=none)/\oe.data=.fields vs/\vs[1]?=some (.ref T)/\T≠e/\h.get? T=some oT/\oT.data=.fields ts/\ts[3]?=some fl
section
variable {M:Model}{A:Around}{E:Value->Shared->Prop}{s:Shared}{base:Heap}{env:Env}{outer:List Env}{L e T:Addr}{cls fl:Value}{Q:Unit->Shared->Prop}
theorem a5w (f:Array Value->Array Value) (o:Obj):(o.mapFields f).dict=o.dict:=by
 unfold Obj.mapFields
 split<;>rfl
theorem b3x {oe:Obj}{vs:Array Value}{head:Value}{hn:Bool}(hfr:A.frames=some (env::outer)) (hl:s.heap.FunFrames base (env::outer)) (hf:env.frame=some L) (he:s.heap.get? e=some oe) (hn0:oe.dict=none) (hd:oe.data=.fields vs) (hz:1<vs.size)
  (q:∀ h' T',Lk (frs (env::outer)) (·=e) s.heap h'->FlyT e oe.cls T' (rawInt L) h'->s.heap.objs.size≤T'->Q () { s with heap:=h' }) :
  wpAny M A (do let a <- frameOf env;let pl <- entryPlaceOf L hn;let b <- EntryCells.newEntry head a .none (rawInt L) .none pl;setField (.ref e) 1 b) Q E s:=by
 have nf:e∉frs (env::outer):=fun hm=>by
  obtain⟨_,ob,hob,no⟩:=hl.mem hm;rw[he]at hob;cases hob;exact no vs hd
 refine wpAny_bind (wpAny_frameOf_fun hfr hl hf fun h1 k1=>wpAny_bind (wpAny_entryPlaceOf fun pl hpl=>?_));unfold EntryCells.newEntry;unfold newFields;refine wpAny_bind ?_;refine wpAny_newObj_type ?_ (hpl.sizeOk5 _ _ _ _ _);generalize ht:([head,Value.ref L,.none,rawInt L,.none]++(if pl.isEmpty then List.replicate 6 Value.none else pl)).toArray=ts;have z3:ts[3]?=some (rawInt L):=by rw[<- ht];simp
 have e1:h1.get? e=some oe:=(k1.2.1 e nf).trans he;have lt:=Heap.lt_size e1;have nT:h1.objs.size≠e:=Nat.ne_of_gt lt;have e2:=Heap.get?_push_of_some (h:=h1) { cls:=.type "traceback",dict:=none,data:=.fields ts } e1;have d3:=Obj.data_mapFields hd (·.setIfInBounds 1 (Value.ref h1.objs.size));have e3:=Heap.get?_update_self (Obj.mapFields (·.setIfInBounds 1 (Value.ref h1.objs.size))) e2 (Obj.isFreed_of_fields d3);have t3:=(Heap.get?_update_other (h1.push { cls:=.type "traceback",dict:=none,data:=.fields ts }) (Obj.mapFields (·.setIfInBounds 1 (Value.ref h1.objs.size))) (Ne.symm nT)).trans (Heap.get?_push_size h1 rfl);refine wpAny_setField e2 hd hz (q _ h1.objs.size ?_ ⟨_,_,_,_,e3,⟨Obj.cls_mapFields _ _,(a5w _ _).trans hn0⟩,d3,by simp[hz],nT,t3,rfl,z3⟩ (Nat.le_of_eq k1.1.symm));have kp:∀ b o,b≠e->h1.get? b=some o->((h1.push { cls:=.type "traceback",dict:=none,data:=.fields ts }).update e (Obj.mapFields (·.setIfInBounds 1 (Value.ref h1.objs.size)))).get? b=some o:=fun b o ne hb=>by
  rw[Heap.get?_update_other _ _ (Ne.symm ne)];exact Heap.get?_push_of_some (h:=h1) _ hb
 refine⟨fun b o hb hx ne=>kp b o ne ((k1.2.1 b hx).trans hb),fun b o hb ne=>?_,?_⟩
 ·obtain⟨sl,q1⟩:=k1.2.2 b o hb;exact⟨sl,kp b _ ne q1⟩
 ·rw[Heap.size_update,<- k1.1];exact Nat.le_of_lt (by rw[size_push'];exact Nat.lt_succ_self _)
theorem b0C {x:Value}(hT:FlyT e cls T fl s.heap) (q:∀ h',(∀ fr,Lk fr (·=T) s.heap h')->FlyT e cls T x h'->Q () { s with heap:=h' }):wpAny M A (setField (.ref T) 3 x) Q E s:=by
 obtain⟨oe,vs,oT,ts,he,hc,hd,h1,nT,hT,dT,h3⟩:=hT;have z3:=(Array.getElem?_eq_some_iff.mp h3).1;refine wpAny_setField hT dT z3 (q _ (fun fr=>?_) ?_)
 all_goals have ot:∀ b,b≠T->(s.heap.update T (Obj.mapFields (·.setIfInBounds 3 x))).get? b=s.heap.get? b:=fun b hb=>Heap.get?_update_other _ _ (Ne.symm hb)
 all_goals have tt:=Heap.get?_update_self (Obj.mapFields (·.setIfInBounds 3 x)) hT (Obj.isFreed_of_fields (Obj.data_mapFields dT _))
 ·exact⟨fun b o hb _ n0=>(ot b n0).trans hb,fun b o hb n0=>⟨o.slots,(ot b n0).trans hb⟩,by rw[Heap.size_update];exact Nat.le_refl _⟩
 ·exact⟨oe,vs,_,_,(ot e (Ne.symm nT)).trans he,hc,hd,h1,nT,tt,Obj.data_mapFields dT _,by simp[z3]⟩
theorem FlyT.field {Q:Value->Shared->Prop}(h:FlyT e cls T fl s.heap) (q:Q (.ref T) s):wpAny M A (field (.ref e) 1) Q E s:=by
 obtain⟨_,_,_,_,he,_,hd,h1,_⟩:=h;exact wpAny_field he hd h1 q
theorem FlyT.mark {Q:Value->Shared->Prop}(h:FlyT e cls T fl s.heap) (q:Q fl s):wpAny M A (PySem.field (.ref T) 3) Q E s:=by
 obtain⟨_,_,_,_,_,_,_,_,_,hT,dT,h3⟩:=h;exact wpAny_field hT dT h3 q
theorem b6j {fo:Option Addr}(hT:FlyT e cls T fl s.heap) (q:∀ h',(∀ fr,Lk fr (·=T) s.heap h')->FlyT e cls T (fo.elim .none fun f=>rawInt f) h'->Q () { s with heap:=h' }):wpAny M A (setFlight (.ref e) fo) Q E s:=by
 unfold setFlight;refine wpAny_bind (hT.field ?_);rw[if_pos (show (Value.ref T != .none)=true by simp)];exact b0C hT q
theorem b2q {oe:Obj}{vs:Array Value}(hfr:A.frames=some (env::outer)) (hl:s.heap.FunFrames base (env::outer)) (hf:env.frame=some L) (he:s.heap.get? e=some oe) (hn0:oe.dict=none) (hd:oe.data=.fields vs) (h1:vs[1]?=some .none)
  (q:∀ h' T',Lk (frs (env::outer)) (·=e) s.heap h'->FlyT e oe.cls T' (rawInt L) h'->s.heap.objs.size≤T'->Q () { s with heap:=h' }):wpAny M A (noteFrame (.ref e) env) Q E s:=by
 unfold noteFrame;simp only[hf];refine wpAny_bind ?_;refine wpAny_field he hd h1 ?_;rw[if_neg (by decide)];exact b3x hfr hl hf he hn0 hd (Array.getElem?_eq_some_iff.mp h1).1 q
theorem b6k (hfr:A.frames=some (env::outer)) (hl:s.heap.FunFrames base (env::outer)) (hf:env.frame=some L) (hT:FlyT e cls T fl s.heap)
  (q:∀ h' T',Lk (frs (env::outer)) (fun b=>b=e\/b=T) s.heap h'->FlyT e cls T' (rawInt L) h'->T'=T\/s.heap.objs.size≤T'->Q () { s with heap:=h' }):wpAny M A (noteFrame (.ref e) env) Q E s:=by
 unfold noteFrame;simp only[hf];refine wpAny_bind (hT.field ?_);rw[if_pos (show (Value.ref T != .none)=true by simp)];refine wpAny_bind (hT.mark ?_)
 by_cases c:(fl==rawInt L)=true
 ·rw[if_pos c];rw[show fl=rawInt L by simpa using c]at hT;exact wpAny_pure (q s.heap T .refl hT (.inl rfl))
 ·rw[if_neg c];refine wpAny_bind (b0C hT fun h1 k1 f1=>?_);have hl1:h1.FunFrames base (env::outer):=(k1 []).funs (fun b hb z=>by
   obtain⟨_,ob,hob,no⟩:=hl.mem hb;obtain⟨_,_,_,ts,_,_,_,_,_,hT',dT,_⟩:=hT;rw[z,hT']at hob;cases hob;exact no ts dT) hl
  obtain⟨oe,vs,oT,ts,he,hc,hd,h1',nT,hT',dT,h3⟩:=f1;refine b3x (s:={ s with heap:=h1 }) hfr hl1 hf he hc.2 hd (Array.getElem?_eq_some_iff.mp h1').1 fun h' T' k f z=>q h' T' ?_ (hc.1▸f) (.inr (Nat.le_trans (k1 []).size z));have k1':Lk (frs (env::outer)) (fun b=>b=e\/b=T) s.heap h1:=⟨fun b o q f n=>(k1 _).keep b o q f fun z=>n (.inr z),fun b o q n=>(k1 []).slot b o q fun z=>n (.inr z),(k1 []).size⟩;exact k1'.trans k fun x z=>.inl (.inl z)
theorem b2r {oe:Obj}{vs:Array Value}(hfr:A.frames=some (env::outer)) (hl:s.heap.FunFrames base (env::outer)) (hf:env.frame=some L) (he:s.heap.get? e=some oe) (hn0:oe.dict=none) (hd:oe.data=.fields vs) (h1:vs[1]?=some .none)
  (q:∀ h' T',Lk (frs (env::outer)) (·=e) s.heap h'->FlyT e oe.cls T' .none h'->s.heap.objs.size≤T'->Q () { s with heap:=h' }):wpAny M A (leaving env (.ref e)) Q E s:=
 wpAny_bind (b2q hfr hl hf he hn0 hd h1 fun _ T' k f z=>b6j f fun h2 k2 f2=>q h2 T' (k.trans (k2 _) fun x w=>.inr (by rw[w];exact z)) f2 z)
theorem b6l (hfr:A.frames=some (env::outer)) (hl:s.heap.FunFrames base (env::outer)) (hf:env.frame=some L) (hT:FlyT e cls T fl s.heap)
  (q:∀ h' T',Lk (frs (env::outer)) (fun b=>b=e\/b=T) s.heap h'->FlyT e cls T' .none h'->T'=T\/s.heap.objs.size≤T'->Q () { s with heap:=h' }):wpAny M A (leaving env (.ref e)) Q E s:=
 wpAny_bind (b6k hfr hl hf hT fun _ T' k f z=>b6j f fun h2 k2 f2=>q h2 T' (k.trans (k2 _) fun x w=>by
  rw[w];rcases z with z | z
  ·exact .inl (.inr z)
  ·exact .inr z) f2 z)
end
end L2
namespace L2
open PySem PySem.Spec PyProof.Rows
theorem Un.lk {fs fr ex0:List Addr}{ex:Addr->Prop}{H0 H:Hp}{h0 h h':Heap}(u:Un fs ex0 H0 H h0 h) (v:Lk fr ex h h') (hf:∀ b∈fr,b∈fs\/h0.get? b=none) (hx:∀ b,ex b->b∈ex0\/h0.get? b=none):Un fs ex0 H0 H h0 h':=by
 have nx:∀ {b o},h0.get? b=some o->b∉ex0->¬ ex b:=fun {b o} q n z=>by
  rcases hx b z with z | z
  ·exact n z
  ·rw[q]at z;cases z
 refine⟨fun b o q n hb n0=>?_,fun b o q n hb n0=>?_,u.free,fun b o q n0=>?_,u.tups,u.frzs,u.tbls⟩
 ·refine v.keep b o (u.keep b o q n hb n0) (fun z=>?_) (nx q n0);rcases hf b z with z | z
  ·exact hb z
  ·rw[q]at z;cases z
 ·obtain⟨sl,e1⟩:=u.slot b o q n hb n0;obtain⟨sl2,e2⟩:=v.slot b _ e1 (nx q n0);exact⟨sl2,e2⟩
 ·obtain⟨o',e1⟩:=u.there b o q n0;obtain⟨sl2,e2⟩:=v.slot b _ e1 (nx q n0);exact⟨_,e2⟩
theorem Un.gone {fs ex:List Addr}{H0 H:Hp}{h0 h:Heap}(u:Un fs ex H0 H h0 h) {b:Addr}(n:h.get? b=none):b∈ex\/h0.get? b=none:=by
 cases q:h0.get? b with
 | none=>exact .inr rfl
 | some o=>
  by_cases c:b∈ex
  ·exact .inl c
  ·obtain⟨o',e⟩:=u.there b o q c;rw[n]at e;cases e
theorem Un.gone0 {fs:List Addr}{H0 H:Hp}{h0 h:Heap}(u:Un fs [] H0 H h0 h) {b:Addr}(n:h.get? b=none):h0.get? b=none:=(u.gone n).resolve_left (by simp)
theorem ObjOk.is {P:Program}{w:World}{H:Hp}{h:Heap}{a:Addr}{o:HO}(x:ObjOk P w H h a o):∃ ob,h.get? a=some ob:=by
 cases o with
 | lst xs=>obtain⟨_,_,_,_,e⟩:=x;exact⟨_,e⟩
 | tup xs=>obtain⟨_,_,_,ob,e,_⟩:=x;exact⟨_,e⟩
 | dK kvs=>obtain⟨_,_,_,_,o,_,_,e,_⟩:=x;exact⟨_,e⟩
 | dT kvs=>obtain⟨_,_,_,_,o,_,_,e,_⟩:=x;exact⟨_,e⟩
 | set S n=>obtain⟨o,_,_,_,e,_⟩:=x;exact⟨_,e⟩
 | ins C dx fs=>obtain⟨_,_,_,e,_⟩:=x;exact⟨_,e⟩
 | own y=>obtain⟨_,e⟩:=x;exact⟨_,e⟩
 | xd fs=>obtain⟨_,⟨_,_,_,e,_⟩,_⟩:=x;exact⟨_,e⟩
 | rng lo hi=>obtain⟨_,_,_,e⟩:=x;exact⟨_,e⟩
 | frz ob u=>obtain⟨e,_⟩:=x;exact⟨_,e⟩
 | tbl ps=>exact⟨_,show h.get? a=some _ from x⟩
 | met f y=>exact⟨_,show h.get? a=some _ from x⟩
 | ext φ=>obtain⟨_,⟨_,e⟩,_⟩:=x;exact⟨_,e⟩
theorem HOk.gone {P:Program}{w:World}{H:Hp}{h:Heap}{a:Addr}(x:HOk P w H h) (n:h.get? a=none):H a=none:=by
 cases q:H a with
 | none=>rfl
 | some u=>obtain⟨ob,e⟩:=(x a u q).is;rw[n]at e;cases e
theorem HOk.lk {P:Program}{w:World}{fr:List Addr}{ex:Addr->Prop}{H:Hp}{h h':Heap}(x:HOk P w H h) (l:Lk fr ex h h') (hf:∀ b∈fr,H b=none) (he:∀ b,ex b->H b=none):HOk P w H h':=fun a o q=>
 (x a o q).stay (fun b u hb r=>by
  have tr:H b≠none:=by
   rcases hb with rfl | hb
   ·rw[q];simp
   ·rw[hb];simp
  exact l.keep b u r (fun z=>tr (hf b z)) fun z=>tr (he b z)) (fun _ q=>q) fun _ _ q=>q
structure Fly (N:Addr->Prop) (H:Hp) (fl:Value) (e:Addr) (cls:Value) (h:Heap):Prop where
 at_:∃ T,FlyT e cls T fl h/\N T/\H T=none
 old:N e
 free:H e=none
def CXx (P:Program) (w:World):CXT:=fun outer H s E ev s'=>∃ e C H',ev=.ref e/\s'.os=s.os/\AllBare s'.gens/\Un (frs outer) [] H H' s.heap s'.heap/\HOk P w H' s'.heap/\Fly (fun b=>s.heap.get? b=none) H' .none e (.ref C) s'.heap/\E (.ref C) none H'
structure TKs (H H':Hp):Prop where
 tup:∀ b xs,H b=some (.tup xs)->H' b=some (.tup xs)
 frz:∀ b o u,H b=some (.frz o u)->H' b=some (.frz o u)
def since (H:Hp) (E:XK):XK:=fun c d H'=>TKs H H'->E c d H'
structure Outs (X:Cx) (E:XK):Prop where
 xe:∀ ev s',wpAny (model X.prog X.w) X.A (leaving X.env ev) (fun _ s''=>CXx X.prog X.w X.outer X.H₀ X.s₀ E ev s'') (fun e' s''=>CXx X.prog X.w X.outer X.H₀ X.s₀ E e' s'') s'->X.xe ev s'
 stk:X.stack=X.env::X.outer
 frm:X.env.frame=some X.env.locals
 ex:X.ex=[]
theorem Outs.of {P:Program}{w:World}{K:Fg}{mg:Str->Option Value}{base:Heap}{N:List Str}{qual:Str}{scope:Scope}{f:Addr}{cd:Value}{A:Around}{outer:List Env}{s:Shared}{H:Hp}{E:XK}:Outs (cxOf (CXx P w) P w K mg base N qual scope f cd A outer s H E) E:=⟨fun _ _ h=>h,rfl,rfl,rfl⟩
section
variable {X:Cx}{E:XK}{pins:List (Addr×Obj)}{σ:St}{H:Hp}{s:Shared}
theorem Outs.frames (O:Outs X E) (I:Inv X pins σ H s):X.A.frames=some (X.env::X.outer):=by rw[<- O.stk];exact I.ok.frames
theorem Outs.sub (O:Outs X E) (I:Inv X pins σ H s):∀ b∈frs (X.env::X.outer),b∈X.fs\/X.s₀.heap.get? b=none:=fun b hb=>by
 rw[<- O.stk]at hb;rcases List.mem_cons.mp (I.stkSub b hb) with z | z
 ·rw[z];exact .inr (Heap.get?_none_of_le I.ok.above)
 ·exact .inl z
theorem Outs.funs (O:Outs X E) (I:Inv X pins σ H s):s.heap.FunFrames X.base (X.env::X.outer):=by rw[<- O.stk];exact I.stack
theorem Outs.free (O:Outs X E) (I:Inv X pins σ H s):∀ b∈frs (X.env::X.outer),H b=none:=by rw[<- O.stk];exact I.stkFree
theorem Outs.base (O:Outs X E) (I:Inv X pins σ H s):Un X.fs [] X.H₀ H X.s₀.heap s.heap:=by have:=I.base;rw[O.ex]at this;exact this
theorem Outs.fin (O:Outs X E) (I:Inv X pins σ H s) {e C T:Addr}{ex:Addr->Prop}{h':Heap}(k:Lk (frs (X.env::X.outer)) ex s.heap h') (f:FlyT e (.ref C) T .none h') (hx:∀ b,ex b->X.s₀.heap.get? b=none/\H b=none) (he:ex e) (hT:ex T\/s.heap.objs.size≤T) (q:since X.H₀ E (.ref C) none H) :
  CXx X.prog X.w X.outer X.H₀ X.s₀ E (.ref e) { s with heap:=h' }:=
 ⟨e,C,H,rfl,I.os,I.bare,(O.base I).lk k (O.sub I) (fun b hb=>.inr (hx b hb).1),I.hok.lk k (O.free I) fun b hb=>(hx b hb).2,⟨⟨T,f,by
  rcases hT with z | z
  ·exact hx T z
  ·exact⟨Heap.get?_none_of_le (Nat.le_trans I.sz z),I.hok.fresh z⟩⟩,(hx e he).1,(hx e he).2⟩,q ⟨I.base.tups,I.base.frzs⟩⟩
theorem b2s (O:Outs X E) (I:Inv X pins σ H s) {h':Heap}{e C:Addr}{vs:List Value}(hm:Heap.MadeExcOf s.heap h' e (.ref C) vs) (q:since X.H₀ E (.ref C) none H):X.xe (.ref e) { s with heap:=h' }:=by
 obtain⟨t,he,nt,_⟩:=hm.there;have I2:Inv X pins σ H { s with heap:=h' }:=I.kept (t':=s.toks) hm.keeps;refine O.xe _ _ (b2r (base:=X.base) (O.frames I) (O.funs I2) O.frm he rfl rfl (by simp) fun h2 T l f z=>?_)
 exact O.fin I2 (ex:=(·=e)) l f (fun b hb=>by rw[hb];exact⟨(O.base I).gone0 hm.new,I.hok.gone hm.new⟩) rfl (.inr z) q
theorem a0Y (O:Outs X E):a28 (CXx X.prog X.w) X (since X.H₀ E):=by
 intro pins σ H s ev s' I ⟨e,C,H',e1,os,bare,un,hok,⟨⟨T,f,q9,q10⟩,old,fe⟩,q⟩;subst e1;have I2:Inv X pins σ H' s':=I.call' (ch:=[]) os un hok bare fun _ z=>nomatch z;refine O.xe _ _ (b6l (base:=X.base) (O.frames I) (O.funs I2) O.frm f fun h2 T' l f' z=>?_);refine O.fin I2 (ex:=fun b=>b=e\/b=T) l f' (fun b hb=>?_) (.inl rfl) (by
  rcases z with z | z
  ·exact .inl (.inr z)
  ·exact .inr z) q
 rcases hb with rfl | rfl
 ·exact⟨(O.base I).gone0 old,fe⟩
 ·exact⟨(O.base I).gone0 q9,q10⟩
end
end L2
namespace L2
open PySem PySem.Spec PyProof.Rows
def ExC (X:Cx) (E:XK) (C:Addr) (s:Shared) (H:Hp) (fp:List Addr) (ev:Value) (s':Shared):Prop:=
 ∃ e Cl H',ev=.ref e/\s'.os=s.os/\AllBare s'.gens/\Un (frs X.stack) fp H H' s.heap s'.heap/\HOk X.prog X.w H' s'.heap/\Fly (fun b=>b∈fp\/s.heap.get? b=none) H' .none e (.ref Cl) s'.heap/\(∃ m,s'.heap.Ns C m)/\H' C=none/\C≠e/\E (.ref Cl) none H'
def a6g (X:Cx) (EW:XK) (sc:Scope):Prop:=∀ (pins:List (Addr×Obj)) (σ:St) (H:Hp) (s:Shared) (C:Addr) (fp:List Addr) (use:Option (Value->Sem Unit)) (Fin:Value->Shared->Prop) (acc:Value),Inv X pins σ H s->(∀ b∈fp,FpOk X pins H b)->C=s.heap.objs.size ->
 ∀ ev s',ExC X EW C s H fp ev s'->notedBy (model X.prog X.w) X.A (compEnvC sc (a00 X.env sc.names []) C X.env) (fun e s''=>compPost (model X.prog X.w) X.A X.xe use Fin acc C (.error e) s'') ev s'
theorem a8s {X:Cx}{sc:Scope}:a6g X (fun _ _ _=>False) sc:=by
 rintro pins σ H s C fp use Fin acc _ _ _ ev s' ⟨_,_,_,_,_,_,_,_,_,_,_,_,q⟩;exact q.elim
end L2
namespace L2
open PySem PySem.Spec PyProof.Rows
def cxC (X:Cx) (EW:XK) (N':List Str) (sc:Scope) (C:Addr) (s:Shared) (H:Hp) (fp:List Addr):Cx:=
 { X with N:=N',s₀:=s,H₀:=H,env:=compEnvC sc (a00 X.env sc.names []) C X.env,outer:=X.stack,stack:=X.stack,ex:=fp,fn:=fun _=>false,pn:=[],xe:=ExC X EW C s H fp }
def PIfs (X:Cx) (ifs:List Expr) (t:TT):Prop:=
 ∀ (pins:List (Addr×Obj)) (s:Shared) (σ:St) (H:Hp) (Q:Bool->Hp->Prop),Inv X pins σ H s->t σ H Q ->
  wpAny (model X.prog X.w) X.A (forIn ifs true fun c r=>if r=true then do let ok <- isTrue c X.env (eval c X.env);pure (ForInStep.yield ok) else pure (ForInStep.yield r)) (TP X pins σ Q) X.xe s
def tTT:TT:=fun _ H Q=>Q true H
theorem b2t {X:Cx}:PIfs X [] tTT:=fun _ _ _ H _ I h=>wpAny_tests_nil ⟨H,I,h⟩
theorem b2u {X:Cx}{c:Expr}{t:TT}(h:PT X c t):PIfs X [c] t:=fun pins s σ H Q I q=>wpAny_tests_one (h pins s σ H Q I q)
def LcB (J:It) (cap:List (Option Nat)) (g:TG) (tt:TT) (te:TE) (σ:St) (Q:VK) (D:Addr) (H1:Hp):Prop:=
 ∃ W:Nat->Nat->List V->Hp->Prop,(∃ m,W 0 m [] (upd H1 D (.lst [])))/\∀ i m ys H2,W i m ys H2 ->
  (J.stop i H2/\Q (.ref D) H2) \/
  (J.go i H2/\∃ N:List V->Hp->Prop,(∀ ys' H',N ys' H'->∃ m',m'<m/\W (i+1) m' ys' H')/\∀ x H',J.yld i H2 x H' ->
   g x (a3y cap σ) H' fun σ2 H3=>a1Z (a3y cap σ) σ2/\tt σ2 H3 fun b H4=>if b=true then te σ2 H4 fun y H5=>∃ zs,H5 D=some (.lst zs)/\zs.length<sizeLine/\N (zs++[y]) (upd H5 D (.lst (zs++[y]))) else N ys H4)
def tLC (wi:TI) (cap:List (Option Nat)) (g:TG) (tt:TT) (te:TE):TE:=fun σ H Q=>wi σ H fun J H1=>∀ D,H1 D=none->LcB J cap g tt te σ Q D H1
structure CFree (X:Cx) (pins:List (Addr×Obj)) (H:Hp) (C:Addr):Prop where
 free:H C=none
 loc:C≠X.env.locals
 old:X.s₀.heap.objs.size≤C
 cell:∀ x c,X.env.cells.lookup x=some c->c≠C
 pin:∀ p∈X.pn++pins,p.1≠C
section
variable {X:Cx}{pins:List (Addr×Obj)}{σ:St}{H:Hp}{s:Shared}{N':List Str}{sc:Scope}{cap:List (Option Nat)}{C:Addr}{fp:List Addr}{EW:XK}
theorem b0D (I:Inv X pins σ H s) (ck:CapOk X.N X.env.scope sc N' cap):∀ x∈sc.names,x.2=.free->∃ c,X.env.cells.lookup x.1=some c:=fun x hx hf=>
 I.ok.has x.1 (ck.fre x hx hf)
theorem a42 {x:Str}(I:Inv X pins σ H s) (ck:CapOk X.N X.env.scope sc N' cap) {c:Addr}(h:(a00 X.env sc.names []).lookup x=some c):X.env.cells.lookup x=some c:=
 a2l sc.names [] (b0D I ck) (fun y c h=>by simp at h) c h
theorem b0E (env:Env) (x:Str):(compEnvC sc (a00 X.env sc.names []) C env).kindOf x=(sc.names.lookup x).map fun k=>if (k==NameKind.free&&env.scope.kind==.function&&env.kindOf x==some .cell)=true then NameKind.cell else k:=
 a29 sc.names
theorem a11 {l:List (Str×NameKind)}{x:Str}{k:NameKind}(h:l.lookup x=some k):(x,k)∈l:=PySem.mem_of_lookup h
theorem b8z (I:Inv X pins σ H s) (ck:CapOk X.N X.env.scope sc N' cap) (hf:∀ b∈fp,FpOk X pins H b) (hlt:∀ b∈fp,b<s.heap.objs.size) (hC:C=s.heap.objs.size):(cxC X EW N' sc C s H fp).Ok:=by
 have cl:∀ {x:Str}{c:Addr},(a00 X.env sc.names []).lookup x=some c->X.env.cells.lookup x=some c:=fun h=>a42 I ck h;have cne:∀ {x:Str}{c:Addr},X.env.cells.lookup x=some c->c<s.heap.objs.size:=fun e=>by
  obtain⟨v,q⟩:=I.cell _ _ e;exact q.lt
 refine⟨I.ok.mod,ck.kind,I.ok.glob,I.ok.blt,by rw[hC];exact Nat.le_refl _,fun x y c h1 h2=>I.ok.inj x y c (cl h1) (cl h2),fun x hx=>?_,fun x c h _=>(by cases h),I.ok.hd,I.ok.frames,.inl rfl,fun b hb=>⟨?_,fun x c h=>?_⟩,I.bs,Nat.le_trans I.ok.bsz I.sz,fun b o e hb=>?_,fun b hb hz=>?_,I.stack,I.stkFree⟩
 ·have hx':(sc.names.lookup x).map (fun k=>if (k==NameKind.free&&X.env.scope.kind==.function&&X.env.kindOf x==some .cell)=true then NameKind.cell else k)=some .cell \/
    (sc.names.lookup x).map (fun k=>if (k==NameKind.free&&X.env.scope.kind==.function&&X.env.kindOf x==some .cell)=true then NameKind.cell else k)=some .free:=by
   rw[<- b0E (X:=X) (C:=C) X.env x];exact hx
  cases e:sc.names.lookup x with
  | none=>rw[e]at hx';rcases hx' with z | z<;>cases z
  | some k=>
   have hm:=a11 e;have hk:k=.free:=by
    rw[e]at hx'
    by_cases hk:k=.free
    ·exact hk
    ·have hb:(k==NameKind.free)=false:=by simpa using hk
     simp only[Option.map_some,hb,Bool.false_and,Bool.false_eq_true,if_false,Option.some.injEq]at hx';rcases hx' with z | z
     ·exact absurd z (ck.nocell _ hm)
     ·exact absurd z hk
   subst hk;exact a2Y sc.names [] hm
 ·show b≠C
  rw[hC];exact Nat.ne_of_lt (hlt b hb)
 ·exact (hf b hb).2.2.2.2.1 x c (cl h)
 ·obtain⟨_,_,_,z,_⟩:=hf b hb;rcases z with z | z
  ·exact I.ok.noex b o e z
  ·exact absurd (Nat.lt_of_lt_of_le (Heap.lt_size e) (Nat.le_trans I.ok.bsz z)) (Nat.lt_irrefl _)
 ·rcases List.mem_cons.mp (I.stkSub b hz) with z | z
  ·exact (hf b hb).2.1 z
  ·exact (hf b hb).2.2.1 z
theorem b6m {h₁:Heap}{m:Str->Option Value}{t':Nat}(I:Inv X pins σ H s) (ck:CapOk X.N X.env.scope sc N' cap) (hf:∀ b∈fp,FpOk X pins H b) (hlt:∀ b∈fp,b<s.heap.objs.size) (hC:C=s.heap.objs.size)
  (hn:h₁.Ns C m) (hk:∀ b o,s.heap.get? b=some o->h₁.get? b=some o):Inv (cxC X EW N' sc C s H fp) [] (a3y cap σ) H { s with heap:=h₁,toks:=t' }:=by
 refine⟨b8z I ck hf hlt hC,rfl,I.bare,Un.kept hk,⟨m,hn,fun i x v e1 e2 e3=>?_⟩,fun x c h=>?_,?_,fun x c h=>I.freeC x c (a42 I ck h),fun p hp=>absurd (show p∈([]:List (Addr×Obj)) from hp) (by simp),I.hok.kept hk,?_⟩
 ·have e1':N'[i]?=some x:=e1;unfold a3y at e2;rw[List.getElem?_map]at e2;cases ec:cap[i]? with
  | none=>rw[ec]at e2;cases e2
  | some o=>
   rw[ec]at e2;cases o with
   | none=>simp at e2
   | some j=>
    have e2':(σ[j]?).join=some v:=by simpa using e2
    have e2'':σ[j]?=some (some v):=by
     cases q:σ[j]? with
     | none=>rw[q]at e2';cases e2'
     | some w=>rw[q]at e2';rw[show w=some v from e2']
    obtain⟨a1,a2⟩:=ck.cap i x j e1' ec;have hfr:=ck.fre (x,.free) (a11 a2) rfl;obtain⟨m0,_,hl⟩:=I.loc;obtain⟨u,ru,lk⟩:=hl j x v a1 e2'' (.inr hfr);refine⟨u,ru,.inr ⟨?_,?_⟩⟩
    ·show (compEnvC sc (a00 X.env sc.names []) C X.env).kindOf x=some .cell\/(compEnvC sc (a00 X.env sc.names []) C X.env).kindOf x=some .free
     rw[b0E,a2];simp only[Option.map_some,beq_self_eq_true,Bool.true_and]
     by_cases hc:(X.env.scope.kind==ScopeKind.function&&X.env.kindOf x==some NameKind.cell)=true
     ·rw[if_pos hc];exact .inl rfl
     ·rw[if_neg hc];exact .inr rfl
    ·obtain⟨c',hc'⟩:=a2Y (env:=X.env) sc.names [] (a11 a2);have hX:=a42 I ck hc';rcases lk with ⟨k,_⟩ | ⟨_,c,ec',z⟩
     ·have k':X.env.scope.names.lookup x=some .local:=k;have hfr':X.env.scope.names.lookup x=some .cell\/X.env.scope.names.lookup x=some .free:=hfr;rw[k']at hfr';rcases hfr' with q | q<;>cases q
     ·rw[hX]at ec';cases ec';obtain⟨oc,ho,hd⟩:=z;exact⟨c',hc',oc,hk _ _ ho,hd⟩
 ·obtain⟨v,oc,ho,hd⟩:=I.cell x c (a42 I ck h);exact⟨v,oc,hk _ _ ho,hd⟩
 ·show H C=none
  rw[hC];exact I.hok.fresh (Nat.le_refl _)
 ·show (a3y cap σ).length=N'.length
  unfold a3y;rw[List.length_map];exact ck.len
theorem b4t {s':Shared}{σ':St}{H':Hp}{pins':List (Addr×Obj)}(I:Inv X pins σ H s) (hf:∀ b∈fp,FpOk X pins H b) (J:Inv (cxC X EW N' sc C s H fp) pins' σ' H' s'):Inv X pins σ H' s':=
 I.call' (ch:=fp) J.os J.base J.hok J.bare fun b hb=>⟨(hf b hb).2.2.2.1,(hf b hb).2.1,(hf b hb).2.2.2.2.1,(hf b hb).2.2.2.2.2⟩
theorem b2v {s':Shared}{σ':St}{H':Hp}{pins':List (Addr×Obj)}(I:Inv X pins σ H s) (hC:C=s.heap.objs.size) (J:Inv (cxC X EW N' sc C s H fp) pins' σ' H' s'):CFree X pins H' C:=by
 refine⟨J.free,by rw[hC];exact Nat.ne_of_gt I.lt,by rw[hC];exact I.sz,fun x c e z=>?_,fun p hp z=>?_⟩
 ·obtain⟨v,q⟩:=I.cell x c e;exact absurd q.lt (by rw[z,hC];exact Nat.lt_irrefl _)
 ·exact absurd (Heap.lt_size (I.pin p hp).1) (by rw[z,hC];exact Nat.lt_irrefl _)
theorem CFree.after {h':Heap}{t':Nat}(F:CFree X pins H C) (I:Inv X pins σ H s) (k:∀ b o,b≠C->s.heap.get? b=some o->h'.get? b=some o):Inv X pins σ H { s with heap:=h',toks:=t' }:=
 I.turned k F.free F.loc (.inr F.old) F.cell F.pin
end
section
variable {X:Cx}{elt tg iter:Expr}{ifs:List Expr}{sc:Scope}{pos:Pos}{wi:TI}{g:TG}{tt:TT}{te:TE}{N':List Str}{cap:List (Option Nat)}{EW:XK}
theorem b0F (hc:X.calm=true) (hE:a6g X EW sc) (ck:CapOk X.N X.env.scope sc N' cap) (hi:PI X tg iter wi)
  (hg:∀ C s H fp,PG (cxC X EW N' sc C s H fp) tg g) (ht:∀ C s H fp,PIfs (cxC X EW N' sc C s H fp) ifs tt) (he:∀ C s H fp,PE (cxC X EW N' sc C s H fp) elt te)
  (hs:∀ x,foldedSetIterable iter X.env x=pure x) {use:Option (Value->Sem Unit)}{Fin:Value->Shared->Prop}{pos':Pos}
  {pins:List (Addr×Obj)}{s:Shared}{σ:St}{H:Hp}{Q:VK}(I:Inv X pins σ H s) (h:tLC wi cap g tt te σ H Q)
  (fin:∀ D s' C m H',Inv X pins σ H' s'->Q (.ref D) H'->s'.heap.Ns C m->CFree X pins H' C->compPost (model X.prog X.w) X.A X.xe use Fin (.ref D) C (.ok .next) s') :
  wpAny (model X.prog X.w) X.A (comprehension (.ListComp elt [⟨tg,iter,ifs,0⟩] sc pos) sc X.env pos' (newList []) false (eval iter X.env) use) Fin X.xe s:=by
 refine wpAny_comprehension_free (use:=use) rfl hs (a6f (b0D I ck)) ck.kind ck.nms ?_;refine thn (hi pins s σ H _ I h) fun v s1 h1=>thn h1 fun itv s2 h2=>?_;obtain⟨it,fp,tn,J,H2,e,I2,T,st2,f2,h2⟩:=h2;subst e;have hD:H2 s2.heap.objs.size=none:=I2.hok.fresh (Nat.le_refl _);obtain⟨W,⟨m0,w0⟩,turn⟩:=h2 s2.heap.objs.size hD;refine wpAny_newObj_type ?_;have I3:Inv X pins σ (upd H2 s2.heap.objs.size (.lst [])) { s2 with heap:=s2.heap.push { cls:=.type "list",data:=.seq ([]:List Value).toArray } }:=I2.lnew (its:=[]) (ys:=[]) (t':=s2.toks) .nil (Nat.zero_le _);generalize hs3:({ s2 with heap:=s2.heap.push { cls:=.type "list",data:=.seq ([]:List Value).toArray } }:Shared)=s3 at I3;generalize hH3:upd H2 s2.heap.objs.size (.lst [])=H3 at I3 w0;have hlt2:∀ b∈fp,b<s2.heap.objs.size:=fun b hb=>by
  obtain⟨o,e,_⟩:=T.obj _ _ st2 b hb;exact Heap.lt_size e
 have sz3:s3.heap.objs.size=s2.heap.objs.size+1:=by rw[<- hs3];exact Heap.size_push _ _
 have hlt3:∀ b∈fp,b<s3.heap.objs.size:=fun b hb=>by rw[sz3];exact Nat.lt_succ_of_lt (hlt2 b hb)
 have f3:∀ b∈fp,FpOk X pins H3 b:=fun b hb=>by
  refine⟨?_,(f2 b hb).2⟩;rw[<- hH3,a0L (Nat.ne_of_lt (hlt2 b hb))];exact (f2 b hb).1
 have st3:tn 0 s3.heap:=T.keep _ _ _ st2 fun b _ o e=>by rw[<- hs3];exact Heap.get?_push_of_some _ e
 refine wpAny_newFunctionEnv ck.nocell (by intro y hy;simp at hy) (fun h₁ hns₁ hsb₁=>?_) ck.kind;have hk:∀ b o,s3.heap.get? b=some o->h₁.get? b=some o:=fun b o e=>hsb₁.extBut b o (Nat.ne_of_lt (Heap.lt_size e)) (Heap.get?_push_of_some _ e);have I4:=b6m (EW:=EW) (C:=s3.heap.objs.size) (t':=s3.toks+([]:List (Str×Value)).length) I3 ck f3 hlt3 rfl hns₁ hk;generalize hs4:({ s3 with heap:=h₁,toks:=s3.toks+([]:List (Str×Value)).length }:Shared)=s4 at I4 ⊢;have st4:tn 0 s4.heap:=T.keep _ _ _ st3 fun b _ o e=>by rw[<- hs4];exact hk b o e
 have stat:∀ {H':Hp}{pins':List (Addr×Obj)},(∀ p∈pins',p.1∉fp)->(∀ b∈fp,H' b=none)->∀ b∈fp,FpOk (cxC X EW N' sc s3.heap.objs.size s3 H3 fp) pins' H' b:=fun {H' pins'} hp hn b hb=>
  ⟨hn b hb,Nat.ne_of_lt (hlt3 b hb),fun z=>by
   rcases List.mem_cons.mp (I3.stkSub b z) with z | z
   ·exact (f3 b hb).2.1 z
   ·exact (f3 b hb).2.2.1 z,.inl hb,fun x c e=>(f3 b hb).2.2.2.2.1 x c (a42 I3 ck e),fun p hp' z=>hp p hp' (by rw[z];exact hb)⟩
 have hx:=hE pins σ H3 s3 s3.heap.objs.size fp use Fin (.ref s2.heap.objs.size) I3 f3 rfl;have loop:codeAny (model X.prog X.w) X.A (.compLoop (.ListComp elt [⟨tg,iter,ifs,0⟩] sc pos) 0 (.ref it) (.ref s2.heap.objs.size) (compEnvC sc (a00 X.env sc.names []) s3.heap.objs.size X.env))
   (compPost (model X.prog X.w) X.A X.xe use Fin (.ref s2.heap.objs.size) s3.heap.objs.size) s4:=by
  refine a3g (fun n s'=>∃ i ys σ' H',Inv (cxC X EW N' sc s3.heap.objs.size s3 H3 fp) [] σ' H' s'/\a1Z (a3y cap σ) σ'/\tn i s'.heap/\(∀ b∈fp,H' b=none)/\W i n ys H') ?_ m0
   ⟨0,[],a3y cap σ,H3,I4,a2R _,st4,fun b hb=>(f3 b hb).1,w0⟩
  rintro n s5 ⟨i,ys,σ5,H5,I5,k5,st5,fr5,w5⟩;have kk:=a3Z k5;have I5:=I5.weak (σ':=a3y cap σ) kk.1 kk.2;rcases turn i n ys H5 w5 with ⟨stop,q⟩ | ⟨go,N,hN,step⟩
  ·refine thn (T.done (cxC X EW N' sc s3.heap.objs.size s3 H3 fp) rfl rfl rfl hc i [] s5 _ H5 _ I5 (stat (fun p hp=>by cases hp) fr5) st5 stop) fun r s6 ⟨hr,I6⟩=>?_;subst hr;obtain⟨m6,n6,_⟩:=I6.loc;exact fin _ s6 _ m6 H5 (b4t I3 f3 I6) q n6 (b2v I3 rfl I6)
  ·refine thn (T.item (cxC X EW N' sc s3.heap.objs.size s3 H3 fp) rfl rfl rfl hc i [] s5 _ H5 _ I5 (stat (fun p hp=>by cases hp) fr5) st5 go) fun r s6 ⟨u,hr,h6⟩=>?_;subst hr;refine thn h6 fun _ s7 ⟨x,H7,I7,r7,y7,st7,fr7⟩=>?_;have I7':=I7.pinned (stat (fun p hp=>by cases hp) fr7) (T.obj _ _ st7);have again:∀ {σ9:St}{H9:Hp}{s9:Shared}{ys':List V},Inv (cxC X EW N' sc s3.heap.objs.size s3 H3 fp) ([]++a6M fp s7.heap) σ9 H9 s9->a1Z (a3y cap σ) σ9->N ys' H9 ->
     ∃ m,m<n/\∃ i ys σ' H',Inv (cxC X EW N' sc s3.heap.objs.size s3 H3 fp) [] σ' H' s9/\a1Z (a3y cap σ) σ'/\tn i s9.heap/\(∀ b∈fp,H' b=none)/\W i m ys H':=fun {σ9 H9 s9 ys'} I9 k9 n9=>by
    obtain⟨m',hm,w9⟩:=hN ys' H9 n9;refine⟨m',hm,i+1,ys',σ9,H9,I9.unpinned,k9,T.keep _ _ _ st7 fun b hb o e=>(I9.pin (b,o) (List.mem_append_right _ (List.mem_append_right _ (a2X hb e)))).1,fun b hb=>?_,w9⟩;obtain⟨o,e,d⟩:=T.obj _ _ st7 b hb;exact (I9.pin (b,o) (List.mem_append_right _ (List.mem_append_right _ (a2X hb e)))).2.1
   refine wpAny_mono (hg _ _ _ _ _ s7 _ H7 x u _ I7' r7 (step x H7 y7)) (fun _ s8 ⟨σ8,H8,I8,k8,q8⟩=>?_) hx;refine wpAny_mono (ht _ _ _ _ _ s8 σ8 H8 _ I8 q8) (fun b s9 ⟨H9,I9,q9⟩=>?_) hx;cases b with
   | false=>
    rw[if_neg Bool.false_ne_true]at q9 ⊢;exact again I9 k8 q9
   | true=>
    rw[if_pos rfl]at q9 ⊢;refine wpAny_mono (he _ _ _ _ _ s9 σ8 H9 _ I9 q9) (fun y s10 ⟨vy,H10,I10,r10,zs,hacc,hsz,q10⟩=>?_) hx;refine wpAny_mono (a6U (X:=cxC X EW N' sc s3.heap.objs.size s3 H3 fp) _ s10 σ8 H10 (.ref s2.heap.objs.size) [vy] (.ref s2.heap.objs.size) [y] (fun _ H'=>N (zs++[vy]) H') I10 rfl (.cons r10 .nil) ⟨_,zs,vy,rfl,rfl,hacc,hsz,q10⟩) (fun _ s11 ⟨_,H11,I11,_,q11⟩=>?_) hx;exact again I11 k8 q11
 exact codeAny_compStart_list loop (T.self _ 0 _ _ _ st4 loop)
theorem b8A {N₀:List Str}{so:Scope}(hc:X.calm=true) (hE:a6g X EW sc) (hNN:X.N=N₀) (hso:X.env.scope=so) (ck:capB N₀ so sc N' cap=true) (hi:PI X tg iter wi)
  (hg:∀ C s H fp,PG (cxC X EW N' sc C s H fp) tg g) (ht:∀ C s H fp,PIfs (cxC X EW N' sc C s H fp) ifs tt) (he:∀ C s H fp,PE (cxC X EW N' sc C s H fp) elt te)
  (hs:∀ x,foldedSetIterable iter X.env x=pure x:=by intro _;rfl):PE X (.ListComp elt [⟨tg,iter,ifs,0⟩] sc pos) (tLC wi cap g tt te):=by
 intro pins s σ H Q I h;rw[eval_ListComp];subst hNN hso;refine b0F hc hE (b0B ck) hi hg ht he hs (use:=none) I h fun D s' C m H' I' q hn F=>?_;exact⟨m,hn,fun h' hs'=>⟨.ref D,H',F.after (t':=s'.toks) I' (fun b o hb e=>hs'.extBut b o hb e),rfl,q⟩⟩
theorem b2w {N₀:List Str}{so:Scope}{i:Nat}{x:Str}{pos' spos:Pos}(hN:X.N.Nodup) (hx:X.N[i]?=some x) (hl:X.env.scope.names.lookup x=some .local) (hc:X.calm=true) (hE:a6g X EW sc) (hNN:X.N=N₀) (hso:X.env.scope=so) (ck:capB N₀ so sc N' cap=true) (hi:PI X tg iter wi)
  (hg:∀ C s H fp,PG (cxC X EW N' sc C s H fp) tg g) (ht:∀ C s H fp,PIfs (cxC X EW N' sc C s H fp) ifs tt) (he:∀ C s H fp,PE (cxC X EW N' sc C s H fp) elt te)
  (hsw:swapsWith (.ListComp elt [⟨tg,iter,ifs,0⟩] sc pos) (some (.Name x pos')) spos.line X.env=pure true:=by rfl)
  (hs:∀ x,foldedSetIterable iter X.env x=pure x:=by intro _;rfl):PS X (.Assign [.Name x pos'] (.ListComp elt [⟨tg,iter,ifs,0⟩] sc pos) spos) (tAsg (tLC wi cap g tt te) (a98 i)):=by
 subst hNN hso;intro pins s σ H D I h;rw[exec_Assign_Name_used _ _ _ _ hsw];refine wpAny_bind (wpAny_standAt (wpAny_bind ?_))
 show wpAny _ X.A (do let _ <- comprehension (.ListComp elt [⟨tg,iter,ifs,0⟩] sc pos) sc X.env _ (newList []) false (eval iter X.env) (some (assign (.Name x pos') X.env))) _ _ s
 refine wpAny_bind (wpAny_mono (b0F hc hE (b0B ck) hi hg ht he hs (use:=some (assign (.Name x pos') X.env)) (Fin:=fun _ s'=>SP X pins D .next s') I h fun d s' C m H' I' q hn F=>?_) (fun _ s' hq=>wpAny_pure (wpAny_pure hq)) fun _ _ e=>e)
 show wpAny _ _ (assign (.Name x pos') X.env (.ref d)) _ _ s'
 refine wpAny_assign_Name (a6K I' hN hx (.inl hl) (v:=.ref d) rfl (fun s'' I'' hd=>?_) (.inr hl));obtain⟨a,hsb,ha⟩:=hd;have hCa:C≠a:=by
  rcases ha with z | z
  ·rw[z];exact F.loc
  ·exact Ne.symm (F.cell _ _ z)
 exact⟨m,hn.sameBut hsb hCa,fun h' hs'=>⟨_,H',F.after (t':=s''.toks) I'' (fun b o hb e=>hs'.extBut b o hb e),q⟩⟩
end
end L2
namespace L2
open PySem PySem.Spec PyProof.Rows
section
variable {X:Cx}{st:Stmt}{rest:List Stmt}{t u:TS}{e:Expr}{te:TE}{tt:TT}
end
end L2
namespace L2
open PySem PySem.Spec PyProof.Rows
mutual
def DV (H:Hp):PyData->V->Prop
 | .none,x=>x=.non
 | .bool b,x=>x=.bl b
 | .int i,x=>x=.int i
 | .str s,x=>x=.str s
 | .list ds,x=>∃ a vs,x=.ref a/\H a=some (.lst vs)/\DVs H ds vs
 | .tuple ds,x=>∃ a vs,x=.ref a/\H a=some (.tup vs)/\DVs H ds vs
 | .dict _,_=>False
def DVs (H:Hp):List PyData->List V->Prop
 | [],vs=>vs=[]
 | d::ds,vs=>∃ v r,vs=v::r/\DV H d v/\DVs H ds r
end
mutual
theorem DV.reads {P:Program}{w:World}{H:Hp}{h:Heap}(ok:HOk P w H h):∀ {d:PyData}{x:V}{u:Value},DV H d x->RelV x u->∃ as,Reads h u d as
 | .none,x,u,q,r=>by
  unfold DV at q;subst q;cases (show u=Value.none from r);exact⟨_,.none⟩
 | .bool b,x,u,q,r=>by
  unfold DV at q;subst q;cases (show u=Value.bool b from r);exact⟨_,.bool b⟩
 | .int i,x,u,q,r=>by
  unfold DV at q;subst q;obtain⟨t,e⟩:=(show ∃ t,u=Value.int i t from r);subst e;exact⟨_,.int i t⟩
 | .str s,x,u,q,r=>by
  unfold DV at q;subst q;obtain⟨t,e⟩:=(show ∃ t,u=Value.str s t from r);subst e;exact⟨_,.str s t⟩
 | .list ds,x,u,q,r=>by
  unfold DV at q;obtain⟨a,vs,e,ha,q⟩:=q;subst e;cases (show u=Value.ref a from r);obtain⟨_,its,n,rv,e⟩:=ok a _ ha;obtain⟨as,rd⟩:=DVs.reads ok q rv;exact⟨_,.list e rfl rfl (by simpa using rd)⟩
 | .tuple ds,x,u,q,r=>by
  unfold DV at q;obtain⟨a,vs,e,ha,q⟩:=q;subst e;cases (show u=Value.ref a from r);obtain⟨_,its,rv,o,e,c,n,d⟩:=ok a _ ha;obtain⟨as,rd⟩:=DVs.reads ok q rv;exact⟨_,.tuple e c d (by simpa using rd)⟩
 | .dict _,x,u,q,r=>by unfold DV at q;exact q.elim
theorem DVs.reads {P:Program}{w:World}{H:Hp}{h:Heap}(ok:HOk P w H h):∀ {ds:List PyData}{vs:List V}{us:List Value},DVs H ds vs->Vals vs us->∃ as,ReadsAll h us ds as
 | [],vs,us,q,r=>by
  unfold DVs at q;subst q;cases r;exact⟨_,.nil⟩
 | d::ds,vs,us,q,r=>by
  unfold DVs at q;obtain⟨v,rr,e,q1,q2⟩:=q;subst e;cases r with
  | cons r1 r2=>
   obtain⟨as,h1⟩:=DV.reads ok q1 r1;obtain⟨bs,h2⟩:=DVs.reads ok q2 r2;exact⟨_,.cons h1 h2⟩
end
def rEqD:R2:=fun x y H Q=>∃ d e,DV H d x/\DV H e y/\SeqAt.shaped d=true/\SeqAt.shaped e=true/\Q (.bl (PyData.eqv d e)) H
def rNeD:R2:=fun x y H Q=>∃ d e,DV H d x/\DV H e y/\SeqAt.shaped d=true/\SeqAt.shaped e=true/\Q (.bl (!PyData.eqv d e)) H
section
variable {X:Cx}
theorem b6n (hu:X.A.units+66<cLine):OpR X (compareOp .Eq) rEqD:=by
 intro pins s σ H x y v u Q I rx ry h;obtain⟨d,e,h1,h2,h3,h4,q⟩:=h;obtain⟨as,r1⟩:=h1.reads I.hok rx;obtain⟨bs,r2⟩:=h2.reads I.hok ry;exact eq_dataH r1 r2 h3 h4 (by omega) ⟨.bl _,H,I,rfl,q⟩
theorem b6o (hu:X.A.units+66<cLine):OpR X (compareOp .NotEq) rNeD:=by
 intro pins s σ H x y v u Q I rx ry h;obtain⟨d,e,h1,h2,h3,h4,q⟩:=h;obtain⟨as,r1⟩:=h1.reads I.hok rx;obtain⟨bs,r2⟩:=h2.reads I.hok ry;exact ne_dataH r1 r2 h3 h4 (by omega) ⟨.bl _,H,I,rfl,q⟩
def b6p (_ j:Int):Prop:=0<j/\j<2 ^ 64
theorem b2x:OpR X (binaryOp .FloorDiv) (rI b6p fun i j=>.int (i / j)):=opI fun i j _ _ _ _ _ hc q=>by
 have h1:(0:Int)<j:=hc.1;have h2:j<2 ^ 64:=hc.2;refine floordiv_int (by omega) ?_ (.inl (PyProof.noPylong_of_log2 ?_))
 ·rw[Int.fdiv_eq_ediv_of_nonneg i (by omega)];exact q
 ·have h3:j.natAbs<2 ^ 64:=by omega
  have h4:j.natAbs.log2<64:=(Nat.log2_lt (by omega)).mpr h3;omega
def rIsT (K:Fg):List V->Hp->VK->Prop:=fun xs H Q=>∃ x T t b,xs=[x,.ty T]/\TyOf K H x t/\PySem.W.kitOne K t (.type T)=some b/\Q (.bl b) H
theorem b2y:CallR X (.builtin "isinstance") (rIsT X.K):=by
 intro pins s σ H xs us Q I r h;obtain⟨x,T,t,b,rfl,ty,e,q⟩:=h;obtain⟨u,w',rfl,r1,r2⟩:=b0h r;cases (show w'=Value.type T from r2);exact b0n I r1 ty e fun tk=>⟨.bl b,H,I.tok tk,rfl,q⟩
end
end L2
namespace L2
open PySem PySem.Spec PyProof.Rows
abbrev veM:List Value:=[.type "ValueError",.type "Exception",.type "BaseException",.type "object"]
theorem b6q {K:Fg}{C:Addr}(q:PySem.W.excIn K C veM "ValueError.__new__"=true):∃ bm N nm qn bs hd sn sub ab col dd k0 k1 k2 k3 k5,K.lookup C=some (excClassObj nm qn C N bs bm hd sn sub ab col dd k0 k1 k2 k3 k5 "ValueError.__new__") /\
  PySem.W.nsOkIn K N=true/\PySem.W.nsIn K N "__init__"=some none/\PySem.W.tailIn K veM bm=true:=by
 unfold PySem.W.excIn at q
 split at q
 ·rename_i dd cd sl ho
  split at q
  ·rename_i C2 bm k0 k1 k2 k3 nw k5 hm hs
   simp only[Bool.and_eq_true,Bool.not_eq_true',beq_iff_eq]at q;obtain⟨⟨⟨⟨⟨z1,z2⟩,z3⟩,z4⟩,z5⟩,z6⟩:=q;subst z1 z2;obtain⟨nm,bs,mr,ns,qn,hd,sn,sub,ab,col,dl⟩:=cd;dsimp only at hm z3 z5 z6;subst hm z3;have es:sl=#[k0,k1,k2,k3,some (.builtin "ValueError.__new__"),k5]:=by
    cases sl with
    | mk l=>dsimp only at hs;rw[hs]
   subst es;exact⟨bm,ns,nm,qn,bs,hd,sn,sub,ab,col,dd,k0,k1,k2,k3,k5,ho,z5,z6,z4⟩
  ·cases q
 ·cases q
section
variable {X:Cx}{E:XK}
theorem b2z {x:Str}{np cpos pos:Pos}{e0:Expr}{te:TE}{C:Addr}(O:Outs X E) (hc:X.calm=true) (hg:Gl X x) (hm:X.mg x=some (.ref C)) (hq:PySem.W.excIn X.K C veM "ValueError.__new__"=true) (he:PE X e0 te)
  (hs:starEach [e0] X.env=(false,eval e0 X.env)::starEach [] X.env:=by rfl) (hp:(backTo cpos (starEach [] X.env)).any (·.1)=false:=by rfl) (hd:(x==("__debug__":Str))=false:=by decide) :
  PS X (.Raise (some (.Call (.Name x np) [e0] [] cpos)) none pos) (fun _ σ H=>te σ H fun _ H1=>since X.H₀ E (.ref C) none H1):=by
 intro pins s σ H D I h;obtain⟨bm,N,nm,qn,bs,hd',sn,sub,ab,col,dd,k0,k1,k2,k3,k5,hC,z5,z6,z4⟩:=b6q hq;have B:=I.mod.kin;have hN:X.base.Ns N (X.base.nsMap N):=.of_isNs (PySem.W.isNs_of_in B z5);have hi:=PySem.W.nsMap_none_of_in B z5 z6;have T:OwnTail X.base veM bm:=PySem.W.tail_of_in B z4;refine wpAny_Raise_call_subT (C:=C) (nm:=nm) (q:=qn) (N:=N) (bs:=bs) (bm:=bm) (hdct:=hd') (sn:=sn) (sub:=sub) (ab:=ab) (col:=col) (dd:=dd) (k0:=k0) (k1:=k1) (k2:=k2) (k3:=k3) (k5:=k5) PySem.F.excBase_ValueError (mN:=X.base.nsMap N) (T.hasType (by decide)) (I.ok.hd hc)
  (by rw[hs];show (false||(backTo cpos (starEach [] X.env)).any (·.1))=false;rw[hp];rfl) hi (a59 I hg hm ⟨rfl,?_⟩ hd)
 rw[hs];refine Calls.evalArgs_plain (Calls.spliced_cons (thn (he pins s σ H _ I h) fun v s2 ⟨y,H2,I2,_,q2⟩=>Calls.spliced_nil ⟨rfl,Nat.le_of_lt (a0t (Nat.le_of_ble_eq_true rfl)),I2.bk _ _ (B _ _ hC),hN.keeps I2.bk,T.keeps I2.bk,fun h' e hm=>b2s O I2 hm q2⟩))
end
end L2
namespace L2
open PySem PySem.Spec PyProof.Rows
section
variable {X:Cx}{E:XK}
end
end L2
namespace L2
open PySem PySem.Spec PySem.Calls PyProof.Rows PySem.W
structure ExK (K:Frag) (D:Addr):Prop where
 cls:(clsIn K D).isSome=true
 ga:findIn K (.ref D) "__getattribute__"=some (some (.builtin "BaseException.__getattribute__"))
 hk:findIn K (.ref D) "__getattr__"=some none
 ha:findIn K (.ref D) "__class__"=some (some (.builtin "object.__class__"))
 hn:specialIn K (.builtin "object.__class__") "__get__"=some (some (.builtin "getset_descriptor.__get__"))
 tk:takesIn K (.builtin "object.__class__")=some true
 hm:mroIn K D (.type "object")=some true
 hb:mroIn K D (.type "BaseException")=some true
section
variable {prog:Program}{w:World}{A:Around}{E:Value->Shared->Prop}{s:Shared}{K:Frag}{x D:Addr}{ox:Obj}
theorem ExK.find (k:ExK K D):findObj K D none "__class__"=some (.bind (.builtin "getset_descriptor.__get__") (.builtin "object.__class__")):=by
 obtain⟨cd,hc⟩:=Option.isSome_iff_exists.mp k.cls;unfold findObj;rw[hc,Option.bind_some,k.ha,Option.bind_some];simp[k.hn,k.tk]
end
end L2
namespace L2
open PySem PySem.Spec PyProof.Rows
section
variable {X:Cx}{pins:List (Addr×Obj)}{σ σ':St}{H:Hp}{s:Shared}
theorem Inv.lk {ex:Addr->Prop}{h':Heap}{t':Nat}(I:Inv X pins σ H s) (k:Lk (frs X.stack) ex s.heap h') (hx:∀ b,ex b->X.s₀.heap.get? b=none/\H b=none/\(∀ x c,X.env.cells.lookup x=some c->c≠b)/\∀ p∈X.pn++pins,p.1≠b)
  (hl:∃ m,h'.Ns X.env.locals m/\∀ (i:Nat) (x:Str) (v:V),X.N[i]?=some x->σ'[i]?=some (some v)->Vis X.env.scope x->∃ u,RelV v u/\Look X.env h' m x u) (hn:σ'.length=σ.length):Inv X pins σ' H { s with heap:=h',toks:=t' }:=by
 refine⟨I.ok,I.os,I.bare,I.base.lk k (fun b hb=>?_) (fun b hb=>.inr (hx b hb).1),hl,fun x c e=>?_,I.free,I.freeC,fun p hp=>?_,I.hok.lk k I.stkFree fun b hb=>(hx b hb).2.1,hn.trans I.len⟩
 ·rcases List.mem_cons.mp (I.stkSub b hb) with z | z
  ·rw[z];exact .inr (Heap.get?_none_of_le I.ok.above)
  ·exact .inl z
 ·obtain⟨v,o,ho,hd⟩:=I.cell x c e;obtain⟨sl,e1⟩:=k.slot c o ho fun z=>(hx c z).2.2.1 x c e rfl;exact⟨v,_,e1,hd⟩
 ·obtain⟨e1,e2,e3,e4,e5⟩:=I.pin p hp;refine⟨k.keep _ _ e1 (fun z=>?_) (fun z=>(hx _ z).2.2.2 p hp rfl),e2,e3,e4,e5⟩;rcases List.mem_cons.mp (I.stkSub _ z) with z | z
  ·exact e3 z
  ·exact e4 z
abbrev Cx.hnd (X:Cx) (e:Addr) (oe:Obj):Cx:={ X with A:=X.A.mark (some (.ref e)),calm:=false,pn:=(e,oe)::X.pn,xe:=fun _ _=>False }
theorem Inv.hnd {e:Addr}{oe:Obj}(I:Inv X pins σ H s) (h1:s.heap.get? e=some oe) (h2:H e=none) (h3:e≠X.env.locals) (h4:e∉X.fs) (h5:∀ v,oe.data≠.cell v):Inv (X.hnd e oe) pins σ H s:=
 ⟨⟨I.ok.mod,I.ok.kind,I.ok.glob,I.ok.blt,I.ok.above,I.ok.inj,I.ok.has,I.ok.cab,(fun z=>nomatch z),I.ok.frames,I.ok.stk,I.ok.exf,I.ok.bs,I.ok.bsz,I.ok.noex,I.ok.exfs,I.ok.funs,I.ok.frf⟩,I.os,I.bare,I.base,I.loc,I.cell,I.free,I.freeC,(fun p hp=>by
  rcases List.mem_cons.mp (show p∈(e,oe)::(X.pn++pins) from hp) with rfl | hp
  ·exact⟨h1,h2,h3,h4,h5⟩
  ·exact I.pin p hp),I.hok,I.len⟩
end
section
variable {X:Cx}{k:Nat}{f C D:Addr}{fd:FuncData}{ps:List Str}{sp:Sp}{x n:Str}{p pos np hpos tpos:Pos}{e ce:Expr}{es:List Expr}{t:TA}
end
end L2
namespace L3
open PySem PySem.Spec PyProof.Rows L2
inductive Z where
 | non | bl (b:Bool) | int (i:Int) | str (x:Str) | ref (a:Addr) | ty (n:String) | scr (a:Addr) (ns:List Int)
 | tup (ws:List Z)
mutual
def eqZ:Z->Z->Bool
 | .non,.non=>true
 | .bl a,.bl b=>a==b
 | .int a,.int b=>decide (a=b)
 | .str a,.str b=>decide (a=b)
 | .ref a,.ref b=>decide (a=b)
 | .ty a,.ty b=>decide (a=b)
 | .scr a ns,.scr b ms=>decide (a=b)&&decide (ns=ms)
 | .tup a,.tup b=>eqZs a b
 | _,_=>false
def eqZs:List Z->List Z->Bool
 | [],[]=>true
 | a::as,b::bs=>eqZ a b&&eqZs as bs
 | _,_=>false
end
mutual
theorem b0G:∀ x y:Z,eqZ x y=true↔x=y
 | .tup a,y=>by
  cases y with
  | tup b=>simp only[eqZ,Z.tup.injEq];exact a8t a b
  | _=>simp[eqZ]
 | .non,y=>by cases y<;>simp[eqZ]
 | .bl _,y=>by cases y<;>simp[eqZ]
 | .int _,y=>by cases y<;>simp[eqZ]
 | .str _,y=>by cases y<;>simp[eqZ]
 | .ref _,y=>by cases y<;>simp[eqZ]
 | .ty _,y=>by cases y<;>simp[eqZ]
 | .scr _ _,y=>by cases y<;>simp[eqZ]
theorem a8t:∀ x y:List Z,eqZs x y=true↔x=y
 | [],y=>by cases y<;>simp[eqZs]
 | a::as,y=>by
  cases y with
  | nil=>simp[eqZs]
  | cons b bs=>simp only[eqZs,Bool.and_eq_true,List.cons.injEq,b0G a b,a8t as bs]
end
instance:DecidableEq Z:=fun x y=>decidable_of_iff _ (b0G x y)
section
variable {K:Fg}{H H' H1 H2:Hp}{a p:Addr}{xs:List V}
def Fz (K:Fg) (H:Hp) (a:Addr) (xs:List V):Prop:=
 (∃ o,H a=some (.frz o (.lst xs)))\/∃ (o:Obj) (its:Array Value) (n:Nat),K.lookup a=some o/\o.cls=.type "list"/\o.dict=none/\o.data=.seq its n/\its.size≤sizeLine/\Vals xs its.toList
theorem Fz.sq (h:Fz K H a xs):SqL K H a xs:=by
 rcases h with ⟨o,h⟩ | h
 ·exact .inl (.inr ⟨o,h⟩)
 ·exact .inr h
theorem Fz.of (hO:Only H) (h:SqL K H a xs):Fz K H a xs:=by
 rcases h with (h | h) | h
 ·rcases hO a with z | ⟨o,ys,z⟩
  ·rw[h]at z;cases z
  ·rw[h]at z;cases z
 ·exact .inl h
 ·exact .inr h
structure TK (K:Fg) (H H':Hp):Prop where
 tup:∀ a xs,H a=some (.tup xs)->H' a=some (.tup xs)
 frz:∀ a xs,Fz K H a xs->Fz K H' a xs
 frd:∀ a o u,H a=some (.frz o u)->H' a=some (.frz o u)
theorem TK.refl (K:Fg) (H:Hp):TK K H H:=⟨fun _ _ h=>h,fun _ _ h=>h,fun _ _ _ h=>h⟩
theorem TK.trans (a:TK K H H1) (b:TK K H1 H2):TK K H H2:=⟨fun c xs h=>b.tup c xs (a.tup c xs h),fun c xs h=>b.frz c xs (a.frz c xs h),fun c o u h=>b.frd c o u (a.frd c o u h)⟩
theorem TK.upd {o:HO}(h:∀ xs,H p≠some (.tup xs)) (h2:∀ o u,H p≠some (.frz o u)):TK K H (L2.upd H p o):=by
 refine⟨fun c xs e=>?_,fun c xs e=>?_,fun c o' u e=>by rw[a0L (by rintro rfl;exact h2 _ _ e)];exact e⟩
 ·rw[a0L (by rintro rfl;exact h _ e)];exact e
 ·rcases e with ⟨o',e⟩ | e
  ·exact .inl ⟨o',by rw[a0L (by rintro rfl;exact h2 _ _ e)];exact e⟩
  ·exact .inr e
theorem TK.new {o:HO}(h:H p=none):TK K H (L2.upd H p o):=.upd (fun xs e=>by rw[h]at e;cases e) (fun o u e=>by rw[h]at e;cases e)
theorem TK.lst {o:HO}(h:H p=some (.lst xs)):TK K H (L2.upd H p o):=.upd (fun xs e=>by rw[h]at e;cases e) (fun o u e=>by rw[h]at e;cases e)
theorem TK.dK {o:HO}{kvs:List (Key×V)}(h:H p=some (.dK kvs)):TK K H (L2.upd H p o):=.upd (fun xs e=>by rw[h]at e;cases e) (fun o u e=>by rw[h]at e;cases e)
theorem TK.ins {o:HO}{C dx:Addr}{fs:List (Str×V)}(h:H p=some (.ins C dx fs)):TK K H (L2.upd H p o):=.upd (fun xs e=>by rw[h]at e;cases e) (fun o u e=>by rw[h]at e;cases e)
end
mutual
def Rep (K:Fg) (H:Hp):Z->V->Prop
 | .non,v=>v=.non
 | .bl b,v=>v=.bl b
 | .int i,v=>v=.int i
 | .str x,v=>v=.str x
 | .ref a,v=>v=.ref a
 | .ty n,v=>v=.ty n
 | .scr a ns,v=>v=.ref a/\Fz K H a (ns.map V.int)
 | .tup ws,v=>∃ a vs,v=.ref a/\H a=some (.tup vs)/\Reps K H ws vs
def Reps (K:Fg) (H:Hp):List Z->List V->Prop
 | [],vs=>vs=[]
 | w::ws,vs=>∃ v r,vs=v::r/\Rep K H w v/\Reps K H ws r
end
section
variable {K:Fg}{H H':Hp}
theorem a1b {v:V}:Rep K H .non v=(v=.non):=by unfold Rep;rfl
theorem a0M {b:Bool}{v:V}:Rep K H (.bl b) v=(v=.bl b):=by unfold Rep;rfl
theorem a0r {i:Int}{v:V}:Rep K H (.int i) v=(v=.int i):=by unfold Rep;rfl
theorem a0w {x:Str}{v:V}:Rep K H (.str x) v=(v=.str x):=by unfold Rep;rfl
theorem a0m {a:Addr}{v:V}:Rep K H (.ref a) v=(v=.ref a):=by unfold Rep;rfl
theorem a8u {n:String}{v:V}:Rep K H (.ty n) v=(v=.ty n):=by unfold Rep;rfl
theorem a12 {a:Addr}{ns:List Int}{v:V}:Rep K H (.scr a ns) v=(v=.ref a/\Fz K H a (ns.map V.int)):=by unfold Rep;rfl
theorem a01 {ws:List Z}{v:V}:Rep K H (.tup ws) v=(∃ a vs,v=.ref a/\H a=some (.tup vs)/\Reps K H ws vs):=by conv=>lhs;unfold Rep
theorem a0A {vs:List V}:Reps K H [] vs=(vs=[]):=by unfold Reps;rfl
theorem a0q {w:Z}{ws:List Z}{vs:List V}:Reps K H (w::ws) vs=(∃ v r,vs=v::r/\Rep K H w v/\Reps K H ws r):=by conv=>lhs;unfold Reps
mutual
theorem Rep.mono (t:TK K H H'):∀ (w:Z) (v:V),Rep K H w v->Rep K H' w v
 | .tup ws,v,h=>by
  rw[a01]at h ⊢;obtain⟨a,vs,e,h,r⟩:=h;exact⟨a,vs,e,t.tup _ _ h,Reps.mono t ws vs r⟩
 | .scr a ns,v,h=>by
  rw[a12]at h ⊢;exact⟨h.1,t.frz _ _ h.2⟩
 | .non,v,h=>by rw[a1b]at h ⊢;exact h
 | .bl _,v,h=>by rw[a0M]at h ⊢;exact h
 | .int _,v,h=>by rw[a0r]at h ⊢;exact h
 | .str _,v,h=>by rw[a0w]at h ⊢;exact h
 | .ref _,v,h=>by rw[a0m]at h ⊢;exact h
 | .ty _,v,h=>by rw[a8u]at h ⊢;exact h
theorem Reps.mono (t:TK K H H'):∀ (ws:List Z) (vs:List V),Reps K H ws vs->Reps K H' ws vs
 | [],vs,h=>by rw[a0A]at h ⊢;exact h
 | w::ws,vs,h=>by
  rw[a0q]at h ⊢;obtain⟨v,r,e,h1,h2⟩:=h;exact⟨v,r,e,Rep.mono t w v h1,Reps.mono t ws r h2⟩
end
theorem Reps.cons {w:Z}{v:V}{ws:List Z}{vs:List V}(a:Rep K H w v) (b:Reps K H ws vs):Reps K H (w::ws) (v::vs):=by rw[a0q];exact⟨v,vs,rfl,a,b⟩
theorem Reps.nil:Reps K H [] []:=by rw[a0A]
theorem Reps.length:∀ {ws:List Z}{vs:List V},Reps K H ws vs->ws.length=vs.length
 | [],vs,h=>by rw[a0A]at h;rw[h];rfl
 | w::ws,vs,h=>by
  rw[a0q]at h;obtain⟨v,r,e,_,h2⟩:=h;rw[e,List.length_cons,List.length_cons,Reps.length h2]
theorem Reps.get:∀ {ws:List Z}{vs:List V}{i:Nat}{w:Z},Reps K H ws vs->ws[i]?=some w->∃ v,vs[i]?=some v/\Rep K H w v
 | [],_,_,_,_,e=>by simp at e
 | w::ws,vs,i,x,h,e=>by
  rw[a0q]at h;obtain⟨v,r,rfl,h1,h2⟩:=h;cases i with
  | zero=>simp at e;subst e;exact⟨v,rfl,h1⟩
  | succ i=>simpa using Reps.get (i:=i) h2 (by simpa using e)
theorem Reps.tog {ws:List Z}{vs:List V}{i:Nat}{v:V}(h:Reps K H ws vs) (e:vs[i]?=some v):∃ w,ws[i]?=some w/\Rep K H w v:=by
 have hl:=h.length;have hi:i<ws.length:=by
  have:=(List.getElem?_eq_some_iff.mp e).1
  omega
 obtain⟨v',e',r⟩:=h.get (List.getElem?_eq_getElem hi);rw[e]at e';cases e';exact⟨_,List.getElem?_eq_getElem hi,r⟩
theorem Reps.append:∀ {ws ws':List Z}{vs vs':List V},Reps K H ws vs->Reps K H ws' vs'->Reps K H (ws++ws') (vs++vs')
 | [],_,vs,_,h,h'=>by rw[a0A]at h;subst h;exact h'
 | w::ws,_,vs,_,h,h'=>by
  rw[a0q]at h;obtain⟨v,r,rfl,h1,h2⟩:=h;exact .cons h1 (Reps.append h2 h')
theorem Reps.drop:∀ {ws:List Z}{vs:List V}(n:Nat),Reps K H ws vs->Reps K H (ws.drop n) (vs.drop n)
 | [],vs,n,h=>by rw[a0A]at h;subst h;simpa using Reps.nil
 | w::ws,vs,0,h=>h
 | w::ws,vs,n+1,h=>by
  rw[a0q]at h;obtain⟨v,r,rfl,h1,h2⟩:=h;exact Reps.drop n h2
theorem Reps.take:∀ {ws:List Z}{vs:List V}(n:Nat),Reps K H ws vs->Reps K H (ws.take n) (vs.take n)
 | [],vs,n,h=>by rw[a0A]at h;subst h;simpa using Reps.nil
 | w::ws,vs,0,h=>by simpa using Reps.nil
 | w::ws,vs,n+1,h=>by
  rw[a0q]at h;obtain⟨v,r,rfl,h1,h2⟩:=h;exact .cons h1 (Reps.take n h2)
theorem Reps.set {w:Z}{v:V}(r:Rep K H w v):∀ {ws:List Z}{vs:List V}(i:Nat),Reps K H ws vs->Reps K H (ws.set i w) (vs.set i v)
 | [],vs,i,h=>by rw[a0A]at h;subst h;simpa using Reps.nil
 | x::ws,vs,i,h=>by
  rw[a0q]at h;obtain⟨y,s,rfl,h1,h2⟩:=h;cases i with
  | zero=>exact .cons r h2
  | succ i=>exact .cons h1 (Reps.set r i h2)
theorem Reps.reverse:∀ {ws:List Z}{vs:List V},Reps K H ws vs->Reps K H ws.reverse vs.reverse
 | [],vs,h=>by rw[a0A]at h;subst h;exact Reps.nil
 | x::ws,vs,h=>by
  rw[a0q]at h;obtain⟨y,s,rfl,h1,h2⟩:=h;rw[List.reverse_cons,List.reverse_cons];exact (Reps.reverse h2).append (.cons h1 .nil)
theorem a43:∀ {ns:List Int}{vs:List V},Reps K H (ns.map Z.int) vs->vs=ns.map V.int
 | [],vs,h=>by rw[List.map_nil,a0A]at h;subst h;rfl
 | n::ns,vs,h=>by
  rw[List.map_cons,a0q]at h;obtain⟨v,r,rfl,h1,h2⟩:=h;rw[a0r]at h1;rw[h1,a43 h2];rfl
theorem a2a:∀ (ns:List Int),Reps K H (ns.map Z.int) (ns.map V.int)
 | []=>Reps.nil
 | n::ns=>.cons (by rw[a0r]) (a2a ns)
theorem Reps.one {w:Z}{vs:List V}(h:Reps K H [w] vs):∃ v,vs=[v]/\Rep K H w v:=by
 rw[a0q]at h;obtain⟨v,r,rfl,h1,h2⟩:=h;rw[a0A]at h2;exact⟨v,by rw[h2],h1⟩
theorem Reps.two {w w':Z}{vs:List V}(h:Reps K H [w,w'] vs):∃ v v',vs=[v,v']/\Rep K H w v/\Rep K H w' v':=by
 rw[a0q]at h;obtain⟨v,r,rfl,h1,h2⟩:=h;obtain⟨v',rfl,h3⟩:=h2.one;exact⟨v,v',rfl,h1,h3⟩
end
inductive O where
 | lst (ws:List Z)
 | dK (kvs:List (Key×Z))
 | ins (C dx:Addr) (fs:List (Str×Z))
 | dF (kvs:List (Key×Z))
abbrev Hq:=Addr->Option O
def put (G:Hq) (a:Addr) (o:O):Hq:=fun b=>if b=a then some o else G b
theorem a0d {G:Hq}{a:Addr}{o:O}:put G a o a=some o:=by unfold put;rw[if_pos rfl]
theorem a0I {G:Hq}{a b:Addr}{o:O}(h:b≠a):put G a o b=G b:=by unfold put;rw[if_neg h]
theorem a2n {G:Hq}{a:Addr}{o u:O}:put (put G a o) a u=put G a u:=by
 funext b;unfold put;split<;>rfl
theorem a07 {G:Hq}{a b:Addr}{o:O}(h:G a=some o) (h':G b=none):a≠b:=by
 intro e;subst e;rw[h]at h';cases h'
theorem a0p {G:Hq}{a b:Addr}{o u:O}(h:G b=some u) (n:G a=none):put G a o b=some u:=by rw[a0I (a07 h n)];exact h
def ROb (K:Fg) (H:Hp) (a:Addr):O->Prop
 | .lst ws=>∃ vs,H a=some (.lst vs)/\Reps K H ws vs
 | .dK kvs=>∃ us,H a=some (.dK us)/\us.map (·.1)=kvs.map (·.1)/\Reps K H (kvs.map (·.2)) (us.map (·.2))
 | .ins C dx fs=>∃ gs,H a=some (.ins C dx gs)/\gs.map (·.1)=fs.map (·.1)/\Reps K H (fs.map (·.2)) (gs.map (·.2))
 | .dF kvs=>∃ o us,H a=some (.frz o (.dK us))/\us.map (·.1)=kvs.map (·.1)/\Reps K H (kvs.map (·.2)) (us.map (·.2))
def RH (K:Fg) (G:Hq) (H:Hp):Prop:=∀ a o,G a=some o->ROb K H a o
section
variable {K:Fg}{H H':Hp}{G:Hq}{a p:Addr}{o:O}{u:HO}
theorem ROb.some (h:ROb K H a o):∃ u,H a=some u:=by
 cases o with
 | lst ws=>obtain⟨vs,e,_⟩:=h;exact⟨_,e⟩
 | dK kvs=>obtain⟨vs,e,_⟩:=h;exact⟨_,e⟩
 | ins C dx fs=>obtain⟨vs,e,_⟩:=h;exact⟨_,e⟩
 | dF kvs=>obtain⟨ob,vs,e,_⟩:=h;exact⟨_,e⟩
theorem ROb.stay (t:TK K H H') (e:H' a=H a) (h:ROb K H a o):ROb K H' a o:=by
 cases o with
 | lst ws=>obtain⟨vs,q,r⟩:=h;exact⟨vs,e.trans q,r.mono t⟩
 | dK kvs=>obtain⟨vs,q,n,r⟩:=h;exact⟨vs,e.trans q,n,r.mono t⟩
 | ins C dx fs=>obtain⟨vs,q,n,r⟩:=h;exact⟨vs,e.trans q,n,r.mono t⟩
 | dF kvs=>obtain⟨ob,vs,q,n,r⟩:=h;exact⟨ob,vs,e.trans q,n,r.mono t⟩
theorem RH.out (h:RH K G H) (e:H a=none):G a=none:=by
 cases q:G a with
 | none=>rfl
 | some o=>obtain⟨u,z⟩:=(h a o q).some;rw[e]at z;cases z
theorem RH.hid (h:RH K G H) (e:H p=none):RH K G (upd H p u):=fun b o q=>
 (h b o q).stay (.new e) (a0L (by rintro rfl;obtain⟨u,z⟩:=(h _ o q).some;rw[e]at z;cases z))
theorem RH.set (h:RH K G H) (t:TK K H (upd H p u)) (n:ROb K (upd H p u) p o):RH K (put G p o) (upd H p u):=fun b o' q=>by
 by_cases hb:b=p
 ·subst hb;rw[a0d]at q;cases q;exact n
 ·rw[a0I hb]at q;exact (h b o' q).stay t (a0L hb)
end
abbrev S3:=List (Option Z)
abbrev K3:=Z->Hq->Prop
abbrev C3:=S3->Hq->Prop
abbrev E3:=S3->Hq->K3->Prop
abbrev T3:=S3->Hq->(Bool->Hq->Prop)->Prop
abbrev A3:=S3->Hq->(List Z->Hq->Prop)->Prop
abbrev X3:=C3->K3->C3->C3->S3->Hq->Prop
def ROp (K:Fg) (H:Hp) (ow:Option Z) (ov:Option V):Prop:=∀ w,ow=some w->∃ v,ov=some v/\Rep K H w v
def RSt (K:Fg) (H:Hp):S3->L2.St->Prop:=Paired (ROp K H)
section
variable {K:Fg}{H H':Hp}
theorem RSt.mono (t:TK K H H'):∀ {σ:S3}{τ:L2.St},RSt K H σ τ->RSt K H' σ τ
 | _,_,.nil=>.nil
 | _,_,.cons r s=>.cons (fun w e=>let ⟨v,q,h⟩:=r w e;⟨v,q,h.mono t⟩) (RSt.mono t s)
theorem RSt.get:∀ {σ:S3}{τ:L2.St}{i:Nat}{w:Z},RSt K H σ τ->σ[i]?=some (some w)->∃ v,τ[i]?=some (some v)/\Rep K H w v
 | _,_,_,_,.nil,e=>by simp at e
 | _,_,0,w,.cons r _,e=>by
  obtain⟨v,q,h⟩:=r w (by simpa using e);exact⟨v,by rw[q];rfl,h⟩
 | _,_,i+1,w,.cons _ s,e=>by
  obtain⟨v,q,h⟩:=RSt.get (i:=i) s (by simpa using e);exact⟨v,by simpa using q,h⟩
theorem RSt.set {w:Z}{v:V}(r:Rep K H w v):∀ {σ:S3}{τ:L2.St}(i:Nat),RSt K H σ τ->RSt K H (σ.set i (some w)) (τ.set i (some v))
 | _,_,_,.nil=>.nil
 | _,_,0,.cons _ s=>.cons (fun _ e=>by cases e;exact⟨v,rfl,r⟩) s
 | _,_,i+1,.cons q s=>.cons q (RSt.set r i s)
theorem RSt.length {σ:S3}{τ:L2.St}(h:RSt K H σ τ):σ.length=τ.length:=Paired.length h
theorem RSt.nones:∀ n:Nat,RSt K H (List.replicate n none) (List.replicate n none)
 | 0=>.nil
 | n+1=>.cons (fun _ e=>nomatch e) (RSt.nones n)
theorem RSt.app:∀ {σ σ':S3}{τ τ':L2.St},RSt K H σ τ->RSt K H σ' τ'->RSt K H (σ++σ') (τ++τ')
 | _,_,_,_,.nil,h=>h
 | _,_,_,_,.cons r s,h=>.cons r (RSt.app s h)
theorem RSt.ofVals:∀ {ws:List Z}{vs:List V},Reps K H ws vs->RSt K H (ws.map some) (vs.map some)
 | [],vs,h=>by rw[a0A]at h;subst h;exact .nil
 | w::ws,vs,h=>by
  rw[a0q]at h;obtain⟨v,r,rfl,h1,h2⟩:=h;exact .cons (fun _ e=>by cases e;exact⟨v,rfl,h1⟩) (RSt.ofVals h2)
end
def a4q (N:List Str) (ws:List Z):S3:=ws.map some++List.replicate (N.length - ws.length) none
theorem RSt.start {K:Fg}{H:Hp}{N:List Str}{ws:List Z}{vs:List V}(h:Reps K H ws vs):RSt K H (a4q N ws) (L2.start N vs):=by
 unfold a4q L2.start;rw[h.length];exact (RSt.ofVals h).app (RSt.nones _)
def UpV (K:Fg) (H:Hp) (R:K3) (Q:VK):Prop:=∀ w G v H',R w G->Rep K H' w v->RH K G H'->TK K H H'->Q v H'
def UpB (K:Fg) (H:Hp) (R:Bool->Hq->Prop) (Q:Bool->Hp->Prop):Prop:=∀ b G H',R b G->RH K G H'->TK K H H'->Q b H'
def UpA (K:Fg) (H:Hp) (R:List Z->Hq->Prop) (Q:List V->Hp->Prop):Prop:=∀ ws G vs H',R ws G->Reps K H' ws vs->RH K G H'->TK K H H'->Q vs H'
def UpS (K:Fg) (H:Hp) (R:C3) (Q:L2.St->Hp->Prop):Prop:=∀ σ G τ H',R σ G->RSt K H' σ τ->RH K G H'->TK K H H'->Q τ H'
section
variable {K:Fg}{H H':Hp}
theorem UpV.mono {R:K3}{Q:VK}(h:UpV K H R Q) (t:TK K H H'):UpV K H' R Q:=fun w G v H2 q r g t2=>h w G v H2 q r g (t.trans t2)
theorem UpB.mono {R:Bool->Hq->Prop}{Q:Bool->Hp->Prop}(h:UpB K H R Q) (t:TK K H H'):UpB K H' R Q:=fun w G H2 q g t2=>h w G H2 q g (t.trans t2)
theorem UpA.mono {R:List Z->Hq->Prop}{Q:List V->Hp->Prop}(h:UpA K H R Q) (t:TK K H H'):UpA K H' R Q:=fun w G v H2 q r g t2=>h w G v H2 q r g (t.trans t2)
theorem UpS.mono {R:C3}{Q:L2.St->Hp->Prop}(h:UpS K H R Q) (t:TK K H H'):UpS K H' R Q:=fun w G v H2 q r g t2=>h w G v H2 q r g (t.trans t2)
end
def low (K:Fg) (t:E3):TE:=fun τ H Q=>∃ σ G R,RSt K H σ τ/\RH K G H/\t σ G R/\UpV K H R Q
theorem low.un {K:Fg}{t:E3}{τ:L2.St}{H:Hp}{Q:VK}{C:Prop}(z:low K t τ H Q) (f:∀ σ G R,(RSt K H σ τ)->(RH K G H)->(t σ G R)->(UpV K H R Q)->C):C:=by obtain⟨σ,G,R,q0,q1,q2,q3⟩:=z;exact f _ _ _ q0 q1 q2 q3
def lowT (K:Fg) (t:T3):TT:=fun τ H Q=>∃ σ G R,RSt K H σ τ/\RH K G H/\t σ G R/\UpB K H R Q
theorem lowT.un {K:Fg}{t:T3}{τ:L2.St}{H:Hp}{Q:Bool->Hp->Prop}{C:Prop}(z:lowT K t τ H Q) (f:∀ σ G R,(RSt K H σ τ)->(RH K G H)->(t σ G R)->(UpB K H R Q)->C):C:=by obtain⟨σ,G,R,q0,q1,q2,q3⟩:=z;exact f _ _ _ q0 q1 q2 q3
def lowA (K:Fg) (t:A3):TA:=fun τ H Q=>∃ σ G R,RSt K H σ τ/\RH K G H/\t σ G R/\UpA K H R Q
theorem lowA.un {K:Fg}{t:A3}{τ:L2.St}{H:Hp}{Q:List V->Hp->Prop}{C:Prop}(z:lowA K t τ H Q) (f:∀ σ G R,(RSt K H σ τ)->(RH K G H)->(t σ G R)->(UpA K H R Q)->C):C:=by obtain⟨σ,G,R,q0,q1,q2,q3⟩:=z;exact f _ _ _ q0 q1 q2 q3
def lowS (K:Fg) (t:X3):TS:=fun D τ H=>∃ σ G nx rt bk ct,RSt K H σ τ/\RH K G H/\t nx rt bk ct σ G/\UpS K H nx D.nx/\UpV K H rt D.rt/\UpS K H bk D.bk/\UpS K H ct D.ct
theorem lowS.un {K:Fg}{t:X3}{D:Ends}{τ:L2.St}{H:Hp}{C:Prop}(z:lowS K t D τ H) (f:∀ σ G nx rt bk ct,(RSt K H σ τ)->(RH K G H)->(t nx rt bk ct σ G)->(UpS K H nx D.nx)->(UpV K H rt D.rt)->(UpS K H bk D.bk)->(UpS K H ct D.ct)->C):C:=by obtain⟨σ,G,nx,rt,bk,ct,q0,q1,q2,q3,q4,q5,q6⟩:=z;exact f _ _ _ _ _ _ q0 q1 q2 q3 q4 q5 q6
structure QE (X:Cx) (e:Expr) (t:E3):Prop where
 p:PE X e (low X.K t)
structure QT (X:Cx) (e:Expr) (t:T3):Prop where
 p:PT X e (lowT X.K t)
structure QW (X:Cx) (e:Expr) (t:T3):Prop where
 p:PW X e (lowT X.K t)
structure QA (X:Cx) (es:List Expr) (t:A3):Prop where
 p:PA X es (lowA X.K t)
structure QS (X:Cx) (st:Stmt) (t:X3):Prop where
 p:PS X st (lowS X.K t)
structure QSs (X:Cx) (st:List Stmt) (t:X3):Prop where
 p:PSs X st (lowS X.K t)
theorem QW.qt {X:Cx}{e:Expr}{t:T3}(h:QW X e t):QT X e t:=⟨PW.pt h.p⟩
section
variable {X:Cx}{e:Expr}{es:List Expr}{st:Stmt}{sts:List Stmt}
theorem a1w {t t':TE}(h:PE X e t') (i:∀ σ H Q,t σ H Q->t' σ H Q):PE X e t:=fun pins s σ H Q I q=>h pins s σ H Q I (i σ H Q q)
theorem b2A {t t':TT}(h:PT X e t') (i:∀ σ H Q,t σ H Q->t' σ H Q):PT X e t:=fun pins s σ H Q I q=>h pins s σ H Q I (i σ H Q q)
theorem b6r {t t':TT}(h:PW X e t') (i:∀ σ H Q,t σ H Q->t' σ H Q):PW X e t:=fun w pins s σ H Q I q=>h w pins s σ H Q I (i σ H Q q)
theorem b6s {t t':TA}(h:PA X es t') (i:∀ σ H Q,t σ H Q->t' σ H Q):PA X es t:=fun pos pins s σ H Q I q=>h pos pins s σ H Q I (i σ H Q q)
theorem a30 {t t':TS}(h:PS X st t') (i:∀ D σ H,t D σ H->t' D σ H):PS X st t:=fun pins s σ H D I q=>h pins s σ H D I (i D σ H q)
theorem b0H {t t':TS}(h:PSs X sts t') (i:∀ D σ H,t D σ H->t' D σ H):PSs X sts t:=fun pins s σ H D I q=>h pins s σ H D I (i D σ H q)
end
end L3
namespace L3
open PySem PySem.Spec PyProof.Rows L2
abbrev R3:=Z->Z->Hq->K3->Prop
def low2 (K:Fg) (r:R3):R2:=fun x y H Q=>∃ a b G R,Rep K H a x/\Rep K H b y/\RH K G H/\r a b G R/\UpV K H R Q
theorem low2.un {K:Fg}{r:R3}{x y:V}{H:Hp}{Q:VK}{C:Prop}(z:low2 K r x y H Q) (f:∀ a b G R,(Rep K H a x)->(Rep K H b y)->(RH K G H)->(r a b G R)->(UpV K H R Q)->C):C:=by obtain⟨a,b,G,R,q0,q1,q2,q3,q4⟩:=z;exact f _ _ _ _ q0 q1 q2 q3 q4
def low1 (K:Fg) (r:Z->Hq->K3->Prop):V->Hp->VK->Prop:=fun x H Q=>∃ a G R,Rep K H a x/\RH K G H/\r a G R/\UpV K H R Q
theorem low1.un {K:Fg}{r:Z->Hq->K3->Prop}{x:V}{H:Hp}{Q:VK}{C:Prop}(z:low1 K r x H Q) (f:∀ a G R,(Rep K H a x)->(RH K G H)->(r a G R)->(UpV K H R Q)->C):C:=by obtain⟨a,G,R,q0,q1,q2,q3⟩:=z;exact f _ _ _ q0 q1 q2 q3
def lowC (K:Fg) (r:List Z->Hq->K3->Prop):List V->Hp->VK->Prop:=fun xs H Q=>∃ ws G R,Reps K H ws xs/\RH K G H/\r ws G R/\UpV K H R Q
theorem lowC.un {K:Fg}{r:List Z->Hq->K3->Prop}{xs:List V}{H:Hp}{Q:VK}{C:Prop}(z:lowC K r xs H Q) (f:∀ ws G R,(Reps K H ws xs)->(RH K G H)->(r ws G R)->(UpV K H R Q)->C):C:=by obtain⟨ws,G,R,q0,q1,q2,q3⟩:=z;exact f _ _ _ q0 q1 q2 q3
def lowM (K:Fg) (r:Z->List Z->Hq->K3->Prop):V->List V->Hp->VK->Prop:=fun x xs H Q=>∃ w ws G R,Rep K H w x/\Reps K H ws xs/\RH K G H/\r w ws G R/\UpV K H R Q
theorem lowM.un {K:Fg}{r:Z->List Z->Hq->K3->Prop}{x:V}{xs:List V}{H:Hp}{Q:VK}{C:Prop}(z:lowM K r x xs H Q) (f:∀ w ws G R,(Rep K H w x)->(Reps K H ws xs)->(RH K G H)->(r w ws G R)->(UpV K H R Q)->C):C:=by obtain⟨w,ws,G,R,q0,q1,q2,q3,q4⟩:=z;exact f _ _ _ _ q0 q1 q2 q3 q4
def OpQ (X:Cx) (f:Value->Value->Sem Value) (r:R3):Prop:=OpR X f (low2 X.K r)
def UnQ (X:Cx) (f:Value->Sem Value) (r:Z->Hq->K3->Prop):Prop:=UnR X f (low1 X.K r)
def a3h (X:Cx) (f:Value) (r:List Z->Hq->K3->Prop):Prop:=CallR X f (lowC X.K r)
def IxQ (X:Cx) (r:R3):Prop:=IxR X (low2 X.K r)
def MtQ (X:Cx) (id:String) (r:Z->List Z->Hq->K3->Prop):Prop:=MtR X id (lowM X.K r)
theorem a6X {X:Cx}{f:Value->Value->Sem Value}{r r':R2}(h:OpR X f r') (i:∀ x y H Q,r x y H Q->r' x y H Q):OpR X f r:=fun pins s σ H x y v u Q I rx ry q=>h pins s σ H x y v u Q I rx ry (i x y H Q q)
theorem b8B {X:Cx}{f:Value->Sem Value}{r r':V->Hp->VK->Prop}(h:UnR X f r') (i:∀ x H Q,r x H Q->r' x H Q):UnR X f r:=fun pins s σ H x v Q I rx q=>h pins s σ H x v Q I rx (i x H Q q)
theorem a1H {X:Cx}{f:Value}{r r':List V->Hp->VK->Prop}(h:CallR X f r') (i:∀ xs H Q,r xs H Q->r' xs H Q):CallR X f r:=fun pins s σ H xs us Q I rx q=>h pins s σ H xs us Q I rx (i xs H Q q)
theorem b6t {X:Cx}{r r':R2}(h:IxR X r') (i:∀ x y H Q,r x y H Q->r' x y H Q):IxR X r:=fun a b pins s σ H x y v u Q I rx ry q=>h a b pins s σ H x y v u Q I rx ry (i x y H Q q)
theorem a7Q {X:Cx}{id:String}{r r':V->List V->Hp->VK->Prop}(h:MtR X id r') (i:∀ x xs H Q,r x xs H Q->r' x xs H Q):MtR X id r:=fun pins s σ H x xs v us Q I rx rs q=>h pins s σ H x xs v us Q I rx rs (i x xs H Q q)
def uVar (i:Nat):E3:=fun σ G R=>∃ w,σ[i]?=some (some w)/\R w G
def uC (w:Z):E3:=fun _ G R=>R w G
section
variable {X:Cx}{e a b c:Expr}{pos:Pos}{ta tb tc:E3}
theorem a0c {i:Nat}(h:PE X e (tVar i)):QE X e (uVar i):=⟨a1w h fun τ H Q ⟨σ,G,R,hs,hg,⟨w,e,q⟩,up⟩=>by
 obtain⟨v,e',r⟩:=hs.get e;exact⟨v,e',up w G v H q r hg (.refl _ _)⟩⟩
theorem a9y {v:V}{w:Z}(h:PE X e (tC v)) (hr:∀ H,Rep X.K H w v):QE X e (uC w):=⟨a1w h fun τ H Q hx=>hx.un fun σ G R hs hg q up=>up w G v H q (hr H) hg (.refl _ _)⟩
theorem a0h {i j pos}:QE X (.Constant (.int i) j pos) (uC (.int i)):=a9y b5C fun _=>by rw[a0r]
theorem q_bl {b j pos}:QE X (.Constant (.bool b) j pos) (uC (.bl b)):=a9y b8c fun _=>by rw[a0M]
theorem a2o {j pos}:QE X (.Constant .none j pos) (uC .non):=a9y b5D fun _=>by rw[a1b]
theorem a3z {x j pos}:QE X (.Constant (.str x) j pos) (uC (.str x)):=a9y b5E fun _=>by rw[a0w]
theorem b3y {i:Int}(h:PE X e (tC (.int i))):QE X e (uC (.int i)):=a9y h fun _=>by rw[a0r]
theorem q_ty {n:String}(h:PE X e (tC (.ty n))):QE X e (uC (.ty n)):=a9y h fun _=>by rw[a8u]
def uOp (r:R3) (ta tb:E3):E3:=fun σ G R=>ta σ G fun x G1=>tb σ G1 fun y G2=>r x y G2 R
def uUn (r:Z->Hq->K3->Prop) (ta:E3):E3:=fun σ G R=>ta σ G fun x G1=>r x G1 R
theorem a8v {K:Fg}{r:R3}{τ:L2.St}{H:Hp}{Q:VK}(h:low K (uOp r ta tb) τ H Q):tOp (low2 K r) (low K ta) (low K tb) τ H Q:=by
 obtain⟨σ,G,R,hs,hg,h,up⟩:=h;refine⟨σ,G,_,hs,hg,h,fun w G1 v H1 h1 rv hg1 t1=>?_⟩;refine⟨σ,G1,_,hs.mono t1,hg1,h1,fun w' G2 v' H2 h2 rv' hg2 t2=>?_⟩;exact⟨w,w',G2,R,rv.mono t2,rv',hg2,h2,up.mono (t1.trans t2)⟩
theorem b6u {K:Fg}{r:Z->Hq->K3->Prop}{τ:L2.St}{H:Hp}{Q:VK}(h:low K (uUn r ta) τ H Q):tUn (low1 K r) (low K ta) τ H Q:=by
 obtain⟨σ,G,R,hs,hg,h,up⟩:=h;exact⟨σ,G,_,hs,hg,h,fun w G1 v H1 h1 rv hg1 t1=>⟨w,G1,R,rv,hg1,h1,up.mono t1⟩⟩
theorem q_op {op:Operator}{r:R3}(ho:OpQ X (binaryOp op) r) (ha:QE X a ta) (hb:QE X b tb):QE X (.BinOp a op b pos) (uOp r ta tb):=⟨a1w (b8k ho ha.p hb.p) fun _ _ _=>a8v⟩
theorem q_un {op:UnaryOp}{r:Z->Hq->K3->Prop}(ho:UnQ X (unaryOp op) r) (ha:QE X a ta):QE X (.UnaryOp op a pos) (uUn r ta):=⟨a1w (b8l ho ha.p) fun _ _ _=>b6u⟩
theorem a7R {op:CmpOp}{r:R3}(ho:OpQ X (compareOp op) r) (ha:QE X a ta) (hb:QE X b tb) (hm:behindInMarks op b=false):QE X (.Compare a [op] [b] pos) (uOp r ta tb):=⟨a1w (b4h ho ha.p hb.p hm) fun _ _ _=>a8v⟩
def b2B (t:E3):T3:=fun σ G R=>t σ G fun x G1=>∃ k,x=.bl k/\R k G1
theorem a8w {K:Fg}{τ:L2.St}{H:Hp}{Q:Bool->Hp->Prop}(h:lowT K (b2B ta) τ H Q):low K ta τ H fun x H'=>∃ k,x=.bl k/\Q k H':=by
 obtain⟨σ,G,R,hs,hg,h,up⟩:=h;refine⟨σ,G,_,hs,hg,h,fun w G1 v H1 ⟨k,e,h1⟩ rv hg1 t1=>?_⟩;subst e;rw[a0M]at rv;exact⟨k,rv,up _ _ _ h1 hg1 t1⟩
theorem a0v {op:CmpOp}{r:R3}(ho:OpQ X (compareOp op) r) (ha:QE X a ta) (hb:QE X b tb) (hm:behindInMarks op b=false):QT X (.Compare a [op] [b] pos) (b2B (uOp r ta tb)):=⟨b2A (b4i ho ha.p hb.p hm) fun _ _ _ h=>a8v (a8w h)⟩
def b0I (r r':R3) (ta tb tc:E3):E3:=fun σ G R=>ta σ G fun x G1=>tb σ G1 fun y G2=>r x y G2 fun z G3=>∃ k,z=.bl k/\(if k=true then tc σ G3 fun w G4=>r' y w G4 R else R (.bl false) G3)
theorem b0J {K:Fg}{r r':R3}{τ:L2.St}{H:Hp}{Q:VK}(h:low K (b0I r r' ta tb tc) τ H Q):b3r (low2 K r) (low2 K r') (low K ta) (low K tb) (low K tc) τ H Q:=by
 obtain⟨σ,G,R,hs,hg,h,up⟩:=h;refine⟨σ,G,_,hs,hg,h,fun w G1 v H1 h1 rv hg1 t1=>?_⟩;refine⟨σ,G1,_,hs.mono t1,hg1,h1,fun w' G2 v' H2 h2 rv' hg2 t2=>?_⟩;refine⟨w,w',G2,_,rv.mono t2,rv',hg2,h2,fun z G3 vz H3 ⟨k,ek,h3⟩ rz hg3 t3=>?_⟩;subst ek;rw[a0M]at rz;refine⟨k,rz,?_⟩;cases k with
 | false=>exact up _ _ _ _ (by simpa using h3) (by rw[a0M]) hg3 ((t1.trans t2).trans t3)
 | true=>
  rw[if_pos rfl]at h3 ⊢;refine⟨σ,G3,_,hs.mono ((t1.trans t2).trans t3),hg3,h3,fun w4 G4 v4 H4 h4 r4 hg4 t4=>?_⟩;exact⟨w',w4,G4,R,rv'.mono (t3.trans t4),r4,hg4,h4,up.mono (((t1.trans t2).trans t3).trans t4)⟩
theorem b0K {op op':CmpOp}{r r':R3}(ho:OpQ X (compareOp op) r) (ho':OpQ X (compareOp op') r') (ha:QE X a ta) (hb:QE X b tb) (hc:QE X c tc)
  (hm:lastMarks [op,op'] [b,c]=false:=by with_unfolding_all rfl):QE X (.Compare a [op,op'] [b,c] pos) (b0I r r' ta tb tc):=⟨a1w (b2a ho ho' ha.p hb.p hc.p hm) fun _ _ _=>b0J⟩
def uAnd (t u:T3):T3:=fun σ G R=>t σ G fun c G1=>if c=true then u σ G1 R else R false G1
def uOr (t u:T3):T3:=fun σ G R=>t σ G fun c G1=>if c=true then R true G1 else u σ G1 R
def uNot (t:T3):T3:=fun σ G R=>t σ G fun c G1=>R (!c) G1
variable {t u:T3}{rest:List Expr}
theorem a5N (ha:QT X a t):QW X (.BoolOp .And [a] pos) t:=⟨b4a ha.p⟩
theorem a44 (ha:QT X a t):QW X (.BoolOp .Or [a] pos) t:=⟨b5G ha.p⟩
theorem a7S (ha:QT X a t) (hb:QW X (.BoolOp .And (b::rest) pos) u):QW X (.BoolOp .And (a::b::rest) pos) (uAnd t u):=⟨b6r (b5H ha.p hb.p) fun τ H Q hx=>hx.un fun σ G R hs hg h up=>by
 refine⟨σ,G,_,hs,hg,h,fun k G1 H1 h1 hg1 t1=>?_⟩;cases k with
 | false=>exact up _ _ _ (by simpa using h1) hg1 t1
 | true=>rw[if_pos rfl]at h1 ⊢;exact⟨σ,G1,R,hs.mono t1,hg1,h1,up.mono t1⟩⟩
theorem q_or (ha:QT X a t) (hb:QW X (.BoolOp .Or (b::rest) pos) u):QW X (.BoolOp .Or (a::b::rest) pos) (uOr t u):=⟨b6r (b8d ha.p hb.p) fun τ H Q hx=>hx.un fun σ G R hs hg h up=>by
 refine⟨σ,G,_,hs,hg,h,fun k G1 H1 h1 hg1 t1=>?_⟩;cases k with
 | true=>exact up _ _ _ (by simpa using h1) hg1 t1
 | false=>rw[if_neg (by decide)]at h1 ⊢;exact⟨σ,G1,R,hs.mono t1,hg1,h1,up.mono t1⟩⟩
theorem a2D (ha:QT X a t):QT X (.UnaryOp .Not a pos) (uNot t):=⟨b2A (b5I ha.p) fun τ H Q hx=>hx.un fun σ G R hs hg h up=>
 ⟨σ,G,_,hs,hg,h,fun k G1 H1 h1 hg1 t1=>up _ _ _ h1 hg1 t1⟩⟩
def b6v (ta tb:E3):E3:=fun σ G R=>ta σ G fun x G1=>∃ c,x=.bl c/\if c=true then tb σ G1 R else R (.bl false) G1
def uOrV (ta tb:E3):E3:=fun σ G R=>ta σ G fun x G1=>∃ c,x=.bl c/\if c=true then R (.bl true) G1 else tb σ G1 R
theorem b2C {op} (h:QE X a ta):QE X (.BoolOp op [a] pos) ta:=⟨b5J h.p⟩
theorem b0L (ha:QE X a ta) (hb:QE X (.BoolOp .And (b::rest) pos) tb):QE X (.BoolOp .And (a::b::rest) pos) (b6v ta tb):=⟨a1w (b5K ha.p hb.p) fun τ H Q hx=>hx.un fun σ G R hs hg h up=>by
 refine⟨σ,G,_,hs,hg,h,fun x G1 v H1 ⟨k,ek,h1⟩ rv hg1 t1=>?_⟩;subst ek;rw[a0M]at rv;refine⟨k,rv,?_⟩;cases k with
 | false=>exact up _ _ _ _ (by simpa using h1) (by rw[a0M]) hg1 t1
 | true=>rw[if_pos rfl]at h1 ⊢;exact⟨σ,G1,R,hs.mono t1,hg1,h1,up.mono t1⟩⟩
theorem b8C (ha:QE X a ta) (hb:QE X (.BoolOp .Or (b::rest) pos) tb):QE X (.BoolOp .Or (a::b::rest) pos) (uOrV ta tb):=⟨a1w (b8f ha.p hb.p) fun τ H Q hx=>hx.un fun σ G R hs hg h up=>by
 refine⟨σ,G,_,hs,hg,h,fun x G1 v H1 ⟨k,ek,h1⟩ rv hg1 t1=>?_⟩;subst ek;rw[a0M]at rv;refine⟨k,rv,?_⟩;cases k with
 | true=>exact up _ _ _ _ (by simpa using h1) (by rw[a0M]) hg1 t1
 | false=>rw[if_neg (by decide)]at h1 ⊢;exact⟨σ,G1,R,hs.mono t1,hg1,h1,up.mono t1⟩⟩
def uIf (t:T3) (ta tb:E3):E3:=fun σ G R=>t σ G fun c G1=>if c=true then ta σ G1 R else tb σ G1 R
theorem q_if (hc:QT X c t) (ha:QE X a ta) (hb:QE X b tb):QE X (.IfExp c a b pos) (uIf t ta tb):=⟨a1w (b17 hc.p ha.p hb.p) fun τ H Q hx=>hx.un fun σ G R hs hg h up=>by
 refine⟨σ,G,_,hs,hg,h,fun k G1 H1 h1 hg1 t1=>?_⟩;cases k with
 | true=>rw[if_pos rfl]at h1 ⊢;exact⟨σ,G1,R,hs.mono t1,hg1,h1,up.mono t1⟩
 | false=>rw[if_neg (by decide)]at h1 ⊢;exact⟨σ,G1,R,hs.mono t1,hg1,h1,up.mono t1⟩⟩
def tru:Z->Hq->(Bool->Hq->Prop)->Prop
 | .non,G,R=>R false G
 | .bl b,G,R=>R b G
 | .int i,G,R=>R (i != 0) G
 | .str y,G,R=>y.length≤sizeLine/\R ((y.length:Int) != 0) G
 | .tup ws,G,R=>R (!ws.isEmpty) G
 | .scr _ ns,G,R=>R (!ns.isEmpty) G
 | .ref p,G,R=>(∃ ws,G p=some (.lst ws)/\R (!ws.isEmpty) G)\/∃ kvs,G p=some (.dK kvs)/\R (!kvs.isEmpty) G
 | .ty _,_,_=>False
def uTru (ta:E3):T3:=fun σ G R=>ta σ G fun x G1=>tru x G1 R
theorem a2p {α β:Type}{a:List α}{b:List β}(h:a.length=b.length):a.isEmpty=b.isEmpty:=by
 cases a<;>cases b<;>simp_all
theorem b4u {K:Fg}{w:Z}{v:V}{G:Hq}{H:Hp}{R:Bool->Hq->Prop}{Q:Bool->Hp->Prop}(h:tru w G R) (r:Rep K H w v) (hg:RH K G H) (up:UpB K H R Q):∃ k,TruV K v H k/\Q k H:=by
 cases w with
 | non=>rw[a1b]at r;subst r;exact⟨_,rfl,up _ _ _ h hg (.refl _ _)⟩
 | bl b=>rw[a0M]at r;subst r;exact⟨_,rfl,up _ _ _ h hg (.refl _ _)⟩
 | int i=>rw[a0r]at r;subst r;exact⟨_,rfl,up _ _ _ h hg (.refl _ _)⟩
 | str y=>rw[a0w]at r;subst r;exact⟨_,⟨h.1,rfl⟩,up _ _ _ h.2 hg (.refl _ _)⟩
 | ty n=>exact False.elim h
 | scr a ns=>rw[a12]at r;obtain⟨rfl,f⟩:=r;exact⟨!ns.isEmpty,.inl ⟨_,f.sq,by rw[a2p (List.length_map ..).symm]⟩,up _ _ _ h hg (.refl _ _)⟩
 | tup ws=>
  rw[a01]at r;obtain⟨a,vs,rfl,e,rs⟩:=r;exact⟨!ws.isEmpty,.inr (.inl ⟨vs,SqT.of e,by rw[a2p rs.length]⟩),up _ _ _ h hg (.refl _ _)⟩
 | ref p=>
  rw[a0m]at r;subst r;rcases h with ⟨ws,e,h⟩ | ⟨kvs,e,h⟩
  ·obtain⟨vs,e',rs⟩:=hg p _ e;exact⟨_,.inl ⟨vs,SqL.of e',by rw[<- a2p rs.length]⟩,up _ _ _ h hg (.refl _ _)⟩
  ·obtain⟨us,e',hn,rs⟩:=hg p _ e;exact⟨_,.inr (.inr ⟨us,e',by rw[a2p (show kvs.length=us.length by rw[<- List.length_map (f:=(·.2)) (as:=kvs),rs.length,List.length_map])]⟩),up _ _ _ h hg (.refl _ _)⟩
theorem b6w (ha:QE X a ta) (he:∀ whole,isTrue a X.env whole=(do let v <- whole;standAt a.pos;holding [v] (truthy v))):QT X a (uTru ta):=⟨b2A (b2b ha.p he) fun τ H Q hx=>hx.un fun σ G R hs hg h up=>
 ⟨σ,G,_,hs,hg,h,fun w G1 v H1 h1 rv hg1 t1=>b4u h1 rv hg1 (up.mono t1)⟩⟩
theorem a23 (ha:QE X a ta) (he:∀ whole,isTrue a X.env whole=(do let v <- whole;standAt a.pos;holding [v] (truthy v)):=by intro _;rfl):QT X a (b2B ta):=⟨b2A (b5F ha.p he) fun _ _ _ h=>a8w h⟩
end
section
variable {env:Env}{es:List Expr}{pos:Pos}
theorem a0e {c k p}:starEach (.Constant c k p::es) env=(false,eval (.Constant c k p) env)::starEach es env:=rfl
theorem a0a {x p}:starEach (.Name x p::es) env=(false,eval (.Name x p) env)::starEach es env:=rfl
theorem a0N {a o b p}:starEach (.BinOp a o b p::es) env=(false,eval (.BinOp a o b p) env)::starEach es env:=rfl
theorem a5O {a o b p}:starEach (.Compare a o b p::es) env=(false,eval (.Compare a o b p) env)::starEach es env:=rfl
theorem a6h {a p}:starEach (.List a p::es) env=(false,eval (.List a p) env)::starEach es env:=rfl
theorem a4M {a k p}:starEach (.Tuple a k p::es) env=(false,eval (.Tuple a k p) env)::starEach es env:=rfl
theorem a0l {a b p}:starEach (.Subscript a b p::es) env=(false,eval (.Subscript a b p) env)::starEach es env:=rfl
theorem a1x {a b p}:starEach (.Attribute a b p::es) env=(false,eval (.Attribute a b p) env)::starEach es env:=rfl
theorem a0E {a b c p}:starEach (.Call a b c p::es) env=(false,eval (.Call a b c p) env)::starEach es env:=rfl
theorem a1m {a b c p}:starEach (.ListComp a b c p::es) env=(false,eval (.ListComp a b c p) env)::starEach es env:=rfl
theorem a0j:(backTo pos (starEach [] env)).any (·.1)=false:=rfl
theorem a0g {e:Expr}(h:starEach (e::es) env=(false,eval e env)::starEach es env) (r:(backTo pos (starEach es env)).any (·.1)=false):(backTo pos (starEach (e::es) env)).any (·.1)=false:=by
 rw[h]
 show (false||(backTo pos (starEach es env)).any (·.1))=false
 rw[r];rfl
end
section
variable {X:Cx}{e a b:Expr}{es:List Expr}{pos p2:Pos}{te ta tb:E3}{t:A3}
theorem q_ix {r:R3}(hr:IxQ X r) (ha:QE X a ta) (hb:QE X b tb) (hs:b0u b):QE X (.Subscript a b pos) (uOp r ta tb):=⟨a1w (b8v hr ha.p hb.p hs) fun _ _ _=>a8v⟩
abbrev O3:=S3->Hq->(Option Int->Hq->Prop)->Prop
def b0M:O3:=fun _ G R=>R none G
def b6x (t:E3):O3:=fun σ G R=>t σ G fun x G1=>∃ i,x=.int i/\R (some i) G1
def lowO (K:Fg) (t:O3):TO:=fun τ H Q=>∃ σ G R,RSt K H σ τ/\RH K G H/\t σ G R/\∀ o G' H',R o G'->RH K G' H'->TK K H H'->Q o H'
theorem lowO.un {K:Fg}{t:O3}{τ:L2.St}{H:Hp}{Q:Option Int->Hp->Prop}{C:Prop}(z:lowO K t τ H Q) (f:∀ σ G R,(RSt K H σ τ)->(RH K G H)->(t σ G R)->(∀ o G' H',R o G'->RH K G' H'->TK K H H'->Q o H')->C):C:=by obtain⟨σ,G,R,q0,q1,q2,q3⟩:=z;exact f _ _ _ q0 q1 q2 q3
def QO (X:Cx) (e:Option Expr) (t:O3):Prop:=PO X e (lowO X.K t)
theorem a2q:QO X none b0M:=fun pins s τ H Q I ⟨σ,G,R,hs,hg,h,up⟩=>b4o pins s τ H Q I (up _ _ _ h hg (.refl _ _))
theorem a2S (h:QE X e te):QO X (some e) (b6x te):=fun pins s τ H Q I ⟨σ,G,R,hs,hg,q,up⟩=>b4p h.p pins s τ H Q I ⟨σ,G,_,hs,hg,q,fun w G1 v H1 ⟨i,ei,h1⟩ rv hg1 t1=>by
 subst ei;rw[a0r]at rv;exact⟨i,rv,up _ _ _ h1 hg1 t1⟩⟩
abbrev L3r:=Z->Option Int->Option Int->Hq->K3->Prop
def lowL (K:Fg) (r:L3r):V->Option Int->Option Int->Hp->VK->Prop:=fun x lo hi H Q=>∃ w G R,Rep K H w x/\RH K G H/\r w lo hi G R/\UpV K H R Q
theorem lowL.un {K:Fg}{r:L3r}{x:V}{lo hi:Option Int}{H:Hp}{Q:VK}{C:Prop}(z:lowL K r x lo hi H Q) (f:∀ w G R,(Rep K H w x)->(RH K G H)->(r w lo hi G R)->(UpV K H R Q)->C):C:=by obtain⟨w,G,R,q0,q1,q2,q3⟩:=z;exact f _ _ _ q0 q1 q2 q3
def SlQ (X:Cx) (r:L3r):Prop:=SlR X (lowL X.K r)
theorem b8D {r r':V->Option Int->Option Int->Hp->VK->Prop}(h:SlR X r') (i:∀ x lo hi H Q,r x lo hi H Q->r' x lo hi H Q):SlR X r:=fun pins s σ H x v vl vu lo hi sl Q I rx hs pl pu q=>h pins s σ H x v vl vu lo hi sl Q I rx hs pl pu (i _ _ _ _ _ q)
def uSl (r:L3r) (te:E3) (tl th:O3):E3:=fun σ G R=>te σ G fun x G1=>tl σ G1 fun l G2=>th σ G2 fun u G3=>r x l u G3 R
theorem a2r {r:L3r}{lo hi:Option Expr}{tl th:O3}(hr:SlQ X r) (he:QE X e te) (hl:QO X lo tl) (hu:QO X hi th):QE X (.Subscript e (.Slice lo hi none p2) pos) (uSl r te tl th):=⟨a1w (b2i hr he.p hl hu) fun τ H Q hx=>hx.un fun σ G R hs hg h up=>
 ⟨σ,G,_,hs,hg,h,fun w G1 v H1 h1 rv hg1 t1=>⟨σ,G1,_,hs.mono t1,hg1,h1,fun l G2 H2 h2 hg2 t2=>⟨σ,G2,_,hs.mono (t1.trans t2),hg2,h2,fun u G3 H3 h3 hg3 t3=>
  ⟨w,G3,R,rv.mono (t2.trans t3),hg3,h3,up.mono ((t1.trans t2).trans t3)⟩⟩⟩⟩⟩
def uNil:A3:=fun _ G R=>R [] G
def b6y (ta:E3) (tr:A3):A3:=fun σ G R=>ta σ G fun x G1=>tr σ G1 fun xs G2=>R (x::xs) G2
theorem a0i:QA X [] uNil:=⟨b6s b3s fun τ H Q hx=>hx.un fun σ G R hs hg h up=>up _ _ _ _ h .nil hg (.refl _ _)⟩
theorem a0b (ha:QE X e te) (hr:QA X es t) (hs:starEach (e::es) X.env=(false,eval e X.env)::starEach es X.env:=by rfl):QA X (e::es) (b6y te t):=⟨b6s (b0o ha.p hr.p hs) fun τ H Q hx=>hx.un fun σ G R hs hg h up=>
 ⟨σ,G,_,hs,hg,h,fun w G1 v H1 h1 rv hg1 t1=>⟨σ,G1,_,hs.mono t1,hg1,h1,fun ws G2 vs H2 h2 rs hg2 t2=>up _ _ _ _ h2 (.cons (rv.mono t2) rs) hg2 (t1.trans t2)⟩⟩⟩
def uTup (t:A3):E3:=fun σ G R=>t σ G fun xs G1=>xs.length≤sizeLine/\R (.tup xs) G1
def uLst (t:A3):E3:=fun σ G R=>t σ G fun xs G1=>xs.length≤sizeLine/\∀ p,G1 p=none->R (.ref p) (put G1 p (.lst xs))
theorem a13 {x1} (h:QA X es t):QE X (.Tuple es x1 pos) (uTup t):=⟨a1w (b52 h.p) fun τ H Q hx=>hx.un fun σ G R hs hg h up=>
 ⟨σ,G,_,hs,hg,h,fun ws G1 vs H1 ⟨hz,h1⟩ rv hg1 t1=>⟨by rw[<- rv.length];exact hz,fun p hp=>up _ _ _ _ h1 (by rw[a01];exact⟨p,vs,rfl,a0C,rv.mono (.new hp)⟩) (hg1.hid hp) (t1.trans (.new hp))⟩⟩⟩
theorem a1e {K:Fg}{H:Hp}{p:Addr}{ws:List Z}{vs:List V}(r:Reps K H ws vs) (t:TK K H (upd H p (.lst vs))):ROb K (upd H p (.lst vs)) p (.lst ws):=⟨vs,a0C,r.mono t⟩
theorem a2L (h:QA X es t):QE X (.List es pos) (uLst t):=⟨a1w (b53 h.p) fun τ H Q hx=>hx.un fun σ G R hs hg h up=>
 ⟨σ,G,_,hs,hg,h,fun ws G1 vs H1 ⟨hz,h1⟩ rv hg1 t1=>⟨by rw[<- rv.length];exact hz,fun p hp=>up _ _ _ _ (h1 p (hg1.out hp)) (by rw[a0m]) (hg1.set (.new hp) (a1e rv (.new hp))) (t1.trans (.new hp))⟩⟩⟩
def uCB (r:List Z->Hq->K3->Prop) (t:A3):E3:=fun σ G R=>t σ G fun ws G1=>r ws G1 R
theorem b3z {K:Fg}{r:List Z->Hq->K3->Prop}{τ:L2.St}{H:Hp}{Q:VK}(h:low K (uCB r t) τ H Q):tCB (lowC K r) (lowA K t) τ H Q:=by
 obtain⟨σ,G,R,hs,hg,h,up⟩:=h;exact⟨σ,G,_,hs,hg,h,fun ws G1 vs H1 h1 rs hg1 t1=>⟨ws,G1,R,rs,hg1,h1,up.mono t1⟩⟩
variable {x:Str}{p:Pos}{id T:String}{r:List Z->Hq->K3->Prop}
theorem a0G (hc:a3h X (.builtin id) r) (hg:Gl X x) (hm:X.mg x=none) (hv:bootBuiltins x=some (.builtin id)) (ha:QA X (e::es) t) (hn:x≠"__name__":=by decide) (hdb:(x==("__debug__":Str))=false:=by decide)
  (he:starEach (e::es) X.env=(false,eval e X.env)::starEach es X.env:=by rfl) (hpl:(backTo pos (starEach es X.env)).any (·.1)=false:=by rfl):QE X (.Call (.Name x p) (e::es) [] pos) (uCB r t):=⟨a1w (a8q hc hg hm hv ha.p hn hdb he hpl) fun _ _ _=>b3z⟩
theorem b2D (hc:a3h X (.type T) r) (hg:Gl X x) (hm:X.mg x=none) (hv:bootBuiltins x=some (.type T)) (ha:QA X (e::es) t) (hn:x≠"__name__":=by decide) (hdb:(x==("__debug__":Str))=false:=by decide)
  (he:starEach (e::es) X.env=(false,eval e X.env)::starEach es X.env:=by rfl) (hpl:(backTo pos (starEach es X.env)).any (·.1)=false:=by rfl):QE X (.Call (.Name x p) (e::es) [] pos) (uCB r t):=⟨a1w (a6R hc hg hm hv ha.p hn hdb he hpl) fun _ _ _=>b3z⟩
def tyZ (T:String) (x:Z) (G:Hq):Prop:=match x with
 | .str _=>T="str"
 | .int _=>T="int"
 | .ref p=>(T="list"/\∃ ws,G p=some (.lst ws))\/(T="dict"/\∃ kvs,G p=some (.dK kvs)\/G p=some (.dF kvs))
 | .scr _ _=>T="list"
 | _=>False
theorem b0N {K:Fg}{G:Hq}{H:Hp}{w:Z}{v:V}(h:tyZ T w G) (r:Rep K H w v) (hg:RH K G H):tyV K T v H:=by
 cases w with
 | str y=>rw[a0w]at r;subst r;exact h
 | int y=>rw[a0r]at r;subst r;exact h
 | ref q=>
  rw[a0m]at r;subst r;rcases h with ⟨e,ws,g⟩ | ⟨e,kvs,g⟩
  ·obtain⟨vs,e',_⟩:=hg q _ g;exact .inl ⟨e,vs,SqL.of e'⟩
  ·rcases g with g | g
   ·obtain⟨vs,e',_⟩:=hg q _ g;exact .inr (.inr (.inl ⟨e,.inl ⟨vs,e'⟩⟩))
   ·obtain⟨ob,vs,e',_⟩:=hg q _ g;exact .inr (.inr (.inl ⟨e,.inr (.inr ⟨ob,vs,e'⟩)⟩))
 | scr q ns=>rw[a12]at r;obtain⟨rfl,f⟩:=r;exact .inl ⟨h,_,f.sq⟩
 | _=>exact False.elim h
def uBM0 (T:String) (r:Z->List Z->Hq->K3->Prop) (to:E3):E3:=fun σ G R=>to σ G fun x G1=>tyZ T x G1/\r x [] G1 R
def uBM (T:String) (r:Z->List Z->Hq->K3->Prop) (to:E3) (t:A3):E3:=fun σ G R=>to σ G fun x G1=>tyZ T x G1/\t σ G1 fun xs G2=>r x xs G2 R
variable {o:Expr}{to:E3}{name:Str}{apos cpos:Pos}{rm:Z->List Z->Hq->K3->Prop}
theorem b8E (pa:PlainAttrs T) (slot:Slot T name id) (hty:typeOf (.builtin id)=pure (.type "method_descriptor")) (hm:MtQ X id rm) (ho:QE X o to)
  (hbase:attributeBase o name X.env (eval o X.env)=eval o X.env:=by rfl) (hline:(apos.endLine==cpos.line)=true:=by rfl):QE X (.Call (.Attribute o name apos) [] [] cpos) (uBM0 T rm to):=⟨a1w (b59 pa slot hty hm ho.p hbase hline) fun τ H Q hx=>hx.un fun σ G R hs hg h up=>⟨σ,G,_,hs,hg,h,fun w G1 v H1 ⟨ty,h1⟩ rv hg1 t1=>⟨b0N ty rv hg1,w,[],G1,R,rv,.nil,hg1,h1,up.mono t1⟩⟩⟩
theorem q_bm (pa:PlainAttrs T) (slot:Slot T name id) (hty:typeOf (.builtin id)=pure (.type "method_descriptor")) (hm:MtQ X id rm) (ho:QE X o to) (ha:QA X (e::es) t)
  (hbase:attributeBase o name X.env (eval o X.env)=eval o X.env:=by rfl)
  (hfew:((backTo cpos (starEach (e::es) X.env)).all (fun x=>!x.1)&&(backToKw cpos (keywordEach [] X.env)).all (fun x=>x.1.isSome)
   && decide ((e::es).length+([]:List Keyword).length+(if ([]:List Keyword).isEmpty then 0 else 1)<30))=true:=by rfl)
  (hline:(apos.endLine==cpos.line)=true:=by rfl) (hs:starEach (e::es) X.env=(false,eval e X.env)::starEach es X.env:=by rfl) (hplain:(backTo cpos (starEach es X.env)).any (·.1)=false:=by rfl) :
  QE X (.Call (.Attribute o name apos) (e::es) [] cpos) (uBM T rm to t):=⟨a1w (b8x pa slot hty hm ho.p ha.p hbase hfew hline hs hplain) fun τ H Q hx=>hx.un fun σ G R hs hg h up=>
  ⟨σ,G,_,hs,hg,h,fun w G1 v H1 ⟨ty,h1⟩ rv hg1 t1=>⟨b0N ty rv hg1,σ,G1,_,hs.mono t1,hg1,h1,fun ws G2 vs H2 h2 rs hg2 t2=>⟨w,ws,G2,R,rv.mono t2,rs,hg2,h2,up.mono (t1.trans t2)⟩⟩⟩⟩
abbrev P3:=List Z->Hq->K3->Prop
def lowP (K:Fg) (sp:P3):Sp:=fun vs H Q _=>lowC K sp vs H Q
def b6z (sp:P3) (t:A3):E3:=fun σ G R=>t σ G fun ws G1=>sp ws G1 R
variable {k:Nat}{f:Addr}{fd:FuncData}{ps:List Str}{sp:P3}
theorem a0u (F:FnOk X.prog X.w X.K X.mg X.base CX0 k f fd ps (lowP X.K sp)) (hr:Room k X.A) (hg:Gl X x) (hm:X.mg x=some (.ref f)) (hk:PySem.W.keepIn X.K (.ref f)=true) (hb:Binds X.K fd ps []) (ha:QA X (e::es) t)
  (hdb:(x==("__debug__":Str))=false:=by decide) (he:starEach (e::es) X.env=(false,eval e X.env)::starEach es X.env:=by rfl) (hpl:(backTo pos (starEach es X.env)).any (·.1)=false:=by rfl) :
  QE X (.Call (.Name x p) (e::es) [] pos) (b6z sp t):=⟨a1w (b0p F hr hg hm hk hb .nil b4s ha.p hdb he hpl) fun τ H Q hx=>hx.un fun σ G R hs hg h up=>⟨σ,G,_,hs,hg,h,fun ws G1 vs H1 h1 rs hg1 t1=>⟨ws,G1,R,by rw[List.append_nil];exact rs,hg1,h1,up.mono t1⟩⟩⟩
end
end L3
namespace L3
open PySem PySem.Spec PyProof.Rows L2
section
variable {X:Cx}{e c tg:Expr}{st:Stmt}{rest sa sb:List Stmt}{pos:Pos}{te:E3}{t u:X3}{tc:T3}
def b6A:X3:=fun nx _ _ _ σ G=>nx σ G
def uSeq (t u:X3):X3:=fun nx rt bk ct σ G=>t (u nx rt bk ct) rt bk ct σ G
theorem a08:QSs X [] b6A:=⟨b0H b4b fun D τ H hx=>hx.un fun σ G nx rt bk ct hs hg h u1 u2 u3 u4=>u1 _ _ _ _ h hs hg (.refl _ _)⟩
theorem a0k (h1:QS X st t) (h2:QSs X rest u):QSs X (st::rest) (uSeq t u):=⟨b0H (a8o h1.p h2.p) fun D τ H hx=>hx.un fun σ G nx rt bk ct hs hg h u1 u2 u3 u4=>
 ⟨σ,G,_,rt,bk,ct,hs,hg,h,fun σ' G' τ' H' h' hs' hg' t'=>⟨σ',G',nx,rt,bk,ct,hs',hg',h',u1.mono t',u2.mono t',u3.mono t',u4.mono t'⟩,u2,u3,u4⟩⟩
theorem a0n (h1:QS X st t):QSs X [st] t:=⟨b4c h1.p⟩
def uCut (t u:X3):X3:=fun nx rt bk ct σ G=>∃ M:C3,t M rt bk ct σ G/\∀ σ' G',M σ' G'->u nx rt bk ct σ' G'
theorem a6Y (h1:QS X st t) (h2:QSs X rest u):QSs X (st::rest) (uCut t u):=⟨b0H (a8o h1.p h2.p) fun D τ H hx=>hx.un fun σ G nx rt bk ct hs hg h0 u1 u2 u3 u4=>by
 obtain⟨M,h,hM⟩:=h0;exact⟨σ,G,M,rt,bk,ct,hs,hg,h,fun σ' G' τ' H' h' hs' hg' t'=>⟨σ',G',nx,rt,bk,ct,hs',hg',hM _ _ h',u1.mono t',u2.mono t',u3.mono t',u4.mono t'⟩,u2,u3,u4⟩⟩
def b6B (te:E3):X3:=fun nx _ _ _ σ G=>te σ G fun _ G1=>nx σ G1
theorem a0Q (he:QE X e te) (hs:swapsWith e none pos.line X.env=pure false:=by rfl):QS X (.Expr e pos) (b6B te):=⟨a30 (b4d he.p hs) fun D τ H hx=>hx.un fun σ G nx rt bk ct hs hg h u1 u2 u3 u4=>
 ⟨σ,G,_,hs,hg,h,fun w G1 v H1 h1 rv hg1 t1=>u1 _ _ _ _ h1 (hs.mono t1) hg1 t1⟩⟩
def uRet (te:E3):X3:=fun _ rt _ _ σ G=>te σ G rt
theorem a0D (he:QE X e te):QS X (.Return (some e) pos) (uRet te):=⟨a30 (b5L he.p) fun D τ H hx=>hx.un fun σ G nx rt bk ct hs hg h u1 u2 u3 u4=>⟨σ,G,_,hs,hg,h,u2⟩⟩
def uIfS (c:T3) (t u:X3):X3:=fun nx rt bk ct σ G=>c σ G fun b G1=>if b=true then t nx rt bk ct σ G1 else u nx rt bk ct σ G1
theorem z_if (hc:QT X c tc) (ha:QSs X sa t) (hb:QSs X sb u):QS X (.If c sa sb pos) (uIfS tc t u):=⟨a30 (b8i hc.p ha.p hb.p) fun D τ H hx=>hx.un fun σ G nx rt bk ct hs hg h u1 u2 u3 u4=>by
 refine⟨σ,G,_,hs,hg,h,fun b G1 H1 h1 hg1 t1=>?_⟩;cases b with
 | true=>rw[if_pos rfl]at h1 ⊢;exact⟨σ,G1,nx,rt,bk,ct,hs.mono t1,hg1,h1,u1.mono t1,u2.mono t1,u3.mono t1,u4.mono t1⟩
 | false=>rw[if_neg (by decide)]at h1 ⊢;exact⟨σ,G1,nx,rt,bk,ct,hs.mono t1,hg1,h1,u1.mono t1,u2.mono t1,u3.mono t1,u4.mono t1⟩⟩
def b6C (c:T3) (tb:X3):X3:=fun nx rt _ _ σ G=>∃ I:Nat->S3->Hq->Prop,(∃ m,I m σ G)/\∀ m σ G,I m σ G ->
 c σ G fun b G1=>if b=true then tb (fun σ' G'=>∃ m',m'<m/\I m' σ' G') rt nx (fun σ' G'=>∃ m',m'<m/\I m' σ' G') σ G1 else nx σ G1
theorem b4v (hp:PassesOwn (model X.prog X.w) X.A X.env X.xe) (hc:QT X c tc) (hb:QSs X sb t):QS X (.While c sb [] pos) (b6C tc t):=⟨a30 (b18 hp hc.p hb.p) fun D τ H hx=>hx.un fun σ G nx rt bk ct hs hg h0 u1 u2 u3 u4=>by
 obtain⟨I,⟨m0,i0⟩,step⟩:=h0;refine⟨fun m τ' H'=>∃ σ' G',RSt X.K H' σ' τ'/\RH X.K G' H'/\TK X.K H H'/\I m σ' G',⟨m0,σ,G,hs,hg,.refl _ _,i0⟩,?_⟩;rintro m τ' H1 ⟨σ1,G1,hs1,hg1,t1,i1⟩;refine⟨σ1,G1,_,hs1,hg1,step m σ1 G1 i1,fun b G2 H2 h2 hg2 t2=>?_⟩;cases b with
 | false=>rw[if_neg (by decide)]at h2 ⊢;exact u1 _ _ _ _ h2 (hs1.mono t2) hg2 (t1.trans t2)
 | true=>
  rw[if_pos rfl]at h2 ⊢;refine⟨_,fun σ' H' h=>h,σ1,G2,_,rt,nx,_,hs1.mono t2,hg2,h2,?_,u2.mono (t1.trans t2),u1.mono (t1.trans t2),?_⟩
  ·rintro σ3 G3 τ3 H3 ⟨m',hm,i3⟩ hs3 hg3 t3;exact⟨m',hm,σ3,G3,hs3,hg3,(t1.trans t2).trans t3,i3⟩
  ·rintro σ3 G3 τ3 H3 ⟨m',hm,i3⟩ hs3 hg3 t3;exact⟨m',hm,σ3,G3,hs3,hg3,(t1.trans t2).trans t3,i3⟩⟩
inductive Pt where
 | nm (i:Nat)
 | tp (is:List Nat)
def gsOf:List Nat->TGs
 | []=>gNil
 | i::is=>b5M (a98 i) (gsOf is)
def gP (K:Fg):Pt->TG
 | .nm i=>a98 i
 | .tp is=>gTup K is.length (gsOf is)
def sets:List Nat->List Z->S3->S3
 | i::is,w::ws,σ=>sets is ws (σ.set i (some w))
 | _,_,σ=>σ
def a5x:Pt->Z->S3->Option S3
 | .nm i,w,σ=>some (σ.set i (some w))
 | .tp is,.tup ws,σ=>if ws.length=is.length then some (sets is ws σ) else none
 | _,_,_=>none
def Pt.slots:Pt->List Nat
 | .nm i=>[i]
 | .tp is=>is
def a4y:List Nat->List V->L2.St->L2.St
 | i::is,w::ws,σ=>a4y is ws (σ.set i (some w))
 | _,_,σ=>σ
theorem b0O {H:Hp}{Q:L2.St->Hp->Prop}:∀ {is:List Nat}{vs:List V}{τ:L2.St},vs.length=is.length->Q (a4y is vs τ) H->gsOf is vs τ H Q
 | [],[],_,_,q=>⟨rfl,q⟩
 | i::is,v::vs,τ,h,q=>⟨v,vs,rfl,b0O (is:=is) (vs:=vs) (by simpa using h) q⟩
 | [],_::_,_,h,_=>by simp at h
 | _::_,[],_,h,_=>by simp at h
theorem a6Z {K:Fg}{H:Hp}:∀ {is:List Nat}{ws:List Z}{vs:List V}{σ:S3}{τ:L2.St},Reps K H ws vs->RSt K H σ τ->RSt K H (sets is ws σ) (a4y is vs τ)
 | [],ws,vs,σ,τ,_,h=>by unfold sets a4y;exact h
 | i::is,[],vs,σ,τ,r,h=>by rw[a0A]at r;subst r;exact h
 | i::is,w::ws,vs,σ,τ,r,h=>by
  rw[a0q]at r;obtain⟨v,vs',rfl,r1,r2⟩:=r;exact a6Z (is:=is) r2 (h.set r1 i)
theorem a5P:∀ {is:List Nat}{vs:List V}{τ:L2.St}{j:Nat},j∉is->(a4y is vs τ)[j]?=τ[j]?
 | [],_,_,_,_=>by unfold a4y;rfl
 | i::is,[],_,_,_=>by unfold a4y;rfl
 | i::is,v::vs,τ,j,h=>by
  have h1:j≠i:=fun z=>h (by rw[z];exact List.mem_cons_self ..);have h2:j∉is:=fun z=>h (List.mem_cons_of_mem _ z)
  show (a4y is vs (τ.set i (some v)))[j]?=τ[j]?
  rw[a5P h2,List.getElem?_set_ne (Ne.symm h1)]
theorem a4r:∀ {is:List Nat}{vs:List V}{τ:L2.St},(a4y is vs τ).length=τ.length
 | [],_,_=>by unfold a4y;rfl
 | i::is,[],_=>by unfold a4y;rfl
 | i::is,v::vs,τ=>by
  show (a4y is vs (τ.set i (some v))).length=τ.length
  rw[a4r,List.length_set]
theorem b4w {K:Fg}{H:Hp}{pt:Pt}{w:Z}{v:V}{σ σ':S3}{τ:L2.St}{Q:L2.St->Hp->Prop}(r:Rep K H w v) (hs:RSt K H σ τ) (hb:a5x pt w σ=some σ')
  (q:∀ τ',RSt K H σ' τ'->τ'.length=τ.length->(∀ j,j∉pt.slots->τ'[j]?=τ[j]?)->Q τ' H):gP K pt v τ H Q:=by
 cases pt with
 | nm i=>
  cases hb;exact q _ (hs.set r i) (by rw[List.length_set]) fun j hj=>by rw[List.getElem?_set_ne];intro z;exact hj (by rw[z];exact List.mem_cons_self ..)
 | tp is=>
  cases w with
  | tup ws=>
   rw[a01]at r;obtain⟨a,vs,rfl,e,rs⟩:=r;have hb':(if ws.length=is.length then some (sets is ws σ) else none)=some σ':=hb
   by_cases hl:ws.length=is.length
   ·rw[if_pos hl]at hb';cases hb';exact⟨a,vs,rfl,SqT.of e,by rw[<- rs.length];exact hl,b0O (by rw[<- rs.length];exact hl) (q _ (a6Z rs hs) a4r fun j hj=>a5P hj)⟩
   ·rw[if_neg hl]at hb';cases hb'
  | _=>cases hb
def QP (X:Cx) (tg:Expr) (pt:Pt):Prop:=PG X tg (gP X.K pt)
def uAsg (te:E3) (pt:Pt):X3:=fun nx _ _ _ σ G=>te σ G fun x G1=>∃ σ',a5x pt x σ=some σ'/\nx σ' G1
theorem a7T {D:Ends}{pt:Pt}{K:Fg}{τ:L2.St}{H:Hp}(h:lowS K (uAsg te pt) D τ H):tAsg (low K te) (gP K pt) D τ H:=by
 obtain⟨σ,G,nx,rt,bk,ct,hs,hg,h,u1,u2,u3,u4⟩:=h;exact⟨σ,G,_,hs,hg,h,fun w G1 v H1 ⟨σ',hb,h1⟩ rv hg1 t1=>b4w rv (hs.mono t1) hb fun τ' hs' _ _=>u1 _ _ _ _ h1 hs' hg1 t1⟩
theorem z_set {i:Nat}{x:Str}{pos':Pos}(hN:X.N.Nodup) (hi:X.N[i]?=some x) (hx:Loc X.env.scope x) (he:QE X e te) (hs:swapsWith e (some (.Name x pos')) pos.line X.env=pure false:=by rfl) (hf:X.fn x=true\/X.env.scope.names.lookup x=some .local:=by first | exact .inl rfl | exact .inr rfl | assumption) :
  QS X (.Assign [.Name x pos'] e pos) (uAsg te (.nm i)):=⟨a30 (b5O hN hi hx he.p hs hf) fun _ _ _=>a7T (pt:=.nm i)⟩
theorem b6D {pt:Pt}(he:QE X e te) (hg:QP X tg pt) (hs:swapsWithSole [tg] e pos.line X.env=pure false:=by rfl) (hw:swappedStores [tg] e X.env=pure none:=by rfl)
  (h1:(assignEach [tg] X.env).map (·.2)=[assign tg X.env]:=by rfl):QS X (.Assign [tg] e pos) (uAsg te pt):=⟨a30 (b3q he.p hg hs hw h1) fun _ _ _=>a7T⟩
abbrev Z3:=Z->Z->Z->Hq->(Hq->Prop)->Prop
def lowZ (K:Fg) (r:Z3):TSet:=fun o i v H Q=>∃ a b w G R,Rep K H a o/\Rep K H b i/\Rep K H w v/\RH K G H/\r a b w G R/\∀ G' H',R G'->RH K G' H'->TK K H H'->Q H'
theorem lowZ.un {K:Fg}{r:Z3}{o i v:V}{H:Hp}{Q:Hp->Prop}{C:Prop}(z:lowZ K r o i v H Q) (f:∀ a b w G R,(Rep K H a o)->(Rep K H b i)->(Rep K H w v)->(RH K G H)->(r a b w G R)->(∀ G' H',R G'->RH K G' H'->TK K H H'->Q H')->C):C:=by obtain⟨a,b,w,G,R,q0,q1,q2,q3,q4,q5⟩:=z;exact f _ _ _ _ _ q0 q1 q2 q3 q4 q5
def SetQ (X:Cx) (r:Z3):Prop:=PSet X (lowZ X.K r)
theorem b3A {r r':TSet}(h:PSet X r') (i:∀ o j v H Q,r o j v H Q->r' o j v H Q):PSet X r:=fun pins s σ H o j v ov iv u Q I ro ri rv q=>h pins s σ H o j v ov iv u Q I ro ri rv (i _ _ _ _ _ q)
def uPut (te to ti:E3) (r:Z3):X3:=fun nx _ _ _ σ G=>te σ G fun w G1=>to σ G1 fun o G2=>ti σ G2 fun i G3=>r o i w G3 fun G4=>nx σ G4
theorem b8F {to ti:E3}{r:Z3}(h:PS X st (tAsg (low X.K te) (gSub (low X.K to) (low X.K ti) (lowZ X.K r)))):QS X st (uPut te to ti r):=⟨a30 h fun D τ H hx=>hx.un fun σ G nx rt bk ct hs hg h u1 u2 u3 u4=>
 ⟨σ,G,_,hs,hg,h,fun w G1 v H1 h1 rv hg1 t1=>⟨σ,G1,_,hs.mono t1,hg1,h1,fun w2 G2 v2 H2 h2 rv2 hg2 t2=>⟨σ,G2,_,hs.mono (t1.trans t2),hg2,h2,fun w3 G3 v3 H3 h3 rv3 hg3 t3=>
  ⟨w2,w3,w,G3,_,rv2.mono t3,rv3,rv.mono (t2.trans t3),hg3,h3,fun G4 H4 h4 hg4 t4=>u1 _ _ _ _ h4 (hs.mono (((t1.trans t2).trans t3).trans t4)) hg4 (((t1.trans t2).trans t3).trans t4)⟩⟩⟩⟩⟩
theorem b0P {o i:Expr}{to ti:E3}{r:Z3}{p':Pos}(he:QE X e te) (ho:QE X o to) (hi:QE X i ti) (hr:SetQ X r) (hs:swapsWithSole [.Subscript o i p'] e pos.line X.env=pure false:=by rfl) (hw:swappedStores [.Subscript o i p'] e X.env=pure none:=by rfl)
  (h1:(assignEach [.Subscript o i p'] X.env).map (·.2)=[assign (.Subscript o i p') X.env]:=by rfl) (ha:∀ v,assign (.Subscript o i p') X.env v=(do
   let ov <- holding [v] (eval o X.env)
   let iv <- holding [v,ov] (eval i X.env)
   standAt p'
   holding [v,ov,iv] (setItem ov iv v)
   release [v,ov,iv] []):=by intro _;rfl):QS X (.Assign [.Subscript o i p'] e pos) (uPut te to ti r):=b8F (b3q he.p (b5N ho.p hi.p hr ha) hs hw h1)
def uAug (i:Nat) (te:E3) (r:R3):X3:=fun nx _ _ _ σ G=>∃ x,σ[i]?=some (some x)/\te σ G fun y G1=>r x y G1 fun z G2=>nx (σ.set i (some z)) G2
theorem b8G {i:Nat}{r:R3}(h:PS X st (tAug i (low X.K te) (low2 X.K r))):QS X st (uAug i te r):=⟨a30 h fun D τ H hx=>hx.un fun σ G nx rt bk ct hs hg h0 u1 u2 u3 u4=>by
 obtain⟨x,ex,h⟩:=h0;obtain⟨v,ev,rv⟩:=hs.get ex;exact⟨v,ev,σ,G,_,hs,hg,h,fun w G1 v1 H1 h1 rv1 hg1 t1=>⟨x,w,G1,_,rv.mono t1,rv1,hg1,h1,fun w2 G2 v2 H2 h2 rv2 hg2 t2=>u1 _ _ _ _ h2 ((hs.mono (t1.trans t2)).set rv2 i) hg2 (t1.trans t2)⟩⟩⟩
theorem b6E {i:Nat}{x:Str}{op:Operator}{r:R3}{pos':Pos}(hN:X.N.Nodup) (hi:X.N[i]?=some x) (hx:Loc X.env.scope x) (he:QE X e te) (ho:OpQ X (inplaceOp op) r) (hf:X.fn x=true\/X.env.scope.names.lookup x=some .local:=by first | exact .inl rfl | exact .inr rfl | assumption) :
  QS X (.AugAssign (.Name x pos') op e pos) (uAug i te r):=b8G (b5P hN hi hx he.p ho hf)
end
abbrev I3:=S3->Hq->(List Z->(Hq->Prop)->Hq->Prop)->Prop
def a6i (K:Fg) (ws:List Z) (ok:Hq->Prop) (J:It) (H0:Hp):Prop:=∀ i G H,RH K G H->TK K H0 H->ok G->i≤ws.length ->
 (i=ws.length->J.stop i H)/\∀ w,ws[i]?=some w->J.go i H/\∀ x H',J.yld i H x H'->Rep K H' w x/\RH K G H'/\TK K H H'
def lowI (K:Fg) (wi:I3):TI:=fun τ H R2=>∃ σ G R,RSt K H σ τ/\RH K G H/\wi σ G R/\∀ ws ok G' J H',R ws ok G'->a6i K ws ok J H'->RH K G' H'->TK K H H'->R2 J H'
theorem lowI.un {K:Fg}{wi:I3}{τ:L2.St}{H:Hp}{R2:It->Hp->Prop}{C:Prop}(z:lowI K wi τ H R2) (f:∀ σ G R,(RSt K H σ τ)->(RH K G H)->(wi σ G R)->(∀ ws ok G' J H',R ws ok G'->a6i K ws ok J H'->RH K G' H'->TK K H H'->R2 J H')->C):C:=by obtain⟨σ,G,R,q0,q1,q2,q3⟩:=z;exact f _ _ _ q0 q1 q2 q3
def QI (X:Cx) (tg iter:Expr) (wi:I3):Prop:=PI X tg iter (lowI X.K wi)
theorem a9z {X:Cx}{tg iter:Expr}{wi wi':TI}(h:PI X tg iter wi') (i:∀ σ H R,wi σ H R->wi' σ H R):PI X tg iter wi:=fun pins s σ H R I q=>h pins s σ H R I (i σ H R q)
def FORB (ws:List Z) (ok:Hq->Prop) (pt:Pt) (tb:X3) (nx:C3) (rt:K3) (σ:S3) (G1:Hq):Prop:=∃ I:Nat->S3->Hq->Prop,I 0 σ G1/\(∀ i σ G,i≤ws.length->I i σ G->ok G) /\
 (∀ i x σ G,ws[i]?=some x->I i σ G->∃ σ',a5x pt x σ=some σ'/\tb (I (i+1)) rt nx (I (i+1)) σ' G)/\∀ σ G,I ws.length σ G->nx σ G
def uFor (wi:I3) (pt:Pt) (tb:X3):X3:=fun nx rt _ _ σ G=>wi σ G fun ws ok G1=>FORB ws ok pt tb nx rt σ G1
theorem a1k {ws:List Z}{ok:Hq->Prop}{pt:Pt}{tb:X3}{nx:C3}{rt:K3}{σ:S3}{G:Hq}(I:Nat->S3->Hq->Prop) (h0:I 0 σ G) (hok:∀ i σ G,i≤ws.length->I i σ G->ok G)
  (step:∀ i x σ G,ws[i]?=some x->I i σ G->∃ σ',a5x pt x σ=some σ'/\tb (I (i+1)) rt nx (I (i+1)) σ' G) (fin:∀ σ G,I ws.length σ G->nx σ G):FORB ws ok pt tb nx rt σ G:=⟨I,h0,hok,step,fin⟩
theorem a24 {X:Cx}{tg iter:Expr}{sb:List Stmt}{t:X3}{wi:I3}{pt:Pt}{pos:Pos}(hp:PassesOwn (model X.prog X.w) X.A X.env X.xe) (hc:X.calm=true) (hi:QI X tg iter wi) (hg:QP X tg pt) (hb:QSs X sb t)
  (hs:∀ x,foldedSetIterable iter X.env x=pure x:=by intro _;rfl):QS X (.For tg iter sb [] pos) (uFor wi pt t):=⟨a30 (b5T hp hc hi hg hb.p hs) fun D τ H hx=>hx.un fun σ G nx rt bk ct hs hg h u1 u2 u3 u4=>by
 refine⟨σ,G,_,hs,hg,h,?_⟩;rintro ws ok G1 J H1 ⟨I,i0,hok,step,fin⟩ hJ hg1 t1;refine⟨fun i m τ' H'=>m=ws.length - i/\i≤ws.length/\∃ σ' G',RSt X.K H' σ' τ'/\RH X.K G' H'/\TK X.K H1 H'/\I i σ' G',⟨ws.length,by simp,Nat.zero_le _,σ,G1,hs.mono t1,hg1,.refl _ _,i0⟩,?_⟩;rintro i m τ2 H2 ⟨rfl,hle,σ2,G2,hs2,hg2,t2,i2⟩;have hJ2:=hJ i G2 H2 hg2 t2 (hok i σ2 G2 hle i2) hle
 by_cases hlt:i<ws.length
 ·obtain⟨go,yl⟩:=hJ2.2 _ (List.getElem?_eq_getElem hlt);refine .inr ⟨go,fun τ' H'=>i+1≤ws.length/\∃ σ' G',RSt X.K H' σ' τ'/\RH X.K G' H'/\TK X.K H1 H'/\I (i+1) σ' G',fun σ' H' q=>⟨ws.length - (i+1),by omega,rfl,q.1,q.2⟩,fun x H3 y3=>?_⟩;obtain⟨rx,hg3,t3⟩:=yl x H3 y3;obtain⟨σ',hb',h3⟩:=step i _ σ2 G2 (List.getElem?_eq_getElem hlt) i2;refine b4w rx (hs2.mono t3) hb' fun τ' hs' _ _=>⟨σ',G2,_,rt,nx,_,hs',hg3,h3,?_,u2.mono ((t1.trans t2).trans t3),u1.mono ((t1.trans t2).trans t3),?_⟩
  ·exact fun σ4 G4 τ4 H4 h4 hs4 hg4 t4=>⟨hlt,σ4,G4,hs4,hg4,(t2.trans t3).trans t4,h4⟩
  ·exact fun σ4 G4 τ4 H4 h4 hs4 hg4 t4=>⟨hlt,σ4,G4,hs4,hg4,(t2.trans t3).trans t4,h4⟩
 ·have e:i=ws.length:=by omega
  subst e;exact .inl ⟨hJ2.1 rfl,u1 _ _ _ _ (fin σ2 G2 i2) hs2 hg2 (t1.trans t2)⟩⟩
section
variable {X:Cx}{tg l:Expr}{tl:E3}
def wkL (x:Z) (G:Hq) (R:List Z->(Hq->Prop)->Hq->Prop):Prop:=match x with
 | .ref a=>∃ ws,G a=some (.lst ws)/\R ws (fun G=>G a=some (.lst ws)) G
 | .scr _ ns=>R (ns.map Z.int) (fun _=>True) G
 | _=>False
def iL (tl:E3):I3:=fun σ G R=>tl σ G fun x G1=>wkL x G1 R
theorem a9A {K:Fg}{a:Addr}{ws:List Z}{H:Hp}:a6i K ws (fun G=>G a=some (.lst ws)) (Itl K a) H:=fun i G H hg t ok hi=>by
 obtain⟨vs,e,rs⟩:=hg a _ ok;refine⟨fun h=>⟨vs,SqL.of e,by rw[<- rs.length,h];exact Nat.le_refl _⟩,fun w hw=>?_⟩;obtain⟨v,ev,rv⟩:=rs.get hw;refine⟨⟨vs,v,SqL.of e,ev⟩,?_⟩;rintro x H' ⟨rfl,y⟩
 have:=y vs (SqL.of e)
 rw[ev]at this;cases this;exact⟨rv,hg,.refl _ _⟩
theorem b0Q {K:Fg}{a:Addr}{ns:List Int}{H0:Hp}(f:Fz K H0 a (ns.map V.int)):a6i K (ns.map Z.int) (fun _=>True) (Itl K a) H0:=fun i G H hg t ok hi=>by
 have fs:=(t.frz _ _ f).sq;have rs:Reps K H (ns.map Z.int) (ns.map V.int):=a2a ns;refine⟨fun h=>⟨_,fs,by rw[<- rs.length,h];exact Nat.le_refl _⟩,fun w hw=>?_⟩;obtain⟨v,ev,rv⟩:=rs.get hw;refine⟨⟨_,v,fs,ev⟩,?_⟩;rintro x H' ⟨rfl,y⟩
 have:=y _ fs
 rw[ev]at this;cases this;exact⟨rv,hg,.refl _ _⟩
theorem a0H (hl:QE X l tl):QI X tg l (iL tl):=a9z (b4e hl.p) fun τ H R2 hx=>hx.un fun σ G R hs hg h up=>by
 refine⟨σ,G,_,hs,hg,h,fun w G1 v H1 h1 rv hg1 t1=>?_⟩;cases w with
 | ref a=>
  rw[a0m]at rv;obtain⟨ws,e,h1⟩:=h1;obtain⟨vs,e',_⟩:=hg1 a _ e;exact⟨a,rv,⟨vs,SqL.of e'⟩,up _ _ _ _ _ h1 a9A hg1 t1⟩
 | scr a ns=>
  rw[a12]at rv;exact⟨a,rv.1,⟨_,rv.2.sq⟩,up _ _ _ _ _ h1 (b0Q rv.2) hg1 t1⟩
 | _=>exact False.elim h1
def wkT (x:Z) (G:Hq) (R:List Z->(Hq->Prop)->Hq->Prop):Prop:=match x with
 | .tup ws=>R ws (fun _=>True) G
 | _=>False
def iT (tl:E3):I3:=fun σ G R=>tl σ G fun x G1=>wkT x G1 R
theorem b0R {K:Fg}{a:Addr}{ws:List Z}{vs:List V}{H0:Hp}(e:H0 a=some (.tup vs)) (rs:Reps K H0 ws vs):a6i K ws (fun _=>True) (Itt K a) H0:=fun i G H hg t ok hi=>by
 have e:=t.tup _ _ e;have rs:=rs.mono t;refine⟨fun h=>⟨vs,SqT.of e,by rw[<- rs.length,h];exact Nat.le_refl _⟩,fun w hw=>?_⟩;obtain⟨v,ev,rv⟩:=rs.get hw;refine⟨⟨vs,v,SqT.of e,ev⟩,?_⟩;rintro x H' ⟨rfl,y⟩
 have:=y vs (SqT.of e)
 rw[ev]at this;cases this;exact⟨rv,hg,.refl _ _⟩
theorem b3B (hl:QE X l tl):QI X tg l (iT tl):=a9z (b5R hl.p) fun τ H R2 hx=>hx.un fun σ G R hs hg h up=>by
 refine⟨σ,G,_,hs,hg,h,fun w G1 v H1 h1 rv hg1 t1=>?_⟩;cases w with
 | tup ws=>
  rw[a01]at rv;obtain⟨a,vs,rfl,e,rs⟩:=rv;exact⟨a,rfl,⟨vs,SqT.of e⟩,up _ _ _ _ _ h1 (b0R e rs) hg1 t1⟩
 | _=>exact False.elim h1
def rng (lo:Int):Nat->List Z
 | 0=>[]
 | n+1=>.int lo::rng (lo+1) n
theorem a2b:∀ (lo:Int) (n:Nat),(rng lo n).length=n
 | _,0=>rfl
 | lo,n+1=>by rw[rng,List.length_cons,a2b]
theorem a31:∀ {lo:Int}{n i:Nat}{w:Z},(rng lo n)[i]?=some w->i<n/\w=.int (lo+i)
 | _,0,_,_,h=>by simp[rng]at h
 | lo,n+1,0,w,h=>by simp[rng]at h;exact⟨by omega,by rw[<- h];simp⟩
 | lo,n+1,i+1,w,h=>by
  have:=a31 (lo:=lo+1) (n:=n) (i:=i) (w:=w) (by simpa[rng]using h)
  refine⟨by omega,?_⟩;rw[this.2]
  congr 1
  omega
theorem b0S {K:Fg}{lo:Int}{n:Nat}{H0:Hp}:a6i K (rng lo n) (fun _=>True) (Itr lo n) H0:=fun i G H hg t ok hi=>by
 rw[a2b];refine⟨fun h=>by rw[h];exact Nat.le_refl _,fun w hw=>?_⟩;obtain⟨h1,h2⟩:=a31 hw;refine⟨h1,?_⟩;rintro x H' ⟨rfl,rfl⟩;exact⟨by rw[h2,a0r],hg,.refl _ _⟩
variable {t:A3}
def iR1 (t:A3):I3:=fun σ G R=>t σ G fun ws G1=>∃ j:Int,ws=[.int j]/\-(2 ^ 62)≤j/\j<2 ^ 62/\R (rng 0 j.toNat) (fun _=>True) G1
theorem b0T {wi:Expr}(h:PI X tg wi (b5S (lowA X.K t))):QI X tg wi (iR1 t):=a9z h fun τ H R2 hx=>hx.un fun σ G R hs hg h up=>by
 refine⟨σ,G,_,hs,hg,h,fun ws G1 vs H1 ⟨j,e,a,b,h1⟩ rv hg1 t1=>?_⟩;subst e;obtain⟨v,rfl,r⟩:=rv.one;rw[a0r]at r;subst r;exact⟨j,rfl,a,b,up _ _ _ _ _ h1 b0S hg1 t1⟩
end
section
variable {X:Cx}{tg a b:Expr}{p pos:Pos}{t:A3}
theorem a2Z (hg:Gl X "range") (hm:X.mg "range"=none) (ha:QA X [a] t) (hs:starEach [a] X.env=[(false,eval a X.env)]:=by rfl):QI X tg (.Call (.Name "range" p) [a] [] pos) (iR1 t):=b0T (b0a hg hm ha.p hs)
end
def cap3 (cap:List (Option Nat)) (σ:S3):S3:=cap.map fun o=>o.bind fun j=>(σ[j]?).join
theorem a7U {K:Fg}{H:Hp}{σ:S3}{τ:L2.St}(h:RSt K H σ τ):∀ cap:List (Option Nat),RSt K H (cap3 cap σ) (a3y cap τ)
 | []=>.nil
 | none::cap=>.cons (fun _ e=>nomatch e) (a7U h cap)
 | some j::cap=>.cons (fun w e=>by
   have e':(σ[j]?).join=some w:=e;have e2:σ[j]?=some (some w):=by
    cases q:σ[j]? with
    | none=>rw[q]at e';cases e'
    | some o=>rw[q]at e';cases o with
     | none=>cases e'
     | some z=>cases e';rfl
   obtain⟨v,ev,r⟩:=h.get e2;exact⟨v,by show (τ[j]?).join=some v;rw[ev];rfl,r⟩) (a7U h cap)
theorem a32:∀ {a b:L2.St},b.length=a.length->(∀ (i:Nat) v,a[i]?=some (some v)->b[i]?=some (some v))->a1Z a b
 | [],[],_,_=>True.intro
 | none::a,_::b,h,k=>a32 (a:=a) (b:=b) (by simpa using h) fun i v e=>by simpa using k (i+1) v (by simpa using e)
 | some x::a,y::b,h,k=>⟨by simpa using k 0 x rfl,a32 (a:=a) (b:=b) (by simpa using h) fun i v e=>by simpa using k (i+1) v (by simpa using e)⟩
 | [],_::_,h,_=>by simp at h
 | _::_,[],h,_=>by simp at h
def LCB (ws:List Z) (ok:Hq->Prop) (cap:List (Option Nat)) (pt:Pt) (tt:T3) (te:E3) (σ:S3) (R:K3) (D:Addr) (G1:Hq):Prop:=∃ I:Nat->List Z->Hq->Prop,I 0 [] (put G1 D (.lst []))/\(∀ i ys G,i≤ws.length->I i ys G->ok G) /\
 (∀ i x ys G,ws[i]?=some x->I i ys G->∃ σ',a5x pt x (cap3 cap σ)=some σ'/\tt σ' G fun b G4=>if b=true then te σ' G4 fun y G5=>G5 D=some (.lst ys)/\ys.length<sizeLine/\I (i+1) (ys++[y]) (put G5 D (.lst (ys++[y]))) else I (i+1) ys G4) /\
 ∀ ys G,I ws.length ys G->R (.ref D) G
def uLC (wi:I3) (cap:List (Option Nat)) (pt:Pt) (tt:T3) (te:E3):E3:=fun σ G R=>wi σ G fun ws ok G1=>∀ D,G1 D=none->LCB ws ok cap pt tt te σ R D G1
theorem a6j {ws:List Z}{ok:Hq->Prop}{cap:List (Option Nat)}{pt:Pt}{tt:T3}{te:E3}{σ:S3}{R:K3}{D:Addr}{G1:Hq}(I:Nat->List Z->Hq->Prop) (h0:I 0 [] (put G1 D (.lst []))) (hok:∀ i ys G,i≤ws.length->I i ys G->ok G)
  (step:∀ i x ys G,ws[i]?=some x->I i ys G->∃ σ',a5x pt x (cap3 cap σ)=some σ'/\tt σ' G fun b G4=>if b=true then te σ' G4 fun y G5=>G5 D=some (.lst ys)/\ys.length<sizeLine/\I (i+1) (ys++[y]) (put G5 D (.lst (ys++[y]))) else I (i+1) ys G4)
  (fin:∀ ys G,I ws.length ys G->R (.ref D) G):LCB ws ok cap pt tt te σ R D G1:=⟨I,h0,hok,step,fin⟩
theorem a1Q {α β:Type}{f:α->Option β}{ws:List α}{i:Nat}{x:α}(h:ws[i]?=some x):(ws.take (i+1)).filterMap f=(ws.take i).filterMap f++(f x).toList:=by
 rw[List.take_add_one,List.filterMap_append,h];cases e:f x<;>simp[e]
theorem b0U {ws:List Z}{ok:Hq->Prop}{cap:List (Option Nat)}{pt:Pt}{tt:T3}{te:E3}{σ:S3}{R:K3}{D:Addr}{G1:Hq}(f:Z->Option Z) (hok:∀ ys,ok (put G1 D (.lst ys))) (hz:ws.length≤1000)
  (turn:∀ x,x∈ws->∀ (ys:List Z) (K1:K3) (K2:Hq->Prop),(∀ y,f x=some y->K1 y (put G1 D (.lst ys)))->(f x=none->K2 (put G1 D (.lst ys)))->∃ σ',a5x pt x (cap3 cap σ)=some σ'/\tt σ' (put G1 D (.lst ys)) fun b G4=>if b=true then te σ' G4 K1 else K2 G4)
  (fin:R (.ref D) (put G1 D (.lst (ws.filterMap f)))):LCB ws ok cap pt tt te σ R D G1:=by
 refine⟨fun i ys G=>ys=(ws.take i).filterMap f/\G=put G1 D (.lst ys),⟨by simp,rfl⟩,?_,?_,?_⟩
 ·rintro i ys G _ ⟨_,rfl⟩;exact hok ys
 ·rintro i x ys G hx ⟨e,rfl⟩;refine turn x (List.mem_of_getElem? hx) ys _ _ (fun y hy=>⟨a0d,?_,?_,?_⟩) fun hn=>⟨?_,rfl⟩
  ·rw[e];exact Nat.lt_of_le_of_lt (Nat.le_trans (List.length_filterMap_le _ _) (by rw[List.length_take];omega)) (a0t (Nat.le_refl 1000))
  ·rw[a1Q hx,hy,e];rfl
  ·rw[a2n]
  ·rw[a1Q hx,hn,e];simp
 ·rintro ys G ⟨e,rfl⟩;rw[List.take_length]at e;rw[e];exact fin
def QIfs (X:Cx) (ifs:List Expr) (t:T3):Prop:=PIfs X ifs (lowT X.K t)
def uTT:T3:=fun _ G R=>R true G
theorem a14 {X:Cx}:QIfs X [] uTT:=fun pins s τ H Q I ⟨σ,G,R,hs,hg,h,up⟩=>b2t pins s τ H Q I (up _ _ _ h hg (.refl _ _))
theorem a3i {X:Cx}{c:Expr}{t:T3}(h:QT X c t):QIfs X [c] t:=b2u h.p
theorem b4x {cap:List (Option Nat)}{pt:Pt}(hc:(pt.slots.all fun j=>decide (cap[j]?=some none))=true) {τ:L2.St}{i:Nat}{v:V}(h:(a3y cap τ)[i]?=some (some v)):i∉pt.slots:=fun hm=>by
 have q:=of_decide_eq_true ((List.all_eq_true.mp hc) i hm);unfold a3y at h;rw[List.getElem?_map,q]at h;cases h
theorem b3C {K:Fg}{wi:I3}{cap:List (Option Nat)}{pt:Pt}{tt:T3}{te:E3}(hc:(pt.slots.all fun j=>decide (cap[j]?=some none))=true) {τ:L2.St}{H:Hp}{Q:VK}(h:low K (uLC wi cap pt tt te) τ H Q) :
  tLC (lowI K wi) cap (gP K pt) (lowT K tt) (low K te) τ H Q:=by
 obtain⟨σ,G,R,hs,hg,h,up⟩:=h;refine⟨σ,G,_,hs,hg,h,fun ws ok G1 J H1 h1 hJ hg1 t1 D hD=>?_⟩;obtain⟨I,i0,hok,step,fin⟩:=h1 D (hg1.out hD);refine⟨fun i m _ H'=>m=ws.length - i/\i≤ws.length/\∃ ys G',RH K G' H'/\TK K H1 H'/\I i ys G',⟨ws.length,by simp,Nat.zero_le _,[],_,hg1.set (o:=.lst []) (.new hD) ⟨[],a0C,.nil⟩,.new hD,i0⟩,?_⟩;rintro i m vs H2 ⟨rfl,hle,ys,G2,hg2,t2,i2⟩;have hJ2:=hJ i G2 H2 hg2 t2 (hok i ys G2 hle i2) hle
 by_cases hlt:i<ws.length
 ·obtain⟨go,yl⟩:=hJ2.2 _ (List.getElem?_eq_getElem hlt);refine .inr ⟨go,fun _ H'=>i+1≤ws.length/\∃ ys G',RH K G' H'/\TK K H1 H'/\I (i+1) ys G',fun vs' H' q=>⟨ws.length - (i+1),by omega,rfl,q.1,q.2⟩,fun x H3 y3=>?_⟩;obtain⟨rx,hg3,t3⟩:=yl x H3 y3;obtain⟨σ',hb',h3⟩:=step i _ ys G2 (List.getElem?_eq_getElem hlt) i2;refine b4w rx (a7U (hs.mono ((t1.trans t2).trans t3)) cap) hb' fun τ' hs' hl' hk'=>⟨a32 hl' fun j v ej=>by rw[hk' j (b4x hc ej)];exact ej,?_⟩;refine⟨σ',G2,_,hs',hg3,h3,fun b G4 H4 h4 hg4 t4=>?_⟩;cases b with
  | false=>
   rw[if_neg (by decide)]at h4 ⊢;exact⟨hlt,ys,G4,hg4,(t2.trans t3).trans t4,h4⟩
  | true=>
   rw[if_pos rfl]at h4 ⊢;refine⟨σ',G4,_,hs'.mono t4,hg4,h4,fun y G5 v5 H5 ⟨hD5,hsz,h5⟩ r5 hg5 t5=>?_⟩;obtain⟨vs5,e5,rs5⟩:=hg5 D _ hD5;refine⟨vs5,e5,by rw[<- rs5.length];exact hsz,hlt,_,_,hg5.set (.lst e5) (a1e (rs5.append (.cons r5 .nil)) (.lst e5)),?_,h5⟩;exact (((t2.trans t3).trans t4).trans t5).trans (.lst e5)
 ·have e:i=ws.length:=by omega
  subst e;exact .inl ⟨hJ2.1 rfl,up _ _ _ _ (fin ys G2 i2) (by rw[a0m]) hg2 (t1.trans t2)⟩
section
variable {X:Cx}{N':List Str}{sc:Scope}{cap:List (Option Nat)}{tg iter elt:Expr}{ifs:List Expr}{wi:I3}{pt:Pt}{tt:T3}{te:E3}{pos:Pos}
theorem q_lc {N₀:List Str}{so:Scope}(hc:X.calm=true) (hNN:X.N=N₀) (hso:X.env.scope=so) (ck:capB N₀ so sc N' cap=true) (hp:(pt.slots.all fun j=>decide (cap[j]?=some none))=true) (hi:QI X tg iter wi)
  (hg:∀ C s H fp,QP (cxC X E0 N' sc C s H fp) tg pt) (ht:∀ C s H fp,QIfs (cxC X E0 N' sc C s H fp) ifs tt) (he:∀ C s H fp,QE (cxC X E0 N' sc C s H fp) elt te)
  (hs:∀ x,foldedSetIterable iter X.env x=pure x:=by intro _;rfl):QE X (.ListComp elt [⟨tg,iter,ifs,0⟩] sc pos) (uLC wi cap pt tt te):=⟨a1w (b8A (g:=gP X.K pt) (tt:=lowT X.K tt) (te:=low X.K te) hc a8s hNN hso ck hi hg ht (fun C s H fp=>(he C s H fp).p) hs) fun _ _ _=>b3C hp⟩
theorem a7V {N₀:List Str}{so:Scope}{i:Nat}{x:Str}{pos' spos:Pos}(hN:X.N.Nodup) (hx:X.N[i]?=some x) (hl:X.env.scope.names.lookup x=some .local) (hc:X.calm=true) (hNN:X.N=N₀) (hso:X.env.scope=so) (ck:capB N₀ so sc N' cap=true)
  (hp:(pt.slots.all fun j=>decide (cap[j]?=some none))=true) (hi:QI X tg iter wi)
  (hg:∀ C s H fp,QP (cxC X E0 N' sc C s H fp) tg pt) (ht:∀ C s H fp,QIfs (cxC X E0 N' sc C s H fp) ifs tt) (he:∀ C s H fp,QE (cxC X E0 N' sc C s H fp) elt te)
  (hsw:swapsWith (.ListComp elt [⟨tg,iter,ifs,0⟩] sc pos) (some (.Name x pos')) spos.line X.env=pure true:=by rfl)
  (hs:∀ x,foldedSetIterable iter X.env x=pure x:=by intro _;rfl):QS X (.Assign [.Name x pos'] (.ListComp elt [⟨tg,iter,ifs,0⟩] sc pos) spos) (uAsg (uLC wi cap pt tt te) (.nm i)):=⟨a30 (b2w (g:=gP X.K pt) (tt:=lowT X.K tt) (te:=low X.K te) hN hx hl hc a8s hNN hso ck hi hg ht (fun C s H fp=>(he C s H fp).p) hsw hs) fun D τ H h=>b3C hp (a7T (pt:=.nm i) h)⟩
end
section
variable {P:Program}{w:World}{K:Fg}{mg:Str->Option Value}{base:Heap}
theorem fn3 {x qual:Str}{st:Stmt}{f:Addr}{fd:FuncData}{N ps:List Str}{k:Nat}{sp:P3}(F:Fun K x qual st f fd) (S:FnScope N ps (a0f st)) (len:∀ ws G R,sp ws G R->ws.length=ps.length)
  (hbody:∀ (cdv:Value) (A:Around) (outer:List Env) (s:Shared) (H:Hp) (E:XK) (ws:List Z) (G:Hq) (R:K3),Room k (A.deeper (envOfC qual (a0f st) s.heap.objs.size f cdv))->sp ws G R ->
   ∃ t,QSs (cxOf CX0 P w K mg base N qual (a0f st) f cdv A outer s H E).nox (a1Y st) t/\t (fun _ G'=>R .non G') R (fun _ _=>False) (fun _ _=>False) (a4q N ws) G):FnOk P w K mg base CX0 (k+1) f fd ps (lowP K sp):=by
 refine F.ok S (fun vs H Q E ⟨ws,G,R,rs,hg,h,up⟩=>by rw[<- rs.length];exact len _ _ _ h) ?_;rintro cdv A outer s H vs Q E hr ⟨ws,G,R,rs,hg,h,up⟩;obtain⟨t,ht,hq⟩:=hbody cdv A outer s H E ws G R hr h;exact⟨_,ht.p,a4q N ws,G,_,R,_,_,.start rs,hg,hq,fun σ' G' τ' H' h' hs' hg' t'=>up _ _ _ _ h' (by rw[a1b]) hg' t',up,fun _ _ _ _ h _ _ _=>h.elim,fun _ _ _ _ h _ _ _=>h.elim⟩
end
end L3
namespace L3
open PySem PySem.Spec PyProof.Rows L2
section
variable {X:Cx}
def zAdd:R3:=fun x y G R=>match x,y with
 | .int i,.int j=>R (.int (i+j)) G
 | .str a,.str b=>a.length+b.length≤sizeLine/\R (.str (a++b)) G
 | .tup xs,.tup ys=>xs≠[]/\xs.length+ys.length≤sizeLine/\R (.tup (xs++ys)) G
 | .ref p,.ref q=>∃ xs ys,G p=some (.lst xs)/\G q=some (.lst ys)/\xs.length+ys.length≤sizeLine/\∀ t,G t=none->R (.ref t) (put G t (.lst (xs++ys)))
 | _,_=>False
theorem a1c:OpQ X (binaryOp .Add) zAdd:=a6X (op_add.or (op_add_str.or (op_catT.or b6b))) fun x y H Q hx=>hx.un fun a b G R ra rb hg h up=>by
 cases a with
 | int i=>
  cases b with
  | int j=>rw[a0r]at ra rb;exact .inl ⟨_,_,ra,rb,up _ _ _ _ h (by rw[a0r]) hg (.refl _ _)⟩
  | _=>exact False.elim h
 | str i=>
  cases b with
  | str j=>rw[a0w]at ra rb;exact .inr (.inl ⟨_,_,ra,rb,h.1,up _ _ _ _ h.2 (by rw[a0w]) hg (.refl _ _)⟩)
  | _=>exact False.elim h
 | tup us=>
  cases b with
  | tup ws=>
   rw[a01]at ra rb;obtain⟨p,xs,rfl,e1,r1⟩:=ra;obtain⟨q,ys,rfl,e2,r2⟩:=rb;obtain⟨h0,hz,h⟩:=h;refine .inr (.inr (.inl ⟨p,q,xs,ys,rfl,rfl,SqT.of e1,SqT.of e2,fun z=>?_,by rw[<- r1.length,<- r2.length];exact hz,fun z=>?_,fun z t ht=>?_⟩))
   ·subst z;exact h0 (List.length_eq_zero_iff.mp r1.length)
   ·subst z;have e:ws=[]:=List.length_eq_zero_iff.mp r2.length;subst e;rw[List.append_nil]at h;exact up _ _ _ _ h (by rw[a01];exact⟨p,xs,rfl,e1,r1⟩) hg (.refl _ _)
   ·exact up _ _ _ _ h (by rw[a01];exact⟨t,xs++ys,rfl,a0C,Reps.mono (.new ht) _ _ (r1.append r2)⟩) (hg.hid ht) (.new ht)
  | _=>exact False.elim h
 | ref p=>
  cases b with
  | ref q=>
   rw[a0m]at ra rb;subst ra rb;obtain⟨xs,ys,e1,e2,hz,h⟩:=h;obtain⟨vs,e1',r1⟩:=hg _ _ e1;obtain⟨us,e2',r2⟩:=hg _ _ e2;exact .inr (.inr (.inr ⟨_,_,vs,us,rfl,rfl,e1',e2',by rw[<- r1.length,<- r2.length];exact hz,fun t ht=>up _ _ _ _ (h t (hg.out ht)) (by rw[a0m]) (hg.set (.new ht) (a1e (r1.append r2) (.new ht))) (.new ht)⟩))
  | _=>exact False.elim h
 | _=>exact False.elim h
def zI (C:Int->Int->Prop) (g:Int->Int->Z):R3:=fun x y G R=>match x,y with
 | .int i,.int j=>C i j/\R (g i j) G
 | _,_=>False
def zI0 (g:Int->Int->Z):R3:=fun x y G R=>match x,y with
 | .int i,.int j=>R (g i j) G
 | _,_=>False
theorem oI {f:Value->Value->Sem Value}{C:Int->Int->Prop}{g:Int->Int->Int}(h:OpR X f (rI C fun i j=>.int (g i j))):OpQ X f (zI C fun i j=>.int (g i j)):=a6X h fun x y H Q hx=>hx.un fun a b G R ra rb hg h up=>by
 cases a<;>cases b<;>first
  | exact False.elim h
  | (rw[a0r]at ra rb;exact⟨_,_,ra,rb,h.1,up _ _ _ _ h.2 (by rw[a0r]) hg (.refl _ _)⟩)
theorem oI0 {f:Value->Value->Sem Value}{g:Int->Int->Int}(h:OpR X f (rI0 fun i j=>.int (g i j))):OpQ X f (zI0 fun i j=>.int (g i j)):=a6X h fun x y H Q hx=>hx.un fun a b G R ra rb hg h up=>by
 cases a<;>cases b<;>first
  | exact False.elim h
  | (rw[a0r]at ra rb;exact⟨_,_,ra,rb,up _ _ _ _ h (by rw[a0r]) hg (.refl _ _)⟩)
theorem a9B:OpQ X (binaryOp .Sub) (zI0 fun i j=>.int (i - j)):=oI0 b5U
theorem a7W:OpQ X (binaryOp .Mult) (zI CMul fun i j=>.int (i*j)):=oI b5V
theorem a45:OpQ X (binaryOp .FloorDiv) (zI b6p fun i j=>.int (i / j)):=oI b2x
theorem a09:OpQ X (binaryOp .Mod) (zI (fun _ j=>0<j) fun i j=>.int (i % j)):=oI b5W
theorem a33:OpQ X (binaryOp .Pow) (zI CPow fun i j=>.int (i ^ j.toNat)):=oI b5X
theorem b3D:OpQ X (inplaceOp .Add) (zI0 fun i j=>.int (i+j)):=oI0 b4f
def zNeg:Z->Hq->K3->Prop:=fun x G R=>match x with
 | .int i=>R (.int (-i)) G
 | _=>False
theorem a2M:UnQ X (unaryOp .USub) zNeg:=b8B b5Y fun x H Q hx=>hx.un fun a G R ra hg h up=>by
 cases a<;>first
  | exact False.elim h
  | (rw[a0r]at ra;exact⟨_,ra,up _ _ _ _ h (by rw[a0r]) hg (.refl _ _)⟩)
theorem b0V:OpR X (compareOp .LtE) (fun x y H Q=>∃ i j,x=.str i/\y=.str j/\Q (.bl (!decide (j.cps.toList<i.cps.toList))) H):=by
 intro pins s σ H x y v u Q I rx ry h;obtain⟨i,j,rfl,rfl,q⟩:=h;obtain⟨t,rfl⟩:=rx;obtain⟨t',rfl⟩:=ry;exact PySem.P.le_str (a0B I q rfl)
theorem b0W:OpR X (compareOp .Gt) (fun x y H Q=>∃ i j,x=.str i/\y=.str j/\Q (.bl (decide (j.cps.toList<i.cps.toList))) H):=by
 intro pins s σ H x y v u Q I rx ry h;obtain⟨i,j,rfl,rfl,q⟩:=h;obtain⟨t,rfl⟩:=rx;obtain⟨t',rfl⟩:=ry;exact PySem.P.gt_str (a0B I q rfl)
def zC (f:Int->Int->Bool) (g:Str->Str->Bool):R3:=fun x y G R=>match x,y with
 | .int i,.int j=>R (.bl (f i j)) G
 | .str i,.str j=>R (.bl (g i j)) G
 | _,_=>False
theorem oC {op:CmpOp}{f:Int->Int->Bool}{g:Str->Str->Bool}(h:OpR X (compareOp op) (rI0 fun i j=>.bl (f i j))) (h':OpR X (compareOp op) (fun x y H Q=>∃ i j,x=.str i/\y=.str j/\Q (.bl (g i j)) H)) :
  OpQ X (compareOp op) (zC f g):=a6X (h.or h') fun x y H Q hx=>hx.un fun a b G R ra rb hg h up=>by
 cases a<;>cases b<;>first
  | exact False.elim h
  | (rw[a0r]at ra rb;exact .inl ⟨_,_,ra,rb,up _ _ _ _ h (by rw[a0M]) hg (.refl _ _)⟩)
  | (rw[a0w]at ra rb;exact .inr ⟨_,_,ra,rb,up _ _ _ _ h (by rw[a0M]) hg (.refl _ _)⟩)
abbrev ltS (x y:Str):Bool:=decide (x.cps.toList<y.cps.toList)
theorem o_lt:OpQ X (compareOp .Lt) (zC (fun i j=>decide (i<j)) fun x y=>ltS x y):=oC b8m b0g
theorem o_le:OpQ X (compareOp .LtE) (zC (fun i j=>decide (i≤j)) fun x y=>!ltS y x):=oC b8n b0V
theorem o_gt:OpQ X (compareOp .Gt) (zC (fun i j=>decide (j<i)) fun x y=>ltS y x):=oC b8o b0W
def zIs (neg:Bool):R3:=fun x y G R=>match y with
 | .non=>R (.bl (if neg then !decide (x=.non) else decide (x=.non))) G
 | .bl b=>match x with
  | .bl a=>neg=false/\R (.bl (a==b)) G
  | _=>False
 | _=>False
theorem a5Q {K:Fg}{H:Hp}{w:Z}{v:V}(r:Rep K H w v):decide (v=.non)=decide (w=.non):=by
 cases w with
 | non=>rw[a1b]at r;subst r;rfl
 | bl _=>rw[a0M]at r;subst r;simp
 | int _=>rw[a0r]at r;subst r;simp
 | str _=>rw[a0w]at r;subst r;simp
 | ref _=>rw[a0m]at r;subst r;simp
 | ty _=>rw[a8u]at r;subst r;simp
 | scr _ _=>rw[a12]at r;obtain⟨rfl,_⟩:=r;simp
 | tup _=>rw[a01]at r;obtain⟨_,_,rfl,_⟩:=r;simp
end
mutual
def dZ:Z->PyData
 | .bl b=>.bool b
 | .int i=>.int i
 | .str x=>.str x
 | .tup ws=>.tuple (dZs ws)
 | _=>.none
def dZs:List Z->List PyData
 | []=>[]
 | w::ws=>dZ w::dZs ws
end
def flat:Nat->Z->Bool
 | _,.non=>true
 | _,.int _=>true
 | _,.str x=>PyData.strOk x
 | n+1,.tup ws=>ws.all (flat n)
 | _,_=>false
theorem b3E:∀ (n:Nat) (d:Z),flat n d=true->(dZ d).canLay0=true/\(dZ d).depth≤n:=by
 have all:∀ (n:Nat),(∀ d,flat n d=true->(dZ d).canLay0=true/\(dZ d).depth≤n)->∀ ds:List Z,(∀ d∈ds,flat n d=true)->PyData.canLayAll0 (dZs ds)=true/\PyData.depthAll (dZs ds)≤n:=by
  intro n ih ds
  induction ds with
  | nil=>intro _;simp[dZs,PyData.canLayAll0,PyData.depthAll]
  | cons d ds hi=>
   intro h;have h1:=ih d (h d (.head _));have h2:=hi fun e he=>h e (.tail _ he);simp only[dZs,PyData.canLayAll0,PyData.depthAll,h1.1,h2.1,Bool.and_self,true_and];have a1:=h1.2;have a2:=h2.2;omega
 intro n
 induction n with
 | zero=>
  intro d h;cases d<;>simp_all[flat,dZ,PyData.canLay0,PyData.depth]
 | succ n ih=>
  intro d h;cases d with
  | non=>simp[dZ,PyData.canLay0,PyData.depth]
  | int i=>simp[dZ,PyData.canLay0,PyData.depth]
  | str x=>simp[flat]at h;simp[dZ,PyData.canLay0,PyData.depth,h]
  | tup ds=>
   have q:=all n ih ds (by simpa[flat]using h);have q2:=q.2;simp only[dZ,PyData.canLay0,PyData.depth,q.1,true_and];omega
  | _=>simp[flat]at h
theorem b4y (n:Nat) (ds:List Z) (h:ds.all (flat n)=true):PyData.canLayAll0 (dZs ds)=true/\PyData.depthAll (dZs ds)≤n:=by
 have q:=b3E (n+1) (.tup ds) (by simpa[flat]using h);simp only[dZ,PyData.canLay0,PyData.depth]at q;exact⟨q.1,by omega⟩
theorem b3F:∀ (n:Nat) (d e:Z) (k:Nat),flat n d=true->flat k e=true->(PyData.eqv (dZ d) (dZ e)=true↔d=e):=by
 have all:∀ (n:Nat),(∀ d e k,flat n d=true->flat k e=true->(PyData.eqv (dZ d) (dZ e)=true↔d=e))->∀ (k:Nat) (ds es:List Z),(∀ d∈ds,flat n d=true)->(∀ d∈es,flat k d=true) ->
   (PyData.eqvAll (dZs ds) (dZs es)=true↔ds=es):=by
  intro n ih k ds
  induction ds with
  | nil=>intro es _ _;cases es<;>simp[dZs,PyData.eqvAll]
  | cons d ds hi=>
   intro es h1 h2;cases es with
   | nil=>simp[dZs,PyData.eqvAll]
   | cons e es=>
    have q1:=ih d e k (h1 d (.head _)) (h2 e (.head _));have q2:=hi es (fun x hx=>h1 x (.tail _ hx)) fun x hx=>h2 x (.tail _ hx);simp only[dZs,PyData.eqvAll,Bool.and_eq_true,q1,q2,List.cons.injEq]
 intro n
 induction n with
 | zero=>
  intro d e k h1 h2;cases d<;>cases e<;>simp_all[flat,dZ,PyData.eqv]
 | succ n ih=>
  intro d e k h1 h2;cases d with
  | tup ds=>
   cases e with
   | tup es=>
    cases k with
    | zero=>simp[flat]at h2
    | succ k=>
     simp only[dZ,PyData.eqv,Z.tup.injEq];exact all n ih k ds es (by simpa[flat]using h1) (by simpa[flat]using h2)
   | _=>simp_all[flat,dZ,PyData.eqv]
  | _=>cases e<;>simp_all[flat,dZ,PyData.eqv]
theorem b4z (n k:Nat) (ds es:List Z) (h:ds.all (flat n)=true) (h':es.all (flat k)=true):PyData.eqvAll (dZs ds) (dZs es)=true↔ds=es:=by
 have q:=b3F (n+1) (.tup ds) (.tup es) (k+1) (by simpa[flat]using h) (by simpa[flat]using h');simpa only [dZ,PyData.eqv,Z.tup.injEq]using q
section
variable {K:Fg}{H:Hp}
theorem b4A:∀ (n:Nat) (w:Z) (v:V),flat n w=true->Rep K H w v->DV H (dZ w) v:=by
 have all:∀ (n:Nat),(∀ w v,flat n w=true->Rep K H w v->DV H (dZ w) v)->∀ (ws:List Z) (vs:List V),(∀ d∈ws,flat n d=true)->Reps K H ws vs->DVs H (dZs ws) vs:=by
  intro n ih ws
  induction ws with
  | nil=>intro vs _ r;rw[a0A]at r;simp only[dZs];unfold DVs;exact r
  | cons w ws hi=>
   intro vs h r;rw[a0q]at r;obtain⟨v,r',e,r1,r2⟩:=r;simp only[dZs];unfold DVs;exact⟨v,r',e,ih w v (h w (.head _)) r1,hi r' (fun d hd=>h d (.tail _ hd)) r2⟩
 intro n
 induction n with
 | zero=>
  intro w v h r;cases w with
  | non=>rw[a1b]at r;simp only[dZ];unfold DV;exact r
  | int i=>rw[a0r]at r;simp only[dZ];unfold DV;exact r
  | str x=>rw[a0w]at r;simp only[dZ];unfold DV;exact r
  | _=>simp[flat]at h
 | succ n ih=>
  intro w v h r;cases w with
  | non=>rw[a1b]at r;simp only[dZ];unfold DV;exact r
  | int i=>rw[a0r]at r;simp only[dZ];unfold DV;exact r
  | str x=>rw[a0w]at r;simp only[dZ];unfold DV;exact r
  | tup ws=>
   rw[a01]at r;obtain⟨a,vs,e,ea,rs⟩:=r;simp only[dZ];unfold DV;exact⟨a,vs,e,ea,all n ih ws vs (by simpa[flat]using h) rs⟩
  | _=>simp[flat]at h
theorem b0X (n:Nat):∀ (ws:List Z) (vs:List V),ws.all (flat n)=true->Reps K H ws vs->DVs H (dZs ws) vs
 | [],vs,_,r=>by rw[a0A]at r;simp only[dZs];unfold DVs;exact r
 | w::ws,vs,h,r=>by
  rw[a0q]at r;obtain⟨v,r',e,r1,r2⟩:=r;rw[List.all_cons,Bool.and_eq_true]at h;simp only[dZs];unfold DVs;exact⟨v,r',e,b4A n w v h.1 r1,b0X n ws r' h.2 r2⟩
end
theorem a46 {n:Nat}{w:Z}(h:flat n w=true) (hn:n≤64):SeqAt.shaped (dZ w)=true:=by
 have q:=b3E n w h;unfold SeqAt.shaped;rw[q.1,Bool.true_and];exact decide_eq_true (by omega)
theorem a47 {n:Nat}{ws:List Z}(h:ws.all (flat n)=true) (hn:n≤63):SeqAt.shaped (.list (dZs ws))=true:=by
 have q:=b4y n ws h;unfold SeqAt.shaped;simp only[PyData.canLay0,PyData.depth,q.1,Bool.true_and];exact decide_eq_true (by omega)
theorem b0Y {a:Bool}{p:Prop}[Decidable p] (h:a=true↔p):a=decide p:=by
 cases a with
 | true=>exact (decide_eq_true (h.mp rfl)).symm
 | false=>exact (decide_eq_false fun q=>by cases h.mpr q).symm
theorem a0J {p q:Prop}[Decidable p] [Decidable q] (h:p=q):decide p=decide q:=by
 by_cases k:q
 ·rw[decide_eq_true k,decide_eq_true (h▸k)]
 ·rw[decide_eq_false k,decide_eq_false (h▸k)]
def zEq (f:Bool->Bool):R3:=fun x y G R=>match x,y with
 | .bl a,.bl b=>R (.bl (f (a==b))) G
 | .int a,.int b=>R (.bl (f (decide (a=b)))) G
 | .str a,.str b=>R (.bl (f (decide (a=b)))) G
 | .ref p,.ref q=>∃ xs ys,G p=some (.lst xs)/\G q=some (.lst ys)/\xs.all (flat 8)=true/\ys.all (flat 8)=true/\R (.bl (f (decide (xs=ys)))) G
 | x,y=>flat 8 x=true/\flat 8 y=true/\R (.bl (f (decide (x=y)))) G
section
variable {X:Cx}
theorem b3G {f:Bool->Bool}{K:Fg}{x y:V}{H:Hp}{Q:VK}(h:low2 K (zEq f) x y H Q) :
    (scal x y=true/\Q (.bl (f (decide (x=y)))) H)\/∃ d e,DV H d x/\DV H e y/\SeqAt.shaped d=true/\SeqAt.shaped e=true/\Q (.bl (f (PyData.eqv d e))) H:=by
  obtain⟨a,b,G,R,ra,rb,hg,h,up⟩:=h;have flt:flat 8 a=true/\flat 8 b=true/\R (.bl (f (decide (a=b)))) G->∃ d e,DV H d x/\DV H e y/\SeqAt.shaped d=true/\SeqAt.shaped e=true/\Q (.bl (f (PyData.eqv d e))) H:=fun ⟨h1,h2,h3⟩=>by
    refine⟨dZ a,dZ b,b4A 8 _ _ h1 ra,b4A 8 _ _ h2 rb,a46 h1 (by decide),a46 h2 (by decide),?_⟩;rw[b0Y (b3F 8 a b 8 h1 h2)];exact up _ _ _ _ h3 (by rw[a0M]) hg (.refl _ _)
  cases a<;>cases b<;>first
    | exact .inr (flt h)
    | (rw[a0M]at ra rb;subst ra rb;exact .inl ⟨rfl,by rw[b0d];exact up _ _ _ _ h (by rw[a0M]) hg (.refl _ _)⟩)
    | (rw[a0r]at ra rb;subst ra rb;exact .inl ⟨rfl,by rw[a0J (V.int.injEq _ _)];exact up _ _ _ _ h (by rw[a0M]) hg (.refl _ _)⟩)
    | (rw[a0w]at ra rb;subst ra rb;exact .inl ⟨rfl,by rw[a0J (V.str.injEq _ _)];exact up _ _ _ _ h (by rw[a0M]) hg (.refl _ _)⟩)
    | (rw[a0m]at ra rb
       subst ra rb;obtain⟨xs,ys,e1,e2,f1,f2,h⟩:=h;obtain⟨vs,e1',r1⟩:=hg _ _ e1;obtain⟨us,e2',r2⟩:=hg _ _ e2;refine .inr ⟨.list (dZs xs),.list (dZs ys),?_,?_,a47 f1 (by decide),a47 f2 (by decide),?_⟩
       · unfold DV;exact⟨_,vs,rfl,e1',b0X 8 _ _ f1 r1⟩
       · unfold DV;exact⟨_,us,rfl,e2',b0X 8 _ _ f2 r2⟩
       · simp only[PyData.eqv]
         rw[b0Y (b4z 8 8 xs ys f1 f2)];exact up _ _ _ _ h (by rw[a0M]) hg (.refl _ _))
theorem o_eq (hu:X.A.units+66<cLine):OpQ X (compareOp .Eq) (zEq id):=a6X (op_eq.or (b6n hu)) fun x y H Q h=>b3G h
theorem o_ne (hu:X.A.units+66<cLine):OpQ X (compareOp .NotEq) (zEq not):=a6X (op_ne.or (b6o hu)) fun x y H Q h=>b3G h
end
end L3
namespace L2
open PySem PySem.Spec PyProof.Rows
def Its (x:Str):It:=⟨fun i _=>i<x.cps.size,fun i H v H'=>H'=H/\∃ c,x.cps[i]?=some c/\v=.str ⟨#[c]⟩,fun i _=>i=x.cps.size⟩
theorem a8x {P:Program}{w:World}{K:Fg}{tg:Expr}{it:Addr}{ty:String}{x:Str}{t:Tok}
  (hty:["enumerate","zip","dict_itemiterator","dict_reverseitemiterator","odict_iterator","itertools.zip_longest","itertools.pairwise"].contains ty=false)
  (W:∀ A':Around,A'.handled=none->Walks P w A' it [it] [it] x.cps.size (SignAt x) (fun i h=>h.IsStrIter it ty x t i))
  (hself:∀ (A:Around) (i:Nat) (s:Shared) (Q:Value->Shared->Prop) (E:Value->Shared->Prop),s.heap.IsStrIter it ty x t i->Q (.ref it) s->wpAny (model P w) A (pyIter (.ref it)) Q E s) :
  Turn P w K tg (Its x) [it] it (fun i h=>h.IsStrIter it ty x t i) where
 mem:=by simp
 obj:=fun i h st b hb=>by
  have e:b=it:=by simpa using hb
  subst e;obtain⟨o,e,c,d⟩:=st;exact⟨o,e,fun v z=>by rw[d]at z;cases z⟩
 keep:=fun i h h' st k=>let ⟨o,e,r⟩:=st;⟨o,k it (by simp) o e,r⟩
 item:=by
  intro X hP hw hK hc i pins s σ H E I hf st hg;subst hP hw hK;obtain⟨f0,f1,f2,f3,f4,f5⟩:=hf it (by simp);refine (W X.A (I.ok.hd hc)).item i s _ _ hg st fun v h' tk ⟨c,u,hx,e⟩ st' k=>?_;subst e;have I1:Inv X pins σ H { s with heap:=h',toks:=tk }:=I.turned (t':=tk) (fun b o hb e=>k b o (by simpa using hb) e) f0 f1 f3 f4 f5;obtain⟨o,e,cl,d⟩:=id st';exact⟨_,rfl,a9o (s:={ s with heap:=h',toks:=tk }) e cl d hty ⟨.str ⟨#[c]⟩,H,I1,⟨_,rfl⟩,⟨rfl,c,hx,rfl⟩,st',fun b hb=>(hf b hb).1⟩⟩
 done:=by
  intro X hP hw hK hc i pins s σ H E I hf st hg;subst hP hw hK;obtain⟨f0,f1,f2,f3,f4,f5⟩:=hf it (by simp);have hg':i=x.cps.size:=hg;subst hg';exact (W X.A (I.ok.hd hc)).done s _ _ st fun h' tk k=>⟨rfl,I.turned (t':=tk) (fun b o hb e=>k b o (by simpa using hb) e) f0 f1 f3 f4 f5⟩
 self:=hself
def iStr (tl:TE):TI:=fun σ H R=>tl σ H fun v H1=>∃ x,v=.str x/\R (Its x) H1
theorem b6F {X:Cx}{tg l:Expr}{tl:TE}(hl:PE X l tl):PI X tg l (iStr tl):=by
 intro pins s σ H R I h;refine thn (hl pins s σ H _ I h) fun v s1 ⟨x,H1,I1,r1,q1⟩=>?_;obtain⟨y,e,q⟩:=q1;subst e;obtain⟨t,rfl⟩:=r1;have fp:∀ (o:Obj),∀ b∈[s1.heap.objs.size],FpOk X pins H1 b:=fun o b hb=>by
  have e:b=s1.heap.objs.size:=by simpa using hb
  subst e;exact I1.fpOk (Nat.le_refl _) (I1.hok.fresh (Nat.le_refl _))
 cases ha:y.cps.all (·<128)
 ·refine wpAny_pyIter_wide ha ?_;exact⟨s1.heap.objs.size,[s1.heap.objs.size],_,_,H1,rfl,I1.kept (t':=s1.toks) (fun b o e=>Heap.get?_push_of_some _ e),a8x (by decide) (fun A' hA=>Walks.strWide hA _ y t) (fun _ _ _ _ _ st h=>wpAny_pyIter_striter_wide st h),
   ⟨_,Heap.get?_push_size _ rfl,rfl,rfl⟩,fp default,q⟩
 ·refine wpAny_pyIter_ascii ha ?_;exact⟨s1.heap.objs.size,[s1.heap.objs.size],_,_,H1,rfl,I1.kept (t':=s1.toks) (fun b o e=>Heap.get?_push_of_some _ e),a8x (by decide) (fun A' hA=>Walks.strAscii hA _ y t) (fun _ _ _ _ _ st h=>wpAny_pyIter_striter_ascii st h),
   ⟨_,Heap.get?_push_size _ rfl,rfl,rfl⟩,fp default,q⟩
theorem Vals.tog:∀ {xs:List V}{us:List Value}{i:Nat}{u:Value},Vals xs us->us[i]?=some u->∃ x,xs[i]?=some x/\RelV x u
 | _,_,_,_,.nil,e=>by simp at e
 | _,_,0,_,.cons r _,e=>by simp at e;subst e;exact⟨_,rfl,r⟩
 | _,_,i+1,u,.cons _ t,e=>by
  obtain⟨x,h1,h2⟩:=Vals.tog (i:=i) (u:=u) t (by simpa using e);exact⟨x,by simpa using h1,h2⟩
theorem a5R:∀ {ys:List Str}{us:List Value},Vals (ys.map V.str) us->StrsAre us ys
 | [],us,r=>by rw[List.map_nil]at r;cases r;exact .nil
 | y::ys,us,r=>by
  rw[List.map_cons]at r;cases r with
  | cons r1 r2=>
   obtain⟨t,e⟩:=r1;subst e;exact .cons y t (a5R r2)
theorem b0Z (bs:List Bool):(List.range bs.length).all (fun i=>bs.getD i false)=bs.all id:=by
 rw[Bool.eq_iff_iff];simp only[List.all_eq_true,List.mem_range,id]
 constructor
 ·intro h b hb;obtain⟨i,hi,e⟩:=List.getElem_of_mem hb
  have:=h i hi
  rw[List.getD_eq_getElem?_getD,List.getElem?_eq_getElem hi]at this;rw[<- e];exact this
 ·intro h i hi;rw[List.getD_eq_getElem?_getD,List.getElem?_eq_getElem hi];exact h _ (List.getElem_mem hi)
section
variable {X:Cx}
theorem b00 (hc:X.calm=true):CallR X (.builtin "all") (fun xs H Q=>∃ (p:Addr) (bs:List Bool),xs=[.ref p]/\SqL X.K H p (bs.map V.bl)/\Q (.bl (bs.all id)) H):=by
 intro pins s σ H xs us Q I r h;obtain⟨p,bs,rfl,hq,q⟩:=h;obtain⟨u,rfl,r1⟩:=a3d r;cases r1;obtain⟨its,rv,pl,_⟩:=I.list hq;have hp:p<s.heap.objs.size:=by obtain⟨o,_,e,_⟩:=pl;exact Heap.lt_size e
 refine call_all_walk (wpAny_pyIter_list pl.isList ?_);have hh:X.A.in1.handled=none:=I.ok.hd hc;have il:(s.heap.push { cls:=.type "list_iterator",data:=.fields #[.ref p,rawInt 0] }).IsList p its.toArray:=by
  obtain⟨o,e,c⟩:=pl.isList;exact⟨o,Heap.get?_push_of_some _ e,c⟩
 refine⟨_,_,_,_,_,_,fun i=>bs.getD i false,rfl,Walks.list hh s.heap.objs.size p (Nat.ne_of_lt hp) its.toArray,⟨⟨_,Heap.get?_push_size _ rfl,rfl,rfl⟩,il⟩,?_,?_⟩
 ·intro i v s' Q' E' hv hQ;obtain⟨x,hx,rx⟩:=Vals.tog rv (by simpa using hv);rw[List.getElem?_map]at hx;cases hb:bs[i]? with
  | none=>rw[hb]at hx;cases hx
  | some b=>
   rw[hb]at hx;cases hx;cases rx;refine wpAny_truthy_bool ?_
   have:bs.getD i false=b:=by rw[List.getD_eq_getElem?_getD,hb];rfl
   dsimp only at hQ;rw[this]at hQ;exact hQ
 ·intro h' tk k;have e:(List.range its.toArray.size).all (fun i=>bs.getD i false)=bs.all id:=by
   have hl:its.toArray.size=bs.length:=by rw[List.size_toArray,<- rv.length,List.length_map]
   rw[hl];exact b0Z bs
  rw[e];exact⟨.bl _,H,I.kept (t':=tk) (fun b o eb=>k b o (by simpa using Nat.ne_of_lt (Heap.lt_size eb)) (Heap.get?_push_of_some _ eb)),rfl,q⟩
theorem b6G:OpR X (compareOp .Is) (fun x y H Q=>∃ a b,x=.bl a/\y=.bl b/\Q (.bl (a==b)) H):=by
 intro pins s σ H x y v u Q I rx ry h;obtain⟨a,b,rfl,rfl,q⟩:=h;cases rx;cases ry;exact wpAny_is_plain rfl (a0B I q (by cases a<;>cases b<;>rfl))
theorem b4B:MtR X "str.join" (fun x vs H Q=>∃ (z:Str) (p:Addr) (ys:List Str),x=.str z/\vs=[.ref p]/\SqL X.K H p (ys.map V.str)/\(ys.map (·.length)).sum+ys.length*z.length≤16777216/\Q (.str (Txt.join z ys)) H):=by
 intro pins s σ H x xs v us Q I rx rs h;obtain⟨z,p,ys,rfl,rfl,hq,hz,q⟩:=h;obtain⟨t,rfl⟩:=rx;obtain⟨u,rfl,r1⟩:=a3d rs;cases r1;obtain⟨its,rv,pl,_⟩:=I.list hq;exact join_list pl.isList (by simpa using a5R rv) hz fun t' k=>⟨.str _,H,I.tok k,⟨_,rfl⟩,q⟩
def rSlS:V->Option Int->Option Int->Hp->VK->Prop:=fun x lo hi H Q=>∃ z,x=.str z/\z.length≤sizeLine/\Q (.str (Txt.slice z lo hi)) H
theorem b6H:SlR X rSlS:=by
 intro pins s σ H x v vl vu lo hi sl Q I rx hs pl pu h;obtain⟨z,rfl,hz,q⟩:=h;obtain⟨t,rfl⟩:=rx;obtain⟨o,e,c,d⟩:=hs;have fin:∀ lo hi,Q (.str (Txt.slice z lo hi)) H->(Txt.slice z lo hi).length≤sizeLine/\∀ t' k,EP X pins σ Q (.str (Txt.slice z lo hi) t') { s with toks:=k }:=fun lo hi q=>
  ⟨Nat.le_trans (Txt.slice_le z _ _) hz,fun t' k=>⟨.str _,H,I.tok k,⟨_,rfl⟩,q⟩⟩
 cases pl with
 | none=>
  cases pu with
  | none=>exact⟨"str",_,F.slot_str_getitem.lookup,typeIs_str _ _ _,wpAny_getItem_str_slice (l:=none) (u:=none) (st:=none) ⟨o,e,c,d⟩ rfl (post_val_or_str (fin _ _ q))⟩
  | int j u=>exact⟨"str",_,F.slot_str_getitem.lookup,typeIs_str _ _ _,wpAny_getItem_str_slice (l:=none) (u:=some (j,u)) (st:=none) ⟨o,e,c,d⟩ rfl (post_val_or_str (fin _ _ q))⟩
 | int i v=>
  cases pu with
  | none=>exact⟨"str",_,F.slot_str_getitem.lookup,typeIs_str _ _ _,wpAny_getItem_str_slice (l:=some (i,v)) (u:=none) (st:=none) ⟨o,e,c,d⟩ rfl (post_val_or_str (fin _ _ q))⟩
  | int j u=>exact⟨"str",_,F.slot_str_getitem.lookup,typeIs_str _ _ _,wpAny_getItem_str_slice (l:=some (i,v)) (u:=some (j,u)) (st:=none) ⟨o,e,c,d⟩ rfl (post_val_or_str (fin _ _ q))⟩
end
end L2
namespace L3
open PySem PySem.Spec PyProof.Rows L2
section
variable {X:Cx}
theorem o_is:OpQ X (compareOp .Is) (zIs false):=a6X (op_isN.or b6G) fun x y H Q hx=>hx.un fun a b G R ra rb hg h up=>by
 cases b with
 | non=>rw[a1b]at rb;exact .inl ⟨rb,by rw[a5Q ra];exact up _ _ _ _ h (by rw[a0M];rfl) hg (.refl _ _)⟩
 | bl b=>
  cases a with
  | bl a=>rw[a0M]at ra rb;exact .inr ⟨_,_,ra,rb,up _ _ _ _ h.2 (by rw[a0M]) hg (.refl _ _)⟩
  | _=>exact False.elim h
 | _=>exact False.elim h
theorem a34:OpQ X (compareOp .IsNot) (zIs true):=a6X b4g fun x y H Q hx=>hx.un fun a b G R ra rb hg h up=>by
 cases b with
 | non=>rw[a1b]at rb;exact⟨rb,by rw[a5Q ra];exact up _ _ _ _ h (by rw[a0M];rfl) hg (.refl _ _)⟩
 | bl b=>
  cases a with
  | bl a=>exact nomatch h.1
  | _=>exact False.elim h
 | _=>exact False.elim h
def zIx:R3:=fun x y G R=>match x,y with
 | .ref p,.int i=>∃ ws w,G p=some (.lst ws)/\atI ws i=some w/\R w G
 | .scr _ ns,.int i=>∃ n,atI ns i=some n/\R (.int n) G
 | .tup ws,.int i=>∃ w,atI ws i=some w/\R w G
 | .str z,.int i=>∃ c,z.length≤sizeLine/\atI z.cps.toList i=some c/\R (.str ⟨#[c]⟩) G
 | _,_=>False
theorem b01 {K:Fg}{H:Hp}{ws:List Z}{vs:List V}{i:Int}{w:Z}(r:Reps K H ws vs) (h:atI ws i=some w):∃ v,atI vs i=some v/\Rep K H w v:=by
 unfold atI at h ⊢;rw[<- r.length];cases e:ixN ws.length i with
 | none=>rw[e]at h;cases h
 | some j=>
  rw[e]at h;exact r.get h
theorem b4C {α β:Type}{f:α->β}{xs:List α}{i:Int}{x:α}(h:atI xs i=some x):atI (xs.map f) i=some (f x):=by
 unfold atI at h ⊢;rw[List.length_map];cases e:ixN xs.length i with
 | none=>rw[e]at h;cases h
 | some j=>
  rw[e]at h;have h':xs[j]?=some x:=h
  show (xs.map f)[j]?=some (f x)
  rw[List.getElem?_map,h'];rfl
theorem x_ix:IxQ X zIx:=b6t b58 fun x y H Q hx=>hx.un fun a b G R ra rb hg h up=>by
  cases a<;>cases b<;>first
    | exact False.elim h
    | (rw[a0m]at ra
       rw[a0r]at rb;obtain⟨ws,w,e,hw,h⟩:=h;obtain⟨vs,e',rs⟩:=hg _ _ e;obtain⟨v,hv,rv⟩:=b01 rs hw;exact .inl ⟨_,_,_,v,ra,rb,SqL.of e',hv,up _ _ _ _ h rv hg (.refl _ _)⟩)
    | (rw[a12]at ra
       rw[a0r]at rb;obtain⟨n,hn,h⟩:=h;exact .inl ⟨_,_,_,_,ra.1,rb,ra.2.sq,b4C hn,up _ _ _ _ h (by rw[a0r]) hg (.refl _ _)⟩)
    | (rw[a01]at ra
       rw[a0r]at rb;obtain⟨p,vs,e,e',rs⟩:=ra;obtain⟨w,hw,h⟩:=h;obtain⟨v,hv,rv⟩:=b01 rs hw;exact .inr (.inl ⟨p,vs,_,v,e,rb,SqT.of e',hv,up _ _ _ _ h rv hg (.refl _ _)⟩))
    | (rw[a0w]at ra
       rw[a0r]at rb;obtain⟨c,hz,hc,h⟩:=h;exact .inr (.inr ⟨_,_,c,ra,rb,hz,hc,up _ _ _ _ h (by rw[a0w]) hg (.refl _ _)⟩))
def cutZ {α:Type}(xs:List α) (lo hi:Option Int):List α:=(xs.drop (HT.sIx xs.length 0 lo)).take (HT.sIx xs.length xs.length hi - HT.sIx xs.length 0 lo)
theorem b4D (xs:List V) (lo hi:Option Int):cutV xs lo hi=cutZ xs lo hi:=rfl
theorem a7X {α:Type}(xs:List α) (lo hi:Option Int):(cutZ xs lo hi).length≤xs.length:=by
 unfold cutZ;rw[List.length_take,List.length_drop];omega
theorem Reps.cut {K:Fg}{H:Hp}{ws:List Z}{vs:List V}(r:Reps K H ws vs) (lo hi:Option Int):Reps K H (cutZ ws lo hi) (cutV vs lo hi):=by
 unfold cutZ cutV;rw[<- r.length];exact (r.drop _).take _
theorem a8y {α β:Type}(f:α->β) (xs:List α) (lo hi:Option Int):cutZ (xs.map f) lo hi=(cutZ xs lo hi).map f:=by
 unfold cutZ;rw[List.length_map,List.map_take,List.map_drop]
def zSl:L3r:=fun x lo hi G R=>match x with
 | .ref p=>∃ ws,G p=some (.lst ws)/\∀ t,G t=none->R (.ref t) (put G t (.lst (cutZ ws lo hi)))
 | .scr _ ns=>∀ t,G t=none->R (.ref t) (put G t (.lst ((cutZ ns lo hi).map Z.int)))
 | .tup ws=>¬ (HT.sIx ws.length 0 lo=0/\HT.sIx ws.length ws.length hi=ws.length)/\R (.tup (cutZ ws lo hi)) G
 | .str z=>z.length≤sizeLine/\R (.str (Txt.slice z lo hi)) G
 | _=>False
theorem x_sl:SlQ X zSl:=b8D (sl_list.or (sl_tup.or b6H)) fun x lo hi H Q hx=>hx.un fun a G R ra hg h up=>by
 cases a with
 | ref p=>
  rw[a0m]at ra;obtain⟨ws,e,h⟩:=h;obtain⟨vs,e',rs⟩:=hg _ _ e;exact .inl ⟨p,vs,ra,SqL.of e',fun t ht=>up _ _ _ _ (h t (hg.out ht)) (by rw[a0m]) (hg.set (.new ht) (a1e (rs.cut lo hi) (.new ht))) (.new ht)⟩
 | scr p ns=>
  rw[a12]at ra;refine .inl ⟨p,_,ra.1,ra.2.sq,fun t ht=>?_⟩;rw[b4D,a8y];exact up _ _ _ _ (h t (hg.out ht)) (by rw[a0m]) (hg.set (.new ht) (a1e (a2a _) (.new ht))) (.new ht)
 | tup ws=>
  rw[a01]at ra;obtain⟨p,vs,e,e',rs⟩:=ra;exact .inr (.inl ⟨p,vs,e,SqT.of e',by rw[<- rs.length];exact h.1,fun t ht=>up _ _ _ _ h.2 (by rw[a01];exact⟨t,_,rfl,a0C,(rs.cut lo hi).mono (.new ht)⟩) (hg.hid ht) (.new ht)⟩)
 | str z=>
  rw[a0w]at ra;exact .inr (.inr ⟨z,ra,h.1,up _ _ _ _ h.2 (by rw[a0w]) hg (.refl _ _)⟩)
 | _=>exact False.elim h
def zSet:Z3:=fun o i v G R=>match o,i with
 | .ref p,.int k=>∃ ws j,G p=some (.lst ws)/\ixN ws.length k=some j/\R (put G p (.lst (ws.set j v)))
 | _,_=>False
theorem b6I:SetQ X zSet:=b3A b2j fun o i v H Q hx=>hx.un fun a b w G R ra rb rw' hg h up=>by
  cases a<;>cases b<;>first
    | exact False.elim h
    | (rw[a0m]at ra
       rw[a0r]at rb;obtain⟨ws,j,e,hj,h⟩:=h;obtain⟨vs,e',rs⟩:=hg _ _ e;exact⟨_,vs,_,j,ra,rb,e',by rw[<- rs.length];exact hj,up _ _ h (hg.set (.lst e') (a1e (rs.set rw' j) (.lst e'))) (.lst e')⟩)
def zLen:List Z->Hq->K3->Prop:=fun xs G R=>match xs with
 | [.str z]=>z.length≤sizeLine/\R (.int z.length) G
 | [.ref p]=>∃ ws,G p=some (.lst ws)/\R (.int ws.length) G
 | [.tup ws]=>R (.int ws.length) G
 | [.scr _ ns]=>R (.int ns.length) G
 | _=>False
theorem b_len:a3h X (.builtin "len") zLen:=a1H b2c fun xs H Q hx=>hx.un fun ws G R rs hg h up=>by
 match ws,h with
 | [.str z],h=>
  obtain⟨v,rfl,r⟩:=rs.one;rw[a0w]at r;exact⟨v,z.length,rfl,by rw[r];exact⟨h.1,rfl⟩,up _ _ _ _ h.2 (by rw[a0r]) hg (.refl _ _)⟩
 | [.ref p],h=>
  obtain⟨v,rfl,r⟩:=rs.one;rw[a0m]at r;obtain⟨ys,e,h⟩:=h;obtain⟨vs,e',rs'⟩:=hg _ _ e;exact⟨v,ys.length,rfl,by rw[r];exact .inl ⟨vs,SqL.of e',rs'.length⟩,up _ _ _ _ h (by rw[a0r]) hg (.refl _ _)⟩
 | [.tup ys],h=>
  obtain⟨v,rfl,r⟩:=rs.one;rw[a01]at r;obtain⟨p,vs,e,e',rs'⟩:=r;exact⟨v,ys.length,rfl,by rw[e];exact .inr ⟨vs,SqT.of e',rs'.length⟩,up _ _ _ _ h (by rw[a0r]) hg (.refl _ _)⟩
 | [.scr p ns],h=>
  obtain⟨v,rfl,r⟩:=rs.one;rw[a12]at r;exact⟨v,ns.length,rfl,by rw[r.1];exact .inl ⟨_,r.2.sq,(List.length_map ..).symm⟩,up _ _ _ _ h (by rw[a0r]) hg (.refl _ _)⟩
def zMM (f:Int->Int->Int):List Z->Hq->K3->Prop:=fun xs G R=>match xs with
 | [.int i,.int j]=>R (.int (f i j)) G
 | _=>False
theorem bMM {id:String}{f:Int->Int->Int}(hf:CallR X (.builtin id) (fun xs H Q=>∃ i j,xs=[.int i,.int j]/\Q (.int (f i j)) H)):a3h X (.builtin id) (zMM f):=a1H hf fun xs H Q hx=>hx.un fun ws G R rs hg h up=>by
 match ws,h with
 | [.int i,.int j],h=>
  obtain⟨v,v',rfl,r,r'⟩:=rs.two;rw[a0r]at r r';exact⟨i,j,by rw[r,r'],up _ _ _ _ h (by rw[a0r]) hg (.refl _ _)⟩
theorem b_max (hc:X.calm=true):a3h X (.builtin "max") (zMM fun i j=>if j > i then j else i):=bMM (b0i hc)
theorem b_min (hc:X.calm=true):a3h X (.builtin "min") (zMM fun i j=>if j<i then j else i):=bMM (b0j hc)
def zAll:List Z->Hq->K3->Prop:=fun xs G R=>match xs with
 | [.ref p]=>∃ bs:List Bool,G p=some (.lst (bs.map Z.bl))/\R (.bl (bs.all id)) G
 | _=>False
theorem a8z {K:Fg}{H:Hp}:∀ {bs:List Bool}{vs:List V},Reps K H (bs.map Z.bl) vs->vs=bs.map V.bl
 | [],vs,h=>by rw[List.map_nil,a0A]at h;subst h;rfl
 | n::ns,vs,h=>by
  rw[List.map_cons,a0q]at h;obtain⟨v,r,rfl,h1,h2⟩:=h;rw[a0M]at h1;rw[h1,a8z h2];rfl
theorem a60 {K:Fg}{H:Hp}:∀ {bs:List Str}{vs:List V},Reps K H (bs.map Z.str) vs->vs=bs.map V.str
 | [],vs,h=>by rw[List.map_nil,a0A]at h;subst h;rfl
 | n::ns,vs,h=>by
  rw[List.map_cons,a0q]at h;obtain⟨v,r,rfl,h1,h2⟩:=h;rw[a0w]at h1;rw[h1,a60 h2];rfl
theorem b_all (hc:X.calm=true):a3h X (.builtin "all") zAll:=a1H (b00 hc) fun xs H Q hx=>hx.un fun ws G R rs hg h up=>by
 match ws,h with
 | [.ref p],h=>
  obtain⟨v,rfl,r⟩:=rs.one;rw[a0m]at r;obtain⟨bs,e,h⟩:=h;obtain⟨vs,e',rs'⟩:=hg _ _ e
  have:=a8z rs'
  subst this;exact⟨p,bs,by rw[r],SqL.of e',up _ _ _ _ h (by rw[a0M]) hg (.refl _ _)⟩
def b8H:List Z->Hq->K3->Prop:=fun xs G R=>match xs with
 | [.ref p]=>∃ ws,G p=some (.lst ws)/\∀ t,G t=none->R (.ref t) (put G t (.lst ws))
 | [.tup ws]=>∀ t,G t=none->R (.ref t) (put G t (.lst ws))
 | [.scr _ ns]=>∀ t,G t=none->R (.ref t) (put G t (.lst (ns.map Z.int)))
 | _=>False
theorem b_list:a3h X (.type "list") b8H:=a1H a6T fun xs H Q hx=>hx.un fun ws G R rs hg h up=>by
 match ws,h with
 | [.ref p],h=>
  obtain⟨v,rfl,r⟩:=rs.one;rw[a0m]at r;obtain⟨ys,e,h⟩:=h;obtain⟨vs,e',rs'⟩:=hg _ _ e;exact⟨p,vs,by rw[r],.inl (SqL.of e'),fun t ht=>up _ _ _ _ (h t (hg.out ht)) (by rw[a0m]) (hg.set (.new ht) (a1e rs' (.new ht))) (.new ht)⟩
 | [.tup ys],h=>
  obtain⟨v,rfl,r⟩:=rs.one;rw[a01]at r;obtain⟨p,vs,e,e',rs'⟩:=r;exact⟨p,vs,by rw[e],.inr (SqT.of e'),fun t ht=>up _ _ _ _ (h t (hg.out ht)) (by rw[a0m]) (hg.set (.new ht) (a1e rs' (.new ht))) (.new ht)⟩
 | [.scr p ns],h=>
  obtain⟨v,rfl,r⟩:=rs.one;rw[a12]at r;exact⟨p,_,by rw[r.1],.inl r.2.sq,fun t ht=>up _ _ _ _ (h t (hg.out ht)) (by rw[a0m]) (hg.set (.new ht) (a1e (a2a _) (.new ht))) (.new ht)⟩
def kit0 (n T:String):Option Bool:=if (Value.type n==Value.type T)=true then some true else if PySem.W.kitMeta T=true then (PySem.fastBuiltinMro n).map (·.contains (.type T)) else none
theorem b6J {K:Fg}{n T:String}:PySem.W.kitOne K (.type n) (.type T)=kit0 n T:=rfl
def tyN (G:Hq):Z->Option String
 | .non=>some "NoneType"
 | .bl _=>some "bool"
 | .int _=>some "int"
 | .str _=>some "str"
 | .tup _=>some "tuple"
 | .ref p=>match G p with
  | some (.lst _)=>some "list"
  | some (.dK _)=>some "dict"
  | _=>none
 | _=>none
def zIsT:List Z->Hq->K3->Prop:=fun xs G R=>match xs with
 | [x,.ty T]=>∃ n b,tyN G x=some n/\kit0 n T=some b/\R (.bl b) G
 | _=>False
theorem b2E {K:Fg}{G:Hq}{H:Hp}{x:Z}{v:V}{n:String}(h:tyN G x=some n) (r:Rep K H x v) (hg:RH K G H):TyOf K H v (.type n):=by
 cases x with
 | non=>rw[a1b]at r;subst r;cases h;exact .non
 | bl _=>rw[a0M]at r;subst r;cases h;exact .bl _
 | int _=>rw[a0r]at r;subst r;cases h;exact .int _
 | str _=>rw[a0w]at r;subst r;cases h;exact .str _
 | tup ws=>rw[a01]at r;obtain⟨a,vs,rfl,e,_⟩:=r;cases h;exact .tup e
 | ref p=>
  rw[a0m]at r;subst r;cases e:G p with
  | none=>simp[tyN,e]at h
  | some o=>
   cases o with
   | lst ws=>simp[tyN,e]at h;subst h;obtain⟨vs,e',_⟩:=hg _ _ e;exact .lst e'
   | dK kvs=>simp[tyN,e]at h;subst h;obtain⟨vs,e',_⟩:=hg _ _ e;exact .dK e'
   | ins C dx fs=>simp[tyN,e]at h
   | dF kvs=>simp[tyN,e]at h
 | ty _=>cases h
 | scr _ _=>cases h
theorem a9C:a3h X (.builtin "isinstance") zIsT:=a1H b2y fun xs H Q hx=>hx.un fun ws G R rs hg h up=>by
 match ws,h with
 | [x,.ty T],h=>
  obtain⟨v,v',rfl,r,r'⟩:=rs.two;rw[a8u]at r';obtain⟨n,b,e,k,h⟩:=h;exact⟨v,T,.type n,b,by rw[r'],b2E e r hg,by rw[b6J];exact k,up _ _ _ _ h (by rw[a0M]) hg (.refl _ _)⟩
def a6k:Z->List Z->Hq->K3->Prop:=fun x xs G R=>match x,xs with
 | .ref p,[y]=>∃ ws,G p=some (.lst ws)/\ws.length<sizeLine/\R .non (put G p (.lst (ws++[y])))
 | _,_=>False
theorem a1D:MtQ X "list.append" a6k:=a7Q a6U fun x xs H Q hx=>hx.un fun w ws G R rw' rs hg h up=>by
 match w,ws,h with
 | .ref p,[y],h=>
  rw[a0m]at rw';obtain⟨v,rfl,r⟩:=rs.one;obtain⟨ys,e,hz,h⟩:=h;obtain⟨vs,e',rs'⟩:=hg _ _ e;exact⟨p,vs,v,rw',rfl,e',by rw[<- rs'.length];exact hz,up _ _ _ _ h (by rw[a1b]) (hg.set (.lst e') (a1e (rs'.append (.cons r .nil)) (.lst e'))) (.lst e')⟩
def b02:Z->List Z->Hq->K3->Prop:=fun x xs G R=>match x,xs with
 | .ref p,[.ref q]=>∃ ws ys,G p=some (.lst ws)/\G q=some (.lst ys)/\ws.length+ys.length≤sizeLine/\R .non (put G p (.lst (ws++ys)))
 | _,_=>False
theorem a8A:MtQ X "list.extend" b02:=a7Q b0v fun x xs H Q hx=>hx.un fun w ws G R rw' rs hg h up=>by
 match w,ws,h with
 | .ref p,[.ref q],h=>
  rw[a0m]at rw';obtain⟨v,rfl,r⟩:=rs.one;rw[a0m]at r;obtain⟨ys,zs,e,e2,hz,h⟩:=h;obtain⟨vs,e',rs'⟩:=hg _ _ e;obtain⟨us,e2',rs2⟩:=hg _ _ e2;exact⟨p,q,vs,us,rw',by rw[r],e',e2',by rw[<- rs'.length,<- rs2.length];exact hz,up _ _ _ _ h (by rw[a1b]) (hg.set (.lst e') (a1e (rs'.append rs2) (.lst e'))) (.lst e')⟩
def b6K:Z->List Z->Hq->K3->Prop:=fun x xs G R=>match x,xs with
 | .ref p,[]=>∃ ws,G p=some (.lst ws)/\R .non (put G p (.lst []))
 | _,_=>False
theorem b4E:MtQ X "list.clear" b6K:=a7Q b2l fun x xs H Q hx=>hx.un fun w ws G R rw' rs hg h up=>by
 match w,ws,h with
 | .ref p,[],h=>
  rw[a0m]at rw';rw[a0A]at rs;obtain⟨ys,e,h⟩:=h;obtain⟨vs,e',rs'⟩:=hg _ _ e;exact⟨p,vs,rw',rs,e',up _ _ _ _ h (by rw[a1b]) (hg.set (.lst e') (a1e .nil (.lst e'))) (.lst e')⟩
def b6L:Z->List Z->Hq->K3->Prop:=fun x xs G R=>match x,xs with
 | .str z,[.ref p]=>∃ ys:List Str,G p=some (.lst (ys.map Z.str))/\(ys.map (·.length)).sum+ys.length*z.length≤16777216/\R (.str (Txt.join z ys)) G
 | _,_=>False
theorem b6M:MtQ X "str.join" b6L:=a7Q b4B fun x xs H Q hx=>hx.un fun w ws G R rw' rs hg h up=>by
 match w,ws,h with
 | .str z,[.ref p],h=>
  rw[a0w]at rw';obtain⟨v,rfl,r⟩:=rs.one;rw[a0m]at r;obtain⟨ys,e,hz,h⟩:=h;obtain⟨vs,e',rs'⟩:=hg _ _ e
  have:=a60 rs'
  subst this;exact⟨z,p,ys,rw',by rw[r],SqL.of e',hz,up _ _ _ _ h (by rw[a0w]) hg (.refl _ _)⟩
def b6N:E3:=fun _ G R=>∀ p,G p=none->R (.ref p) (put G p (.dK []))
theorem b3H {pos:Pos}:QE X (.Dict [] [] pos) b6N:=⟨a1w b2p fun τ H Q ⟨σ,G,R,hs,hg,h,up⟩ p hp=>up _ _ _ _ (h p (hg.out hp)) (by rw[a0m]) (hg.set (o:=.dK []) (.new hp) ⟨[],a0C,rfl,.nil⟩) (.new hp)⟩
def a4z (x:Str):List Z:=x.cps.toList.map fun c=>.str ⟨#[c]⟩
def wkS (x:Z) (G:Hq) (R:List Z->(Hq->Prop)->Hq->Prop):Prop:=match x with
 | .str z=>R (a4z z) (fun _=>True) G
 | _=>False
def iS (tl:E3):I3:=fun σ G R=>tl σ G fun x G1=>wkS x G1 R
theorem b03 {K:Fg}{x:Str}{H0:Hp}:a6i K (a4z x) (fun _=>True) (Its x) H0:=fun i G H hg t ok hi=>by
 have hl:(a4z x).length=x.cps.size:=by unfold a4z;rw[List.length_map,Array.length_toList]
 refine⟨fun h=>by rw[h,hl];rfl,fun w hw=>?_⟩;unfold a4z at hw;rw[List.getElem?_map]at hw;cases hc:x.cps.toList[i]? with
 | none=>rw[hc]at hw;cases hw
 | some c=>
  rw[hc]at hw;cases hw;have hc':x.cps[i]?=some c:=by simpa using hc
  refine⟨(Array.getElem?_eq_some_iff.mp hc').1,?_⟩;rintro v H' ⟨rfl,c2,h2,rfl⟩;rw[hc']at h2;cases h2;exact⟨by rw[a0w],hg,.refl _ _⟩
theorem b6O {tg l:Expr}{tl:E3}(hl:QE X l tl):QI X tg l (iS tl):=a9z (b6F hl.p) fun τ H R2 hx=>hx.un fun σ G R hs hg h up=>by
 refine⟨σ,G,_,hs,hg,h,fun w G1 v H1 h1 rv hg1 t1=>?_⟩;cases w with
 | str x=>
  rw[a0w]at rv;exact⟨x,rv,up _ _ _ _ _ h1 b03 hg1 t1⟩
 | _=>exact False.elim h1
end
end L3
namespace L3
open PySem PySem.Spec PyProof.Rows L2
section
variable {σ:S3}{G:Hq}{R:K3}{Rb:Bool->Hq->Prop}{Ra:List Z->Hq->Prop}{nx bk ct:C3}{rt:K3}{t u:X3}{te ta tb tc to ti:E3}{c d:T3}{al:A3}{r r':R3}{w x y:Z}{i:Nat}
theorem b8I (e:σ[i]?=some (some w)) (h:R w G):uVar i σ G R:=⟨w,e,h⟩
theorem i_c (h:R w G):uC w σ G R:=h
theorem i_op (h:ta σ G fun x G1=>tb σ G1 fun y G2=>r x y G2 R):uOp r ta tb σ G R:=h
theorem i_un {r:Z->Hq->K3->Prop}(h:ta σ G fun x G1=>r x G1 R):uUn r ta σ G R:=h
theorem b6P (h:ta σ G fun x G1=>∃ k,x=.bl k/\Rb k G1):b2B ta σ G Rb:=h
theorem b4F (h:ta σ G fun x G1=>tb σ G1 fun y G2=>r x y G2 fun z G3=>∃ k,z=.bl k/\(if k=true then tc σ G3 fun w G4=>r' y w G4 R else R (.bl false) G3)):b0I r r' ta tb tc σ G R:=h
theorem b8J (h:c σ G fun k G1=>if k=true then d σ G1 Rb else Rb false G1):uAnd c d σ G Rb:=h
theorem i_or (h:c σ G fun k G1=>if k=true then Rb true G1 else d σ G1 Rb):uOr c d σ G Rb:=h
theorem b8K (h:c σ G fun k G1=>Rb (!k) G1):uNot c σ G Rb:=h
theorem b6Q (h:ta σ G fun x G1=>∃ c,x=.bl c/\if c=true then tb σ G1 R else R (.bl false) G1):b6v ta tb σ G R:=h
theorem b8L (h:ta σ G fun x G1=>∃ c,x=.bl c/\if c=true then R (.bl true) G1 else tb σ G1 R):uOrV ta tb σ G R:=h
theorem i_if (h:c σ G fun k G1=>if k=true then ta σ G1 R else tb σ G1 R):uIf c ta tb σ G R:=h
theorem b8M (h:ta σ G fun x G1=>tru x G1 Rb):uTru ta σ G Rb:=h
theorem b3I {p:Addr}{ws:List Z}(e:G p=some (.lst ws)) (h:Rb (!ws.isEmpty) G):tru (.ref p) G Rb:=.inl ⟨ws,e,h⟩
theorem i_sl {r:L3r}{tl th:O3}(h:te σ G fun x G1=>tl σ G1 fun l G2=>th σ G2 fun u G3=>r x l u G3 R):uSl r te tl th σ G R:=h
theorem b2F {Ro:Option Int->Hq->Prop}(h:Ro none G):b0M σ G Ro:=h
theorem b6R {Ro:Option Int->Hq->Prop}(h:te σ G fun x G1=>∃ i,x=.int i/\Ro (some i) G1):b6x te σ G Ro:=h
theorem b8N (h:Ra [] G):uNil σ G Ra:=h
theorem b6S (h:ta σ G fun x G1=>al σ G1 fun xs G2=>Ra (x::xs) G2):b6y ta al σ G Ra:=h
theorem b8O (h:al σ G fun xs G1=>xs.length≤sizeLine/\R (.tup xs) G1):uTup al σ G R:=h
theorem b8P (h:al σ G fun xs G1=>xs.length≤sizeLine/\∀ p,G1 p=none->R (.ref p) (put G1 p (.lst xs))):uLst al σ G R:=h
theorem i_cb {r:List Z->Hq->K3->Prop}(h:al σ G fun ws G1=>r ws G1 R):uCB r al σ G R:=h
theorem b8Q {T:String}{r:Z->List Z->Hq->K3->Prop}(h:to σ G fun x G1=>tyZ T x G1/\r x [] G1 R):uBM0 T r to σ G R:=h
theorem i_bm {T:String}{r:Z->List Z->Hq->K3->Prop}(h:to σ G fun x G1=>tyZ T x G1/\al σ G1 fun xs G2=>r x xs G2 R):uBM T r to al σ G R:=h
theorem b6T {sp:P3}(h:al σ G fun ws G1=>sp ws G1 R):b6z sp al σ G R:=h
theorem b6U (h:nx σ G):b6A nx rt bk ct σ G:=h
theorem b8R (h:t (u nx rt bk ct) rt bk ct σ G):uSeq t u nx rt bk ct σ G:=h
theorem b6V (h:te σ G fun _ G1=>nx σ G1):b6B te nx rt bk ct σ G:=h
theorem b8S (h:te σ G rt):uRet te nx rt bk ct σ G:=h
theorem b8T (h:c σ G fun b G1=>if b=true then t nx rt bk ct σ G1 else u nx rt bk ct σ G1):uIfS c t u nx rt bk ct σ G:=h
theorem b8U {pt:Pt}(h:te σ G fun x G1=>∃ σ',a5x pt x σ=some σ'/\nx σ' G1):uAsg te pt nx rt bk ct σ G:=h
theorem b8V {r:Z3}(h:te σ G fun w G1=>to σ G1 fun o G2=>ti σ G2 fun i G3=>r o i w G3 fun G4=>nx σ G4):uPut te to ti r nx rt bk ct σ G:=h
theorem b8W (e:σ[i]?=some (some x)) (h:te σ G fun y G1=>r x y G1 fun z G2=>nx (σ.set i (some z)) G2):uAug i te r nx rt bk ct σ G:=⟨x,e,h⟩
theorem a61 (M:C3) (h:t M rt bk ct σ G) (h':∀ σ' G',M σ' G'->u nx rt bk ct σ' G'):uCut t u nx rt bk ct σ G:=⟨M,h,h'⟩
theorem b6W {a b:Int}(h:R (.int (a+b)) G):zAdd (.int a) (.int b) G R:=h
theorem a8B {a b:Str}(z:a.length+b.length≤sizeLine) (h:R (.str (a++b)) G):zAdd (.str a) (.str b) G R:=⟨z,h⟩
theorem b6X {xs ys:List Z}(e:xs≠[]) (z:xs.length+ys.length≤sizeLine) (h:R (.tup (xs++ys)) G):zAdd (.tup xs) (.tup ys) G R:=⟨e,z,h⟩
theorem b3J {p q:Addr}{xs ys:List Z}(e:G p=some (.lst xs)) (e':G q=some (.lst ys)) (z:xs.length+ys.length≤sizeLine) (h:∀ t,G t=none->R (.ref t) (put G t (.lst (xs++ys)))):zAdd (.ref p) (.ref q) G R:=⟨xs,ys,e,e',z,h⟩
theorem i_I {C:Int->Int->Prop}{g:Int->Int->Z}{a b:Int}(k:C a b) (h:R (g a b) G):zI C g (.int a) (.int b) G R:=⟨k,h⟩
theorem i_I0 {g:Int->Int->Z}{a b:Int}(h:R (g a b) G):zI0 g (.int a) (.int b) G R:=h
theorem b8X {a:Int}(h:R (.int (-a)) G):zNeg (.int a) G R:=h
theorem i_CI {f:Int->Int->Bool}{g:Str->Str->Bool}{a b:Int}(h:R (.bl (f a b)) G):zC f g (.int a) (.int b) G R:=h
theorem i_CS {f:Int->Int->Bool}{g:Str->Str->Bool}{a b:Str}(h:R (.bl (g a b)) G):zC f g (.str a) (.str b) G R:=h
theorem b8Y (h:R (.bl (decide (x=.non))) G):zIs false x .non G R:=h
theorem b6Y (h:R (.bl (!decide (x=.non))) G):zIs true x .non G R:=h
theorem b6Z {f:Bool->Bool}{a b:Int}(h:R (.bl (f (decide (a=b)))) G):zEq f (.int a) (.int b) G R:=h
theorem b8Z {f:Bool->Bool}{a b:Str}(h:R (.bl (f (decide (a=b)))) G):zEq f (.str a) (.str b) G R:=h
theorem b04 {f:Bool->Bool}{p q:Addr}{xs ys:List Z}(e:G p=some (.lst xs)) (e':G q=some (.lst ys)) (f1:xs.all (flat 8)=true) (f2:ys.all (flat 8)=true) (h:R (.bl (f (decide (xs=ys)))) G):zEq f (.ref p) (.ref q) G R:=⟨xs,ys,e,e',f1,f2,h⟩
theorem a1n {p:Addr}{ws:List Z}{k:Int}(e:G p=some (.lst ws)) (a:atI ws k=some w) (h:R w G):zIx (.ref p) (.int k) G R:=⟨ws,w,e,a,h⟩
theorem b80 {p:Addr}{ns:List Int}{k n:Int}(a:atI ns k=some n) (h:R (.int n) G):zIx (.scr p ns) (.int k) G R:=⟨n,a,h⟩
theorem a1I {ws:List Z}{k:Int}(a:atI ws k=some w) (h:R w G):zIx (.tup ws) (.int k) G R:=⟨w,a,h⟩
theorem b05 {z:Str}{k:Int}{ch:Nat}(l:z.length≤sizeLine) (a:atI z.cps.toList k=some ch) (h:R (.str ⟨#[ch]⟩) G):zIx (.str z) (.int k) G R:=⟨ch,l,a,h⟩
theorem b60 {z:Str}{lo hi:Option Int}(l:z.length≤sizeLine) (h:R (.str (Txt.slice z lo hi)) G):zSl (.str z) lo hi G R:=⟨l,h⟩
theorem b61 {p:Addr}{ws:List Z}{lo hi:Option Int}(e:G p=some (.lst ws)) (h:∀ t,G t=none->R (.ref t) (put G t (.lst (cutZ ws lo hi)))):zSl (.ref p) lo hi G R:=⟨ws,e,h⟩
theorem b81 {p:Addr}{ns:List Int}{lo hi:Option Int}(h:∀ t,G t=none->R (.ref t) (put G t (.lst ((cutZ ns lo hi).map Z.int)))):zSl (.scr p ns) lo hi G R:=h
theorem b4G {ws:List Z}{lo hi:Option Int}(n:¬ (HT.sIx ws.length 0 lo=0/\HT.sIx ws.length ws.length hi=ws.length)) (h:R (.tup (cutZ ws lo hi)) G):zSl (.tup ws) lo hi G R:=⟨n,h⟩
theorem b62 {p:Addr}{ws:List Z}{k:Int}{j:Nat}{Rg:Hq->Prop}(e:G p=some (.lst ws)) (a:ixN ws.length k=some j) (h:Rg (put G p (.lst (ws.set j w)))):zSet (.ref p) (.int k) w G Rg:=⟨ws,j,e,a,h⟩
theorem b63 (h:∀ p,G p=none->R (.ref p) (put G p (.dK []))):b6N σ G R:=h
theorem b06 {z:Str}(l:z.length≤sizeLine) (h:R (.int z.length) G):zLen [.str z] G R:=⟨l,h⟩
theorem a5S {p:Addr}{ws:List Z}(e:G p=some (.lst ws)) (h:R (.int ws.length) G):zLen [.ref p] G R:=⟨ws,e,h⟩
theorem b64 {p:Addr}{ns:List Int}(h:R (.int ns.length) G):zLen [.scr p ns] G R:=h
theorem i_mm {f:Int->Int->Int}{a b:Int}(h:R (.int (f a b)) G):zMM f [.int a,.int b] G R:=h
theorem b82 {p:Addr}{bs:List Bool}(e:G p=some (.lst (bs.map Z.bl))) (h:R (.bl (bs.all id)) G):zAll [.ref p] G R:=⟨bs,e,h⟩
theorem b4H {n T:String}{b:Bool}(e:tyN G x=some n) (k:kit0 n T=some b) (h:R (.bl b) G):zIsT [x,.ty T] G R:=⟨n,b,e,k,h⟩
theorem a1t {p:Addr}{ws:List Z}(e:G p=some (.lst ws)) (z:ws.length<sizeLine) (h:R .non (put G p (.lst (ws++[y])))):a6k (.ref p) [y] G R:=⟨ws,e,z,h⟩
theorem a8C {p q:Addr}{ws ys:List Z}(e:G p=some (.lst ws)) (e':G q=some (.lst ys)) (z:ws.length+ys.length≤sizeLine) (h:R .non (put G p (.lst (ws++ys)))):b02 (.ref p) [.ref q] G R:=⟨ws,ys,e,e',z,h⟩
theorem b65 {z:Str}{p:Addr}{ys:List Str}(e:G p=some (.lst (ys.map Z.str))) (l:(ys.map (·.length)).sum+ys.length*z.length≤16777216) (h:R (.str (Txt.join z ys)) G):b6L (.str z) [.ref p] G R:=⟨ys,e,l,h⟩
theorem b83 {z:Str}{P:Prop}(h:P):tyZ "str" (.str z) G/\P:=⟨rfl,h⟩
theorem a2T {p:Addr}{ws:List Z}{P:Prop}(e:G p=some (.lst ws)) (h:P):tyZ "list" (.ref p) G/\P:=⟨.inl ⟨rfl,ws,e⟩,h⟩
theorem i_nm {j:Nat}(h:nx (σ.set j (some w)) G):∃ σ',a5x (.nm j) w σ=some σ'/\nx σ' G:=⟨_,rfl,h⟩
theorem b66 {wi:I3}{pt:Pt}{tb:X3}(h:wi σ G fun ws ok G1=>FORB ws ok pt tb nx rt σ G1):uFor wi pt tb nx rt bk ct σ G:=h
theorem b84 {wi:I3}{cap:List (Option Nat)}{pt:Pt}{tt:T3}(h:wi σ G fun ws ok G1=>∀ D,G1 D=none->LCB ws ok cap pt tt te σ R D G1):uLC wi cap pt tt te σ G R:=h
variable {Ri:List Z->(Hq->Prop)->Hq->Prop}
theorem i_iL (h:te σ G fun x G1=>wkL x G1 Ri):iL te σ G Ri:=h
theorem i_iT (h:te σ G fun x G1=>wkT x G1 Ri):iT te σ G Ri:=h
theorem i_iS (h:te σ G fun x G1=>wkS x G1 Ri):iS te σ G Ri:=h
theorem b85 (h:al σ G fun ws G1=>∃ j:Int,ws=[.int j]/\-(2 ^ 62)≤j/\j<2 ^ 62/\Ri (rng 0 j.toNat) (fun _=>True) G1):iR1 al σ G Ri:=h
theorem a1E {p:Addr}{ws:List Z}(e:G p=some (.lst ws)) (h:Ri ws (fun G=>G p=some (.lst ws)) G):wkL (.ref p) G Ri:=⟨ws,e,h⟩
theorem b86 {ws:List Z}(h:Ri ws (fun _=>True) G):wkT (.tup ws) G Ri:=h
theorem b87 {z:Str}(h:Ri (a4z z) (fun _=>True) G):wkS (.str z) G Ri:=h
theorem i_tt (h:Rb true G):uTT σ G Rb:=h
end
theorem ifD {p A B:Prop}[Decidable p] (h1:p->A) (h2:¬ p->B):if decide p=true then A else B:=by
 by_cases c:p
 ·rw[if_pos (decide_eq_true c)];exact h1 c
 ·rw[if_neg (fun z=>c (of_decide_eq_true z))];exact h2 c
theorem ifN {p A B:Prop}[Decidable p] (h1:¬ p->A) (h2:p->B):if (!decide p)=true then A else B:=by
 by_cases c:p
 ·rw[if_neg (by simp[c])];exact h2 c
 ·rw[if_pos (by simp[c])];exact h1 c
theorem ifB {b:Bool}{A B:Prop}(h1:b=true->A) (h2:b=false->B):if b=true then A else B:=by
 cases b with
 | true=>rw[if_pos rfl];exact h1 rfl
 | false=>rw[if_neg (by decide)];exact h2 rfl
theorem ifNB {b:Bool}{A B:Prop}(h1:b=false->A) (h2:b=true->B):if (!b)=true then A else B:=by
 cases b with
 | false=>rw[if_pos (show (!false)=true from rfl)];exact h1 rfl
 | true=>rw[if_neg (by decide)];exact h2 rfl
theorem ifT {A B:Prop}(h:A):if true=true then A else B:=by rw[if_pos rfl];exact h
theorem ifF {A B:Prop}(h:B):if false=true then A else B:=by rw[if_neg (by decide)];exact h
theorem ifNN {A B:Prop}(h:A):if decide (Z.non=Z.non)=true then A else B:=by rw[if_pos (decide_eq_true rfl)];exact h
theorem ifNI {A B:Prop}{i:Int}(h:B):if decide (Z.int i=Z.non)=true then A else B:=by rw[if_neg (by simp)];exact h
theorem ifMN {A B:Prop}(h:B):if (!decide (Z.non=Z.non))=true then A else B:=by rw[if_neg (by simp)];exact h
theorem ifMI {A B:Prop}{i:Int}(h:A):if (!decide (Z.int i=Z.non))=true then A else B:=by rw[if_pos (by simp)];exact h
theorem at0 {α:Type}{a:α}{r:List α}:atI (a::r) 0=some a:=a1y (j:=0) rfl
theorem at1 {α:Type}{a b:α}{r:List α}:atI (a::b::r) 1=some b:=a1y (j:=1) rfl
theorem at2 {α:Type}{a b c:α}{r:List α}:atI (a::b::c::r) 2=some c:=a1y (j:=2) rfl
def Sm (G G':Hq):Prop:=∀ b o,G b=some o->G' b=some o
theorem Sm.refl (G:Hq):Sm G G:=fun _ _ h=>h
theorem Sm.trans {G G1 G2:Hq}(a:Sm G G1) (b:Sm G1 G2):Sm G G2:=fun c o h=>b c o (a c o h)
theorem Sm.get {G G':Hq}{b:Addr}{o:O}(s:Sm G G') (h:G b=some o):G' b=some o:=s b o h
theorem Sm.new {G:Hq}{p:Addr}{o:O}(h:G p=none):Sm G (put G p o):=fun _ _ e=>a0p e h
theorem Sm.free {G G':Hq}(s:Sm G G') {p:Addr}(h:G' p=none):G p=none:=by
 cases e:G p with
 | none=>rfl
 | some o=>rw[s p o e]at h;cases h
def Kq (r:Addr) (G G':Hq):Prop:=∀ b o,G b=some o->b≠r->G' b=some o
theorem Kq.refl (r:Addr) (G:Hq):Kq r G G:=fun _ _ h _=>h
theorem Kq.trans {r:Addr}{G G1 G2:Hq}(a:Kq r G G1) (b:Kq r G1 G2):Kq r G G2:=fun c o h n=>b c o (a c o h n) n
theorem Kq.new {r p:Addr}{G:Hq}{o:O}(h:G p=none):Kq r G (put G p o):=fun _ _ e _=>a0p e h
theorem Kq.at {r:Addr}{G:Hq}{o:O}:Kq r G (put G r o):=fun _ _ e n=>by rw[a0I n];exact e
theorem Sm.kq {r:Addr}{G G':Hq}(s:Sm G G'):Kq r G G':=fun b o e _=>s b o e
theorem Sm.put {G G':Hq}{p:Addr}{o:O}(s:Sm G G') (h:G p=none):Sm G (put G' p o):=fun b u e=>by rw[a0I (a07 e h)];exact s b u e
end L3
set_option maxHeartbeats 4000000
namespace Tim
open PySem PyProof.Rows
abbrev KF:=Keyed->Int
def Kk (κ:KF) (xs:Array Keyed) (i:Nat):Int:=match xs[i]? with
 | some p=>κ p
 | none=>0
section
variable {κ:KF}{xs ys:Array Keyed}{i j:Nat}{p:Keyed}
theorem a7Y (h:xs[i]?=some p):Kk κ xs i=κ p:=by unfold Kk;rw[h]
theorem a48 (h:xs[i]?=ys[j]?):Kk κ xs i=Kk κ ys j:=by unfold Kk;rw[h]
end
def LtOk (M:Model) (A:Around) (E:Value->Shared->Prop) (s:Shared) (κ:KF) (k0:SortKind) (a₀:Array Keyed):Prop:=
 ∀ x y,x∈a₀.toList->y∈a₀.toList->∀ (st:SortSt) (Q:Option Bool->SortSt->Prop),kindOf st=k0->Q (some (decide (κ x<κ y))) st->wpS M A E s (lt' x y) Q st
structure TB (k0:SortKind) (a₀:Array Keyed) (st:SortSt):Prop where
 pm:(arrOf st).Perm a₀
 kd:kindOf st=k0
 fl:failedOf st=none
theorem TB.sz {k0:SortKind}{a₀:Array Keyed}{st:SortSt}(h:TB k0 a₀ st):(arrOf st).size=a₀.size:=h.pm.size_eq
theorem TB.mem {k0:SortKind}{a₀:Array Keyed}{st:SortSt}(h:TB k0 a₀ st) {i:Nat}{p:Keyed}(e:(arrOf st)[i]?=some p):p∈a₀.toList:=by
 have hm:p∈(arrOf st).toList:=by rw[Array.mem_toList_iff];exact Array.mem_of_getElem? e
 exact (Array.perm_iff_toList_perm.mp h.pm).mem_iff.mp hm
theorem TB.arr {k0:SortKind}{a₀:Array Keyed}{st:SortSt}(h:TB k0 a₀ st) {xs:Array Keyed}(hp:xs.Perm (arrOf st)):TB k0 a₀ (setArr st xs):=⟨hp.trans h.pm,h.kd,h.fl⟩
section
variable {M:Model}{A:Around}{E:Value->Shared->Prop}{s:Shared}{κ:KF}{k0:SortKind}{a₀:Array Keyed}{st:SortSt}
theorem a02 {arr:Array Keyed}{i:Nat}{p:Keyed}{Q:Keyed->SortSt->Prop}(e:arr[i]?=some p) (h:Q p st):wpS M A E s (elem' arr i) Q st:=by
 rw[elem'_eq,e];exact wpS_pure h
theorem a62 {i j:Nat}{Q:Option Bool->SortSt->Prop}(L:LtOk M A E s κ k0 a₀) (B:TB k0 a₀ st) (hi:i<a₀.size) (hj:j<a₀.size)
  (h:Q (some (decide (Kk κ (arrOf st) i<Kk κ (arrOf st) j))) st):wpS M A E s (ltAt' i j) Q st:=by
 have e1:(arrOf st)[i]?=some ((arrOf st)[i]'(by rw[B.sz];exact hi)):=getElem?_pos ..;have e2:(arrOf st)[j]?=some ((arrOf st)[j]'(by rw[B.sz];exact hj)):=getElem?_pos ..;rw[ltAt'_eq];refine wpS_bind (wpS_get ?_);refine wpS_bind (a02 e1 (wpS_bind (a02 e2 ?_)));refine L _ _ (B.mem e1) (B.mem e2) st Q B.kd ?_;rw[a7Y e1,a7Y e2]at h;exact h
end
def a15:Bool->Keyed->Array Keyed->Nat->Nat->Nat->StateT SortSt Sem (Option Nat):=sortPriv% PySem.Builtin.gallop
def bey (lft:Bool) (ky:Keyed) (ar:Array Keyed) (bs:Nat) (q:Nat):StateT SortSt Sem (Option Bool):=do
  let z <- elem' ar (bs+q)
  if lft then lt' z ky else return (<- lt' ky z).map (!·)
theorem a9D (lft:Bool) (ky:Keyed) (ar:Array Keyed) (bs n hnt:Nat):a15 lft ky ar bs n hnt=(do
 let mut lst:=0
 let mut oo:=1
 let mut l:=0
 let mut h:=0
 let some rgt <- bey lft ky ar bs hnt | return none
 if rgt then
  let mx:=n - hnt
  for _ in [0:n] do
   if oo≥mx then break
   let some mo <- bey lft ky ar bs (hnt+oo) | return none
   if !mo then break
   lst:=oo
   oo:=2*oo+1
  l:=hnt+lst+1
  h:=hnt+min oo mx
 else
  let mx:=hnt+1
  for _ in [0:n] do
   if oo≥mx then break
   let some fo <- bey lft ky ar bs (hnt - oo) | return none
   if fo then break
   lst:=oo
   oo:=2*oo+1
  l:=hnt+1 - min oo mx
  h:=hnt - lst
 for _ in [0:n] do
  if l≥h then break
  let m:=l+(h - l) / 2
  let some mo <- bey lft ky ar bs m | return none
  if mo then l:=m+1 else h:=m
 return some h):=rfl
def bq (lft:Bool) (k x:Int):Bool:=if lft then decide (x<k) else !decide (k<x)
section
variable {M:Model}{A:Around}{E:Value->Shared->Prop}{s:Shared}{κ:KF}{k0:SortKind}{a₀:Array Keyed}{st:SortSt}
theorem b07 {lft:Bool}{ky:Keyed}{ar:Array Keyed}{bs q:Nat}{Q:Option Bool->SortSt->Prop}(L:LtOk M A E s κ k0 a₀) (hk:kindOf st=k0) (hm:ky∈a₀.toList) (ha:∀ p∈ar.toList,p∈a₀.toList) (hq:bs+q<ar.size)
  (h:Q (some (bq lft (κ ky) (Kk κ ar (bs+q)))) st):wpS M A E s (bey lft ky ar bs q) Q st:=by
 have e1:ar[bs+q]?=some (ar[bs+q]'hq):=getElem?_pos ..;have hz:ar[bs+q]∈a₀.toList:=ha _ (by simp);unfold bey;refine wpS_bind (a02 e1 ?_);rw[a7Y e1]at h;cases lft with
 | true=>
  simp only[if_true];exact L _ _ hz hm st Q hk h
 | false=>
  simp only[Bool.false_eq_true,if_false];exact wpS_bind (L _ _ hm hz st _ hk (wpS_pure h))
theorem a20 {lft:Bool}{ky:Keyed}{ar:Array Keyed}{bs n hnt:Nat}{Q:Option Nat->SortSt->Prop}(L:LtOk M A E s κ k0 a₀) (hk:kindOf st=k0) (hm:ky∈a₀.toList) (ha:∀ p∈ar.toList,p∈a₀.toList)
  (hn:bs+n≤ar.size) (hh:hnt<n) (mono:∀ i j,i≤j->j<n->Kk κ ar (bs+i)≤Kk κ ar (bs+j))
  (h:∀ h,h≤n->(∀ i,i<h->bq lft (κ ky) (Kk κ ar (bs+i))=true)->(∀ i,h≤i->i<n->bq lft (κ ky) (Kk κ ar (bs+i))=false)->Q (some h) st):wpS M A E s (a15 lft ky ar bs n hnt) Q st:=by
 have down:∀ i j,i≤j->j<n->bq lft (κ ky) (Kk κ ar (bs+j))=true->bq lft (κ ky) (Kk κ ar (bs+i))=true:=fun i j hij hj hb=>by
  have:=mono i j hij hj
  unfold bq at *;cases lft<;>simp at *<;>omega
 have up:∀ i j,i≤j->j<n->bq lft (κ ky) (Kk κ ar (bs+i))=false->bq lft (κ ky) (Kk κ ar (bs+j))=false:=fun i j hij hj hb=>by
  cases e:bq lft (κ ky) (Kk κ ar (bs+j)) with
  | false=>rfl
  | true=>rw[down i j hij hj e]at hb;cases hb
 rw[a9D];refine wpS_bind (b07 L hk hm ha (by omega) ?_);dsimp only;cases e0:bq lft (κ ky) (Kk κ ar (bs+hnt)) with
 | true=>
  rw[if_pos rfl];refine wpS_bind (wpS_mono (wpS_forRange (I:=fun x c st'=>st'=st/\∃ lst oo,c=(none,lst,oo)/\lst<oo/\x+1≤oo/\hnt+lst<n/\bq lft (κ ky) (Kk κ ar (bs+(hnt+lst)))=true)
   (Q:=fun c st'=>st'=st/\∃ lst oo,c=(none,lst,oo)/\lst<oo/\hnt+lst<n/\bq lft (κ ky) (Kk κ ar (bs+(hnt+lst)))=true/\(n - hnt≤oo\/(hnt+oo<n/\bq lft (κ ky) (Kk κ ar (bs+(hnt+oo)))=false))) ?step ?fin ?init) ?post)
  case init=>exact⟨rfl,0,1,rfl,by omega,by omega,by omega,e0⟩
  case fin=>
   rintro c st' ⟨rfl,lst,oo,rfl,a1,a2,a3,a4⟩;exact⟨rfl,lst,oo,rfl,a1,a3,a4,.inl (by omega)⟩
  case step=>
   rintro x c st' _ hx ⟨rfl,lst,oo,rfl,a1,a2,a3,a4⟩;dsimp only
   by_cases hge:oo≥n - hnt
   ·rw[if_pos hge];exact wpS_pure ⟨rfl,lst,oo,rfl,a1,a3,a4,.inl hge⟩
   ·rw[if_neg hge];refine wpS_bind (b07 L hk hm ha (by omega) ?_);cases e:bq lft (κ ky) (Kk κ ar (bs+(hnt+oo))) with
    | true=>
     dsimp only;rw[if_neg (by decide)];exact wpS_pure ⟨rfl,oo,2*oo+1,rfl,by omega,by omega,by omega,e⟩
    | false=>
     dsimp only;rw[if_pos (show (!false)=true from rfl)];exact wpS_pure ⟨rfl,lst,oo,rfl,a1,a3,a4,.inr ⟨by omega,e⟩⟩
  case post=>
   rintro c st' ⟨e1,lst,oo,rfl,a1,a3,a4,a5⟩;have e1:=e1.symm;subst e1;dsimp only;have hlh:hnt+lst+1≤hnt+min oo (n - hnt):=by omega
   have hhn:hnt+min oo (n - hnt)≤n:=by omega
   have hlo:∀ i,i<hnt+lst+1->bq lft (κ ky) (Kk κ ar (bs+i))=true:=fun i hi=>down i _ (by omega) (by omega) a4;have hhi:∀ i,hnt+min oo (n - hnt)≤i->i<n->bq lft (κ ky) (Kk κ ar (bs+i))=false:=fun i h1 h2=>by
    rcases a5 with a5 | ⟨a5,a6⟩
    ·omega
    ·exact up _ i (by omega) h2 a6
   generalize hnt+lst+1=l0 at hlh hlo ⊢;generalize hnt+min oo (n - hnt)=h0 at hlh hhn hhi ⊢;refine wpS_bind (wpS_mono (wpS_forRange (I:=fun x c st'=>st'=st/\∃ l r,c=(none,l,r)/\l≤r/\r≤n/\r - l≤n - x/\(∀ i,i<l->bq lft (κ ky) (Kk κ ar (bs+i))=true)/\(∀ i,r≤i->i<n->bq lft (κ ky) (Kk κ ar (bs+i))=false))
    (Q:=fun c st'=>st'=st/\∃ l,c=(none,l,l)/\l≤n/\(∀ i,i<l->bq lft (κ ky) (Kk κ ar (bs+i))=true)/\(∀ i,l≤i->i<n->bq lft (κ ky) (Kk κ ar (bs+i))=false)) ?st2 ?fi2 ?in2) ?po2)
   case in2=>exact⟨rfl,l0,h0,rfl,hlh,hhn,by omega,hlo,hhi⟩
   case fi2=>
    rintro c st' ⟨rfl,l,r,rfl,a1,a2,a3,a4,a5⟩
    have:l=r:=by omega
    subst this;exact⟨rfl,l,rfl,a2,a4,a5⟩
   case st2=>
    rintro x c st' _ hx ⟨rfl,l,r,rfl,a1,a2,a3,a4,a5⟩;dsimp only
    by_cases hge:l≥r
    ·rw[if_pos hge]
     have:l=r:=by omega
     subst this;exact wpS_pure ⟨rfl,l,rfl,a2,a4,a5⟩
    ·rw[if_neg hge];refine wpS_bind (b07 L hk hm ha (by omega) ?_);cases e:bq lft (κ ky) (Kk κ ar (bs+(l+(r - l) / 2))) with
     | true=>
      dsimp only;rw[if_pos rfl];exact wpS_pure ⟨rfl,_,r,rfl,by omega,a2,by omega,fun i hi=>down i _ (by omega) (by omega) e,a5⟩
     | false=>
      dsimp only;rw[if_neg (by decide)];exact wpS_pure ⟨rfl,l,_,rfl,by omega,by omega,by omega,a4,fun i h1 h2=>up _ i h1 h2 e⟩
   case po2=>
    rintro c st' ⟨rfl,l,rfl,a2,a4,a5⟩;exact wpS_pure (h l a2 a4 a5)
 | false=>
  rw[if_neg (by decide)];refine wpS_bind (wpS_mono (wpS_forRange (I:=fun x c st'=>st'=st/\∃ lst oo,c=(none,lst,oo)/\lst<oo/\x+1≤oo/\lst≤hnt/\bq lft (κ ky) (Kk κ ar (bs+(hnt - lst)))=false)
   (Q:=fun c st'=>st'=st/\∃ lst oo,c=(none,lst,oo)/\lst<oo/\lst≤hnt/\bq lft (κ ky) (Kk κ ar (bs+(hnt - lst)))=false/\(hnt+1≤oo\/(oo≤hnt/\bq lft (κ ky) (Kk κ ar (bs+(hnt - oo)))=true))) ?step ?fin ?init) ?post)
  case init=>exact⟨rfl,0,1,rfl,by omega,by omega,by omega,e0⟩
  case fin=>
   rintro c st' ⟨rfl,lst,oo,rfl,a1,a2,a3,a4⟩;exact⟨rfl,lst,oo,rfl,a1,a3,a4,.inl (by omega)⟩
  case step=>
   rintro x c st' _ hx ⟨rfl,lst,oo,rfl,a1,a2,a3,a4⟩;dsimp only
   by_cases hge:oo≥hnt+1
   ·rw[if_pos hge];exact wpS_pure ⟨rfl,lst,oo,rfl,a1,a3,a4,.inl hge⟩
   ·rw[if_neg hge];refine wpS_bind (b07 L hk hm ha (by omega) ?_);cases e:bq lft (κ ky) (Kk κ ar (bs+(hnt - oo))) with
    | true=>
     dsimp only;rw[if_pos rfl];exact wpS_pure ⟨rfl,lst,oo,rfl,a1,a3,a4,.inr ⟨by omega,e⟩⟩
    | false=>
     dsimp only;rw[if_neg (by decide)];exact wpS_pure ⟨rfl,oo,2*oo+1,rfl,by omega,by omega,by omega,e⟩
  case post=>
   rintro c st' ⟨e1,lst,oo,rfl,a1,a3,a4,a5⟩;have e1:=e1.symm;subst e1;dsimp only;have hlh:hnt+1 - min oo (hnt+1)≤hnt - lst:=by omega
   have hhn:hnt - lst≤n:=by omega
   have hlo:∀ i,i<hnt+1 - min oo (hnt+1)->bq lft (κ ky) (Kk κ ar (bs+i))=true:=fun i hi=>by
    rcases a5 with a5 | ⟨a5,a6⟩
    ·omega
    ·exact down i _ (by omega) (by omega) a6
   have hhi:∀ i,hnt - lst≤i->i<n->bq lft (κ ky) (Kk κ ar (bs+i))=false:=fun i h1 h2=>up _ i h1 h2 a4;generalize hnt+1 - min oo (hnt+1)=l0 at hlh hlo ⊢;generalize hnt - lst=h0 at hlh hhn hhi ⊢;refine wpS_bind (wpS_mono (wpS_forRange (I:=fun x c st'=>st'=st/\∃ l r,c=(none,l,r)/\l≤r/\r≤n/\r - l≤n - x/\(∀ i,i<l->bq lft (κ ky) (Kk κ ar (bs+i))=true)/\(∀ i,r≤i->i<n->bq lft (κ ky) (Kk κ ar (bs+i))=false))
    (Q:=fun c st'=>st'=st/\∃ l,c=(none,l,l)/\l≤n/\(∀ i,i<l->bq lft (κ ky) (Kk κ ar (bs+i))=true)/\(∀ i,l≤i->i<n->bq lft (κ ky) (Kk κ ar (bs+i))=false)) ?st2 ?fi2 ?in2) ?po2)
   case in2=>exact⟨rfl,l0,h0,rfl,hlh,hhn,by omega,hlo,hhi⟩
   case fi2=>
    rintro c st' ⟨rfl,l,r,rfl,a1,a2,a3,a4,a5⟩
    have:l=r:=by omega
    subst this;exact⟨rfl,l,rfl,a2,a4,a5⟩
   case st2=>
    rintro x c st' _ hx ⟨rfl,l,r,rfl,a1,a2,a3,a4,a5⟩;dsimp only
    by_cases hge:l≥r
    ·rw[if_pos hge]
     have:l=r:=by omega
     subst this;exact wpS_pure ⟨rfl,l,rfl,a2,a4,a5⟩
    ·rw[if_neg hge];refine wpS_bind (b07 L hk hm ha (by omega) ?_);cases e:bq lft (κ ky) (Kk κ ar (bs+(l+(r - l) / 2))) with
     | true=>
      dsimp only;rw[if_pos rfl];exact wpS_pure ⟨rfl,_,r,rfl,by omega,a2,by omega,fun i hi=>down i _ (by omega) (by omega) e,a5⟩
     | false=>
      dsimp only;rw[if_neg (by decide)];exact wpS_pure ⟨rfl,l,_,rfl,by omega,by omega,by omega,a4,fun i h1 h2=>up _ i h1 h2 e⟩
   case po2=>
    rintro c st' ⟨rfl,l,rfl,a2,a4,a5⟩;exact wpS_pure (h l a2 a4 a5)
end
end Tim
namespace Tim
open PySem PyProof.Rows
def a7Z:Nat->StateT SortSt Sem Unit:=sortPriv% PySem.Builtin.setMinGallop
theorem a4N (g:Nat):a7Z g=modify fun s=>SortSt.mk' (kindOf s) (arrOf s) (pendingOf s) g (failedOf s):=rfl
def a4O:Array Keyed->Array Keyed->StateT SortSt Sem (Array Keyed):=sortPriv% PySem.Builtin.mergeLo
abbrev dnA (a b o:Array Keyed) (i j:Nat):Array Keyed:=o++a.extract i a.size++b.extract j b.size
abbrev dnB (a b o:Array Keyed) (i j:Nat):Array Keyed:=o++b.extract j b.size++a.extract i a.size
theorem a70 (a b:Array Keyed):a4O a b=(do
 rule "list.sort.merge-lo"
 let tot:=a.size+b.size
 let mut o:Array Keyed:=#[<- elem' b 0]
 let mut i:=0
 let mut j:=1
 if j==b.size then return dnA a b o i j
 if i+1==a.size then return dnB a b o i j
 let mut g:=gallopOf (<- get)
 for _ in [0:tot] do
  let mut ac:=0
  let mut bc:=0
  for _ in [0:tot] do
   let some bw <- lt' (<- elem' b j) (<- elem' a i) | return dnA a b o i j
   if bw then
    o:=o.push (<- elem' b j);j:=j+1;bc:=bc+1;ac:=0
    if j==b.size then return dnA a b o i j
    if bc≥g then break
   else
    o:=o.push (<- elem' a i);i:=i+1;ac:=ac+1;bc:=0
    if i+1==a.size then return dnB a b o i j
    if ac≥g then break
  rule "list.sort.gallop"
  g:=g+1
  for _ in [0:tot] do
   if g > 1 then g:=g - 1
   a7Z g
   let some k <- a15 false (<- elem' b j) a i (a.size - i) 0 | return dnA a b o i j
   ac:=k
   if k > 0 then
    o:=o++a.extract i (i+k);i:=i+k
    if i+1==a.size then return dnB a b o i j
    if i==a.size then return dnA a b o i j
   o:=o.push (<- elem' b j);j:=j+1
   if j==b.size then return dnA a b o i j
   let some k <- a15 true (<- elem' a i) b j (b.size - j) 0 | return dnA a b o i j
   bc:=k
   if k > 0 then
    o:=o++b.extract j (j+k);j:=j+k
    if j==b.size then return dnA a b o i j
   o:=o.push (<- elem' a i);i:=i+1
   if i+1==a.size then return dnB a b o i j
   if ac<7&&bc<7 then break
  g:=g+1
  a7Z g
 (unsupported "internal:list.sort.merge-bound")):=rfl
section
variable {κ:KF}{A B o:List Keyed}{i j:Nat}{p:Keyed}
abbrev Srt (κ:KF) (l:List Keyed):Prop:=l.Pairwise fun x y=>κ x≤κ y
structure MW (κ:KF) (A B o:List Keyed) (i j:Nat):Prop where
 ia:i≤A.length
 jb:j≤B.length
 pm:(o++(A.drop i++B.drop j)).Perm (A++B)
 so:Srt κ o
 ba:∀ x∈o,∀ y∈A.drop i,κ x≤κ y
 bb:∀ x∈o,∀ y∈B.drop j,κ x≤κ y
theorem MW.size (W:MW κ A B o i j):o.length=i+j:=by
 have:=W.pm.length_eq
 have h1:=W.ia;have h2:=W.jb;simp only[List.length_append,List.length_drop]at this;omega
theorem drop_get {l:List Keyed}{n:Nat}(h:l[n]?=some p):l.drop n=p::l.drop (n+1):=by
 obtain⟨hn,e⟩:=List.getElem?_eq_some_iff.mp h;rw[List.drop_eq_getElem_cons hn,e]
theorem a8D {l:List Keyed}(h:Srt κ l) (hb:∀ x∈l,κ x≤κ p):Srt κ (l++[p]):=by
 refine List.pairwise_append.mpr ⟨h,List.pairwise_singleton _ _,fun x hx y hy=>?_⟩;rw[List.mem_singleton.mp hy];exact hb x hx
theorem a1F {l:List Keyed}(h:Srt κ l) (n:Nat):Srt κ (l.drop n):=List.Pairwise.sublist (List.drop_sublist n l) h
theorem MW.pushA (W:MW κ A B o i j) (sa:Srt κ A) (hp:A[i]?=some p) (hb:∀ y∈B.drop j,κ p≤κ y):MW κ A B (o++[p]) (i+1) j:=by
 have hd:=drop_get hp;have hi:=(List.getElem?_eq_some_iff.mp hp).1;have hs:Srt κ (p::A.drop (i+1)):=hd▸a1F sa i;refine⟨hi,W.jb,?_,a8D W.so fun x hx=>W.ba x hx p (by rw[hd];exact List.mem_cons_self ..),fun x hx y hy=>?_,fun x hx y hy=>?_⟩
 ·have:=W.pm
  rw[hd]at this;simpa using this
 ·rcases List.mem_append.mp hx with h | h
  ·exact W.ba x h y (by rw[hd];exact List.mem_cons_of_mem _ hy)
  ·rw[List.mem_singleton.mp h];exact (List.pairwise_cons.mp hs).1 y hy
 ·rcases List.mem_append.mp hx with h | h
  ·exact W.bb x h y hy
  ·rw[List.mem_singleton.mp h];exact hb y hy
theorem MW.pushB (W:MW κ A B o i j) (sb:Srt κ B) (hp:B[j]?=some p) (hb:∀ y∈A.drop i,κ p≤κ y):MW κ A B (o++[p]) i (j+1):=by
 have hd:=drop_get hp;have hj:=(List.getElem?_eq_some_iff.mp hp).1;have hs:Srt κ (p::B.drop (j+1)):=hd▸a1F sb j;refine⟨W.ia,hj,?_,a8D W.so fun x hx=>W.bb x hx p (by rw[hd];exact List.mem_cons_self ..),fun x hx y hy=>?_,fun x hx y hy=>?_⟩
 ·have:=W.pm
  rw[hd]at this;refine List.Perm.trans ?_ this;rw[List.append_assoc];exact List.Perm.append_left o (show (p::(A.drop i++B.drop (j+1))).Perm _ from List.perm_middle.symm)
 ·rcases List.mem_append.mp hx with h | h
  ·exact W.ba x h y hy
  ·rw[List.mem_singleton.mp h];exact hb y hy
 ·rcases List.mem_append.mp hx with h | h
  ·exact W.bb x h y (by rw[hd];exact List.mem_cons_of_mem _ hy)
  ·rw[List.mem_singleton.mp h];exact (List.pairwise_cons.mp hs).1 y hy
theorem take_snoc {l:List Keyed}{n k:Nat}(h:l[n+k]?=some p):(l.drop n).take (k+1)=(l.drop n).take k++[p]:=by
 rw[List.take_add_one,List.getElem?_drop,h];rfl
theorem MW.runA (W:MW κ A B o i j) (sa:Srt κ A):∀ k,i+k≤A.length->(∀ q z,i≤q->q<i+k->A[q]?=some z->∀ y∈B.drop j,κ z≤κ y)->MW κ A B (o++(A.drop i).take k) (i+k) j
 | 0,_,_=>by simpa using W
 | k+1,hk,hz=>by
  have ih:=MW.runA W sa k (by omega) fun q z h1 h2=>hz q z h1 (by omega);have e:A[i+k]?=some A[i+k]:=List.getElem?_eq_getElem (by omega);rw[take_snoc e,<- List.append_assoc];exact ih.pushA sa e (hz _ _ (by omega) (by omega) e)
theorem MW.runB (W:MW κ A B o i j) (sb:Srt κ B):∀ k,j+k≤B.length->(∀ q z,j≤q->q<j+k->B[q]?=some z->∀ y∈A.drop i,κ z≤κ y)->MW κ A B (o++(B.drop j).take k) i (j+k)
 | 0,_,_=>by simpa using W
 | k+1,hk,hz=>by
  have ih:=MW.runB W sb k (by omega) fun q z h1 h2=>hz q z h1 (by omega);have e:B[j+k]?=some B[j+k]:=List.getElem?_eq_getElem (by omega);rw[take_snoc e,<- List.append_assoc];exact ih.pushB sb e (hz _ _ (by omega) (by omega) e)
def Mgd (κ:KF) (A B r:List Keyed):Prop:=r.Perm (A++B)/\Srt κ r
theorem MW.doneA (W:MW κ A B o i j) (sa:Srt κ A) (sb:Srt κ B) (h:i=A.length\/j=B.length):Mgd κ A B (o++A.drop i++B.drop j):=by
 refine⟨by rw[List.append_assoc];exact W.pm,?_⟩;rw[List.append_assoc];refine List.pairwise_append.mpr ⟨W.so,List.pairwise_append.mpr ⟨a1F sa i,a1F sb j,fun x hx y hy=>?_⟩,fun x hx y hy=>?_⟩
 ·rcases h with rfl | rfl
  ·rw[List.drop_length]at hx;cases hx
  ·rw[List.drop_length]at hy;cases hy
 ·rcases List.mem_append.mp hy with h | h
  ·exact W.ba x hx y h
  ·exact W.bb x hx y h
theorem MW.doneB (W:MW κ A B o i j) (sa:Srt κ A) (sb:Srt κ B) (h:i+1=A.length) (hl:∀ z,A[A.length - 1]?=some z->∀ y∈B,κ y≤κ z):Mgd κ A B (o++B.drop j++A.drop i):=by
 refine⟨?_,?_⟩
 ·rw[List.append_assoc];exact List.Perm.trans (List.Perm.append_left o List.perm_append_comm) W.pm
 ·rw[List.append_assoc];have e:A[i]?=some A[i]:=List.getElem?_eq_getElem (by omega);have hd:A.drop i=[A[i]]:=by rw[drop_get e,List.drop_eq_nil_of_le (by omega)]
  refine List.pairwise_append.mpr ⟨W.so,List.pairwise_append.mpr ⟨a1F sb j,a1F sa i,fun x hx y hy=>?_⟩,fun x hx y hy=>?_⟩
  ·rw[hd]at hy;rw[List.mem_singleton.mp hy];exact hl _ (by rw[show A.length - 1=i by omega];exact e) x (List.mem_of_mem_drop hx)
  ·rcases List.mem_append.mp hy with h | h
   ·exact W.bb x hx y h
   ·exact W.ba x hx y h
theorem a2s {l:List Keyed}(h:Srt κ l) {n:Nat}(hp:l[n]?=some p):∀ y∈l.drop n,κ p≤κ y:=fun y hy=>by
 have hs:=a1F h n;rw[drop_get hp]at hs hy;rcases List.mem_cons.mp hy with rfl | hy
 ·exact Int.le_refl _
 ·exact (List.pairwise_cons.mp hs).1 y hy
end
end Tim
namespace Tim
open PySem PyProof.Rows
abbrev SM:=StateT SortSt Sem
abbrev T1:=Option (Array Keyed)×Array Keyed×Nat×Nat×Nat×Nat
abbrev T2:=Option (Array Keyed)×Array Keyed×Nat×Nat×Nat×Nat×Nat
def lo1 (a b:Array Keyed) (g:Nat) (o:Array Keyed) (i j ac bc:Nat):SM (ForInStep T1):=do
 let y <- elem' b j
 let x <- elem' a i
 let r <- lt' y x
 match r with
 | some bw=>
  if bw=true then do
   let y <- elem' b j
   if (j+1==b.size)=true then pure (.done (some (dnA a b (o.push y) i (j+1)),o.push y,i,j+1,0,bc+1))
   else if bc+1≥g then pure (.done (none,o.push y,i,j+1,0,bc+1)) else pure (.yield (none,o.push y,i,j+1,0,bc+1))
  else do
   let x <- elem' a i
   if (i+1+1==a.size)=true then pure (.done (some (dnB a b (o.push x) (i+1) j),o.push x,i+1,j,ac+1,0))
   else if ac+1≥g then pure (.done (none,o.push x,i+1,j,ac+1,0)) else pure (.yield (none,o.push x,i+1,j,ac+1,0))
 | _=>pure (.done (some (dnA a b o i j),o,i,j,ac,bc))
def lo5 (a b:Array Keyed) (o:Array Keyed) (i j g ac bc:Nat):SM (ForInStep T2):=do
 let x <- elem' a i
 if (i+1+1==a.size)=true then pure (.done (some (dnB a b (o.push x) (i+1) j),o.push x,i+1,j,g,ac,bc))
 else if (decide (ac<7)&&decide (bc<7))=true then pure (.done (none,o.push x,i+1,j,g,ac,bc)) else pure (.yield (none,o.push x,i+1,j,g,ac,bc))
def lo4 (a b:Array Keyed) (o:Array Keyed) (i j g ac bc:Nat):SM (ForInStep T2):=do
 let y <- elem' b j
 if (j+1==b.size)=true then pure (.done (some (dnA a b (o.push y) i (j+1)),o.push y,i,j+1,g,ac,bc))
 else do
  let x <- elem' a i
  let r <- a15 true x b (j+1) (b.size - (j+1)) 0
  match r with
  | some k=>
   if k > 0 then
    if (j+1+k==b.size)=true then pure (.done (some (dnA a b (o.push y++b.extract (j+1) (j+1+k)) i (j+1+k)),o.push y++b.extract (j+1) (j+1+k),i,j+1+k,g,ac,k))
    else lo5 a b (o.push y++b.extract (j+1) (j+1+k)) i (j+1+k) g ac k
   else lo5 a b (o.push y) i (j+1) g ac k
  | _=>pure (.done (some (dnA a b (o.push y) i (j+1)),o.push y,i,j+1,g,ac,bc))
def lo3 (a b:Array Keyed) (o:Array Keyed) (i j g ac bc:Nat):SM (ForInStep T2):=do
 a7Z g
 let y <- elem' b j
 let r <- a15 false y a i (a.size - i) 0
 match r with
 | some k=>
  if k > 0 then
   if (i+k+1==a.size)=true then pure (.done (some (dnB a b (o++a.extract i (i+k)) (i+k) j),o++a.extract i (i+k),i+k,j,g,k,bc))
   else if (i+k==a.size)=true then pure (.done (some (dnA a b (o++a.extract i (i+k)) (i+k) j),o++a.extract i (i+k),i+k,j,g,k,bc))
   else lo4 a b (o++a.extract i (i+k)) (i+k) j g k bc
  else lo4 a b o i j g k bc
 | _=>pure (.done (some (dnA a b o i j),o,i,j,g,ac,bc))
def lo2 (a b:Array Keyed) (o:Array Keyed) (i j g ac bc:Nat):SM (ForInStep T2):=
 if g > 1 then lo3 a b o i j (g - 1) ac bc else lo3 a b o i j g ac bc
theorem bd2 {α β:Type}{x y:SM α}{f g:α->SM β}(h:x=y) (h2:∀ a,f a=g a):x >>= f=y >>= g:=by rw[h,funext h2]
theorem a63 (a b:Array Keyed):a4O a b=(do
  liftM (rule "list.sort.merge-lo")
  let y <- elem' b 0
  if (1==b.size)=true then pure (dnA a b #[y] 0 1)
  else if (0+1==a.size)=true then pure (dnB a b #[y] 0 1)
  else do
   let st <- get
   let c <- forIn [0:a.size+b.size] ((none,#[y],0,1,gallopOf st):Option (Array Keyed)×Array Keyed×Nat×Nat×Nat) fun _ c=>do
    let c1 <- forIn [0:a.size+b.size] ((none,c.2.1,c.2.2.1,c.2.2.2.1,0,0):T1) fun _ c1=>lo1 a b c.2.2.2.2 c1.2.1 c1.2.2.1 c1.2.2.2.1 c1.2.2.2.2.1 c1.2.2.2.2.2
    match c1.1 with
    | some r=>pure (ForInStep.done (some r,c1.2.1,c1.2.2.1,c1.2.2.2.1,c.2.2.2.2))
    | none=>do
     liftM (rule "list.sort.gallop")
     let c2 <- forIn [0:a.size+b.size] ((none,c1.2.1,c1.2.2.1,c1.2.2.2.1,c.2.2.2.2+1,c1.2.2.2.2.1,c1.2.2.2.2.2):T2) fun _ c2=>lo2 a b c2.2.1 c2.2.2.1 c2.2.2.2.1 c2.2.2.2.2.1 c2.2.2.2.2.2.1 c2.2.2.2.2.2.2
     match c2.1 with
     | some r=>pure (ForInStep.done (some r,c2.2.1,c2.2.2.1,c2.2.2.2.1,c2.2.2.2.2.1))
     | none=>do
      a7Z (c2.2.2.2.2.1+1)
      pure (ForInStep.yield (none,c2.2.1,c2.2.2.1,c2.2.2.2.1,c2.2.2.2.2.1+1))
   match c.1 with
   | some r=>pure r
   | none=>unsupported "internal:list.sort.merge-bound"):=by
 rw[a70];refine bind_congr fun _=>bind_congr fun y=>?_;dsimp only
 congr 1
 congr 1
 refine bind_congr fun st=>?_;refine bd2 ?_ fun c=>?_
 ·congr 1
  funext x c
  obtain⟨r,o,i,j,g⟩:=c;dsimp only;refine bd2 ?_ fun c1=>?_
  ·congr 1
  ·obtain⟨r,o,i,j,ac,bc⟩:=c1;cases r with
   | some r=>rfl
   | none=>
    refine bind_congr fun _=>?_;refine bd2 ?_ fun c2=>?_
    ·congr 1
    ·obtain⟨r,o,i,j,g,ac,bc⟩:=c2;cases r<;>rfl
 ·obtain⟨r,o,i,j,g⟩:=c;cases r<;>rfl
end Tim
namespace Tim
open PySem PyProof.Rows
structure SG (st st':SortSt):Prop where
 kd:kindOf st'=kindOf st
 ar:arrOf st'=arrOf st
 pe:pendingOf st'=pendingOf st
 fl:failedOf st'=failedOf st
theorem SG.refl (st:SortSt):SG st st:=⟨rfl,rfl,rfl,rfl⟩
theorem SG.trans {x y z:SortSt}(p:SG x y) (q:SG y z):SG x z:=⟨q.kd.trans p.kd,q.ar.trans p.ar,q.pe.trans p.pe,q.fl.trans p.fl⟩
section
variable {κ:KF}{a b o:Array Keyed}{i j:Nat}
theorem a3A:(dnA a b o i j).toList=o.toList++a.toList.drop i++b.toList.drop j:=by
 unfold dnA;simp[List.extract_eq_take_drop,List.take_of_length_le]
theorem a4P:(dnB a b o i j).toList=o.toList++b.toList.drop j++a.toList.drop i:=by
 unfold dnB;simp[List.extract_eq_take_drop,List.take_of_length_le]
theorem a8E {k:Nat}:(o++a.extract i (i+k)).toList=o.toList++(a.toList.drop i).take k:=by
 simp[List.extract_eq_take_drop]
theorem a1f (h:i<a.size):a.toList[i]?=some a[i]:=by simp[h]
theorem a1o (h:i<a.size):Kk κ a i=κ a[i]:=a7Y (getElem?_pos ..)
theorem a3B (h:Srt κ a.toList) {n:Nat}(hn:i+n≤a.size):∀ p q,p≤q->q<n->Kk κ a (i+p)≤Kk κ a (i+q):=fun p q hp hq=>by
 rw[a1o (show i+p<a.size by omega),a1o (show i+q<a.size by omega)]
 by_cases e:p=q
 ·subst e;exact Int.le_refl _
 ·have:=List.pairwise_iff_getElem.mp h (i+p) (i+q) (by simp;omega) (by simp;omega) (by omega)
  simpa using this
end
structure MC (M:Model) (A:Around) (E:Value->Shared->Prop) (s:Shared) (κ:KF) (k0:SortKind) (a₀ a b:Array Keyed):Prop where
 L:LtOk M A E s κ k0 a₀
 ha:∀ p∈a.toList,p∈a₀.toList
 hb:∀ p∈b.toList,p∈a₀.toList
 sa:Srt κ a.toList
 sb:Srt κ b.toList
 h0:0<a.size
 h1:0<b.size
 hf:∀ y∈a.toList,Kk κ b 0≤κ y
 hl:∀ z,a.toList[a.toList.length - 1]?=some z->∀ y∈b.toList,κ y≤κ z
structure Rdy (κ:KF) (a b o:Array Keyed) (i j:Nat):Prop where
 w:MW κ a.toList b.toList o.toList i j
 hi:i+1<a.size
 hj:j<b.size
section
variable {M:Model}{A:Around}{E:Value->Shared->Prop}{s:Shared}{κ:KF}{k0:SortKind}{a₀ a b o:Array Keyed}{st:SortSt}{i j g ac bc:Nat}
theorem a5T {α:Type}{w:String}{f:Unit->SM α}{Q:α->SortSt->Prop}(h:wpS M A E s (f ()) Q st):wpS M A E s ((liftM (rule w):SM Unit) >>= f) Q st:=
 wpS_bind (wpS_lift (wpAny_rule ⟨rfl,h⟩))
theorem a1j (a:Array Keyed):a.toList.length=a.size:=by simp
theorem b88 {Q:ForInStep T1->SortSt->Prop}(C:MC M A E s κ k0 a₀ a b) (hk:kindOf st=k0) (R:Rdy κ a b o i j)
  (dn:∀ r c,Mgd κ a.toList b.toList r.toList->Q (.done (some r,c)) st)
  (br:∀ o' i' j' x y,Rdy κ a b o' i' j'->i'+j'=i+j+1->Q (.done (none,o',i',j',x,y)) st)
  (go:∀ o' i' j' x y,Rdy κ a b o' i' j'->i'+j'=i+j+1->Q (.yield (none,o',i',j',x,y)) st):wpS M A E s (lo1 a b g o i j ac bc) Q st:=by
 have hi:=R.hi;have hj:=R.hj;have eb:b[j]?=some b[j]:=getElem?_pos ..;have ea:a[i]?=some a[i]:=getElem?_pos ..;have lb:=a1f hj;have la:=a1f (a:=a) (i:=i) (by omega);unfold lo1;refine wpS_bind (a02 eb (wpS_bind (a02 ea (wpS_bind ?_))));refine C.L _ _ (C.hb _ (List.mem_of_getElem? lb)) (C.ha _ (List.mem_of_getElem? la)) st _ hk ?_;dsimp only
 by_cases c:κ b[j]<κ a[i]
 ·rw[if_pos (decide_eq_true c)];refine wpS_bind (a02 eb ?_);have w2:=R.w.pushB C.sb lb fun y hy=>Int.le_trans (Int.le_of_lt c) (a2s C.sa la y hy);rw[<- Array.toList_push]at w2
  by_cases e:j+1=b.size
  ·rw[if_pos (by simpa using e)];exact wpS_pure (dn _ _ (by rw[a3A];exact w2.doneA C.sa C.sb (.inr (by rw[a1j];exact e))))
  ·rw[if_neg (by simpa using e)];have R2:Rdy κ a b (o.push b[j]) i (j+1):=⟨w2,hi,by omega⟩
   split
   ·exact wpS_pure (br _ _ _ _ _ R2 (by omega))
   ·exact wpS_pure (go _ _ _ _ _ R2 (by omega))
 ·rw[if_neg (by simpa using c)];refine wpS_bind (a02 ea ?_);have w2:=R.w.pushA C.sa la fun y hy=>Int.le_trans (Int.not_lt.mp c) (a2s C.sb lb y hy);rw[<- Array.toList_push]at w2
  by_cases e:i+1+1=a.size
  ·rw[if_pos (by simpa using e)];exact wpS_pure (dn _ _ (by rw[a4P];exact w2.doneB C.sa C.sb (by rw[a1j];exact e) C.hl))
  ·rw[if_neg (by simpa using e)];have R2:Rdy κ a b (o.push a[i]) (i+1) j:=⟨w2,by omega,hj⟩
   split
   ·exact wpS_pure (br _ _ _ _ _ R2 (by omega))
   ·exact wpS_pure (go _ _ _ _ _ R2 (by omega))
structure G2 (st:SortSt) (κ:KF) (a b:Array Keyed) (n:Nat) (Q:ForInStep T2->SortSt->Prop):Prop where
 dn:∀ r c st',SG st st'->Mgd κ a.toList b.toList r.toList->Q (.done (some r,c)) st'
 br:∀ o' i' j' x y z st',SG st st'->Rdy κ a b o' i' j'->n<i'+j'->Q (.done (none,o',i',j',x,y,z)) st'
 go:∀ o' i' j' x y z st',SG st st'->Rdy κ a b o' i' j'->n<i'+j'->Q (.yield (none,o',i',j',x,y,z)) st'
theorem b67 {Q:ForInStep T2->SortSt->Prop}{n:Nat}(C:MC M A E s κ k0 a₀ a b) (R:Rdy κ a b o i j) (hle:∀ y∈b.toList.drop j,Kk κ a i≤κ y) (H:G2 st κ a b n Q) (hn:n≤i+j):wpS M A E s (lo5 a b o i j g ac bc) Q st:=by
 have hi:=R.hi;have hj:=R.hj;have ea:a[i]?=some a[i]:=getElem?_pos ..;have la:=a1f (a:=a) (i:=i) (by omega);rw[a1o (show i<a.size by omega)]at hle;unfold lo5;refine wpS_bind (a02 ea ?_);have w2:=R.w.pushA C.sa la hle;rw[<- Array.toList_push]at w2
 by_cases e:i+1+1=a.size
 ·rw[if_pos (by simpa using e)];exact wpS_pure (H.dn _ _ _ (SG.refl _) (by rw[a4P];exact w2.doneB C.sa C.sb (by rw[a1j];exact e) C.hl))
 ·rw[if_neg (by simpa using e)];have R2:Rdy κ a b (o.push a[i]) (i+1) j:=⟨w2,by omega,hj⟩
  split
  ·exact wpS_pure (H.br _ _ _ _ _ _ _ (SG.refl _) R2 (by omega))
  ·exact wpS_pure (H.go _ _ _ _ _ _ _ (SG.refl _) R2 (by omega))
theorem a3j {l:List Keyed}{n:Nat}{y:Keyed}(h:y∈l.drop n):∃ q,n≤q/\q<l.length/\l[q]?=some y:=by
 obtain⟨m,hm⟩:=List.getElem?_of_mem h;rw[List.getElem?_drop]at hm;exact⟨n+m,by omega,(List.getElem?_eq_some_iff.mp hm).1,hm⟩
theorem a49 {q:Nat}{z:Keyed}(h:a.toList[q]?=some z):Kk κ a q=κ z:=a7Y (by rw[<- Array.getElem?_toList];exact h)
theorem b68 {Q:ForInStep T2->SortSt->Prop}{n:Nat}(C:MC M A E s κ k0 a₀ a b) (hk:kindOf st=k0) (R:Rdy κ a b o i j) (hle:∀ y∈a.toList.drop i,Kk κ b j≤κ y) (H:G2 st κ a b n Q) (hn:n≤i+j):wpS M A E s (lo4 a b o i j g ac bc) Q st:=by
 have hi:=R.hi;have hj:=R.hj;have eb:b[j]?=some b[j]:=getElem?_pos ..;have lb:=a1f hj;have ea:a[i]?=some a[i]:=getElem?_pos ..;have la:=a1f (a:=a) (i:=i) (by omega);rw[a1o hj]at hle;unfold lo4;refine wpS_bind (a02 eb ?_);have w2:=R.w.pushB C.sb lb hle;rw[<- Array.toList_push]at w2
 by_cases e:j+1=b.size
 ·rw[if_pos (by simpa using e)];exact wpS_pure (H.dn _ _ _ (SG.refl _) (by rw[a3A];exact w2.doneA C.sa C.sb (.inr (by rw[a1j];exact e))))
 ·rw[if_neg (by simpa using e)];refine wpS_bind (a02 ea (wpS_bind ?_));refine a20 C.L hk (C.ha _ (List.mem_of_getElem? la)) C.hb (by omega) (by omega) (a3B C.sb (by omega)) fun k hkn hlt hge=>?_;dsimp only;have rest:∀ y∈b.toList.drop (j+1+k),Kk κ a i≤κ y:=fun y hy=>by
   obtain⟨q,h1,h2,h3⟩:=a3j hy;rw[a1j]at h2
   have:=hge (q - (j+1)) (by omega) (by omega)
   rw[show j+1+(q - (j+1))=q by omega,a49 h3]at this;simp[bq]at this;rw[a1o (show i<a.size by omega)];omega
  split
  ·have w3:=w2.runB C.sb k (by rw[a1j];omega) fun q z h1 h2 h3 y hy=>by
    have:=hlt (q - (j+1)) (by omega)
    rw[show j+1+(q - (j+1))=q by omega,a49 h3]at this;simp[bq]at this;exact Int.le_trans (Int.le_of_lt this) (a2s C.sa la y hy)
   rw[<- a8E]at w3
   by_cases e2:j+1+k=b.size
   ·rw[if_pos (by simpa using e2)];exact wpS_pure (H.dn _ _ _ (SG.refl _) (by rw[a3A];exact w3.doneA C.sa C.sb (.inr (by rw[a1j];exact e2))))
   ·rw[if_neg (by simpa using e2)];exact b67 C ⟨w3,hi,by omega⟩ rest H (by omega)
  ·have:k=0:=by omega
   subst this;exact b67 C ⟨w2,hi,by omega⟩ rest H (by omega)
theorem b89 {Q:ForInStep T2->SortSt->Prop}{n:Nat}(C:MC M A E s κ k0 a₀ a b) (hk:kindOf st=k0) (R:Rdy κ a b o i j) (H:G2 st κ a b n Q) (hn:n≤i+j):wpS M A E s (lo3 a b o i j g ac bc) Q st:=by
 have hi:=R.hi;have hj:=R.hj;have eb:b[j]?=some b[j]:=getElem?_pos ..;have lb:=a1f hj;unfold lo3;rw[a4N];refine wpS_bind (wpS_modify ?_);have g1:SG st (SortSt.mk' (kindOf st) (arrOf st) (pendingOf st) g (failedOf st)):=⟨rfl,rfl,rfl,rfl⟩;have hk1:kindOf (SortSt.mk' (kindOf st) (arrOf st) (pendingOf st) g (failedOf st))=k0:=hk;generalize SortSt.mk' (kindOf st) (arrOf st) (pendingOf st) g (failedOf st)=st1 at g1 hk1;have H1:G2 st1 κ a b n Q:=⟨fun r c st' g=>H.dn r c st' (g1.trans g),fun _ _ _ _ _ _ st' g=>H.br _ _ _ _ _ _ st' (g1.trans g),fun _ _ _ _ _ _ st' g=>H.go _ _ _ _ _ _ st' (g1.trans g)⟩;refine wpS_bind (a02 eb (wpS_bind ?_));refine a20 C.L hk1 (C.hb _ (List.mem_of_getElem? lb)) C.ha (by omega) (by omega) (a3B C.sa (by omega)) fun k hkn hlt hge=>?_;dsimp only;have rest:∀ y∈a.toList.drop (i+k),Kk κ b j≤κ y:=fun y hy=>by
  obtain⟨q,h1,h2,h3⟩:=a3j hy;rw[a1j]at h2
  have:=hge (q - i) (by omega) (by omega)
  rw[show i+(q - i)=q by omega,a49 h3]at this;simp[bq]at this;rw[a1o hj];omega
 split
 ·have w3:=R.w.runA C.sa k (by rw[a1j];omega) fun q z h1 h2 h3 y hy=>by
   have:=hlt (q - i) (by omega)
   rw[show i+(q - i)=q by omega,a49 h3]at this;simp[bq]at this;exact Int.le_trans this (a2s C.sb lb y hy)
  rw[<- a8E]at w3
  by_cases e1:i+k+1=a.size
  ·rw[if_pos (by simpa using e1)];exact wpS_pure (H1.dn _ _ _ (SG.refl _) (by rw[a4P];exact w3.doneB C.sa C.sb (by rw[a1j];exact e1) C.hl))
  ·rw[if_neg (by simpa using e1)]
   by_cases e2:i+k=a.size
   ·rw[if_pos (by simpa using e2)];exact wpS_pure (H1.dn _ _ _ (SG.refl _) (by rw[a3A];exact w3.doneA C.sa C.sb (.inl (by rw[a1j];exact e2))))
   ·rw[if_neg (by simpa using e2)];exact b68 C hk1 ⟨w3,by omega,hj⟩ rest H1 (by omega)
 ·have:k=0:=by omega
  subst this;exact b68 C hk1 ⟨R.w,hi,hj⟩ rest H1 (by omega)
theorem b9a {Q:ForInStep T2->SortSt->Prop}{n:Nat}(C:MC M A E s κ k0 a₀ a b) (hk:kindOf st=k0) (R:Rdy κ a b o i j) (H:G2 st κ a b n Q) (hn:n≤i+j):wpS M A E s (lo2 a b o i j g ac bc) Q st:=by
 unfold lo2
 split<;>exact b89 C hk R H hn
theorem b2G (C:MC M A E s κ k0 a₀ a b):MW κ a.toList b.toList [b[0]'C.h1] 0 1:=by
 have lb:=a1f C.h1;have w0:MW κ a.toList b.toList [] 0 0:=⟨Nat.zero_le _,Nat.zero_le _,by simp,.nil,fun x h=>by simp at h,fun x h=>by simp at h⟩;exact w0.pushB C.sb lb fun y hy=>by rw[<- a1o (κ:=κ) C.h1];exact C.hf y (by simpa using hy)
theorem b08 {Q:Array Keyed->SortSt->Prop}(C:MC M A E s κ k0 a₀ a b) (hk:kindOf st=k0)
  (h:∀ r st',SG st st'->Mgd κ a.toList b.toList r.toList->Q r st'):wpS M A E s (a4O a b) Q st:=by
 have h0:=C.h0;have h1:=C.h1;rw[a63];refine a5T ?_;refine wpS_bind (a02 (getElem?_pos b 0 C.h1) ?_);have w0:=b2G C
 by_cases e1:1=b.size
 ·rw[if_pos (by simpa using e1)];exact wpS_pure (h _ _ (SG.refl _) (by rw[a3A];exact w0.doneA C.sa C.sb (.inr (by rw[a1j];exact e1))))
 rw[if_neg (by simpa using e1)]
 by_cases e2:0+1=a.size
 ·rw[if_pos (by simpa using e2)];exact wpS_pure (h _ _ (SG.refl _) (by rw[a4P];exact w0.doneB C.sa C.sb (by rw[a1j];exact e2) C.hl))
 rw[if_neg (by simpa using e2)];refine wpS_bind (wpS_get ?_);have R0:Rdy κ a b #[b[0]] 0 1:=⟨w0,by omega,by omega⟩;refine wpS_bind (wpS_mono (wpS_forRange (I:=fun x c st'=>∃ o i j g,c=(none,o,i,j,g)/\SG st st'/\Rdy κ a b o i j/\x<i+j)
  (Q:=fun c st'=>∃ r c',c=(some r,c')/\SG st st'/\Mgd κ a.toList b.toList r.toList) ?step ?fin ⟨_,_,_,_,rfl,SG.refl _,R0,by omega⟩) ?post)
 case post=>
  rintro c st' ⟨r,c',rfl,g1,m⟩;exact wpS_pure (h r st' g1 m)
 case fin=>
  rintro c st' ⟨o,i,j,g,rfl,g1,R,hx⟩
  have:=R.hi
  have:=R.hj
  omega
 case step=>
  rintro x c st' _ hx ⟨o,i,j,g,rfl,g1,R,hxi⟩;dsimp only;have hk1:kindOf st'=k0:=g1.kd.trans hk;refine wpS_bind (wpS_mono (wpS_forRange (I:=fun y c st2=>∃ o' i' j' ac bc,c=(none,o',i',j',ac,bc)/\st2=st'/\Rdy κ a b o' i' j'/\i+j+y≤i'+j')
   (Q:=fun c st2=>st2=st'/\((∃ r c',c=(some r,c')/\Mgd κ a.toList b.toList r.toList)\/∃ o' i' j' ac bc,c=(none,o',i',j',ac,bc)/\Rdy κ a b o' i' j'/\i+j≤i'+j')) ?st1 ?fi1 ⟨_,_,_,_,_,rfl,rfl,R,by omega⟩) ?po1)
  case fi1=>
   rintro c st2 ⟨o',i',j',ac,bc,rfl,rfl,R',hy⟩
   have:=R'.hi
   have:=R'.hj
   omega
  case st1=>
   rintro y c st2 _ hy ⟨o',i',j',ac,bc,rfl,rfl,R',hyi⟩;dsimp only;refine b88 C hk1 R' (fun r c m=>⟨rfl,.inl ⟨r,c,rfl,m⟩⟩) (fun o2 i2 j2 u v R2 hs=>⟨rfl,.inr ⟨_,_,_,_,_,rfl,R2,by omega⟩⟩) fun o2 i2 j2 u v R2 hs=>⟨_,_,_,_,_,rfl,rfl,R2,by omega⟩
  case po1=>
   rintro c st2 ⟨rfl,⟨r,c',rfl,m⟩ | ⟨o',i',j',ac,bc,rfl,R',hij⟩⟩
   ·exact wpS_pure ⟨r,_,rfl,g1,m⟩
   ·dsimp only;refine a5T ?_;refine wpS_bind (wpS_mono (wpS_forRange (I:=fun y c st3=>∃ o3 i3 j3 g3 ac3 bc3,c=(none,o3,i3,j3,g3,ac3,bc3)/\SG st st3/\Rdy κ a b o3 i3 j3/\i'+j'+y≤i3+j3)
     (Q:=fun c st3=>SG st st3/\((∃ r c',c=(some r,c')/\Mgd κ a.toList b.toList r.toList)\/∃ o3 i3 j3 g3 ac3 bc3,c=(none,o3,i3,j3,g3,ac3,bc3)/\Rdy κ a b o3 i3 j3/\i'+j'<i3+j3)) ?st2 ?fi2 ⟨_,_,_,_,_,_,rfl,g1,R',by omega⟩) ?po2)
    case fi2=>
     rintro c st3 ⟨o3,i3,j3,g3,ac3,bc3,rfl,g3',R3,hy⟩
     have:=R3.hi
     have:=R3.hj
     omega
    case st2=>
     rintro y c st3 _ hy ⟨o3,i3,j3,g3,ac3,bc3,rfl,g3',R3,hyi⟩;dsimp only;refine b9a (n:=i3+j3) C (g3'.kd.trans hk) R3 ⟨fun r c st4 g4 m=>⟨g3'.trans g4,.inl ⟨r,c,rfl,m⟩⟩,fun o4 i4 j4 u v w st4 g4 R4 hs=>⟨g3'.trans g4,.inr ⟨_,_,_,_,_,_,rfl,R4,by omega⟩⟩,fun o4 i4 j4 u v w st4 g4 R4 hs=>⟨_,_,_,_,_,_,rfl,g3'.trans g4,R4,by omega⟩⟩ (Nat.le_refl _)
    case po2=>
     rintro c st3 ⟨g3',⟨r,c',rfl,m⟩ | ⟨o3,i3,j3,g3,ac3,bc3,rfl,R3,hs⟩⟩
     ·exact wpS_pure ⟨r,_,rfl,g3',m⟩
     ·dsimp only;rw[a4N];refine wpS_bind (wpS_modify (wpS_pure ?_));exact⟨_,_,_,_,rfl,⟨g3'.kd,g3'.ar,g3'.pe,g3'.fl⟩,R3,by omega⟩
end
end Tim
namespace Tim
open PySem PyProof.Rows
def a6l:Array Keyed->Array Keyed->SM (Array Keyed):=sortPriv% PySem.Builtin.mergeHi
abbrev hnA (a b o:Array Keyed) (u v:Nat):Array Keyed:=a.extract 0 u++b.extract 0 v++o.reverse
abbrev hnB (a b o:Array Keyed) (u v:Nat):Array Keyed:=b.extract 0 v++a.extract 0 u++o.reverse
abbrev H1:=Option (Array Keyed)×Nat×Nat×Array Keyed×Nat×Nat
abbrev H2:=Option (Array Keyed)×Nat×Nat×Array Keyed×Nat×Nat×Nat
def hi1 (a b:Array Keyed) (g u v:Nat) (o:Array Keyed) (ac bc:Nat):SM (ForInStep H1):=do
 let y <- elem' b (v - 1)
 let x <- elem' a (u - 1)
 let r <- lt' y x
 match r with
 | some aw=>
  if aw=true then do
   let x <- elem' a (u - 1)
   if (u - 1==0)=true then pure (.done (some (hnA a b (o.push x) (u - 1) v),u - 1,v,o.push x,ac+1,0))
   else if ac+1≥g then pure (.done (none,u - 1,v,o.push x,ac+1,0)) else pure (.yield (none,u - 1,v,o.push x,ac+1,0))
  else do
   let y <- elem' b (v - 1)
   if (v - 1==1)=true then pure (.done (some (hnB a b (o.push y) u (v - 1)),u,v - 1,o.push y,0,bc+1))
   else if bc+1≥g then pure (.done (none,u,v - 1,o.push y,0,bc+1)) else pure (.yield (none,u,v - 1,o.push y,0,bc+1))
 | _=>pure (.done (some (hnA a b o u v),u,v,o,ac,bc))
def hi5 (a b:Array Keyed) (u v:Nat) (o:Array Keyed) (g ac bc:Nat):SM (ForInStep H2):=do
 let x <- elem' a (u - 1)
 if (u - 1==0)=true then pure (.done (some (hnA a b (o.push x) (u - 1) v),u - 1,v,o.push x,g,ac,bc))
 else if (decide (ac<7)&&decide (bc<7))=true then pure (.done (none,u - 1,v,o.push x,g,ac,bc)) else pure (.yield (none,u - 1,v,o.push x,g,ac,bc))
def hi4 (a b:Array Keyed) (u v:Nat) (o:Array Keyed) (g ac bc:Nat):SM (ForInStep H2):=do
 let y <- elem' b (v - 1)
 if (v - 1==1)=true then pure (.done (some (hnB a b (o.push y) u (v - 1)),u,v - 1,o.push y,g,ac,bc))
 else do
  let x <- elem' a (u - 1)
  let r <- a15 true x b 0 (v - 1) (v - 1 - 1)
  match r with
  | some p=>
   if v - 1 - p > 0 then
    if (p==1)=true then pure (.done (some (hnB a b (o.push y++(b.extract p (v - 1)).reverse) u p),u,p,o.push y++(b.extract p (v - 1)).reverse,g,ac,v - 1 - p))
    else if (p==0)=true then pure (.done (some (hnA a b (o.push y++(b.extract p (v - 1)).reverse) u p),u,p,o.push y++(b.extract p (v - 1)).reverse,g,ac,v - 1 - p))
    else hi5 a b u p (o.push y++(b.extract p (v - 1)).reverse) g ac (v - 1 - p)
   else hi5 a b u (v - 1) (o.push y) g ac (v - 1 - p)
  | _=>pure (.done (some (hnA a b (o.push y) u (v - 1)),u,v - 1,o.push y,g,ac,bc))
def hi3 (a b:Array Keyed) (u v:Nat) (o:Array Keyed) (g ac bc:Nat):SM (ForInStep H2):=do
 a7Z g
 let y <- elem' b (v - 1)
 let r <- a15 false y a 0 u (u - 1)
 match r with
 | some p=>
  if u - p > 0 then
   if (p==0)=true then pure (.done (some (hnA a b (o++(a.extract p u).reverse) p v),p,v,o++(a.extract p u).reverse,g,u - p,bc))
   else hi4 a b p v (o++(a.extract p u).reverse) g (u - p) bc
  else hi4 a b u v o g (u - p) bc
 | _=>pure (.done (some (hnA a b o u v),u,v,o,g,ac,bc))
def hi2 (a b:Array Keyed) (u v:Nat) (o:Array Keyed) (g ac bc:Nat):SM (ForInStep H2):=
 if g > 1 then hi3 a b u v o (g - 1) ac bc else hi3 a b u v o g ac bc
theorem a64 (a b:Array Keyed):a6l a b=(do
  liftM (rule "list.sort.merge-hi")
  let x <- elem' a (a.size - 1)
  if (a.size - 1==0)=true then pure (hnA a b #[x] (a.size - 1) b.size)
  else if (b.size==1)=true then pure (hnB a b #[x] (a.size - 1) b.size)
  else do
   let st <- get
   let c <- forIn [0:a.size+b.size] ((none,a.size - 1,b.size,#[x],gallopOf st):Option (Array Keyed)×Nat×Nat×Array Keyed×Nat) fun _ c=>do
    let c1 <- forIn [0:a.size+b.size] ((none,c.2.1,c.2.2.1,c.2.2.2.1,0,0):H1) fun _ c1=>hi1 a b c.2.2.2.2 c1.2.1 c1.2.2.1 c1.2.2.2.1 c1.2.2.2.2.1 c1.2.2.2.2.2
    match c1.1 with
    | some r=>pure (ForInStep.done (some r,c1.2.1,c1.2.2.1,c1.2.2.2.1,c.2.2.2.2))
    | none=>do
     liftM (rule "list.sort.gallop")
     let c2 <- forIn [0:a.size+b.size] ((none,c1.2.1,c1.2.2.1,c1.2.2.2.1,c.2.2.2.2+1,c1.2.2.2.2.1,c1.2.2.2.2.2):H2) fun _ c2=>hi2 a b c2.2.1 c2.2.2.1 c2.2.2.2.1 c2.2.2.2.2.1 c2.2.2.2.2.2.1 c2.2.2.2.2.2.2
     match c2.1 with
     | some r=>pure (ForInStep.done (some r,c2.2.1,c2.2.2.1,c2.2.2.2.1,c2.2.2.2.2.1))
     | none=>do
      a7Z (c2.2.2.2.2.1+1)
      pure (ForInStep.yield (none,c2.2.1,c2.2.2.1,c2.2.2.2.1,c2.2.2.2.2.1+1))
   match c.1 with
   | some r=>pure r
   | none=>unsupported "internal:list.sort.merge-bound"):=by
 refine bind_congr fun _=>bind_congr fun y=>?_;dsimp only
 congr 1
 congr 1
 refine bind_congr fun st=>?_;refine bd2 ?_ fun c=>?_
 ·congr 1
  funext x c
  obtain⟨r,u,v,o,g⟩:=c;dsimp only;refine bd2 ?_ fun c1=>?_
  ·congr 1
  ·obtain⟨r,u,v,o,ac,bc⟩:=c1;cases r with
   | some r=>rfl
   | none=>
    refine bind_congr fun _=>?_;refine bd2 ?_ fun c2=>?_
    ·congr 1
    ·obtain⟨r,u,v,o,g,ac,bc⟩:=c2;cases r<;>rfl
 ·obtain⟨r,u,v,o,g⟩:=c;cases r<;>rfl
end Tim
namespace Tim
open PySem PyProof.Rows
section
variable {κ:KF}{A B o:List Keyed}{u v:Nat}{p:Keyed}
structure MH (κ:KF) (A B o:List Keyed) (u v:Nat):Prop where
 ia:u≤A.length
 jb:v≤B.length
 pm:(A.take u++B.take v++o.reverse).Perm (A++B)
 so:Srt κ o.reverse
 ba:∀ x∈o,∀ y∈A.take u,κ y≤κ x
 bb:∀ x∈o,∀ y∈B.take v,κ y≤κ x
theorem a71 {l:List Keyed}{n:Nat}(h:l[n]?=some p):l.take (n+1)=l.take n++[p]:=by
 rw[List.take_add_one,h];rfl
theorem a2t {l:List Keyed}(h:Srt κ l) (n:Nat):Srt κ (l.take n):=List.Pairwise.sublist (List.take_sublist n l) h
theorem a21 {l:List Keyed}{n:Nat}(h:Srt κ l) (e:l[n]?=some p):∀ y∈l.take (n+1),κ y≤κ p:=fun y hy=>by
 have hs:=a2t h (n+1);rw[a71 e]at hs hy;rcases List.mem_append.mp hy with hy | hy
 ·exact (List.pairwise_append.mp hs).2.2 y hy p (by simp)
 ·rw[List.mem_singleton.mp hy];exact Int.le_refl _
theorem MH.pushA (W:MH κ A B o (u+1) v) (sa:Srt κ A) (hp:A[u]?=some p) (hb:∀ y∈B.take v,κ y≤κ p):MH κ A B (o++[p]) u v:=by
 have hd:=a71 hp;have hi:=(List.getElem?_eq_some_iff.mp hp).1;refine⟨by omega,W.jb,?_,?_,fun x hx y hy=>?_,fun x hx y hy=>?_⟩
 ·have:=W.pm
  rw[hd]at this;refine List.Perm.trans ?_ this;rw[List.reverse_append,List.reverse_singleton];simp only[List.append_assoc];refine List.Perm.append_left _ ?_;rw[List.singleton_append,List.singleton_append];exact List.perm_middle
 ·rw[List.reverse_append,List.reverse_singleton,List.singleton_append];refine List.pairwise_cons.mpr ⟨fun x hx=>?_,W.so⟩;exact W.ba x (by simpa using hx) p (by rw[hd];simp)
 ·rcases List.mem_append.mp hx with h | h
  ·exact W.ba x h y (by rw[hd];simp[hy])
  ·rw[List.mem_singleton.mp h];exact a21 sa hp y (by rw[hd];simp[hy])
 ·rcases List.mem_append.mp hx with h | h
  ·exact W.bb x h y hy
  ·rw[List.mem_singleton.mp h];exact hb y hy
theorem MH.pushB (W:MH κ A B o u (v+1)) (sb:Srt κ B) (hp:B[v]?=some p) (hb:∀ y∈A.take u,κ y≤κ p):MH κ A B (o++[p]) u v:=by
 have hd:=a71 hp;have hi:=(List.getElem?_eq_some_iff.mp hp).1;refine⟨W.ia,by omega,?_,?_,fun x hx y hy=>?_,fun x hx y hy=>?_⟩
 ·have:=W.pm
  rw[hd]at this;refine List.Perm.trans ?_ this;rw[List.reverse_append,List.reverse_singleton];simp only[List.append_assoc];exact List.Perm.refl _
 ·rw[List.reverse_append,List.reverse_singleton,List.singleton_append];refine List.pairwise_cons.mpr ⟨fun x hx=>?_,W.so⟩;exact W.bb x (by simpa using hx) p (by rw[hd];simp)
 ·rcases List.mem_append.mp hx with h | h
  ·exact W.ba x h y hy
  ·rw[List.mem_singleton.mp h];exact hb y hy
 ·rcases List.mem_append.mp hx with h | h
  ·exact W.bb x h y (by rw[hd];simp[hy])
  ·rw[List.mem_singleton.mp h];exact a21 sb hp y (by rw[hd];simp[hy])
theorem MH.runA (sa:Srt κ A):∀ (k:Nat) {o:List Keyed},MH κ A B o (u+k) v->(∀ q z,u≤q->q<u+k->A[q]?=some z->∀ y∈B.take v,κ y≤κ z)->MH κ A B (o++((A.drop u).take k).reverse) u v
 | 0,o,W,_=>by simpa using W
 | k+1,o,W,hz=>by
  have hlt:u+k<A.length:=by have:=W.ia;omega
  have e:A[u+k]?=some A[u+k]:=List.getElem?_eq_getElem hlt;have W1:=MH.pushA W sa e (hz _ _ (by omega) (by omega) e);have ih:=MH.runA sa k W1 fun q z h1 h2=>hz q z h1 (by omega);rw[take_snoc e,List.reverse_append,List.reverse_singleton,<- List.append_assoc];exact ih
theorem MH.runB (sb:Srt κ B):∀ (k:Nat) {o:List Keyed},MH κ A B o u (v+k)->(∀ q z,v≤q->q<v+k->B[q]?=some z->∀ y∈A.take u,κ y≤κ z)->MH κ A B (o++((B.drop v).take k).reverse) u v
 | 0,o,W,_=>by simpa using W
 | k+1,o,W,hz=>by
  have hlt:v+k<B.length:=by have:=W.jb;omega
  have e:B[v+k]?=some B[v+k]:=List.getElem?_eq_getElem hlt;have W1:=MH.pushB W sb e (hz _ _ (by omega) (by omega) e);have ih:=MH.runB sb k W1 fun q z h1 h2=>hz q z h1 (by omega);rw[take_snoc e,List.reverse_append,List.reverse_singleton,<- List.append_assoc];exact ih
theorem MH.doneA (W:MH κ A B o u v) (sa:Srt κ A) (sb:Srt κ B) (h:u=0\/v=0):Mgd κ A B (A.take u++B.take v++o.reverse):=by
 refine⟨W.pm,?_⟩;refine List.pairwise_append.mpr ⟨List.pairwise_append.mpr ⟨a2t sa u,a2t sb v,fun x hx y hy=>?_⟩,W.so,fun x hx y hy=>?_⟩
 ·rcases h with rfl | rfl
  ·simp at hx
  ·simp at hy
 ·have hy':y∈o:=by simpa using hy
  rcases List.mem_append.mp hx with h | h
  ·exact W.ba y hy' x h
  ·exact W.bb y hy' x h
theorem MH.doneB (W:MH κ A B o u 1) (sa:Srt κ A) (sb:Srt κ B) (hf:∀ z,B[0]?=some z->∀ y∈A,κ z≤κ y):Mgd κ A B (B.take 1++A.take u++o.reverse):=by
 refine⟨?_,?_⟩
 ·refine List.Perm.trans ?_ W.pm;exact List.Perm.append_right _ List.perm_append_comm
 ·refine List.pairwise_append.mpr ⟨List.pairwise_append.mpr ⟨a2t sb 1,a2t sa u,fun x hx y hy=>?_⟩,W.so,fun x hx y hy=>?_⟩
  ·cases B with
   | nil=>simp at hx
   | cons z B=>
    have:x=z:=by simpa using hx
    subst this;exact hf x rfl y (List.mem_of_mem_take hy)
  ·have hy':y∈o:=by simpa using hy
   rcases List.mem_append.mp hx with h | h
   ·exact W.bb y hy' x h
   ·exact W.ba y hy' x h
end
section
variable {κ:KF}{a b o:Array Keyed}{u v:Nat}
theorem a3C:(hnA a b o u v).toList=a.toList.take u++b.toList.take v++o.toList.reverse:=by
 unfold hnA;simp[List.extract_eq_take_drop]
theorem a4Q:(hnB a b o u v).toList=b.toList.take v++a.toList.take u++o.toList.reverse:=by
 unfold hnB;simp[List.extract_eq_take_drop]
theorem a8F {p:Nat}:(o++(a.extract p u).reverse).toList=o.toList++((a.toList.drop p).take (u - p)).reverse:=by
 simp[List.extract_eq_take_drop]
end
structure RdH (κ:KF) (a b o:Array Keyed) (u v:Nat):Prop where
 w:MH κ a.toList b.toList o.toList u v
 hu:1≤u
 hv:2≤v
section
variable {M:Model}{A:Around}{E:Value->Shared->Prop}{s:Shared}{κ:KF}{k0:SortKind}{a₀ a b o:Array Keyed}{st:SortSt}{u v g ac bc:Nat}
theorem RdH.ua (R:RdH κ a b o u v):u≤a.size:=by have:=R.w.ia;rwa [a1j]at this
theorem RdH.vb (R:RdH κ a b o u v):v≤b.size:=by have:=R.w.jb;rwa [a1j]at this
theorem MC.first (C:MC M A E s κ k0 a₀ a b):∀ z,b.toList[0]?=some z->∀ y∈a.toList,κ z≤κ y:=fun z hz y hy=>by
 have:=C.hf y hy
 rwa [a49 hz]at this
theorem b9b {Q:ForInStep H1->SortSt->Prop}(C:MC M A E s κ k0 a₀ a b) (hk:kindOf st=k0) (R:RdH κ a b o (u+1) (v+1))
  (dn:∀ r c,Mgd κ a.toList b.toList r.toList->Q (.done (some r,c)) st)
  (br:∀ o' u' v' x y,RdH κ a b o' u' v'->u'+v'=u+v+1->Q (.done (none,u',v',o',x,y)) st)
  (go:∀ o' u' v' x y,RdH κ a b o' u' v'->u'+v'=u+v+1->Q (.yield (none,u',v',o',x,y)) st):wpS M A E s (hi1 a b g (u+1) (v+1) o ac bc) Q st:=by
 have hu:=R.ua;have hv:=R.vb;have hu1:=R.hu;have hv1:=R.hv;have eb:b[v]?=some b[v]:=getElem?_pos ..;have ea:a[u]?=some a[u]:=getElem?_pos ..;have lb:=a1f (a:=b) (i:=v) (by omega);have la:=a1f (a:=a) (i:=u) (by omega);unfold hi1;simp only[Nat.add_sub_cancel];refine wpS_bind (a02 eb (wpS_bind (a02 ea (wpS_bind ?_))));refine C.L _ _ (C.hb _ (List.mem_of_getElem? lb)) (C.ha _ (List.mem_of_getElem? la)) st _ hk ?_;dsimp only
 by_cases c:κ b[v]<κ a[u]
 ·rw[if_pos (decide_eq_true c)];refine wpS_bind (a02 ea ?_);have w2:=R.w.pushA C.sa la fun y hy=>Int.le_trans (a21 C.sb lb y hy) (Int.le_of_lt c);rw[<- Array.toList_push]at w2
  by_cases e:u=0
  ·rw[if_pos (by simpa using e)];exact wpS_pure (dn _ _ (by rw[a3C];exact w2.doneA C.sa C.sb (.inl e)))
  ·rw[if_neg (by simpa using e)];have R2:RdH κ a b (o.push a[u]) u (v+1):=⟨w2,by omega,hv1⟩
   split
   ·exact wpS_pure (br _ _ _ _ _ R2 (by omega))
   ·exact wpS_pure (go _ _ _ _ _ R2 (by omega))
 ·rw[if_neg (by simpa using c)];refine wpS_bind (a02 eb ?_);have w2:=R.w.pushB C.sb lb fun y hy=>Int.le_trans (a21 C.sa la y hy) (Int.not_lt.mp c);rw[<- Array.toList_push]at w2
  by_cases e:v=1
  ·rw[if_pos (by simpa using e)];subst e;exact wpS_pure (dn _ _ (by rw[a4Q];exact w2.doneB C.sa C.sb C.first))
  ·rw[if_neg (by simpa using e)];have R2:RdH κ a b (o.push b[v]) (u+1) v:=⟨w2,hu1,by omega⟩
   split
   ·exact wpS_pure (br _ _ _ _ _ R2 (by omega))
   ·exact wpS_pure (go _ _ _ _ _ R2 (by omega))
structure HG (st:SortSt) (κ:KF) (a b:Array Keyed) (n:Nat) (Q:ForInStep H2->SortSt->Prop):Prop where
 dn:∀ r c st',SG st st'->Mgd κ a.toList b.toList r.toList->Q (.done (some r,c)) st'
 br:∀ o' u' v' x y z st',SG st st'->RdH κ a b o' u' v'->u'+v'<n->Q (.done (none,u',v',o',x,y,z)) st'
 go:∀ o' u' v' x y z st',SG st st'->RdH κ a b o' u' v'->u'+v'<n->Q (.yield (none,u',v',o',x,y,z)) st'
theorem b69 {Q:ForInStep H2->SortSt->Prop}{n:Nat}(C:MC M A E s κ k0 a₀ a b) (R:RdH κ a b o (u+1) v) (hle:∀ y∈b.toList.take v,κ y≤Kk κ a u) (H:HG st κ a b n Q) (hn:u+v<n):wpS M A E s (hi5 a b (u+1) v o g ac bc) Q st:=by
 have hu:=R.ua;have hv1:=R.hv;have ea:a[u]?=some a[u]:=getElem?_pos ..;have la:=a1f (a:=a) (i:=u) (by omega);rw[a1o (show u<a.size by omega)]at hle;unfold hi5;simp only[Nat.add_sub_cancel];refine wpS_bind (a02 ea ?_);have w2:=R.w.pushA C.sa la hle;rw[<- Array.toList_push]at w2
 by_cases e:u=0
 ·rw[if_pos (by simpa using e)];exact wpS_pure (H.dn _ _ _ (SG.refl _) (by rw[a3C];exact w2.doneA C.sa C.sb (.inl e)))
 ·rw[if_neg (by simpa using e)];have R2:RdH κ a b (o.push a[u]) u v:=⟨w2,by omega,hv1⟩
  split
  ·exact wpS_pure (H.br _ _ _ _ _ _ _ (SG.refl _) R2 (by omega))
  ·exact wpS_pure (H.go _ _ _ _ _ _ _ (SG.refl _) R2 (by omega))
theorem a3k {l:List Keyed}{n:Nat}{y:Keyed}(h:y∈l.take n):∃ q,q<n/\l[q]?=some y:=by
 obtain⟨m,hm⟩:=List.getElem?_of_mem h;have hlt:=(List.getElem?_eq_some_iff.mp hm).1;rw[List.length_take]at hlt;rw[List.getElem?_take]at hm
 split at hm
 ·exact⟨m,by omega,hm⟩
 ·cases hm
theorem b7a {Q:ForInStep H2->SortSt->Prop}{n:Nat}(C:MC M A E s κ k0 a₀ a b) (hk:kindOf st=k0) (R:RdH κ a b o (u+1) (v+1)) (hle:∀ y∈a.toList.take (u+1),κ y≤Kk κ b v) (H:HG st κ a b n Q) (hn:u+v<n):wpS M A E s (hi4 a b (u+1) (v+1) o g ac bc) Q st:=by
 have hu:=R.ua;have hv:=R.vb;have hv1:=R.hv;have eb:b[v]?=some b[v]:=getElem?_pos ..;have lb:=a1f (a:=b) (i:=v) (by omega);have ea:a[u]?=some a[u]:=getElem?_pos ..;have la:=a1f (a:=a) (i:=u) (by omega);rw[a1o (show v<b.size by omega)]at hle;unfold hi4;simp only[Nat.add_sub_cancel];refine wpS_bind (a02 eb ?_);have w2:=R.w.pushB C.sb lb hle;rw[<- Array.toList_push]at w2
 by_cases e:v=1
 ·rw[if_pos (by simpa using e)];subst e;exact wpS_pure (H.dn _ _ _ (SG.refl _) (by rw[a4Q];exact w2.doneB C.sa C.sb C.first))
 ·rw[if_neg (by simpa using e)];refine wpS_bind (a02 ea (wpS_bind ?_));refine a20 C.L hk (C.ha _ (List.mem_of_getElem? la)) C.hb (by omega) (by omega) (a3B C.sb (by omega)) fun p hkn hlt hge=>?_;dsimp only;simp only[Nat.zero_add]at hlt hge;have rest:∀ y∈b.toList.take p,κ y≤Kk κ a u:=fun y hy=>by
   obtain⟨q,h1,h3⟩:=a3k hy
   have:=hlt q h1
   rw[a49 h3]at this;simp[bq]at this;rw[a1o (show u<a.size by omega)];omega
  split
  ·have w3:=MH.runB (v:=p) C.sb (v - p) (by rw[show p+(v - p)=v by omega];exact w2) fun q z h1 h2 h3 y hy=>by
    have:=hge q h1 (by omega)
    rw[a49 h3]at this;simp[bq]at this;exact Int.le_trans (a21 C.sa la y hy) this
   rw[<- a8F]at w3
   by_cases e1:p=1
   ·rw[if_pos (by simpa using e1)];subst e1;exact wpS_pure (H.dn _ _ _ (SG.refl _) (by rw[a4Q];exact w3.doneB C.sa C.sb C.first))
   ·rw[if_neg (by simpa using e1)]
    by_cases e2:p=0
    ·rw[if_pos (by simpa using e2)];exact wpS_pure (H.dn _ _ _ (SG.refl _) (by rw[a3C];exact w3.doneA C.sa C.sb (.inr e2)))
    ·rw[if_neg (by simpa using e2)];exact b69 C ⟨w3,by omega,by omega⟩ rest H (by omega)
  ·have:p=v:=by omega
   subst this;exact b69 C ⟨w2,by omega,by omega⟩ rest H (by omega)
theorem b9c {Q:ForInStep H2->SortSt->Prop}{n:Nat}(C:MC M A E s κ k0 a₀ a b) (hk:kindOf st=k0) (R:RdH κ a b o (u+1) (v+1)) (H:HG st κ a b n Q) (hn:u+v<n):wpS M A E s (hi3 a b (u+1) (v+1) o g ac bc) Q st:=by
 have hu:=R.ua;have hv:=R.vb;have hv1:=R.hv;have eb:b[v]?=some b[v]:=getElem?_pos ..;have lb:=a1f (a:=b) (i:=v) (by omega);unfold hi3;rw[a4N];refine wpS_bind (wpS_modify ?_);have g1:SG st (SortSt.mk' (kindOf st) (arrOf st) (pendingOf st) g (failedOf st)):=⟨rfl,rfl,rfl,rfl⟩;have hk1:kindOf (SortSt.mk' (kindOf st) (arrOf st) (pendingOf st) g (failedOf st))=k0:=hk;generalize SortSt.mk' (kindOf st) (arrOf st) (pendingOf st) g (failedOf st)=st1 at g1 hk1;have H1:HG st1 κ a b n Q:=⟨fun r c st' g=>H.dn r c st' (g1.trans g),fun _ _ _ _ _ _ st' g=>H.br _ _ _ _ _ _ st' (g1.trans g),fun _ _ _ _ _ _ st' g=>H.go _ _ _ _ _ _ st' (g1.trans g)⟩;simp only[Nat.add_sub_cancel];refine wpS_bind (a02 eb (wpS_bind ?_));refine a20 C.L hk1 (C.hb _ (List.mem_of_getElem? lb)) C.ha (by omega) (by omega) (a3B C.sa (by omega)) fun p hkn hlt hge=>?_;dsimp only;simp only[Nat.zero_add]at hlt hge;have rest:∀ y∈a.toList.take p,κ y≤Kk κ b v:=fun y hy=>by
  obtain⟨q,h1,h3⟩:=a3k hy
  have:=hlt q h1
  rw[a49 h3]at this;simp[bq]at this;rw[a1o (show v<b.size by omega)];omega
 split
 ·have w3:=MH.runA (u:=p) C.sa (u+1 - p) (by rw[show p+(u+1 - p)=u+1 by omega];exact R.w) fun q z h1 h2 h3 y hy=>by
   have:=hge q h1 (by omega)
   rw[a49 h3]at this;simp[bq]at this;exact Int.le_trans (a21 C.sb lb y hy) (Int.le_of_lt this)
  rw[<- a8F]at w3
  by_cases e1:p=0
  ·rw[if_pos (by simpa using e1)];exact wpS_pure (H1.dn _ _ _ (SG.refl _) (by rw[a3C];exact w3.doneA C.sa C.sb (.inl e1)))
  ·rw[if_neg (by simpa using e1)];obtain⟨p',rfl⟩:∃ p',p=p'+1:=⟨p - 1,by omega⟩;exact b7a C hk1 ⟨w3,by omega,hv1⟩ rest H1 (by omega)
 ·have:p=u+1:=by omega
  subst this;exact b7a C hk1 R rest H1 (by omega)
theorem b9d {Q:ForInStep H2->SortSt->Prop}{n:Nat}(C:MC M A E s κ k0 a₀ a b) (hk:kindOf st=k0) (R:RdH κ a b o (u+1) (v+1)) (H:HG st κ a b n Q) (hn:u+v<n):wpS M A E s (hi2 a b (u+1) (v+1) o g ac bc) Q st:=by
 unfold hi2
 split<;>exact b9c C hk R H hn
theorem b2H (C:MC M A E s κ k0 a₀ a b):MH κ a.toList b.toList [a[a.size - 1]'(by have:=C.h0;omega)] (a.size - 1) b.size:=by
 have h0:=C.h0;have la:=a1f (a:=a) (i:=a.size - 1) (by omega);have w0:MH κ a.toList b.toList [] (a.size - 1+1) b.size:=⟨by rw[a1j];omega,by rw[a1j];omega,by rw[List.take_of_length_le (by rw[a1j];omega),List.take_of_length_le (by rw[a1j];omega)];simp,.nil,fun x h=>by simp at h,fun x h=>by simp at h⟩;exact w0.pushA C.sa la fun y hy=>C.hl _ (by rw[a1j];exact la) y (List.mem_of_mem_take hy)
theorem b09 {Q:Array Keyed->SortSt->Prop}(C:MC M A E s κ k0 a₀ a b) (hk:kindOf st=k0)
  (h:∀ r st',SG st st'->Mgd κ a.toList b.toList r.toList->Q r st'):wpS M A E s (a6l a b) Q st:=by
 have h0:=C.h0;have h1:=C.h1;rw[a64];refine a5T ?_;refine wpS_bind (a02 (getElem?_pos a (a.size - 1) (by omega)) ?_);have w0:=b2H C
 by_cases e1:a.size - 1=0
 ·rw[if_pos (by simpa using e1)];exact wpS_pure (h _ _ (SG.refl _) (by rw[a3C];exact w0.doneA C.sa C.sb (.inl e1)))
 rw[if_neg (by simpa using e1)]
 by_cases e2:b.size=1
 ·rw[if_pos (by simpa using e2)];refine wpS_pure (h _ _ (SG.refl _) ?_);rw[e2]at w0;rw[a4Q,e2];exact w0.doneB C.sa C.sb C.first
 rw[if_neg (by simpa using e2)];refine wpS_bind (wpS_get ?_);have R0:RdH κ a b #[a[a.size - 1]] (a.size - 1) b.size:=⟨w0,by omega,by omega⟩;refine wpS_bind (wpS_mono (wpS_forRange (I:=fun x c st'=>∃ o u v g,c=(none,u,v,o,g)/\SG st st'/\RdH κ a b o u v/\x+(u+v)<a.size+b.size)
  (Q:=fun c st'=>∃ r c',c=(some r,c')/\SG st st'/\Mgd κ a.toList b.toList r.toList) ?step ?fin ⟨_,_,_,_,rfl,SG.refl _,R0,by omega⟩) ?post)
 case post=>
  rintro c st' ⟨r,c',rfl,g1,m⟩;exact wpS_pure (h r st' g1 m)
 case fin=>
  rintro c st' ⟨o,u,v,g,rfl,g1,R,hx⟩;omega
 case step=>
  rintro x c st' _ hx ⟨o,u,v,g,rfl,g1,R,hxi⟩;dsimp only;have hk1:kindOf st'=k0:=g1.kd.trans hk;refine wpS_bind (wpS_mono (wpS_forRange (I:=fun y c st2=>∃ o' u' v' ac bc,c=(none,u',v',o',ac,bc)/\st2=st'/\RdH κ a b o' u' v'/\u'+v'+y≤u+v)
   (Q:=fun c st2=>st2=st'/\((∃ r c',c=(some r,c')/\Mgd κ a.toList b.toList r.toList)\/∃ o' u' v' ac bc,c=(none,u',v',o',ac,bc)/\RdH κ a b o' u' v'/\u'+v'≤u+v)) ?st1 ?fi1 ⟨_,_,_,_,_,rfl,rfl,R,by omega⟩) ?po1)
  case fi1=>
   rintro c st2 ⟨o',u',v',ac,bc,rfl,rfl,R',hy⟩;exact⟨rfl,.inr ⟨_,_,_,_,_,rfl,R',by omega⟩⟩
  case st1=>
   rintro y c st2 _ hy ⟨o',u',v',ac,bc,rfl,rfl,R',hyi⟩;dsimp only;have hu1:=R'.hu;have hv1:=R'.hv;obtain⟨u',rfl⟩:∃ z,u'=z+1:=⟨u' - 1,by omega⟩;obtain⟨v',rfl⟩:∃ z,v'=z+1:=⟨v' - 1,by omega⟩;refine b9b C hk1 R' (fun r c m=>⟨rfl,.inl ⟨r,c,rfl,m⟩⟩) (fun o2 i2 j2 u v R2 hs=>⟨rfl,.inr ⟨_,_,_,_,_,rfl,R2,by omega⟩⟩) fun o2 i2 j2 u v R2 hs=>⟨_,_,_,_,_,rfl,rfl,R2,by omega⟩
  case po1=>
   rintro c st2 ⟨rfl,⟨r,c',rfl,m⟩ | ⟨o',u',v',ac,bc,rfl,R',hij⟩⟩
   ·exact wpS_pure ⟨r,_,rfl,g1,m⟩
   ·dsimp only;refine a5T ?_;refine wpS_bind (wpS_mono (wpS_forRange (I:=fun y c st3=>∃ o3 i3 j3 g3 ac3 bc3,c=(none,i3,j3,o3,g3,ac3,bc3)/\SG st st3/\RdH κ a b o3 i3 j3/\i3+j3+y≤u'+v')
     (Q:=fun c st3=>SG st st3/\((∃ r c',c=(some r,c')/\Mgd κ a.toList b.toList r.toList)\/∃ o3 i3 j3 g3 ac3 bc3,c=(none,i3,j3,o3,g3,ac3,bc3)/\RdH κ a b o3 i3 j3/\i3+j3<u'+v')) ?st2 ?fi2 ⟨_,_,_,_,_,_,rfl,g1,R',by omega⟩) ?po2)
    case fi2=>
     rintro c st3 ⟨o3,i3,j3,g3,ac3,bc3,rfl,g3',R3,hy⟩;exact⟨g3',.inr ⟨_,_,_,_,_,_,rfl,R3,by have:=R3.hu;omega⟩⟩
    case st2=>
     rintro y c st3 _ hy ⟨o3,i3,j3,g3,ac3,bc3,rfl,g3',R3,hyi⟩;dsimp only;have hu1:=R3.hu;have hv1:=R3.hv;obtain⟨i3,rfl⟩:∃ z,i3=z+1:=⟨i3 - 1,by omega⟩;obtain⟨j3,rfl⟩:∃ z,j3=z+1:=⟨j3 - 1,by omega⟩;refine b9d (n:=i3+1+(j3+1)) C (g3'.kd.trans hk) R3 ⟨fun r c st4 g4 m=>⟨g3'.trans g4,.inl ⟨r,c,rfl,m⟩⟩,fun o4 i4 j4 u v w st4 g4 R4 hs=>⟨g3'.trans g4,.inr ⟨_,_,_,_,_,_,rfl,R4,by omega⟩⟩,fun o4 i4 j4 u v w st4 g4 R4 hs=>⟨_,_,_,_,_,_,rfl,g3'.trans g4,R4,by omega⟩⟩ (by omega)
    case po2=>
     rintro c st3 ⟨g3',⟨r,c',rfl,m⟩ | ⟨o3,i3,j3,g3,ac3,bc3,rfl,R3,hs⟩⟩
     ·exact wpS_pure ⟨r,_,rfl,g3',m⟩
     ·dsimp only;rw[a4N];refine wpS_bind (wpS_modify (wpS_pure ?_));exact⟨_,_,_,_,rfl,⟨g3'.kd,g3'.ar,g3'.pe,g3'.fl⟩,R3,by omega⟩
end
end Tim
namespace Tim
open PySem PyProof.Rows
def SR (κ:KF) (xs:Array Keyed) (lo n:Nat):Prop:=∀ i j,i≤j->j<n->Kk κ xs (lo+i)≤Kk κ xs (lo+j)
def NR (κ:KF) (xs:Array Keyed) (lo n:Nat):Prop:=∀ i j,i≤j->j<n->Kk κ xs (lo+j)≤Kk κ xs (lo+i)
structure Ar (st st':SortSt) (lo:Nat):Prop where
 pm:(arrOf st').Perm (arrOf st)
 pre:∀ i,i<lo->(arrOf st')[i]?=(arrOf st)[i]?
 kd:kindOf st'=kindOf st
 pe:pendingOf st'=pendingOf st
 fl:failedOf st'=failedOf st
section
variable {M:Model}{A:Around}{E:Value->Shared->Prop}{s:Shared}{κ:KF}{k0:SortKind}{a₀:Array Keyed}{st st':SortSt}{lo:Nat}
theorem Ar.refl (st:SortSt) (lo:Nat):Ar st st lo:=⟨Array.Perm.refl _,fun _ _=>rfl,rfl,rfl,rfl⟩
theorem Ar.trans {x y z:SortSt}(p:Ar x y lo) (q:Ar y z lo):Ar x z lo:=⟨q.pm.trans p.pm,fun i h=>(q.pre i h).trans (p.pre i h),q.kd.trans p.kd,q.pe.trans p.pe,q.fl.trans p.fl⟩
theorem Ar.tb (q:Ar st st' lo) (B:TB k0 a₀ st):TB k0 a₀ st':=⟨q.pm.trans B.pm,q.kd.trans B.kd,q.fl.trans B.fl⟩
theorem b3K {xs:Array Keyed}{src d:Nat}(hs:src<xs.size) (hd:d≤src) (k:Nat) :
  Kk κ (bubble xs src d) k=if k=src - d then Kk κ xs src else if src - d<k/\k≤src then Kk κ xs (k - 1) else Kk κ xs k:=by
 have q:=getElem?_bubble hs d hd k
 by_cases h1:k=src - d
 ·rw[if_pos h1]at q ⊢;exact a48 q
 ·rw[if_neg h1]at q ⊢
  by_cases h2:src - d<k/\k≤src
  ·rw[if_pos h2]at q ⊢;exact a48 q
  ·rw[if_neg h2]at q ⊢;exact a48 q
theorem Ar.bub {src d:Nat}(hs:src<(arrOf st).size) (hd:d≤src) (h:lo≤src - d):Ar st (setArr st (bubble (arrOf st) src d)) lo:=
 ⟨bubble_perm _ _ _,fun i hi=>by
  show (bubble (arrOf st) src d)[i]?=_
  rw[getElem?_bubble hs d hd,if_neg (by omega),if_neg (by omega)],rfl,rfl,rfl⟩
theorem b1a {xs:Array Keyed}{i j:Nat}(hj:j≤xs.size) (k:Nat):Kk κ (mirror xs i j ((j - i) / 2)) k=if i≤k/\k<j then Kk κ xs (i+j - 1 - k) else Kk κ xs k:=by
 have q:=getElem?_mirror_all (i:=i) hj k
 by_cases h1:i≤k/\k<j
 ·rw[if_pos h1]at q ⊢;exact a48 q
 ·rw[if_neg h1]at q ⊢;exact a48 q
theorem a5a {xs:Array Keyed}{i j:Nat}(hj:j≤xs.size) (hq:∀ k,i≤k->k<j->Kk κ xs k=Kk κ xs (j - 1)) (k:Nat):Kk κ (mirror xs i j ((j - i) / 2)) k=Kk κ xs k:=by
 rw[b1a hj]
 split
 ·rw[hq (i+j - 1 - k) (by omega) (by omega),hq k (by omega) (by omega)]
 ·rfl
theorem Ar.mir {i j:Nat}(hj:j≤(arrOf st).size) (h:lo≤i):Ar st (setArr st (mirror (arrOf st) i j ((j - i) / 2))) lo:=
 ⟨mirror_perm _ _ _ _,fun k hk=>by
  show (mirror (arrOf st) i j ((j - i) / 2))[k]?=_
  rw[getElem?_mirror_all hj,if_neg (by omega)],rfl,rfl,rfl⟩
theorem b2I {n ok:Nat}{Q:Bool->SortSt->Prop}(L:LtOk M A E s κ k0 a₀) (B:TB k0 a₀ st) (hn:lo+n≤a₀.size) (hok:ok≤n) (hs:SR κ (arrOf st) lo ok)
  (h:∀ st',Ar st st' lo->SR κ (arrOf st') lo n->Q true st'):wpS M A E s (binarySort' lo n ok) Q st:=by
 rw[binarySort'_eq];refine wpS_bind (wpS_mono (wpS_forRange (I:=fun k c z=>c=(none,())/\Ar st z lo/\SR κ (arrOf z) lo (min k n)) (Q:=fun c z=>c=(none,())/\Ar st z lo/\SR κ (arrOf z) lo n) ?step ?fin ?init) ?post)
 case post=>
  rintro c z ⟨rfl,r1,r2⟩;exact wpS_pure (h z r1 r2)
 case init=>
  refine⟨rfl,Ar.refl _ _,fun i j hij hj=>?_⟩
  by_cases h1:ok=0
  ·have:i=j:=by omega
   rw[this];exact Int.le_refl _
  ·exact hs i j hij (by omega)
 case fin=>
  rintro c z ⟨hc,r1,r2⟩;refine⟨hc,r1,?_⟩
  rwa [show min (max (max ok 1) n) n=n by omega]at r2
 case step=>
  rintro k c z hak hkn ⟨rfl,r1,r2⟩;rw[show min k n=k by omega]at r2;have B1:=r1.tb B;refine wpS_bind (wpS_mono (wpS_forRange (I:=fun x c y=>y=z/\∃ p q,c=(none,p,q)/\p≤q/\q≤k/\q - p≤k - x/\(∀ i,i<p->Kk κ (arrOf z) (lo+i)≤Kk κ (arrOf z) (lo+k))/\(∀ i,q≤i->i<k->Kk κ (arrOf z) (lo+k)<Kk κ (arrOf z) (lo+i)))
   (Q:=fun c y=>y=z/\∃ p q,c=(none,p,q)/\p≤k/\(∀ i,i<p->Kk κ (arrOf z) (lo+i)≤Kk κ (arrOf z) (lo+k))/\(∀ i,p≤i->i<k->Kk κ (arrOf z) (lo+k)<Kk κ (arrOf z) (lo+i))) ?istep ?ifin ?iinit) ?ipost)
  case iinit=>exact⟨rfl,0,k,rfl,by omega,by omega,by omega,fun i hi=>by omega,fun i h1 h2=>by omega⟩
  case ifin=>
   rintro c y ⟨rfl,p,q,rfl,u1,u2,u3,u4,u5⟩
   have:p=q:=by omega
   subst this;exact⟨rfl,p,p,rfl,u2,u4,u5⟩
  case istep=>
   rintro x c y _ hxk ⟨rfl,p,q,rfl,u1,u2,u3,u4,u5⟩;dsimp only
   by_cases hge:p≥q
   ·rw[if_pos hge]
    have:p=q:=by omega
    subst this;exact wpS_pure ⟨rfl,p,p,rfl,u2,u4,u5⟩
   ·rw[if_neg hge];refine wpS_bind (a62 L B1 (by omega) (by omega) ?_)
    by_cases hless:Kk κ (arrOf y) (lo+k)<Kk κ (arrOf y) (lo+(p+q) / 2)
    ·simp only[hless,decide_true,if_true];refine wpS_pure ⟨rfl,p,(p+q) / 2,rfl,by omega,by omega,by omega,u4,fun i h1 h2=>?_⟩;exact Int.lt_of_lt_of_le hless (r2 _ _ h1 h2)
    ·simp only[hless,decide_false,Bool.false_eq_true,if_false];refine wpS_pure ⟨rfl,(p+q) / 2+1,q,rfl,by omega,by omega,by omega,fun i h1=>?_,u5⟩;exact Int.le_trans (r2 i ((p+q) / 2) (by omega) (by omega)) (Int.not_lt.mp hless)
  case ipost=>
   rintro c y ⟨rfl,p,q,rfl,u2,u4,u5⟩
   show wpS _ _ _ _ (do moveDown' (lo+k) (lo+p);pure (ForInStep.yield (none,()))) _ _
   rw[moveDown'_eq];have hks:lo+k<(arrOf y).size:=by rw[B1.sz];omega
   refine wpS_bind (wpS_modify (wpS_pure ⟨rfl,r1.trans (Ar.bub hks (by omega) (by omega)),?_⟩));rw[show min (k+1) n=k+1 by omega];intro i j hij hj
   show Kk κ (bubble (arrOf y) (lo+k) (lo+k - (lo+p))) (lo+i)≤Kk κ (bubble (arrOf y) (lo+k) (lo+k - (lo+p))) (lo+j)
   rw[b3K hks (by omega),b3K hks (by omega),show lo+k - (lo+k - (lo+p))=lo+p by omega];have ek:∀ t,1≤t->lo+t - 1=lo+(t - 1):=fun t ht=>by omega
   repeat' split
   all_goals first
    | (exfalso;omega)
    | exact Int.le_refl _
    | exact u4 _ (by omega)
    | (rw[ek _ (by omega)];exact u4 _ (by omega))
    | exact Int.le_of_lt (u5 _ (by omega) (by omega))
    | (rw[ek _ (by omega)];exact Int.le_of_lt (u5 _ (by omega) (by omega)))
    | exact r2 _ _ (by omega) (by omega)
    | (rw[ek j (by omega)];exact r2 _ _ (by omega) (by omega))
    | (rw[ek i (by omega)];exact r2 _ _ (by omega) (by omega))
    | (rw[ek i (by omega),ek j (by omega)];exact r2 _ _ (by omega) (by omega))
end
end Tim
namespace Tim
open PySem PyProof.Rows
abbrev U1:=Option (Option Nat)×Nat
abbrev U2:=Option (Option Nat)×Nat×Nat
def rise (lo p nr:Nat):SM U1:=forIn [p:nr] ((none,p):U1) fun _ c=>do
 let x <- ltAt' (lo+c.2) (lo+c.2 - 1)
 match x with
 | some sm=>if sm=true then pure (.done (none,c.2)) else pure (.yield (none,c.2+1))
 | _=>pure (.done (some none,c.2))
def fin3 (lo n nr:Nat):SM (Option Nat):=do
 reverseSlice' lo (lo+n)
 let c <- rise lo n nr
 match c.1 with
 | some r=>pure r
 | none=>pure (some c.2)
def fall (lo n nr:Nat):SM U2:=forIn [n:nr] ((none,n,0):U2) fun _ c=>do
 let x <- ltAt' (lo+c.2.1) (lo+c.2.1 - 1)
 match x with
 | some sm=>
  if sm=true then
   if c.2.2 > 0 then do
    reverseSlice' (lo+c.2.1 - (c.2.2+1)) (lo+c.2.1)
    pure (.yield (none,c.2.1+1,0))
   else pure (.yield (none,c.2.1+1,0))
  else do
   let x <- ltAt' (lo+c.2.1 - 1) (lo+c.2.1)
   match x with
   | some lg=>if lg=true then pure (.done (none,c.2.1,c.2.2)) else pure (.yield (none,c.2.1+1,c.2.2+1))
   | _=>pure (.done (some none,c.2.1,c.2.2))
 | _=>pure (.done (some none,c.2.1,c.2.2))
def part (lo n nr:Nat):SM (Option Nat):=do
 liftM (rule "list.sort.descending-run")
 let c <- fall lo (n+1) nr
 match c.1 with
 | some r=>pure r
 | none=>
  if c.2.2 > 0 then do
   reverseSlice' (lo+c.2.1 - (c.2.2+1)) (lo+c.2.1)
   fin3 lo c.2.1 nr
  else fin3 lo c.2.1 nr
theorem a6m (lo nr:Nat):countRun' lo nr=(do
  let c <- rise lo 1 nr
  match c.1 with
  | some r=>pure r
  | none=>
   if (c.2==nr)=true then pure (some c.2)
   else if c.2 > 1 then do
    let x <- ltAt' lo (lo+c.2 - 1)
    match x with
    | some up=>if up=true then pure (some c.2) else do
      reverseSlice' lo (lo+c.2)
      part lo c.2 nr
    | _=>pure none
   else part lo c.2 nr):=by
 have tl:∀ n,(do
   reverseSlice' lo (lo+n)
   let c <- rise lo n nr
   match c.1 with
   | some r=>pure r
   | none=>pure (some c.2))=fin3 lo n nr:=fun n=>rfl
 rw[countRun'_eq];refine bd2 rfl fun c=>?_;obtain⟨r,n⟩:=c;have pt:∀ n,part lo n nr=part lo n nr:=fun n=>rfl;cases r with
 | some r=>rfl
 | none=>
  dsimp only
  split
  ·rfl
  ·split
   ·refine bind_congr fun x=>?_;cases x with
    | none=>rfl
    | some up=>
     dsimp only
     split
     ·rfl
     ·refine bind_congr fun _=>bind_congr fun _=>bd2 rfl fun c=>?_;obtain⟨r,n,q⟩:=c;cases r with
      | some r=>rfl
      | none=>
       dsimp only
       split
       ·refine bind_congr fun _=>bind_congr fun _=>bd2 rfl fun c=>?_;obtain⟨r,n⟩:=c;cases r<;>rfl
       ·refine bind_congr fun _=>bd2 rfl fun c=>?_;obtain⟨r,n⟩:=c;cases r<;>rfl
   ·refine bind_congr fun _=>bd2 rfl fun c=>?_;obtain⟨r,n,q⟩:=c;cases r with
    | some r=>rfl
    | none=>
     dsimp only
     split
     ·refine bind_congr fun _=>bind_congr fun _=>bd2 rfl fun c=>?_;obtain⟨r,n⟩:=c;cases r<;>rfl
     ·refine bind_congr fun _=>bd2 rfl fun c=>?_;obtain⟨r,n⟩:=c;cases r<;>rfl
section
variable {M:Model}{A:Around}{E:Value->Shared->Prop}{s:Shared}{κ:KF}{k0:SortKind}{a₀:Array Keyed}{st:SortSt}{lo nr:Nat}
theorem b2J {i j:Nat}{α:Type}{f:Unit->SM α}{Q:α->SortSt->Prop}(h:wpS M A E s (f ()) Q (setArr st (mirror (arrOf st) i j ((j - i) / 2)))):wpS M A E s (reverseSlice' i j >>= f) Q st:=by
 rw[reverseSlice'_eq];exact wpS_bind (wpS_modify h)
theorem SR.one {xs:Array Keyed}:SR κ xs lo 1:=fun i j h1 h2=>by
 have:i=j:=by omega
 rw[this];exact Int.le_refl _
theorem SR.snoc {xs:Array Keyed}{n:Nat}(h:SR κ xs lo n) (h1:1≤n) (c:Kk κ xs (lo+n - 1)≤Kk κ xs (lo+n)):SR κ xs lo (n+1):=fun i j hij hj=>by
 by_cases hjn:j<n
 ·exact h i j hij hjn
 ·have e:j=n:=by omega
  subst e
  by_cases e2:i=j
  ·rw[e2];exact Int.le_refl _
  ·refine Int.le_trans (h i (j - 1) (by omega) (by omega)) ?_;rw[show lo+(j - 1)=lo+j - 1 by omega];exact c
theorem NR.snoc {xs:Array Keyed}{n:Nat}(h:NR κ xs lo n) (h1:1≤n) (c:Kk κ xs (lo+n)≤Kk κ xs (lo+n - 1)):NR κ xs lo (n+1):=fun i j hij hj=>by
 by_cases hjn:j<n
 ·exact h i j hij hjn
 ·have e:j=n:=by omega
  subst e
  by_cases e2:i=j
  ·rw[e2];exact Int.le_refl _
  ·refine Int.le_trans ?_ (h i (j - 1) (by omega) (by omega));rw[show lo+(j - 1)=lo+j - 1 by omega];exact c
theorem NR.congr {xs ys:Array Keyed}{n:Nat}(h:NR κ xs lo n) (e:∀ k,Kk κ ys k=Kk κ xs k):NR κ ys lo n:=fun i j h1 h2=>by rw[e,e];exact h i j h1 h2
theorem b3L {p:Nat}{Q:U1->SortSt->Prop}(L:LtOk M A E s κ k0 a₀) (B:TB k0 a₀ st) (hn:lo+nr≤a₀.size) (hp:1≤p) (hpn:p≤nr) (hs:SR κ (arrOf st) lo p)
  (h:∀ n,p≤n->n≤nr->SR κ (arrOf st) lo n->(n=nr\/Kk κ (arrOf st) (lo+n)<Kk κ (arrOf st) (lo+n - 1))->Q (none,n) st):wpS M A E s (rise lo p nr) Q st:=by
 unfold rise;refine wpS_forRange (I:=fun x c z=>z=st/\c=(none,x)/\SR κ (arrOf st) lo x) ?step ?fin ⟨rfl,rfl,hs⟩
 case fin=>
  rintro c z ⟨rfl,rfl,h2⟩;rw[show max p nr=nr by omega]at h2 ⊢;exact h nr hpn (Nat.le_refl _) h2 (.inl rfl)
 case step=>
  rintro x c z hax hxn ⟨rfl,rfl,h2⟩;dsimp only;refine wpS_bind (a62 L B (by omega) (by omega) ?_)
  by_cases q:Kk κ (arrOf z) (lo+x)<Kk κ (arrOf z) (lo+x - 1)
  ·simp only[q,decide_true,if_true];exact wpS_pure (h x hax (by omega) h2 (.inr q))
  ·simp only[q,decide_false,Bool.false_eq_true,if_false];exact wpS_pure ⟨rfl,rfl,h2.snoc (by omega) (Int.not_lt.mp q)⟩
theorem b3M {n:Nat}{Q:Option Nat->SortSt->Prop}(L:LtOk M A E s κ k0 a₀) (B:TB k0 a₀ st) (hn:lo+nr≤a₀.size) (h1:1≤n) (hnn:n≤nr) (hs:NR κ (arrOf st) lo n)
  (h:∀ m z,Ar st z lo->1≤m->m≤nr->SR κ (arrOf z) lo m->Q (some m) z):wpS M A E s (fin3 lo n nr) Q st:=by
 unfold fin3;have hsz:lo+n≤(arrOf st).size:=by rw[B.sz];omega
 refine b2J ?_;have r1:Ar st (setArr st (mirror (arrOf st) lo (lo+n) ((lo+n - lo) / 2))) lo:=Ar.mir hsz (Nat.le_refl _);refine wpS_bind (b3L L (r1.tb B) hn h1 hnn ?_ fun m m1 m2 m3 _=>wpS_pure (h m _ r1 (by omega) m2 m3));intro i j hij hj
 show Kk κ (mirror (arrOf st) lo (lo+n) ((lo+n - lo) / 2)) (lo+i)≤Kk κ (mirror (arrOf st) lo (lo+n) ((lo+n - lo) / 2)) (lo+j)
 rw[b1a hsz,b1a hsz,if_pos (by omega),if_pos (by omega),show lo+(lo+n) - 1 - (lo+i)=lo+(n - 1 - i) by omega,show lo+(lo+n) - 1 - (lo+j)=lo+(n - 1 - j) by omega];exact hs _ _ (by omega) (by omega)
theorem b7b {n:Nat}{Q:U2->SortSt->Prop}(L:LtOk M A E s κ k0 a₀) (B:TB k0 a₀ st) (hn:lo+nr≤a₀.size) (h1:1≤n) (hnn:n≤nr) (hs:NR κ (arrOf st) lo n)
  (h:∀ m e z,Ar st z lo->n≤m->m≤nr->NR κ (arrOf z) lo m->e+1≤m->(∀ i,lo+m - (e+1)≤i->i<lo+m->Kk κ (arrOf z) i=Kk κ (arrOf z) (lo+m - 1))->Q (none,m,e) z):wpS M A E s (fall lo n nr) Q st:=by
 unfold fall;refine wpS_forRange (I:=fun x c z=>∃ e,c=(none,x,e)/\Ar st z lo/\NR κ (arrOf z) lo x/\e+1≤x/\(∀ i,lo+x - (e+1)≤i->i<lo+x->Kk κ (arrOf z) i=Kk κ (arrOf z) (lo+x - 1))) ?step ?fin ⟨0,rfl,Ar.refl _ _,hs,by omega,fun i h1 h2=>by congr 1;omega⟩
 case fin=>
  rintro c z ⟨e,rfl,r1,h2,h3,h4⟩;rw[show max n nr=nr by omega]at h2 h3 h4 ⊢;exact h nr e z r1 hnn (Nat.le_refl _) h2 h3 h4
 case step=>
  rintro x c z hax hxn ⟨e,rfl,r1,h2,h3,h4⟩;dsimp only;have B1:=r1.tb B;have hsz:lo+x≤(arrOf z).size:=by rw[B1.sz];omega
  refine wpS_bind (a62 L B1 (by omega) (by omega) ?_)
  by_cases q:Kk κ (arrOf z) (lo+x)<Kk κ (arrOf z) (lo+x - 1)
  ·simp only[q,decide_true,if_true];have h5:=h2.snoc (by omega) (Int.le_of_lt q)
   by_cases he:e > 0
   ·rw[if_pos he];exact b2J (wpS_pure ⟨0,rfl,r1.trans (Ar.mir hsz (by omega)),h5.congr (a5a hsz h4),by omega,fun i h1 h2=>by congr 1;omega⟩)
   ·rw[if_neg he];exact wpS_pure ⟨0,rfl,r1,h5,by omega,fun i h1 h2=>by congr 1;omega⟩
  ·simp only[q,decide_false,Bool.false_eq_true,if_false];refine wpS_bind (a62 L B1 (by omega) (by omega) ?_)
   by_cases q2:Kk κ (arrOf z) (lo+x - 1)<Kk κ (arrOf z) (lo+x)
   ·simp only[q2,decide_true,if_true];exact wpS_pure (h x e z r1 hax (by omega) h2 h3 h4)
   ·simp only[q2,decide_false,Bool.false_eq_true,if_false];have he:Kk κ (arrOf z) (lo+x)=Kk κ (arrOf z) (lo+x - 1):=by omega
    refine wpS_pure ⟨e+1,rfl,r1,h2.snoc (by omega) (by omega),by omega,fun i h1 h2=>?_⟩;rw[show lo+(x+1) - 1=lo+x by omega]
    by_cases hix:i=lo+x
    ·rw[hix]
    ·rw[he];exact h4 i (by omega) (by omega)
theorem b3N {n:Nat}{Q:Option Nat->SortSt->Prop}(L:LtOk M A E s κ k0 a₀) (B:TB k0 a₀ st) (hn:lo+nr≤a₀.size) (hnn:n+1≤nr) (hs:NR κ (arrOf st) lo (n+1))
  (h:∀ m z,Ar st z lo->1≤m->m≤nr->SR κ (arrOf z) lo m->Q (some m) z):wpS M A E s (part lo n nr) Q st:=by
 unfold part;refine a5T ?_;refine wpS_bind (b7b L B hn (by omega) hnn hs fun m e z r1 m1 m2 m3 m4 m5=>?_);dsimp only;have B1:=r1.tb B;have hsz:lo+m≤(arrOf z).size:=by rw[B1.sz];omega
 by_cases he:e > 0
 ·rw[if_pos he];have r2:Ar st (setArr z (mirror (arrOf z) (lo+m - (e+1)) (lo+m) ((lo+m - (lo+m - (e+1))) / 2))) lo:=r1.trans (Ar.mir hsz (by omega));exact b2J (b3M L (r2.tb B) hn (by omega) m2 (m3.congr (a5a hsz m5)) fun k w r3=>h k w (r2.trans r3))
 ·rw[if_neg he];exact b3M L B1 hn (by omega) m2 m3 fun k w r3=>h k w (r1.trans r3)
theorem b4I {Q:Option Nat->SortSt->Prop}(L:LtOk M A E s κ k0 a₀) (B:TB k0 a₀ st) (hn:lo+nr≤a₀.size) (h1:1≤nr)
  (h:∀ m z,Ar st z lo->1≤m->m≤nr->SR κ (arrOf z) lo m->Q (some m) z):wpS M A E s (countRun' lo nr) Q st:=by
 rw[a6m];refine wpS_bind (b3L L B hn (Nat.le_refl 1) h1 SR.one fun n n1 n2 n3 n4=>?_);dsimp only
 by_cases hnn:n=nr
 ·rw[if_pos (by simpa using hnn)];exact wpS_pure (h n st (Ar.refl _ _) n1 n2 n3)
 ·rw[if_neg (by simpa using hnn)];have hlt:=n4.resolve_left hnn;have hsz:lo+n≤(arrOf st).size:=by rw[B.sz];omega
  by_cases hgt:n > 1
  ·rw[if_pos hgt];refine wpS_bind (a62 L B (by omega) (by omega) ?_)
   by_cases q:Kk κ (arrOf st) lo<Kk κ (arrOf st) (lo+n - 1)
   ·simp only[q,decide_true,if_true];exact wpS_pure (h n st (Ar.refl _ _) n1 n2 n3)
   ·simp only[q,decide_false,Bool.false_eq_true,if_false];have hall:∀ k,lo≤k->k<lo+n->Kk κ (arrOf st) k=Kk κ (arrOf st) (lo+n - 1):=fun k k1 k2=>by
     have a1:=n3 0 (k - lo) (by omega) (by omega);have a2:=n3 (k - lo) (n - 1) (by omega) (by omega);rw[show lo+(k - lo)=k by omega]at a1 a2;rw[show lo+(n - 1)=lo+n - 1 by omega]at a2;rw[Nat.add_zero]at a1;omega
    have r2:Ar st (setArr st (mirror (arrOf st) lo (lo+n) ((lo+n - lo) / 2))) lo:=Ar.mir hsz (Nat.le_refl _);have hN:NR κ (arrOf st) lo (n+1):=by
     refine NR.snoc (fun i j hij hj=>?_) (by omega) (Int.le_of_lt hlt);rw[hall (lo+i) (by omega) (by omega),hall (lo+j) (by omega) (by omega)];exact Int.le_refl _
    exact b2J (b3N L (r2.tb B) hn (by omega) (hN.congr (a5a hsz hall)) fun k w r3=>h k w (r2.trans r3))
  ·rw[if_neg hgt]
   have:n=1:=by omega
   subst this;refine b3N L B hn (by omega) ?_ h;refine NR.snoc (fun i j hij hj=>?_) (by omega) (Int.le_of_lt hlt)
   have:i=j:=by omega
   rw[this];exact Int.le_refl _
end
end Tim
namespace Tim
open PySem PyProof.Rows
theorem a72 (i:Nat):mergeAt' i=(do
 let z <- get
 let (some (p,n,w),some (q,m,_)):=((pendingOf z)[i]?,(pendingOf z)[i+1]?) | unsupported "internal:list.sort.pending"
 set (setPending z (((pendingOf z).setIfInBounds i (p,n+m,w)).eraseIdxIfInBounds (i+1)))
 let some k <- a15 false (<- elem' (arrOf z) q) (arrOf z) p n 0 | return false
 let (p,n):=(p+k,n - k)
 if n==0 then return true
 let some m <- a15 true (<- elem' (arrOf z) (p+n - 1)) (arrOf z) q m (m - 1) | return false
 if m==0 then return true
 let x:=(arrOf z).extract p q
 let y:=(arrOf z).extract q (q+m)
 let mg <- if n≤m then a4O x y else a6l x y
 modify fun z=>setArr z (mg.toList.zipIdx.foldl (fun a (v,j)=>a.setIfInBounds (p+j) v) (arrOf z))
 return (failedOf (<- get)).isNone):=rfl
theorem a8G (bs:Nat):∀ (l:List Keyed) (k:Nat) (xs:Array Keyed),bs+k+l.length≤xs.size ->
  ((l.zipIdx k).foldl (fun a (pj:Keyed×Nat)=>a.setIfInBounds (bs+pj.2) pj.1) xs).toList=xs.toList.take (bs+k)++(l++xs.toList.drop (bs+k+l.length))
 | [],k,xs,_=>by simp
 | x::l,k,xs,h=>by
  rw[List.length_cons]at h;rw[List.zipIdx_cons,List.foldl_cons,a8G bs l (k+1) _ (by rw[Array.size_setIfInBounds];omega)];have e:(xs.setIfInBounds (bs+k) x).toList=xs.toList.set (bs+k) x:=by simp
  show (xs.setIfInBounds (bs+k) x).toList.take _++(l++(xs.setIfInBounds (bs+k) x).toList.drop _)=_
  rw[e,show bs+(k+1)=bs+k+1 by omega,List.drop_set_of_lt (by omega),List.length_cons,show bs+k+1+l.length=bs+k+(l.length+1) by omega]
  have:(xs.toList.set (bs+k) x).take (bs+k+1)=xs.toList.take (bs+k)++[x]:=by
   rw[List.take_add_one,List.take_set_of_le (Nat.le_refl _),List.getElem?_set_self (by rw[a1j];omega)]
   rfl
  rw[this];simp
section
variable {M:Model}{A:Around}{E:Value->Shared->Prop}{s:Shared}{κ:KF}{k0:SortKind}{a₀:Array Keyed}{st:SortSt}
theorem b9e {z:SortSt}{Q:PUnit->SortSt->Prop}(h:Q ⟨⟩ z):wpS M A E s (set z:SM PUnit) Q st:=by
 unfold wpS;rw[StateT.run_set];exact wpAny_pure ⟨rfl,h⟩
theorem b3O {xs:Array Keyed}{P X R:List Keyed}(e:xs.toList=P++(X++R)) {i:Nat}(hi:i<X.length):Kk κ xs (P.length+i)=κ X[i]:=by
 refine a49 ?_;rw[e,List.getElem?_append_right (by omega),List.getElem?_append_left (by omega),show P.length+i - P.length=i by omega];exact List.getElem?_eq_getElem hi
theorem a3D {X:List Keyed}(h:Srt κ X) {i j:Nat}(hij:i≤j) (hj:j<X.length):κ (X[i]'(by omega))≤κ X[j]:=by
 by_cases e:i=j
 ·subst e;exact Int.le_refl _
 ·exact List.pairwise_iff_getElem.mp h i j (by omega) hj (by omega)
theorem a8H {X:List Keyed}{x:Keyed}(h:x∈X):∃ i,∃ (hi:i<X.length),X[i]=x:=List.mem_iff_getElem.mp h
theorem a65 {X:List Keyed}{x:Keyed}{k:Nat}(h:x∈X.take k):∃ i,∃ (hi:i<X.length),i<k/\X[i]=x:=by
 obtain⟨q,h1,h2⟩:=a3k h;obtain⟨h3,h4⟩:=List.getElem?_eq_some_iff.mp h2;exact⟨q,h3,h1,h4⟩
theorem a8I {X:List Keyed}{x:Keyed}{k:Nat}(h:x∈X.drop k):∃ i,∃ (hi:i<X.length),k≤i/\X[i]=x:=by
 obtain⟨q,h1,h2,h3⟩:=a3j h;obtain⟨h4,h5⟩:=List.getElem?_eq_some_iff.mp h3;exact⟨q,h4,h1,h5⟩
theorem b1b {i sa na pw sb nb pw2:Nat}{P X Y S:List Keyed}{Q:Bool->SortSt->Prop}(L:LtOk M A E s κ k0 a₀) (B:TB k0 a₀ st) (e1:(pendingOf st)[i]?=some (sa,na,pw)) (e2:(pendingOf st)[i+1]?=some (sb,nb,pw2))
  (ea:(arrOf st).toList=P++(X++(Y++S))) (hP:P.length=sa) (hX:X.length=na) (hsb:sb=sa+na) (hY:Y.length=nb) (sX:Srt κ X) (sY:Srt κ Y) (h1:0<na) (h2:0<nb)
  (h:∀ st' Z,TB k0 a₀ st'->(arrOf st').toList=P++(Z++S)->Z.length=na+nb->Srt κ Z->pendingOf st'=((pendingOf st).setIfInBounds i (sa,na+nb,pw)).eraseIdxIfInBounds (i+1)->Q true st'):wpS M A E s (mergeAt' i) Q st:=by
 have hsz:(arrOf st).size=sa+na+nb+S.length:=by
  rw[<- a1j,ea];simp;omega
 have hmem:∀ p∈(arrOf st).toList,p∈a₀.toList:=fun p hp=>(Array.perm_iff_toList_perm.mp B.pm).mem_iff.mp hp;have eb:(arrOf st).toList=(P++X)++(Y++S):=by rw[ea,List.append_assoc]
 have kX:∀ i,(hi:i<X.length)->Kk κ (arrOf st) (sa+i)=κ X[i]:=fun i hi=>by rw[<- hP];exact b3O ea hi
 have kY:∀ i,(hi:i<Y.length)->Kk κ (arrOf st) (sb+i)=κ Y[i]:=fun i hi=>by
  rw[hsb,<- hP,<- hX,<- List.length_append];exact b3O eb hi
 rw[a72];refine wpS_bind (wpS_get ?_);rw[e1,e2];dsimp only;refine wpS_bind (b9e ?_);have B1:TB k0 a₀ (setPending st (((pendingOf st).setIfInBounds i (sa,na+nb,pw)).eraseIdxIfInBounds (i+1))):=⟨B.pm,B.kd,B.fl⟩;have hs1:arrOf (setPending st (((pendingOf st).setIfInBounds i (sa,na+nb,pw)).eraseIdxIfInBounds (i+1)))=arrOf st:=rfl;have hp1:pendingOf (setPending st (((pendingOf st).setIfInBounds i (sa,na+nb,pw)).eraseIdxIfInBounds (i+1)))=((pendingOf st).setIfInBounds i (sa,na+nb,pw)).eraseIdxIfInBounds (i+1):=rfl;generalize setPending st (((pendingOf st).setIfInBounds i (sa,na+nb,pw)).eraseIdxIfInBounds (i+1))=st1 at B1 hs1 hp1;have hy0:sb<(arrOf st).size:=by omega
 have ey:(arrOf st)[sb]?=some (arrOf st)[sb]:=getElem?_pos ..;have hky:κ (arrOf st)[sb]=κ Y[0]:=by
  have:=kY 0 (by omega)
  rw[Nat.add_zero,a7Y ey]at this;exact this
 have hmy:(arrOf st)[sb]∈a₀.toList:=hmem _ (by simp);refine wpS_bind (a02 ey (wpS_bind ?_));refine a20 L B1.kd hmy hmem (by omega) (by omega) (fun p q hp hq=>by rw[kX p (by omega),kX q (by omega)];exact a3D sX hp (by omega)) fun k hkn hlt hge=>?_;dsimp only;have lo:∀ q,(hq:q<X.length)->q<k->κ X[q]≤κ Y[0]:=fun q hq hqk=>by
  have:=hlt q hqk
  rw[kX q hq,hky]at this;simpa[bq]using this
 have up:∀ q,(hq:q<X.length)->k≤q->κ Y[0]<κ X[q]:=fun q hq hqk=>by
  have:=hge q hqk (by omega)
  rw[kX q hq,hky]at this;simpa[bq]using this
 have whole:(∀ x∈X,∀ y∈Y,κ x≤κ y)->Q true st1:=fun hxy=>by
  refine h st1 (X++Y) B1 (by rw[hs1,ea,List.append_assoc]) (by rw[List.length_append,hX,hY]) ?_ hp1;exact List.pairwise_append.mpr ⟨sX,sY,hxy⟩
 by_cases c1:na - k=0
 ·rw[if_pos (by simpa using c1)];refine wpS_pure (whole fun x hx y hy=>?_);obtain⟨q,hq,rfl⟩:=a8H hx;obtain⟨r,hr,rfl⟩:=a8H hy;exact Int.le_trans (lo q hq (by omega)) (a3D sY (Nat.zero_le _) hr)
 rw[if_neg (by simpa using c1)];have hl:sa+k+(na - k) - 1<(arrOf st).size:=by omega
 have ex:(arrOf st)[sa+k+(na - k) - 1]?=some (arrOf st)[sa+k+(na - k) - 1]:=getElem?_pos ..;have hkx:κ (arrOf st)[sa+k+(na - k) - 1]=κ X[na - 1]:=by
  have:=kX (na - 1) (by omega)
  rw[show sa+(na - 1)=sa+k+(na - k) - 1 by omega,a7Y ex]at this;exact this
 have hmx:(arrOf st)[sa+k+(na - k) - 1]∈a₀.toList:=hmem _ (by simp);refine wpS_bind (a02 ex (wpS_bind ?_));refine a20 L B1.kd hmx hmem (by omega) (by omega) (fun p q hp hq=>by rw[kY p (by omega),kY q (by omega)];exact a3D sY hp (by omega)) fun m hmn hlt2 hge2=>?_;dsimp only;have lo2:∀ q,(hq:q<Y.length)->q<m->κ Y[q]<κ X[na - 1]:=fun q hq hqk=>by
  have:=hlt2 q hqk
  rw[kY q hq,hkx]at this;simpa[bq]using this
 have up2:∀ q,(hq:q<Y.length)->m≤q->κ X[na - 1]≤κ Y[q]:=fun q hq hqk=>by
  have:=hge2 q hqk (by omega)
  rw[kY q hq,hkx]at this;simpa[bq]using this
 by_cases c2:m=0
 ·rw[if_pos (by simpa using c2)];refine wpS_pure (whole fun x hx y hy=>?_);obtain⟨q,hq,rfl⟩:=a8H hx;obtain⟨r,hr,rfl⟩:=a8H hy;exact Int.le_trans (a3D sX (by omega) (by omega)) (up2 r hr (by omega))
 rw[if_neg (by simpa using c2)];have lx:((arrOf st).extract (sa+k) sb).toList=X.drop k:=by
  rw[Array.toList_extract,List.extract_eq_take_drop,ea,List.drop_append,<- hP,List.drop_eq_nil_of_le (by omega),List.nil_append,show P.length+k - P.length=k by omega,List.drop_append_of_le_length (by omega),List.take_append_of_le_length (by rw[List.length_drop];omega),List.take_of_length_le (by rw[List.length_drop];omega)]
 have ly:((arrOf st).extract sb (sb+m)).toList=Y.take m:=by
  rw[Array.toList_extract,List.extract_eq_take_drop,eb,List.drop_append,List.drop_eq_nil_of_le (by rw[List.length_append];omega),List.nil_append,show sb - (P++X).length=0 by rw[List.length_append];omega,List.drop_zero,List.take_append_of_le_length (by omega),show sb+m - sb=m by omega]
 have C:MC M A E s κ k0 a₀ ((arrOf st).extract (sa+k) sb) ((arrOf st).extract sb (sb+m)):=by
  refine⟨L,fun p hp=>?_,fun p hp=>?_,?_,?_,?_,?_,fun y hy=>?_,fun z hz y hy=>?_⟩
  ·rw[lx]at hp;exact hmem p (by rw[ea];simp[List.mem_of_mem_drop hp])
  ·rw[ly]at hp;exact hmem p (by rw[ea];simp[List.mem_of_mem_take hp])
  ·rw[lx];exact a1F sX k
  ·rw[ly];exact a2t sY m
  ·rw[<- a1j,lx,List.length_drop];omega
  ·rw[<- a1j,ly,List.length_take];omega
  ·rw[lx]at hy;obtain⟨q,hq,hk,rfl⟩:=a8I hy;rw[a49 (z:=Y[0]) (by rw[ly,List.getElem?_take,if_pos (by omega)];exact List.getElem?_eq_getElem _)];exact Int.le_of_lt (up q hq hk)
  ·rw[ly]at hy;rw[lx,List.length_drop,List.getElem?_drop,show k+(X.length - k - 1)=na - 1 by omega,List.getElem?_eq_getElem (show na - 1<X.length by omega)]at hz;cases hz;obtain⟨q,hq,hk,rfl⟩:=a65 hy;exact Int.le_of_lt (lo2 q hq hk)
 have fin:∀ (r:Array Keyed) (st2:SortSt),SG st1 st2->Mgd κ ((arrOf st).extract (sa+k) sb).toList ((arrOf st).extract sb (sb+m)).toList r.toList ->
   wpS M A E s (do
    modify fun z=>setArr z (r.toList.zipIdx.foldl (fun a (pj:Keyed×Nat)=>a.setIfInBounds (sa+k+pj.2) pj.1) (arrOf z))
    return (failedOf (<- get)).isNone) Q st2:=by
  intro r st2 g2 mg;rw[lx,ly]at mg;have hrl:r.toList.length=na - k+m:=by rw[mg.1.length_eq,List.length_append,List.length_drop,List.length_take];omega
  refine wpS_bind (wpS_modify (wpS_bind (wpS_get (wpS_pure ?_))));have ha2:arrOf st2=arrOf st:=g2.ar.trans hs1;have ef:=a8G (sa+k) r.toList 0 (arrOf st2) (by rw[ha2];omega);have el:(r.toList.zipIdx.foldl (fun a (pj:Keyed×Nat)=>a.setIfInBounds (sa+k+pj.2) pj.1) (arrOf st2)).toList=P++((X.take k++r.toList++Y.drop m)++S):=by
   rw[ef,ha2,Nat.add_zero,hrl];have t1:(arrOf st).toList.take (sa+k)=P++X.take k:=by
    rw[ea,List.take_append,List.take_of_length_le (by omega),<- hP,show P.length+k - P.length=k by omega,List.take_append_of_le_length (by omega)]
   have t2:(arrOf st).toList.drop (sa+k+(na - k+m))=Y.drop m++S:=by
    rw[eb,List.drop_append,List.drop_eq_nil_of_le (by rw[List.length_append];omega),List.nil_append,show sa+k+(na - k+m) - (P++X).length=m by rw[List.length_append];omega,List.drop_append_of_le_length (by omega)]
   rw[t1,t2];simp
  generalize hgz:r.toList.zipIdx.foldl (fun a (pj:Keyed×Nat)=>a.setIfInBounds (sa+k+pj.2) pj.1) (arrOf st2)=ar at el;have hperm:(X.take k++r.toList++Y.drop m).Perm (X++Y):=by
   have:(X.take k++r.toList++Y.drop m).Perm (X.take k++(X.drop k++Y.take m)++Y.drop m):=(List.Perm.append_left _ mg.1).append_right _
   refine this.trans ?_;have e:X.take k++(X.drop k++Y.take m)++Y.drop m=X++Y:=by
    rw[<- List.append_assoc,List.take_append_drop,List.append_assoc,List.take_append_drop]
   rw[e]
  have pm:ar.Perm (arrOf st):=by
   rw[Array.perm_iff_toList_perm,el,ea];refine List.Perm.append_left _ ?_;rw[<- List.append_assoc (as:=X)];exact hperm.append_right _
  have hfl:failedOf (setArr st2 ar)=none:=g2.fl.trans B1.fl;have B2:TB k0 a₀ (setArr st2 ar):=⟨pm.trans B.pm,g2.kd.trans B1.kd,hfl⟩;rw[hfl];refine h _ _ B2 el (by rw[hperm.length_eq,List.length_append,hX,hY]) ?_ (g2.pe.trans hp1);have hr:∀ w∈r.toList,w∈X.drop k\/w∈Y.take m:=fun w hw=>List.mem_append.mp (mg.1.mem_iff.mp hw);refine List.pairwise_append.mpr ⟨List.pairwise_append.mpr ⟨a2t sX k,mg.2,fun x hx w hw=>?_⟩,a1F sY m,fun x hx y hy=>?_⟩
  ·obtain⟨q,hq,hk,rfl⟩:=a65 hx;rcases hr w hw with hw | hw
   ·obtain⟨p,hp,hk2,rfl⟩:=a8I hw;exact a3D sX (by omega) hp
   ·obtain⟨p,hp,hk2,rfl⟩:=a65 hw;exact Int.le_trans (lo q hq hk) (a3D sY (Nat.zero_le _) hp)
  ·obtain⟨p,hp,hk2,rfl⟩:=a8I hy;rcases List.mem_append.mp hx with hx | hx
   ·obtain⟨q,hq,hk,rfl⟩:=a65 hx;exact Int.le_trans (lo q hq hk) (a3D sY (Nat.zero_le _) hp)
   ·rcases hr x hx with hx | hx
    ·obtain⟨q,hq,hk,rfl⟩:=a8I hx;exact Int.le_trans (a3D sX (by omega) (by omega)) (up2 p hp hk2)
    ·obtain⟨q,hq,hk,rfl⟩:=a65 hx;exact a3D sY (by omega) hp
 split
 ·exact wpS_bind (b08 C B1.kd fun r st2 g2 mg=>fin r st2 g2 mg)
 ·exact wpS_bind (b09 C B1.kd fun r st2 g2 mg=>fin r st2 g2 mg)
end
end Tim
namespace Tim
open PySem PyProof.Rows
def pr (p:Nat×Nat×Nat):Nat×Nat:=(p.1,p.2.1)
def offs:Nat->List (List Keyed)->List (Nat×Nat)
 | _,[]=>[]
 | o,R::Rs=>(o,R.length)::offs (o+R.length) Rs
theorem a2u:∀ (o:Nat) (U V:List (List Keyed)),offs o (U++V)=offs o U++offs (o+U.flatten.length) V
 | o,[],V=>by simp[offs]
 | o,R::U,V=>by
  rw[List.cons_append,offs,offs,a2u,List.cons_append,List.flatten_cons,List.length_append,Nat.add_assoc]
theorem a1p:∀ (o:Nat) (U:List (List Keyed)),(offs o U).length=U.length
 | _,[]=>rfl
 | o,R::U=>by rw[offs,List.length_cons,List.length_cons,a1p]
theorem a66 {α:Type}{q p1 p2:α}{pv:List α}:∀ pu:List α,((pu++p1::p2::pv).set pu.length q).eraseIdx (pu.length+1)=pu++q::pv
 | []=>rfl
 | x::pu=>by rw[List.cons_append,List.length_cons,List.set_cons_succ,List.eraseIdx_cons_succ,a66 pu,List.cons_append]
theorem a67 {α β:Type}{f:α->β}:∀ (l:List α) (k:Nat),(l.map f).eraseIdx k=(l.eraseIdx k).map f
 | [],_=>by simp
 | x::l,0=>by simp
 | x::l,k+1=>by rw[List.map_cons,List.eraseIdx_cons_succ,List.eraseIdx_cons_succ,List.map_cons,a67 l k]
theorem a8J:∀ {Rs:List (List Keyed)},(∀ R∈Rs,R≠[])->Rs.length≤Rs.flatten.length
 | [],_=>by simp
 | R::Rs,h=>by
  have:=a8J fun R hR=>h R (.tail _ hR)
  have h1:=List.length_pos_iff.mpr (h R (.head _));rw[List.flatten_cons,List.length_append,List.length_cons];omega
def Runs (κ:KF) (st:SortSt) (lo:Nat) (rest:List Keyed):Prop:=∃ Rs:List (List Keyed),(arrOf st).toList=Rs.flatten++rest/\(∀ R∈Rs,Srt κ R/\R≠[])/\Rs.flatten.length=lo/\(pendingOf st).toList.map pr=offs 0 Rs
section
variable {M:Model}{A:Around}{E:Value->Shared->Prop}{s:Shared}{κ:KF}{k0:SortKind}{a₀:Array Keyed}{st:SortSt}
theorem a3l {i lo:Nat}{rest:List Keyed}{Q:Bool->SortSt->Prop}(L:LtOk M A E s κ k0 a₀) (B:TB k0 a₀ st) (R:Runs κ st lo rest) (hi:i+1<(pendingOf st).size)
  (h:∀ st',TB k0 a₀ st'->Runs κ st' lo rest->(pendingOf st').size+1=(pendingOf st).size->Q true st'):wpS M A E s (mergeAt' i) Q st:=by
 obtain⟨Rs,e1,e2,e3,e4⟩:=R;have hlen:(pendingOf st).size=Rs.length:=by
  have:=congrArg List.length e4
  rw[List.length_map,a1p]at this;simpa using this
 obtain⟨U,X,Y,V,rfl,hU⟩:∃ U X Y V,Rs=U++X::Y::V/\U.length=i:=by
  refine⟨Rs.take i,Rs[i]'(by omega),Rs[i+1]'(by omega),Rs.drop (i+2),?_,by rw[List.length_take];omega⟩;rw[<- List.drop_eq_getElem_cons,<- List.drop_eq_getElem_cons,List.take_append_drop]
 have sX:=e2 X (by simp);have sY:=e2 Y (by simp);rw[a2u]at e4;simp only[offs,Nat.zero_add]at e4;have get:∀ (j:Nat) (x:Nat×Nat),(offs 0 U++(U.flatten.length,X.length)::(U.flatten.length+X.length,Y.length)::offs (U.flatten.length+X.length+Y.length) V)[j]?=some x->∃ w,(pendingOf st)[j]?=some (x.1,x.2,w):=fun j x hx=>by
  rw[<- e4,List.getElem?_map]at hx;rw[<- Array.getElem?_toList];cases e:(pendingOf st).toList[j]? with
  | none=>rw[e]at hx;cases hx
  | some p=>
   rw[e]at hx;cases hx;exact⟨p.2.2,rfl⟩
 have hol:(offs 0 U).length=i:=by rw[a1p,hU]
 obtain⟨w1,g1⟩:=get i (U.flatten.length,X.length) (by rw[List.getElem?_append_right (by omega),hol,Nat.sub_self];rfl);obtain⟨w2,g2⟩:=get (i+1) (U.flatten.length+X.length,Y.length) (by rw[List.getElem?_append_right (by omega),hol,show i+1 - i=1 by omega];rfl);have ea:(arrOf st).toList=U.flatten++(X++(Y++(V.flatten++rest))):=by rw[e1];simp
 refine b1b L B g1 g2 ea rfl rfl rfl rfl sX.1 sY.1 (List.length_pos_iff.mpr sX.2) (List.length_pos_iff.mpr sY.2) fun st' Z B' z1 z2 z3 z4=>?_;have hpe:(pendingOf st').toList.map pr=offs 0 (U++Z::V):=by
  rw[z4,Array.toList_eraseIdxIfInBounds,Array.toList_setIfInBounds,<- a67,List.map_set,e4,<- hol,a66,a2u];simp only[offs,Nat.zero_add,pr];rw[z2,Nat.add_assoc]
 refine h st' B' ⟨U++Z::V,by rw[z1];simp,fun R hR=>?_,?_,hpe⟩ ?_
 ·rcases List.mem_append.mp hR with hR | hR
  ·exact e2 R (by simp[hR])
  ·rcases List.mem_cons.mp hR with rfl | hR
   ·exact⟨z3,fun z=>by rw[z]at z2;have:=List.length_pos_iff.mpr sX.2;simp at z2;omega⟩
   ·exact e2 R (by simp[hR])
 ·rw[<- e3];simp;omega
 ·have:=congrArg List.length hpe
  rw[List.length_map,a1p]at this;rw[hlen];simp at this ⊢;omega
theorem Runs.ar {st':SortSt}{lo n:Nat}{rest:List Keyed}(R:Runs κ st lo rest) (q:Ar st st' lo) (hs:SR κ (arrOf st') lo n) (hn:lo+n≤(arrOf st').size) (h1:1≤n):∃ X rest',Srt κ X/\X.length=n/\Runs κ st' lo (X++rest'):=by
 obtain⟨Rs,e1,e2,e3,e4⟩:=R;have hsz:(arrOf st').size=(arrOf st).size:=q.pm.size_eq;have htake:(arrOf st').toList.take lo=Rs.flatten:=by
  refine List.ext_getElem? fun i=>?_
  by_cases hi:i<lo
  ·rw[List.getElem?_take,if_pos hi,Array.getElem?_toList,q.pre i hi,<- Array.getElem?_toList,e1,List.getElem?_append_left (by omega)]
  ·rw[List.getElem?_eq_none (by rw[List.length_take];omega),List.getElem?_eq_none (by omega)]
 refine⟨((arrOf st').toList.drop lo).take n,((arrOf st').toList.drop lo).drop n,?_,by rw[List.length_take,List.length_drop,a1j];omega,Rs,?_,e2,e3,by rw[q.pe];exact e4⟩
 ·refine List.pairwise_iff_getElem.mpr fun i j hi hj hij=>?_;rw[List.length_take,List.length_drop,a1j]at hi hj
  have:=hs i j (by omega) (by omega)
  rw[a1o (show lo+i<(arrOf st').size by omega),a1o (show lo+j<(arrOf st').size by omega)]at this;simpa using this
 ·rw[List.take_append_drop,<- htake,List.take_append_drop]
theorem Runs.push {st':SortSt}{lo n:Nat}{X rest:List Keyed}(R:Runs κ st lo (X++rest)) (sX:Srt κ X) (hX:X.length=n) (h1:1≤n) (ha:arrOf st'=arrOf st) (hp:(pendingOf st').toList.map pr=(pendingOf st).toList.map pr++[(lo,n)]):Runs κ st' (lo+n) rest:=by
 obtain⟨Rs,e1,e2,e3,e4⟩:=R;refine⟨Rs++[X],by rw[ha,e1];simp,fun R hR=>?_,by simp[e3,hX],?_⟩
 ·rcases List.mem_append.mp hR with hR | hR
  ·exact e2 R hR
  ·rw[List.mem_singleton.mp hR];exact⟨sX,fun z=>by rw[z]at hX;simp at hX;omega⟩
 ·rw[hp,e4,a2u,Nat.zero_add,e3];simp[offs,hX]
theorem a9E {Q:Unit->SortSt->Prop}(L:LtOk M A E s κ k0 a₀) (B:TB k0 a₀ st) (hp:pendingOf st=#[])
  (h:∀ st',TB k0 a₀ st'->Srt κ (arrOf st').toList->Q () st'):wpS M A E s sortRuns' Q st:=by
 rw[sortRuns'_eq];refine wpS_bind (wpS_get ?_);dsimp only;rw[B.sz];generalize minRun' a₀.size a₀.size 0=mr;refine wpS_bind (wpS_mono (wpS_forRange (I:=fun x c z=>∃ lo rest,c=(none,lo)/\TB k0 a₀ z/\Runs κ z lo rest/\x≤lo)
  (Q:=fun c z=>∃ lo rest,c=(none,lo)/\TB k0 a₀ z/\Runs κ z lo rest/\a₀.size≤lo) ?step ?fin ⟨0,(arrOf st).toList,rfl,B,⟨[],by simp,fun R h=>by simp at h,rfl,by rw[hp];rfl⟩,Nat.le_refl _⟩) ?post)
 case fin=>
  rintro c z ⟨lo,rest,rfl,B1,R1,hx⟩;exact⟨lo,rest,rfl,B1,R1,by omega⟩
 case step=>
  rintro x c z _ hx ⟨lo,rest,rfl,B1,R1,hxl⟩;dsimp only
  by_cases c1:lo≥a₀.size
  ·rw[if_pos c1];exact wpS_pure ⟨lo,rest,rfl,B1,R1,c1⟩
  rw[if_neg c1];refine wpS_bind (b4I L B1 (by omega) (by omega) fun m z2 r2 m1 m2 m3=>?_);dsimp only
  by_cases c2:m<mr
  ·rw[if_pos c2];refine a5T ?_;refine wpS_bind (b2I L (r2.tb B1) (by omega) (by omega) m3 fun z3 r3 n3=>?_);rw[if_neg (by decide)];have r3:=r2.trans r3;have n1:1≤min (a₀.size - lo) mr:=by omega
   have n2:lo+min (a₀.size - lo) mr≤a₀.size:=by omega
   generalize min (a₀.size - lo) mr=n at n1 n2 n3 ⊢;have B3:=r3.tb B1;obtain⟨X,rest',sX,hX,R3⟩:=R1.ar r3 n3 (by rw[B3.sz];omega) n1;refine wpS_bind (wpS_get ?_);cases hb:(pendingOf z3).back? with
   | none=>
    dsimp only;refine wpS_bind (wpS_modify (wpS_pure ?_));exact⟨lo+n,rest',rfl,⟨B3.pm,B3.kd,B3.fl⟩,R3.push sX hX n1 rfl (by show (((pendingOf z3).push (lo,n,0)).toList).map pr=_;rw[Array.toList_push,List.map_append];rfl),by omega⟩
   | some p=>
    obtain⟨s1,n1',w1⟩:=p;dsimp only;generalize power' a₀.size (2*s1+n1') (2*s1+n1'+n1'+n) a₀.size=pw;refine wpS_bind (wpS_mono (wpS_forRange (I:=fun _ c y=>c=(none,())/\TB k0 a₀ y/\Runs κ y lo (X++rest')) (Q:=fun c y=>c=(none,())/\TB k0 a₀ y/\Runs κ y lo (X++rest')) ?s1 (fun _ _ hh=>hh) ⟨rfl,B3,R3⟩) ?p1)
    case s1=>
     rintro x c y _ _ ⟨rfl,By,Ry⟩;refine wpS_bind (wpS_get ?_)
     by_cases hgt:(pendingOf y).size > 1
     ·rw[if_pos hgt];have eo:(pendingOf y)[(pendingOf y).size - 2]?=some (pendingOf y)[(pendingOf y).size - 2]:=getElem?_pos ..;rw[eo];dsimp only
      split
      ·exact wpS_pure ⟨rfl,By,Ry⟩
      ·refine wpS_bind (a3l L By Ry (by omega) fun y2 B2 R2 _=>?_);rw[if_neg (by decide)];exact wpS_pure ⟨rfl,B2,R2⟩
     ·rw[if_neg hgt];exact wpS_pure ⟨rfl,By,Ry⟩
    case p1=>
     rintro c y ⟨rfl,By,Ry⟩;dsimp only;refine wpS_bind (wpS_modify (wpS_bind (wpS_modify (wpS_pure ?_))));refine⟨lo+n,rest',rfl,⟨By.pm,By.kd,By.fl⟩,Ry.push sX hX n1 rfl ?_,by omega⟩;have em:∀ (q:Array (Nat×Nat×Nat)) (k:Nat),(q.modify k fun (a,b,_)=>(a,b,pw)).toList.map pr=q.toList.map pr:=fun q k=>by
      refine List.ext_getElem? fun i=>?_;rw[List.getElem?_map,List.getElem?_map,Array.getElem?_toList,Array.getElem?_toList,Array.getElem?_modify]
      split
      ·cases q[i]? with
       | none=>rfl
       | some p=>rfl
      ·rfl
     show ((((pendingOf y).modify ((pendingOf y).size - 1) fun (a,b,_)=>(a,b,pw)).push (lo,n,0)).toList).map pr=_
     rw[Array.toList_push,List.map_append,em]
     rfl
  ·rw[if_neg c2];have n2:lo+m≤a₀.size:=by omega
   have n1:=m1;have n3:=m3;have r3:=r2;generalize m=n at n1 n2 n3 ⊢;generalize z2=z3 at r3 n3 ⊢;have B3:=r3.tb B1;obtain⟨X,rest',sX,hX,R3⟩:=R1.ar r3 n3 (by rw[B3.sz];omega) n1;refine wpS_bind (wpS_get ?_);cases hb:(pendingOf z3).back? with
   | none=>
    dsimp only;refine wpS_bind (wpS_modify (wpS_pure ?_));exact⟨lo+n,rest',rfl,⟨B3.pm,B3.kd,B3.fl⟩,R3.push sX hX n1 rfl (by show (((pendingOf z3).push (lo,n,0)).toList).map pr=_;rw[Array.toList_push,List.map_append];rfl),by omega⟩
   | some p=>
    obtain⟨s1,n1',w1⟩:=p;dsimp only;generalize power' a₀.size (2*s1+n1') (2*s1+n1'+n1'+n) a₀.size=pw;refine wpS_bind (wpS_mono (wpS_forRange (I:=fun _ c y=>c=(none,())/\TB k0 a₀ y/\Runs κ y lo (X++rest')) (Q:=fun c y=>c=(none,())/\TB k0 a₀ y/\Runs κ y lo (X++rest')) ?s1 (fun _ _ hh=>hh) ⟨rfl,B3,R3⟩) ?p1)
    case s1=>
     rintro x c y _ _ ⟨rfl,By,Ry⟩;refine wpS_bind (wpS_get ?_)
     by_cases hgt:(pendingOf y).size > 1
     ·rw[if_pos hgt];have eo:(pendingOf y)[(pendingOf y).size - 2]?=some (pendingOf y)[(pendingOf y).size - 2]:=getElem?_pos ..;rw[eo];dsimp only
      split
      ·exact wpS_pure ⟨rfl,By,Ry⟩
      ·refine wpS_bind (a3l L By Ry (by omega) fun y2 B2 R2 _=>?_);rw[if_neg (by decide)];exact wpS_pure ⟨rfl,B2,R2⟩
     ·rw[if_neg hgt];exact wpS_pure ⟨rfl,By,Ry⟩
    case p1=>
     rintro c y ⟨rfl,By,Ry⟩;dsimp only;refine wpS_bind (wpS_modify (wpS_bind (wpS_modify (wpS_pure ?_))));refine⟨lo+n,rest',rfl,⟨By.pm,By.kd,By.fl⟩,Ry.push sX hX n1 rfl ?_,by omega⟩;have em:∀ (q:Array (Nat×Nat×Nat)) (k:Nat),(q.modify k fun (a,b,_)=>(a,b,pw)).toList.map pr=q.toList.map pr:=fun q k=>by
      refine List.ext_getElem? fun i=>?_;rw[List.getElem?_map,List.getElem?_map,Array.getElem?_toList,Array.getElem?_toList,Array.getElem?_modify]
      split
      ·cases q[i]? with
       | none=>rfl
       | some p=>rfl
      ·rfl
     show ((((pendingOf y).modify ((pendingOf y).size - 1) fun (a,b,_)=>(a,b,pw)).push (lo,n,0)).toList).map pr=_
     rw[Array.toList_push,List.map_append,em]
     rfl
 case post=>
  rintro c z ⟨lo,rest,rfl,B1,R1,hlo⟩;dsimp only;have hsz:∀ y,Runs κ y lo rest->(pendingOf y).size≤lo:=fun y ⟨Rs,e1,e2,e3,e4⟩=>by
   have h1:=congrArg List.length e4;rw[List.length_map,a1p]at h1;have h2:=a8J fun R hR=>(e2 R hR).2;simp at h1;omega
  have hlo2:lo=a₀.size:=by
   obtain⟨Rs,e1,e2,e3,e4⟩:=R1
   have:=congrArg List.length e1
   rw[a1j,B1.sz,List.length_append]at this;omega
  subst hlo2;refine wpS_bind (wpS_mono (wpS_forRange (I:=fun x c y=>c=(none,())/\TB k0 a₀ y/\Runs κ y a₀.size rest/\((pendingOf y).size≤1\/(pendingOf y).size+x≤a₀.size)) (Q:=fun c y=>c=(none,())/\TB k0 a₀ y/\Runs κ y a₀.size rest/\(pendingOf y).size≤1) ?s2 ?f2 ⟨rfl,B1,R1,.inr (hsz z R1)⟩) ?p2)
  case f2=>
   rintro c y ⟨rfl,By,Ry,hc⟩;exact⟨rfl,By,Ry,by omega⟩
  case s2=>
   rintro x c y _ hx ⟨rfl,By,Ry,hc⟩;refine wpS_bind (wpS_get ?_)
   by_cases h1:(pendingOf y).size≤1
   ·rw[if_pos h1];exact wpS_pure ⟨rfl,By,Ry,h1⟩
   ·rw[if_neg h1];refine wpS_bind (a3l L By Ry ?_ fun y2 B2 R2 hy2=>?_)
    ·repeat' split
     all_goals omega
    ·rw[if_neg (by decide)];exact wpS_pure ⟨rfl,B2,R2,.inr (by omega)⟩
  case p2=>
   rintro c y ⟨rfl,By,Ry,hc⟩;obtain⟨Rs,e1,e2,e3,e4⟩:=Ry;have h1:=congrArg List.length e4;rw[List.length_map,a1p]at h1;have h2:=congrArg List.length e1;rw[a1j,By.sz,List.length_append,e3]at h2;have hr:rest=[]:=List.length_eq_zero_iff.mp (by omega);refine wpS_pure (h y By ?_);rw[e1,hr,List.append_nil]
   match Rs,e2,h1 with
   | [],_,_=>exact .nil
   | [R],e2,_=>simpa using (e2 R (by simp)).1
   | _::_::_,_,h1=>simp at h1;omega
end
end Tim
namespace Tim
open PySem PyProof.Rows
abbrev kN:KF:=fun p=>numOf p.1
theorem b7c (xs:Array Keyed) (i:Nat):K xs i=Kk kN xs i:=by
 unfold K Kk;cases xs[i]?<;>rfl
theorem b7d {xs:Array Keyed}{n:Nat}(h:Srt kN xs.toList) (hn:n=xs.size):SortedTo xs n:=fun i j hij hj=>by
 rw[b7c,b7c]
 have:=a3B (i:=0) h (n:=xs.size) (by omega) i j hij (by omega)
 simpa using this
section
variable {prog:Program}{w:World}{A:Around}{E:Value->Shared->Prop}{s:Shared}{a₀:Array Keyed}
theorem b4J (h0:IntKeys a₀):LtOk (model prog w) A E s kN oneType' a₀:=fun x y hx hy st Q hk h=>by
 obtain⟨n,t,en⟩:=h0 x hx;obtain⟨m,u,em⟩:=h0 y hy;have h':Q (some (decide (n<m))) st:=by
  have:kN x<kN y↔n<m:=by show numOf x.1<numOf y.1↔n<m;rw[en,em];rfl
  rw[decide_eq_decide.mpr this]at h;exact h
 rw[lt'_eq];refine wpS_bind (wpS_get ?_);rw[hk,keyLt'_oneType,en,em];exact wpS_bind (wpS_lift (wpAny_attempt (oneLt_int ⟨rfl,wpS_pure h'⟩)))
theorem sort_any {a:Addr}{vs:List Value}{ns:List Int}{n:Nat}{P:Fin->Shared->Prop}(ho:s.heap.get? a=some (seqObj "list" vs.toArray n)) (hI:IntsAre vs ns) (hz:vs.length≤1000)
  (h:∀ (out:Array Value) (ms:List Int),IntsAre out.toList ms->ms.Perm ns->ms.Pairwise (·≤·)->P (.done (.ret .none)) { s with heap:=sortedHeap s.heap a vs out }):wpAny (model prog w) A (Builtin.«list.sort» ⟨[.ref a],[]⟩) P E s:=by
 have hzz:vs.length≤sizeLine:=by rw[sizeLine_eq];omega
 have hzv:vs.toArray.size≤sizeLine:=by simpa using hzz
 have lt:=Heap.lt_size ho;rw[list_sort_plain];refine wpAny_bind (listItems_at ho rfl (wpAny_bind (listUpdate_at ho rfl ?_ hzv (by simp))));obtain⟨u,hu⟩:∃ u,(s.heap.update a (Obj.mapSeq fun _=>#[])).get? a=some (seqObj "list" #[] u):=⟨_,get?_update_seq ho fun _=>#[]⟩;refine wpAny_bind (seqEpoch_at hu rfl (wpAny_bind (wpAny_newTuple ?_ (by simpa using hzz))));refine wpAny_bind (wpAny_newList (wpAny_holding ?_));have hv:(((s.heap.update a (Obj.mapSeq fun _=>#[])).push (seqObj "tuple" vs.toArray 0)).push (seqObj "list" #[] 0)).get? a=some (seqObj "list" #[] u):=by
  rw[Heap.get?_push_ne,Heap.get?_push_ne]
  ·exact hu
  ·rw[Heap.size_update];exact Nat.ne_of_lt lt
  ·rw[size_push',Heap.size_update];exact Nat.ne_of_lt (Nat.lt_succ_of_lt lt)
 show wpAny (model prog w) A _ P E { s with heap:=((s.heap.update a (Obj.mapSeq fun _=>#[])).push (seqObj "tuple" vs.toArray 0)).push (seqObj "list" #[] 0) }
 dsimp only;have last:∀ y:SortSt,(arrOf y).Perm (pairsOf vs)->Srt kN (arrOf y).toList->P (.done (.ret .none)) { s with heap:=sortedHeap s.heap a vs ((arrOf y).map (·.2)) }:=fun y p q=>by
  obtain⟨ms,m1,m2,m3⟩:=sorted_out hI p (b7d q p.size_eq.symm);exact h _ ms m1 m2 m3
 have room:∀ y:SortSt,(arrOf y).Perm (pairsOf vs)->((arrOf y).map (·.2)).size≤sizeLine+1:=fun y p=>by
  rw[Array.size_map,p.size_eq,pairsOf_size];omega
 by_cases c:vs.toArray.size<2
 ·rw[if_pos c,if_pos c];refine wpAny_bind (wpAny_pure ?_);rw[StateT.run_pure];refine wpAny_bind (wpAny_pure ?_);dsimp only;have p0:(arrOf (SortSt.mk' general' (vs.toArray.zip vs.toArray) #[] 7 none)).Perm (pairsOf vs):=Array.Perm.refl _;refine wpAny_bind (seqEpoch_at hv rfl (wpAny_bind (listUpdate_at hv rfl ?_ (by simp) (room _ p0))));simp only[bne_self_eq_false,Bool.false_eq_true,if_false];refine wpAny_pure (last _ p0 ?_)
  show Srt kN (pairsOf vs).toList
  rw[pairsOf_toList]
  have:vs.length<2:=by simpa using c
  match vs,this with
  | [],_=>exact .nil
  | [v],_=>exact List.pairwise_singleton _ _
 ·rw[if_neg c,if_neg c];obtain⟨v1,v2,vr,rfl⟩:∃ v1 v2 vr,vs=v1::v2::vr:=by
   have:¬ vs.length<2:=by simpa using c
   match vs,this with
   | [],q=>exact absurd (by simp) q
   | [_],q=>exact absurd (by simp) q
   | v1::v2::vr,_=>exact⟨v1,v2,vr,rfl⟩
  rw[keyKind_ints hI];refine wpAny_bind (wpAny_pure (wpAny_bind (wpAny_mono (a9E (a₀:=pairsOf (v1::v2::vr)) (κ:=kN) (k0:=oneType') (st:=SortSt.mk' oneType' ((v1::v2::vr).toArray.zip (v1::v2::vr).toArray) #[] 7 none)
   (Q:=fun _ y=>(arrOf y).Perm (pairsOf (v1::v2::vr))/\failedOf y=none/\Srt kN (arrOf y).toList) (b4J hI.intKeys) ⟨Array.Perm.refl _,rfl,rfl⟩ rfl fun y q1 q2=>⟨q1.pm,q1.fl,q2⟩) ?_ fun _ _ e=>e)))
  rintro⟨⟨⟩,y⟩ s' ⟨rfl,q1,q2,q3⟩;dsimp only;refine wpAny_bind (seqEpoch_at hv rfl (wpAny_bind (listUpdate_at hv rfl ?_ (by simp) (room y q1))));rw[q2];simp only[bne_self_eq_false,Bool.false_eq_true,if_false];exact wpAny_pure (last y q1 q3)
end
end Tim
namespace SetW
open PySem
def Up (xs:Array Nat):Prop:=xs.toList.Pairwise (·<·)
structure TOk (led:Bool) (t:SetTable):Prop where
 up:Up t.place
 dm:t.dummies=#[]
 ld:t.led=led
theorem b2K {xs:Array Nat}(h:Up xs) {i j:Nat}(hij:i<j) (hj:j<xs.size):xs[i]'(by omega)<xs[j]:=by
 have:=List.pairwise_iff_getElem.mp h i j (by simp;omega) (by simpa using hj) hij
 simpa using this
theorem a6n {xs:Array Nat}(h:Up xs) (j:Nat):∀ (fuel lo hi:Nat),hi - lo≤fuel->lo≤hi->hi≤xs.size->(∀ i,(hi':i<xs.size)->i<lo->xs[i]<j)->(∀ i,(hi':i<xs.size)->hi≤i->j≤xs[i]) ->
  SetTable.below.go xs j fuel lo hi≤xs.size/\(∀ i,(hi':i<xs.size)->i<SetTable.below.go xs j fuel lo hi->xs[i]<j)/\(∀ i,(hi':i<xs.size)->SetTable.below.go xs j fuel lo hi≤i->j≤xs[i])
 | 0,lo,hi,hf,h1,h2,h3,h4=>by
  have:lo=hi:=by omega
  subst this;unfold SetTable.below.go;exact⟨h2,h3,h4⟩
 | fuel+1,lo,hi,hf,h1,h2,h3,h4=>by
  unfold SetTable.below.go
  split
  ·next hlt=>
   have hm:(lo+hi) / 2<xs.size:=by omega
   have hg:xs.getD ((lo+hi) / 2) j=xs[(lo+hi) / 2]:=by simp[Array.getD,hm]
   dsimp only;rw[hg]
   split
   ·next c=>
    refine a6n h j fuel _ _ (by omega) (by omega) h2 (fun i hi' hl=>?_) h4
    by_cases e:i=(lo+hi) / 2
    ·subst e;exact c
    ·exact Nat.lt_trans (b2K h (by omega) hm) c
   ·next c=>
    refine a6n h j fuel _ _ (by omega) (by omega) (by omega) h3 fun i hi' hl=>?_
    by_cases e:i=(lo+hi) / 2
    ·subst e;omega
    ·have:=b2K h (show (lo+hi) / 2<i by omega) hi';omega
  ·next hlt=>
   have:lo=hi:=by omega
   subst this;exact⟨h2,h3,h4⟩
theorem a8K {xs:Array Nat}(h:Up xs) (j:Nat):SetTable.below xs j≤xs.size/\(∀ i,(hi':i<xs.size)->i<SetTable.below xs j->xs[i]<j)/\(∀ i,(hi':i<xs.size)->SetTable.below xs j≤i->j≤xs[i]):=
 a6n h j xs.size 0 xs.size (by omega) (by omega) (Nat.le_refl _) (fun i _ hl=>by omega) fun i hi' hl=>by omega
theorem a73 {α:Type}{xs:Array α}{p:Nat}{x:α}:(SetTable.insertAt xs p x).toList=xs.toList.take p++x::xs.toList.drop p:=by
 unfold SetTable.insertAt;simp[List.extract_eq_take_drop,List.take_of_length_le]
theorem b7e {xs:Array Nat}(h:Up xs) {j:Nat}(hn:xs[SetTable.below xs j]?≠some j):Up (SetTable.insertAt xs (SetTable.below xs j) j):=by
 obtain⟨h1,h2,h3⟩:=a8K h j;unfold Up at h ⊢;rw[a73];refine List.pairwise_append.mpr ⟨List.Pairwise.sublist (List.take_sublist _ _) h,List.pairwise_cons.mpr ⟨fun y hy=>?_,List.Pairwise.sublist (List.drop_sublist _ _) h⟩,fun x hx y hy=>?_⟩
 ·obtain⟨m,hm⟩:=List.getElem?_of_mem hy;rw[List.getElem?_drop]at hm;obtain⟨hl,e⟩:=List.getElem?_eq_some_iff.mp hm;have hl':SetTable.below xs j+m<xs.size:=by simpa using hl
  have h4:=h3 (SetTable.below xs j+m) hl' (by omega);have e':xs[SetTable.below xs j+m]=y:=by simpa using e
  rw[e']at h4
  by_cases c:y=j
  ·subst c;exfalso
   by_cases hm0:m=0
   ·subst hm0;exact hn (by simpa using hm)
   ·have h5:=b2K h (show SetTable.below xs y<SetTable.below xs y+m by omega) hl';have h6:=h3 (SetTable.below xs y) (by omega) (Nat.le_refl _);omega
  ·omega
 ·obtain⟨m,hm⟩:=List.getElem?_of_mem hx;have hlen:=(List.getElem?_eq_some_iff.mp hm).1;rw[List.length_take]at hlen;rw[List.getElem?_take,if_pos (by omega)]at hm;obtain⟨hl,e⟩:=List.getElem?_eq_some_iff.mp hm;have hl':m<xs.size:=by simpa using hl
  have h4:=h2 m hl' (by omega);have e':xs[m]=x:=by simpa using e
  rw[e']at h4;rcases List.mem_cons.mp hy with rfl | hy
  ·exact h4
  ·obtain⟨k,hk⟩:=List.getElem?_of_mem hy;rw[List.getElem?_drop]at hk;obtain⟨hl2,e2⟩:=List.getElem?_eq_some_iff.mp hk;have hl2':SetTable.below xs j+k<xs.size:=by simpa using hl2
   have h5:=h3 _ hl2' (by omega);have e2':xs[SetTable.below xs j+k]=y:=by simpa using e2
   omega
theorem b1c (j:Nat):SetTable.has #[] j=false:=by unfold SetTable.has;simp
theorem a8L {t:SetTable}(hd:t.dummies=#[]) {ha:Nat->Int}{h:Int}:∀ (fuel:Nat) (p:SetTable.Probe) (j:Nat) (d:Option Nat),p.dummy=none->SetTable.probe.go t ha h fuel p=some (.empty j d)->d=none/\t.slot j=.empty
 | 0,p,j,d,_,e=>by unfold SetTable.probe.go at e;cases e
 | fuel+1,p,j,d,hp,e=>by
  have adv:∀ p:SetTable.Probe,p.dummy=none->(t.advance p).dummy=none:=fun p hp=>by
   unfold SetTable.advance
   split
   ·exact hp
   ·exact hp
  unfold SetTable.probe.go at e;cases hs:t.slot p.j with
  | empty=>
   rw[hs]at e;simp only[Option.some.injEq,SetTable.Met.empty.injEq]at e;obtain⟨rfl,rfl⟩:=e;exact⟨hp,hs⟩
  | dummy=>
   exfalso;unfold SetTable.slot at hs
   dsimp only at hs;rw[hd,b1c]at hs
   split at hs
   ·cases hs
   ·simp at hs
  | live i=>
   rw[hs]at e;dsimp only at e
   split at e
   ·cases e
   ·exact a8L hd fuel _ j d (adv p hp) e
theorem a9F {t:SetTable}{j:Nat}(h:t.slot j=.empty):t.place[SetTable.below t.place j]?≠some j:=fun e=>by
 unfold SetTable.slot at h;dsimp only at h;rw[e]at h;simp at h
theorem b4K {t:SetTable}(hd:t.dummies=#[]) {h:Int}{j:Nat}{b:Bool}(e:t.freeSlot h=some (j,b)):b=false/\t.place[SetTable.below t.place j]?≠some j:=by
 unfold SetTable.freeSlot at e
 split at e
 ·next j' d hp=>
  obtain⟨rfl,hs⟩:=a8L hd _ _ j' d rfl hp;simp at e;obtain⟨rfl,rfl⟩:=e;exact⟨rfl,a9F hs⟩
 ·cases e
theorem TOk.standIn {led:Bool}{t:SetTable}(h:TOk led t) (n:Nat):TOk led (t.standIn n):=by
 refine⟨?_,rfl,h.ld⟩
 show Up (Array.range n)
 unfold Up;rw[Array.toList_range];exact List.pairwise_lt_range
theorem TOk.orStandIn {led:Bool}{t:SetTable}(h:TOk led t) (n:Nat):TOk led (t.orStandIn n):=by
 unfold SetTable.orStandIn
 split
 ·exact h
 ·exact h.standIn n
theorem TOk.layNew {led:Bool}{t:SetTable}(h:TOk led t) (es:Array (Int×Value)) (hh:Int) (x:Value):TOk led (layNew t es hh x).2.1:=by
 unfold PySem.layNew;cases e:t.freeSlot hh with
 | none=>exact h.standIn _
 | some p=>
  obtain⟨j,b⟩:=p;obtain⟨_,hn⟩:=b4K h.dm e
  have:TOk led (t.put j).1:=by
   unfold SetTable.put;refine⟨b7e h.up hn,?_,h.ld⟩
   show (if SetTable.has t.dummies j=true then SetTable.eraseAt t.dummies (SetTable.below t.dummies j) else t.dummies)=#[]
   rw[h.dm,b1c];rfl
  exact this.orStandIn _
theorem b4L {n:Nat}(f:Nat->Option Nat):(((List.range n).filterMap fun j=>(f j).map (j,·)).map (·.1)).Pairwise (·<·):=by
 have key:∀ l:List Nat,l.Pairwise (·<·)->((l.filterMap fun j=>(f j).map (j,·)).map (·.1)).Pairwise (·<·)/\∀ x∈(l.filterMap fun j=>(f j).map (j,·)).map (·.1),x∈l:=by
  intro l
  induction l with
  | nil=>intro _;exact⟨.nil,fun x hx=>by simp at hx⟩
  | cons a l ih=>
   intro hp;obtain⟨h1,h2⟩:=List.pairwise_cons.mp hp;obtain⟨i1,i2⟩:=ih h2;rw[List.filterMap_cons];cases f a with
   | none=>exact⟨i1,fun x hx=>.tail _ (i2 x hx)⟩
   | some b=>
    simp only[Option.map_some,List.map_cons];exact⟨List.pairwise_cons.mpr ⟨fun y hy=>h1 y (i2 y hy),i1⟩,fun x hx=>by
     rcases List.mem_cons.mp hx with rfl | hx
     ·exact .head _
     ·exact .tail _ (i2 x hx)⟩
 exact (key _ List.pairwise_lt_range).1
theorem TOk.relay {led:Bool}{t:SetTable}(h:TOk led t) (es:Array (Int×Value)) (n:Nat):TOk led (relayAll t es n).2.1:=by
 unfold relayAll;cases e:t.relaid (es.map (·.1)) n with
 | none=>exact h.standIn _
 | some p=>
  obtain⟨t',order⟩:=p;dsimp only
  split
  ·unfold SetTable.relaid SetTable.laid at e;cases ho:SetTable.layClean (SetTable.sizeAbove n - 1) (es.map (·.1)) with
   | none=>rw[ho]at e;cases e
   | some owner=>
    rw[ho]at e;simp only[Option.bind_eq_bind,Option.bind_some,pure,Option.some.injEq,Prod.mk.injEq]at e;obtain⟨rfl,_⟩:=e;refine⟨?_,rfl,h.ld⟩
    show Up (List.toArray _)
    unfold Up;rw[List.toList_toArray];exact b4L _
  ·exact h.standIn _
end SetW
namespace SetW
open PySem PyProof.Rows
def byT (w:World):Bool:=w.params.followText "set-order"
structure SO (prog:Program) (w:World) (h:Heap) (a:Addr) (es:Array (Int×Value)) (ep:Nat) (t:SetTable) (ms:List Int):Prop where
 at_:∃ o,h.get? a=some o/\o.ExactSet/\o.data=.set es ep t
 el:ElemsOf (intKind prog w) es.toList
 nums:IntsAre (es.toList.map (·.2)) ms
 sc:es.size<scanBound
 fit:t.fits es.size=true
 ok:TOk (!byT w) t
def SI (prog:Program) (w:World) (h:Heap) (a:Addr) (ms:List Int):Prop:=∃ es ep t,SO prog w h a es ep t ms
theorem a1R {vs vs':List Value}{ns:List Int}(h:IntsAre vs ns) (p:vs'.Perm vs):∃ ns',IntsAre vs' ns'/\ns'.Perm ns:=by
 refine⟨vs'.map numOf,intsAre_map _ fun v hv=>h.all v (p.mem_iff.mp hv),?_⟩
 have:=p.map numOf
 rwa [h.nums]at this
theorem b1d {vs:List Value}{ns:List Int}{k:Int}{u:Tok}(h:IntsAre vs ns):IntsAre (vs++[.int k u]) (ns++[k]):=by
 induction h with
 | nil=>exact .cons k u .nil
 | cons n t _ ih=>exact .cons n t ih
section
variable {prog:Program}{w:World}{A:Around}{E:Value->Shared->Prop}{s:Shared}{a:Addr}{es:Array (Int×Value)}{ep:Nat}{t:SetTable}{ms:List Int}{k:Int}{u:Tok}
theorem SO.mem (S:SO prog w s.heap a es ep t ms):(∃ e∈es.toList,(intKind prog w).is k e.2=true)↔k∈ms:=by
 have hn:=S.nums.nums
 constructor
 ·rintro⟨e,he,hk⟩;rw[<- hn];obtain⟨n,tk,en⟩:=S.nums.all e.2 (List.mem_map_of_mem (f:=(·.2)) he);rw[en]at hk
  have:k=n:=by
   have:=hk
   simp[intKind,Value.isInt]at this;exact this.symm
  exact List.mem_map.mpr ⟨e.2,List.mem_map_of_mem (f:=(·.2)) he,by rw[en,this];rfl⟩
 ·intro hk;rw[<- hn,List.map_map]at hk;obtain⟨e,he,e2⟩:=List.mem_map.mp hk;obtain⟨n,tk,en⟩:=S.nums.all e.2 (List.mem_map_of_mem (f:=(·.2)) he);refine⟨e,he,?_⟩;simp only[Function.comp]at e2;rw[en]at e2 ⊢
  have:n=k:=e2
  rw[this];exact intKind_is _ _ _ _
theorem SO.stored {o:Obj}{es':Array (Int×Value)}{t':SetTable}{ms':List Int}{h:Heap}(ho:h.get? a=some o) (hx:o.ExactSet) (hd:o.data=.set es ep t) (hel:ElemsOf (intKind prog w) es'.toList) (hi:IntsAre (es'.toList.map (·.2)) ms') (hs:es'.size<scanBound) (hf:t'.fits es'.size=true) (hk:TOk (!byT w) t') :
  (h.update a (Obj.putSet es' t')).get? a=some { o with data:=.set es' (ep+1) t' }/\SO prog w (h.update a (Obj.putSet es' t')) a es' (ep+1) t' ms':=by
 have hg:(h.update a (Obj.putSet es' t')).get? a=some { o with data:=.set es' (ep+1) t' }:=by
  have q:=Heap.get?_update_self (Obj.putSet es' t') ho (by rw[putSet_of es' t' hd];rfl);rw[putSet_of es' t' hd]at q;exact q
 exact⟨hg,⟨⟨_,hg,hx,rfl⟩,hel,hi,hs,hf,hk⟩⟩
theorem TOk.plain {led:Bool}{t:SetTable}{b:Bool}(h:TOk led t):TOk led ({ t with plain:=b }:SetTable):=⟨h.up,h.dm,h.ld⟩
theorem b4M {Q:Bool->Shared->Prop}(S:SO prog w s.heap a es ep t ms) (hr:ms.length+1<scanBound)
  (h:∀ h' ms' b,Heap.SameBut a s.heap h'->SI prog w h' a ms'->ms'.Perm (if k∈ms then ms else ms++[k])->Q b { s with heap:=h' }) :
  wpAny (model prog w) A (setAddHashed a (.int k u) ((intKind prog w).hash k)) Q E s:=by
 obtain⟨⟨o,ho,hx,hd⟩,hel,hnum,hsc,hfit,hok⟩:=id S;have hkey:(intKind prog w).is k (.int k u)=true:=intKind_is _ _ _ _;have hlen:es.size=ms.length:=by
  have q:=congrArg List.length hnum.nums;simpa using q
 unfold setAddHashed setAddHashedIn;refine wpAny_holding (wpAny_bind (wpAny_setState_of ho hd hfit ?_));dsimp only;rw[byScan_of rfl hsc hel];simp only[↓reduceIte];unfold setAddByScan;refine wpAny_bind (wpAny_bind (wpAny_rule (wpAny_bind (wpAny_setScan_of hkey ho hd hfit hel ?_))));cases hf:List.findIdx? (fun e=>(intKind prog w).is k e.2) es.toList with
 | some j=>
  dsimp only;obtain⟨hj,hp,_⟩:=List.findIdx?_eq_some_iff_getElem.mp hf;have hkm:k∈ms:=S.mem.mp ⟨_,List.getElem_mem hj,hp⟩;refine wpAny_pure (wpAny_pure ?_);have q:=h s.heap ms false (Heap.SameBut.refl a s.heap) ⟨es,ep,t,S⟩ (by rw[if_pos hkm]);exact q
 | none=>
  dsimp only;have hkm:k∉ms:=fun z=>by
   obtain⟨e,he,hp⟩:=S.mem.mpr z;have q:=List.findIdx?_eq_none_iff.mp hf e he;rw[hp]at q;cases q
  have pm:=layNew_perm t es ((intKind prog w).hash k) (.int k u);have ft:=layNew_fits t es ((intKind prog w).hash k) (.int k u);have tk:=hok.layNew es ((intKind prog w).hash k) (.int k u);generalize layNew t es ((intKind prog w).hash k) (.int k u)=L at pm ft tk ⊢;obtain⟨es1,t1,wd,gv⟩:=L;dsimp only at pm ft tk ⊢;rw[Array.toList_push]at pm;have el1:ElemsOf (intKind prog w) es1.toList:=(hel.push hkey rfl).perm pm;have sz1:es1.size=ms.length+1:=by rw[<- Array.length_toList,pm.length_eq,List.length_append,Array.length_toList,hlen];rfl
  obtain⟨ms1,im1,pm1⟩:=a1R (vs:=es.toList.map (·.2)++[.int k u]) (vs':=es1.toList.map (·.2)) (b1d (u:=u) hnum) (by
   have q:=pm.map (·.2);rw[List.map_append]at q;exact q)
  have bnd:es1.size<scanBound:=by omega
  have fin:∀ (t2:SetTable),t2.fits es1.size=true->TOk (!byT w) t2->wpAny (model prog w) A (do
    storeSet a es1 t2
    if (!wd&&t2.tooFull)=true then do
     (match (relayAll t2 es1 (SetTable.grown es1.size)).2.2 with | true=>rule "set.scan.the-table-gave-way" | false=>pure ())
     storeSet a (relayAll t2 es1 (SetTable.grown es1.size)).1 (relayAll t2 es1 (SetTable.grown es1.size)).2.1
     pure (some true)
    else pure (some true)) (fun r s'=>wpAny (model prog w) A (match r with | some added=>pure added | none=>setAddHashedIn a (.int k u) ((intKind prog w).hash k) 99999) Q E s') E s:=by
   intro t2 f2 k2;refine wpAny_bind (wpAny_storeSet_of ho hd ?_ (fits_of_scanBound bnd));obtain⟨g1,S1⟩:=SO.stored (prog:=prog) (w:=w) ho hx hd el1 im1 bnd f2 k2;have b1:=Heap.SameBut.update s.heap a (Obj.putSet es1 t2)
   split
   ·have pr:=relayAll_perm t2 es1 (SetTable.grown es1.size);have fr:=relayAll_fits t2 es1 (SetTable.grown es1.size);have kr:=k2.relay es1 (SetTable.grown es1.size);generalize relayAll t2 es1 (SetTable.grown es1.size)=W at pr fr kr ⊢;obtain⟨es2,t3,g3⟩:=W;dsimp only at pr fr kr ⊢;have sz2:es2.size=es1.size:=by rw[<- Array.length_toList,pr.length_eq,Array.length_toList]
    obtain⟨ms2,im2,pm2⟩:=a1R im1 (pr.map (·.2));refine wpAny_bind ?_;have tail:wpAny (model prog w) A (storeSet a es2 t3 >>= fun _=>pure (some true)) (fun r s'=>wpAny (model prog w) A (match r with | some added=>pure added | none=>setAddHashedIn a (.int k u) ((intKind prog w).hash k) 99999) Q E s') E { s with heap:=s.heap.update a (Obj.putSet es1 t2) }:=by
     refine wpAny_bind (wpAny_storeSet_of g1 rfl ?_ (fits_of_scanBound (by omega)));obtain⟨_,S2⟩:=SO.stored (prog:=prog) (w:=w) (es:=es1) (ep:=ep+1) (t:=t2) g1 hx rfl (el1.perm pr) im2 (by omega) fr kr;refine wpAny_pure (wpAny_pure ?_);exact h _ ms2 true (b1.trans (Heap.SameBut.update _ a _)) ⟨es2,_,t3,S2⟩ (by rw[if_neg hkm];exact pm2.trans pm1)
    cases g3 with
    | true=>exact wpAny_rule tail
    | false=>exact wpAny_pure tail
   ·exact wpAny_pure (wpAny_pure (h _ ms1 true b1 ⟨es1,_,t2,S1⟩ (by rw[if_neg hkm];exact pm1)))
  have gw:∀ {β:Type}{f:Unit->Sem β}{Q':β->Shared->Prop},wpAny (model prog w) A (f ()) Q' E s->wpAny (model prog w) A ((match gv with | true=>rule "set.scan.the-table-gave-way" | false=>pure ()) >>= f) Q' E s:=fun hq=>by
   cases gv with
   | true=>exact wpAny_bind (wpAny_rule hq)
   | false=>exact wpAny_bind (wpAny_pure hq)
  refine gw ?_
  split
  ·refine wpAny_bind ?_;rw[hashByValue_scannable 8 rfl];refine wpAny_pure ?_;exact fin t1 ft tk
  ·refine wpAny_bind (wpAny_pure ?_);simp only[↓reduceIte];exact fin t1 ft tk
end
end SetW
namespace SetW
open PySem PyProof.Rows
theorem SI.at {prog:Program}{w:World}{h h':Heap}{a:Addr}{ms:List Int}(S:SI prog w h a ms) (k:∀ o,h.get? a=some o->h'.get? a=some o):SI prog w h' a ms:=by
 obtain⟨es,ep,t,⟨o,g,x,d⟩,h1,h2,h3,h4,h5⟩:=S;exact⟨es,ep,t,⟨o,k o g,x,d⟩,h1,h2,h3,h4,h5⟩
def Met (val:Nat->Int) (i:Nat) (ms:List Int):Prop:=ms.Nodup/\ms.length≤i/\∀ x,x∈ms↔∃ j,j<i/\val j=x
theorem Met.step {val:Nat->Int}{i:Nat}{ms ms':List Int}(h:Met val i ms) (p:ms'.Perm (if val i∈ms then ms else ms++[val i])):Met val (i+1) ms':=by
 obtain⟨h1,h2,h3⟩:=h;have key:∀ x,(∃ j,j<i+1/\val j=x)↔(∃ j,j<i/\val j=x)\/x=val i:=fun x=>by
  constructor
  ·rintro⟨j,hj,e⟩
   by_cases c:j=i
   ·right;rw[<- e,c]
   ·left;exact⟨j,by omega,e⟩
  ·rintro (⟨j,hj,e⟩ | e)
   ·exact⟨j,by omega,e⟩
   ·exact⟨i,by omega,e.symm⟩
 by_cases c:val i∈ms
 ·rw[if_pos c]at p;refine⟨p.nodup_iff.mpr h1,by rw[p.length_eq];omega,fun x=>?_⟩;rw[p.mem_iff,key,h3];exact⟨.inl,fun z=>z.elim id fun e=>(h3 x).mp (e▸c)⟩
 ·rw[if_neg c]at p;refine⟨p.nodup_iff.mpr ?_,by rw[p.length_eq];simp;exact h2,fun x=>?_⟩
  ·rw[List.nodup_append];exact⟨h1,by simp,fun x hx y hy=>by rw[List.mem_singleton.mp hy];rintro rfl;exact c hx⟩
  ·rw[p.mem_iff,key,List.mem_append,h3,List.mem_singleton]
section
variable {prog:Program}{w:World}{A:Around}{R:Result->Shared->Prop}{I:Addr}{fp wr:List Addr}{G:Array GenState->Array GenState->Prop}{n:Nat}{P:Nat->Value->Prop}{St:Nat->Shared->Prop}
theorem b2L (W:WalksS prog w A.in1 I fp wr G n P St) (S:Addr) (hSf:S∉fp) (val:Nat->Int) (hv:∀ i v,P i v->∃ t,v=.int (val i) t) (hb:n+1<scanBound) :
  ∀ (k i:Nat) (s:Shared) (ms:List Int),n - i=k->i≤n->St i s->SI prog w s.heap S ms->Met val i ms ->
   (∀ s' ms',Moved (S::wr) G s s'->SI prog w s'.heap S ms'->Met val n ms'->R (.ok (.ret .none)) s') ->
   codeAny (model prog w) A (.builtin "set.update.loop" ⟨[.ref S,.ref I],[]⟩) R s:=by
 have nw:S∉wr:=fun z=>hSf (W.sub _ z);have up:∀ b∈wr,b∈S::wr:=fun b z=>List.mem_cons_of_mem _ z;intro k
 induction k with
 | zero=>
  intro i s ms hk hi st hS hM hR;have e:i=n:=by omega
  subst e;refine codeAny_builtin PyProof.Rows.F.entry_set_update_loop ?_;rw[Around.under_plainId PyProof.Rows.F.plain_set_update_loop _]
  show wpAny _ A.in1 (pyNext (.ref I) >>= _) _ _ s
  refine wpAny_bind (W.done s _ _ st fun s1 mv=>?_)
  show wpAny _ A.in1 (ret Value.none) _ _ s1
  exact wpAny_pure (hR s1 ms (mv.mono up) (hS.at fun o g=>mv.heap S o nw g) hM)
 | succ k ih=>
  intro i s ms hk hi st hS hM hR;refine codeAny_builtin PyProof.Rows.F.entry_set_update_loop ?_;rw[Around.under_plainId PyProof.Rows.F.plain_set_update_loop _]
  show wpAny _ A.in1 (pyNext (.ref I) >>= _) _ _ s
  refine wpAny_bind (W.item i s _ _ (by omega) st fun v s1 hP st1 mv=>?_);obtain⟨tk,rfl⟩:=hv i v hP;obtain⟨es,ep,t,S1⟩:=hS.at fun o g=>mv.heap S o nw g
  show wpAny _ A.in1 (holding [Value.int (val i) tk] (setAdd S (.int (val i) tk)) >>= _) _ _ s1
  refine wpAny_bind (wpAny_holding ?_);unfold setAdd;refine wpAny_holding (wpAny_bind ((intKind prog w).pyHash (k:=val i) (intKind_is _ _ _ _) ?_));have S2:SO prog w ({ s1 with toks:=s1.toks+1 }:Shared).heap S es ep t ms:=S1;refine b4M S2 (by have:=hM.2.1;omega) fun h' ms' b hsb hS' hp=>?_;refine wpAny_pure ⟨plainId_quiet PyProof.Rows.F.plain_set_update_loop _,ih (i+1) _ ms' (by omega) (by omega) (W.frame _ s1 _ _ st1 (Nat.le_succ _) fun c hc o g=>?_) hS' (hM.step hp) fun s2 m2 mv2 hS2 hM2=>?_⟩
  ·rw[hsb.2 c fun z=>hSf (z▸hc)];exact g
  ·refine hR s2 m2 (Moved.trans W.gtrans ((mv.mono up).then_heap (Nat.le_succ _) fun c o hc g=>?_) mv2) hS2 hM2;rw[hsb.2 c fun z=>hc (by rw[z];exact List.mem_cons_self)];exact g
end
section
variable {prog:Program}{w:World}{A:Around}{E:Value->Shared->Prop}{s:Shared}
abbrev a1u (w:World):Obj:={ cls:=.type "set",dict:=none,data:=.set #[] 0 (.fresh 0 0 (!byT w)) }
theorem SI.fresh {h:Heap}{a:Addr}(g:h.get? a=some (a1u w)):SI prog w h a []:=
 ⟨#[],0,.fresh 0 0 (!byT w),⟨_,g,⟨rfl,rfl,rfl⟩,rfl⟩,fun e he=>by simp at he,.nil,by decide,rfl,⟨.nil,rfl,rfl⟩⟩
theorem b4N (a:Value) {Q:Value->Shared->Prop}(h:Q (.ref s.heap.objs.size) { s with heap:=s.heap.push (a1u w) }) :
  codeAny (model prog w) A (.call (.builtin "set.__new__") ⟨[.type "set",a],[]⟩) (wants Q E) s:=by
 refine codeAny_of_tree ?_
 show wpAny _ A.in1 (do checkBuiltinCall "set.__new__" ⟨[.type "set",a],[]⟩;again (.builtin "set.__new__" ⟨[.type "set",a],[]⟩)) _ _ s
 refine wpAny_bind (wpAny_of_eq (PySem.F.newCall_set_1 a) (wpAny_pure ⟨plainId_quiet PySem.F.plain_set_new _,codeAny_builtin PySem.F.entry_set_new ?_⟩));rw[Around.under_plainId PySem.F.plain_set_new _];unfold Builtin.«set.__new__» Builtin.Frozenset.newClass;have sub:=sub_set_self;obtain⟨hp,g,d,tk,os⟩:=s;dsimp only
 wp_walk
 refine wpAny_askSetting (wpAny_pure ?_);dsimp only;simp only[newObj];refine wpAny_bind (wpAny_alloc (wpAny_pure ?_));exact wpAny_pure h
set_option maxHeartbeats 3200000 in
/-- set(a list of whole numbers) -/
theorem call_set {l:Addr}{items:Array Value}{ns:List Int}{Q:Value->Shared->Prop}(hh:A.handled=none) (hl:s.heap.IsList l items) (hi:IntsAre items.toList ns) (hb:items.size+1<scanBound)
  (h:∀ (h':Heap) (tk:Nat) (ms:List Int),SI prog w h' s.heap.objs.size ms->Met (fun i=>ns.getD i 0) items.size ms->(∀ b o,b<s.heap.objs.size->s.heap.get? b=some o->h'.get? b=some o)->Q (.ref s.heap.objs.size) { s with heap:=h',toks:=tk }) :
  wpAny (model prog w) A (call (.type "set") [.ref l]) Q E s:=by
 obtain⟨mc,mt,mro⟩:=PySem.F.called_set.mro;have md:=PySem.F.called_set.made;have sb:=PySem.F.called_set.sub;refine wpAny_call (codeAny_of_tree ?_)
 show wpAny _ _ (callAny (.type "set") _) _ _ _
 refine wpAny_pure ⟨Code.quiet_builtin _ (by decide +kernel),codeAny_builtin PySem.F.entry_type_call ?_⟩;rw[Around.under_plain (weight_type_call_type "set" [.ref l] []) rfl];have nt:=PySem.F.called_set.notType;have cc:=PySem.F.called_set.canCreate;have tc:=PySem.F.typeCall_set_1 (.ref l)
 repeat (any_goals (first | assumption | wp_step))
 refine codeAny_mono (b4N (w:=w) (.ref l) (E:=E) (Q:=fun obj s1=>obj=.ref s.heap.objs.size/\s1={ s with heap:=s.heap.push (a1u w) }) ⟨rfl,rfl⟩) fun r s1 hr=>?_;cases r with
 | error e=>exact hr
 | ok fl=>
  cases fl with
  | ret obj=>
   obtain⟨rfl,rfl⟩:=hr;have gS:(s.heap.push (a1u w)).get? s.heap.objs.size=some (a1u w):=Heap.get?_push_size _ rfl;have tS:Shared.TypeIs { s with heap:=s.heap.push (a1u w) } (.ref s.heap.objs.size) "set":=⟨_,gS,rfl⟩;have li:=PySem.F.called_set.init.lookup;have bi:=PySem.F.called_set.init.bind (.ref s.heap.objs.size)
   repeat (any_goals (first | assumption | wp_step))
   refine codeAny_mono (codeAny_call_builtin (R:=wants (fun r s2=>r=.none/\∃ h' tk ms,s2={ s with heap:=h',toks:=tk }/\SI prog w h' s.heap.objs.size ms/\Met (fun i=>ns.getD i 0) items.size ms /\
     (∀ b o,b<s.heap.objs.size->s.heap.get? b=some o->h'.get? b=some o)) E) PySem.F.called_set.init.plain PySem.F.entry_set_init (check_set_init_1 tS ?_)) fun r2 s2 hr2=>?_
   ·obtain⟨ol,gl,cl,nl,dl⟩:=hl;obtain⟨oc,od,ob,osl⟩:=ol;simp only at cl dl;subst cl dl;have gl':(s.heap.push (a1u w)).get? l=some { cls:=.type "list",dict:=od,data:=.seq items nl,slots:=osl }:=Heap.get?_push_of_some _ gl;have s1:=PySem.F.sub_list_set;have s2:=PySem.F.sub_list_frozenset;have ne:(Value.type "list"==Value.type "dict")=false:=by decide
    have il:(s.heap.push (a1u w)).IsList l items:=⟨_,gl',rfl,nl,rfl⟩;unfold Builtin.«set.__init__» noKeywords Builtin.Frozenset.updateFrom;generalize hPI:pyIter=PI
    wp_walk
    subst hPI;refine wpAny_pyIter_list il (wpAny_bind (wpAny_runValue ?_));have ll:l<s.heap.objs.size:=Heap.lt_size gl;have h3:A.in1.in1.in1.handled=none:=by simp[hh]
    have nI:l≠(s.heap.push (a1u w)).objs.size:=by rw[Heap.size_push];exact Nat.ne_of_lt (Nat.lt_succ_of_lt ll)
    have nf:s.heap.objs.size∉[(s.heap.push (a1u w)).objs.size,l]:=by
     rw[Heap.size_push];simp only[List.mem_cons,List.mem_singleton,List.not_mem_nil,or_false,not_or];exact⟨Nat.ne_of_lt (Nat.lt_succ_self _),Nat.ne_of_gt ll⟩
    refine b2L ((Walks.list h3 _ l nI items).toS) s.heap.objs.size nf (fun i=>ns.getD i 0) (fun i v e=>IntsAre.int_at hi i v (by rw[Array.getElem?_toList];exact e)) hb (items.size - 0) 0 _ [] (by omega) (Nat.zero_le _)
     ⟨⟨_,Heap.get?_push_size _ rfl,rfl,rfl⟩,(il.push _)⟩ (SI.fresh (Heap.get?_push_of_some _ gS)) ⟨.nil,Nat.le_refl _,fun x=>by simp⟩ fun s' ms mv hS hM=>?_
    obtain⟨h',g',d',tk',os'⟩:=s';have eg:g'=s.gens:=mv.gens;have ed:d'=s.drawn:=mv.drawn;have eo:os'=s.os:=mv.os;subst eg ed eo
    show wpAny _ _ _ _ _ _
    refine wpAny_pure ?_
    show wpAny _ _ (ret Value.none) _ _ _
    refine wpAny_pure ⟨rfl,h',tk',ms,rfl,hS,hM,fun b o hb e=>?_⟩;refine mv.heap b o ?_ (Heap.get?_push_of_some _ (Heap.get?_push_of_some _ e));simp only[List.mem_cons,List.mem_singleton,List.not_mem_nil,or_false,not_or];exact⟨Nat.ne_of_lt hb,by rw[Heap.size_push];exact Nat.ne_of_lt (Nat.lt_succ_of_lt hb)⟩
   ·cases r2 with
    | error e=>exact hr2
    | ok f2=>
     cases f2 with
     | ret r=>
      obtain⟨rfl,h',tk,ms,rfl,hS,hM,hk⟩:=hr2
      repeat (any_goals (first | assumption | wp_step))
      exact h _ _ _ hS hM hk
     | _=>exact hr2.elim
  | _=>exact hr.elim
end
end SetW
namespace SetW
open PySem PyProof.Rows
theorem sit_next:Slot "set_iterator" "__next__" "set_iterator.__next__":=.of (owner:="set_iterator") (n:="__next__") (by rw[typeLookup_type,builtinLookup_eq_fast];kernel_rfl) (by decide +kernel) (by decide +kernel) (by decide +kernel) (by first | exact .inl (by decide +kernel) | exact .inr (by decide +kernel)) (by rw[isSubtype_type];kernel_rfl)
theorem a1v:entryFor table "set_iterator.__next__"=some Builtin.«set_iterator.__next__»:=entryFor_of_tree (by kernel_rfl)
theorem a8M:Slot "set_iterator" "__iter__" "set_iterator.__iter__":=.of (owner:="set_iterator") (n:="__iter__") (by rw[typeLookup_type,builtinLookup_eq_fast];kernel_rfl) (by decide +kernel) (by decide +kernel) (by decide +kernel) (by first | exact .inl (by decide +kernel) | exact .inr (by decide +kernel)) (by rw[isSubtype_type];kernel_rfl)
theorem a5y:entryFor table "set_iterator.__iter__"=some Builtin.«dict_keyiterator.__iter__»:=entryFor_alias (id':="dict_keyiterator.__iter__") (by kernel_rfl) rfl (by decide +kernel) (by kernel_rfl)
theorem a5z:entryFor table "set.__iter__"=some Builtin.«frozenset.__iter__»:=entryFor_alias (id':="frozenset.__iter__") (by kernel_rfl) rfl (by decide +kernel) (by kernel_rfl)
theorem a68:Manifest.owners.lookup (String.ofList ['r','o','t','a','r','e','t','i','_','t','e','s'].reverse)=some Manifest.sig_set_iterator:=by kernel_rfl
theorem a1G (a:Value):argsOk "set_iterator.__next__" ⟨[a],[]⟩:=by unfold argsOk;rw[signature?_of (id:="set_iterator.__next__") (n:=['_','_','t','x','e','n','_','_']) (o:=['r','o','t','a','r','e','t','i','_','t','e','s']) (by kernel_rfl) a68];kernel_rfl
theorem a6o (a:Value):argsOk "set_iterator.__iter__" ⟨[a],[]⟩:=by unfold argsOk;rw[signature?_of (id:="set_iterator.__iter__") (n:=['_','_','r','e','t','i','_','_']) (o:=['r','o','t','a','r','e','t','i','_','t','e','s']) (by kernel_rfl) a68];kernel_rfl
def SetIt (h:Heap) (it a:Addr) (first:Value) (i n ep:Nat):Prop:=∃ o,h.get? it=some o/\o.cls=.type "set_iterator"/\o.data=.fields #[first,.int i 0,.ref a,.int n 0,.int ep 0]
theorem SetIt.ty {s:Shared}{it a:Addr}{f:Value}{i n ep:Nat}(x:SetIt s.heap it a f i n ep):s.TypeIs (.ref it) "set_iterator":=let ⟨o,g,c,_⟩:=x;⟨o,g,c⟩
theorem SetIt.at {h h':Heap}{it a:Addr}{f:Value}{i n ep:Nat}(x:SetIt h it a f i n ep) (e:∀ o,h.get? it=some o->h'.get? it=some o):SetIt h' it a f i n ep:=let ⟨o,g,r⟩:=x;⟨o,e _ g,r⟩
section
variable {prog:Program}{w:World}{A:Around}{E:Value->Shared->Prop}{s:Shared}{it a:Addr}{f:Value}{i n ep:Nat}{o:Obj}{es:Array (Int×Value)}{t:SetTable}
theorem a6p {Q:Value->Shared->Prop}(x:SetIt s.heap it a f i n ep) (h:Q (.ref it) s):wpAny (model prog w) A (pyIter (.ref it)) Q E s:=by
 refine wpAny_pyIter_slot x.ty a8M (wpAny_call_entry a8M x.ty a5y ?_ (a6o _))
 show wpAny _ _ (ret (.ref it)) _ _ s
 exact wpAny_pure ⟨_,rfl,"set_iterator",_,x.ty,sit_next.lookup,h⟩
theorem a8N {Q:Option Value->Shared->Prop}(hh:A.handled=none) (hQ:∀ h':Heap,(∀ b o,s.heap.get? b=some o->h'.get? b=some o)->Q none { s with heap:=h' }) :
  wpAny (model prog w) A.in1 (newExc (.type "StopIteration") [] >>= fun e=>(raiseNew e:Sem Final)) (fun _ _=>False) (fun e s'=>wpAny (model prog w) A (do if <- isInstance e (.type "StopIteration") then pure (none:Option Value) else throw e) Q E s') s:=by
 refine wpAny_bind ?_;simp only[newExc,newTuple];refine wpAny_bind (wpAny_newObj_type ?_ (by size_fits));refine wpAny_bind (m:=firstArgMember _ _) (wpAny_of_eq (a:=Value.none) (by first | rfl | (simp only[firstArgMember];rfl)) ?_)
 refine wpAny_newObj_type ?_ (by size_fits);simp only[raiseNew];refine wpAny_bind (wpAny_handled ?_);rw[show A.in1.handled=none from hh];refine wpAny_bind (wpAny_pure (wpAny_throw ?_));refine wpAny_bind (wpAny_isInstance (T:="StopIteration") (b:=true) ⟨_,Heap.get?_push_size _ rfl,rfl⟩ isSubtype_stop ?_);exact wpAny_pure (hQ _ fun b o e=>Heap.get?_push_of_some _ (Heap.get?_push_of_some _ e))
end
end SetW
namespace SetW
open PySem PyProof.Rows
section
variable {prog:Program}{w:World}{A:Around}{E:Value->Shared->Prop}{s:Shared}{it a:Addr}{f:Value}{i n ep k:Nat}{o:Obj}{es:Array (Int×Value)}{t:SetTable}{ms:List Int}
theorem a69 {Q:Option (Value×Nat)->Shared->Prop}(S:SO prog w s.heap a es ep t ms) (hT:byT w=true) (h:Q (((pickOrder (w.params.setOrder a ep) es)[i]?).map fun e=>(e.2,k)) s) :
  wpAny (model prog w) A (setNext a k i ep) Q E s:=by
 obtain⟨⟨o,ho,hx,hd⟩,hel,hnum,hsc,hfit,hok⟩:=id S;unfold setNext setsByText;refine wpAny_bind (wpAny_setState_of ho hd hfit ?_);refine wpAny_bind (wpAny_bind (wpAny_askSetting (wpAny_pure ?_)));dsimp only;refine wpAny_ite_split (fun _=>?_) fun c=>absurd hT c;simp only[bne_self_eq_false,Bool.false_eq_true,↓reduceIte];refine wpAny_bind ?_;unfold setWalk setsByText;refine wpAny_bind (wpAny_setState_of ho hd hfit ?_);refine wpAny_bind (wpAny_bind (wpAny_askSetting (wpAny_pure ?_)));dsimp only;refine wpAny_ite_split (fun _=>?_) fun c=>absurd hT c;refine wpAny_bind (wpAny_askSetting (wpAny_pure (wpAny_pure ?_)));exact h
theorem a5U {Q:Option (Value×Nat)->Shared->Prop}(S:SO prog w s.heap a es ep t ms) (hT:byT w=false) (hp:(!t.plain&&decide (es.size > 1))=false)
  (h:Q (match es[SetTable.below t.place k]?,t.place[SetTable.below t.place k]? with | some (_,x),some j=>some (x,j+1) | _,_=>none) s) :
  wpAny (model prog w) A (setNext a k i ep) Q E s:=by
 obtain⟨⟨o,ho,hx,hd⟩,hel,hnum,hsc,hfit,hok⟩:=id S;unfold setNext setsByText;refine wpAny_bind (wpAny_setState_of ho hd hfit ?_);refine wpAny_bind (wpAny_bind (wpAny_askSetting (wpAny_pure ?_)));dsimp only;refine wpAny_ite_split (fun c=>by rw[show (model prog w).w.params.followText "set-order"=byT w from rfl,hT]at c;cases c) fun _=>?_
 show wpAny _ _ (if (!t.plain&&decide (es.size > 1))=true then _ else _) _ _ _
 rw[hp];simp only[Bool.false_eq_true,↓reduceIte]
 show wpAny _ _ ((if (!t.led&&!es.isEmpty)=true then _ else _) >>= _) _ _ _
 rw[hok.ld,hT];simp only[Bool.not_false,Bool.not_true,Bool.false_and,Bool.false_eq_true,↓reduceIte];exact wpAny_bind (wpAny_pure (wpAny_pure h))
theorem a7a {v:Value}{nx:Nat}{Q:Option Value->Shared->Prop}(x:SetIt s.heap it a (.int k 0) i es.size ep) (S:SO prog w s.heap a es ep t ms)
  (hnx:∀ (B:Around) (F:Value->Shared->Prop) (R:Option (Value×Nat)->Shared->Prop),R (some (v,nx)) s->wpAny (model prog w) B (setNext a k i ep) R F s)
  (hQ:∀ h',SetIt h' it a (.int nx 0) (i+1) es.size ep->Heap.SameBut it s.heap h'->Q (some v) { s with heap:=h' }):wpAny (model prog w) A (pyNext (.ref it)) Q E s:=by
 obtain⟨u,hu,hc,hf⟩:=id x;obtain⟨⟨o,ho,hx,hd⟩,hel,hnum,hsc,hfit,hok⟩:=id S;unfold pyNext;refine wpAny_bind (wpAny_attempt (wpAny_callSpecial?_slot (name:=Str.ofString "__next__") x.ty sit_next (wpAny_call_entry sit_next x.ty a1v ?_ (a1G _))));unfold Builtin.«set_iterator.__next__»;refine wpAny_bind (m:=slotArgs "__next__" 0 _) (wpAny_pure ?_);refine wpAny_bind (wpAny_fieldsOf hu hf ?_);dsimp only;refine wpAny_bind (wpAny_setEntries_of ho hd hfit ?_);rw[if_neg (by simp)]
 show wpAny _ _ (setNext a (k:Int).toNat (i:Int).toNat (ep:Int).toNat >>= _) _ _ _
 simp only[Int.toNat_natCast];refine wpAny_bind (hnx _ _ _ ?_);dsimp only;refine wpAny_bind (wpAny_setField hu hf (by simp) ?_);have g1:=Heap.get?_update_self (Obj.mapFields (·.setIfInBounds 0 (rawInt (nx:Int)))) hu (Obj.isFreed_of_fields (Obj.data_mapFields hf _));have d1:=Obj.data_mapFields hf (·.setIfInBounds 0 (rawInt (nx:Int)));refine wpAny_bind (wpAny_setField g1 d1 (by simp) ?_);have g2:=Heap.get?_update_self (Obj.mapFields (·.setIfInBounds 1 (rawInt ((i:Int)+1)))) g1 (Obj.isFreed_of_fields (Obj.data_mapFields d1 _));have d2:=Obj.data_mapFields d1 (·.setIfInBounds 1 (rawInt ((i:Int)+1)));have x2:SetIt ((s.heap.update it (Obj.mapFields (·.setIfInBounds 0 (rawInt (nx:Int))))).update it (Obj.mapFields (·.setIfInBounds 1 (rawInt ((i:Int)+1))))) it a (.int nx 0) (i+1) es.size ep:=
  ⟨_,g2,(Obj.cls_mapFields ..).trans ((Obj.cls_mapFields ..).trans hc),by rw[d2];simp[rawInt]⟩
 refine wpAny_pure ⟨_,rfl,?_⟩;exact wpAny_pure (hQ _ x2 ((Heap.SameBut.update ..).trans (Heap.SameBut.update ..)))
theorem a8O {Q:Option Value->Shared->Prop}(hh:A.handled=none) (x:SetIt s.heap it a (.int k 0) i es.size ep) (S:SO prog w s.heap a es ep t ms)
  (hnx:∀ (B:Around) (F:Value->Shared->Prop) (R:Option (Value×Nat)->Shared->Prop),R none s->wpAny (model prog w) B (setNext a k i ep) R F s)
  (hQ:∀ h',(∀ b o,b≠it->s.heap.get? b=some o->h'.get? b=some o)->Q none { s with heap:=h' }):wpAny (model prog w) A (pyNext (.ref it)) Q E s:=by
 obtain⟨u,hu,hc,hf⟩:=id x;obtain⟨⟨o,ho,hx,hd⟩,hel,hnum,hsc,hfit,hok⟩:=id S;unfold pyNext;refine wpAny_bind (wpAny_attempt (wpAny_callSpecial?_slot (name:=Str.ofString "__next__") x.ty sit_next (wpAny_call_entry sit_next x.ty a1v ?_ (a1G _))));unfold Builtin.«set_iterator.__next__»;refine wpAny_bind (m:=slotArgs "__next__" 0 _) (wpAny_pure ?_);refine wpAny_bind (wpAny_fieldsOf hu hf ?_);dsimp only;refine wpAny_bind (wpAny_setEntries_of ho hd hfit ?_);rw[if_neg (by simp)]
 show wpAny _ _ (setNext a (k:Int).toNat (i:Int).toNat (ep:Int).toNat >>= _) _ _ _
 simp only[Int.toNat_natCast];refine wpAny_bind (hnx _ _ _ ?_);dsimp only;refine wpAny_bind (wpAny_setField hu hf (by simp) ?_);refine wpAny_mono (a8N (prog:=prog) (w:=w) hh (Q:=Q) (E:=E) fun h' k'=>?_) (fun _ _ z=>z.elim) fun e s' z=>z;have q:=hQ h' fun b o hb e=>k' b o ((Heap.SameBut.update s.heap it _).extBut b o hb e);exact q
end
end SetW
namespace SetW
open PySem PyProof.Rows
theorem a35 {α:Type}:∀ (l:List α) {i:Nat}(h:i<l.length),l.Perm (l[i]::l.eraseIdx i)
 | x::l,0,_=>by simp
 | x::l,i+1,h=>by
  have q:=a35 l (i:=i) (by simpa using h);rw[List.eraseIdx_cons_succ,List.getElem_cons_succ];exact (List.Perm.cons x q).trans (List.Perm.swap _ _ _)
theorem b1e {α:Type}(next:Nat->Nat):∀ (fuel k:Nat) (left:List α) (out:Array α),fuel=left.length->(pickOrder.go next fuel k left out).toList.Perm (out.toList++left)
 | 0,k,left,out,h=>by
  have:left=[]:=List.length_eq_zero_iff.mp h.symm
  subst this;unfold pickOrder.go;simp
 | fuel+1,k,left,out,h=>by
  unfold pickOrder.go;have hl:next k % left.length<left.length:=Nat.mod_lt _ (by omega);rw[List.getElem?_eq_getElem hl];dsimp only;refine (b1e next fuel _ _ _ (by rw[List.length_eraseIdx_of_lt hl];omega)).trans ?_;rw[Array.toList_push,List.append_assoc];exact List.Perm.append_left _ (a35 left hl).symm
theorem a7b {α:Type}(next:Nat->Nat) (xs:Array α):(pickOrder next xs).toList.Perm xs.toList:=by
 have:=b1e next xs.size 0 xs.toList #[] (by simp)
 simpa[pickOrder]using this
def a3E (t:SetTable):Nat->Nat
 | 0=>0
 | j+1=>t.place.getD j 0+1
theorem a5V {led:Bool}{t:SetTable}(h:TOk led t) {i:Nat}(hi:i≤t.place.size):SetTable.below t.place (a3E t i)=i:=by
 obtain⟨b1,b2,b3⟩:=a8K h.up (a3E t i);cases i with
 | zero=>
  by_cases c:SetTable.below t.place (a3E t 0)=0
  ·exact c
  ·have:=b2 0 (by omega) (by omega)
   have z:a3E t 0=0:=rfl;omega
 | succ j=>
  have hj:j<t.place.size:=by omega
  have e:a3E t (j+1)=t.place[j]+1:=by show t.place.getD j 0+1=_;rw[Array.getD_eq_getD_getElem?,Array.getElem?_eq_getElem hj];rfl
  rcases Nat.lt_trichotomy (SetTable.below t.place (a3E t (j+1))) (j+1) with c | c | c
  ·have q:=b3 j hj (by omega);rw[e]at q;omega
  ·exact c
  ·have q:=b2 (j+1) (by omega) c;have r:=b2K h.up (show j<j+1 by omega) (by omega);rw[e]at q;omega
theorem SO.at {prog:Program}{w:World}{h h':Heap}{a:Addr}{es:Array (Int×Value)}{ep:Nat}{t:SetTable}{ms:List Int}(S:SO prog w h a es ep t ms) (k:∀ o,h.get? a=some o->h'.get? a=some o):SO prog w h' a es ep t ms:=by
 obtain⟨⟨o,g,x,d⟩,h1,h2,h3,h4,h5⟩:=S;exact⟨⟨o,k o g,x,d⟩,h1,h2,h3,h4,h5⟩
section
variable {prog:Program}{w:World}{A:Around}{E:Value->Shared->Prop}{s:Shared}{it a T:Addr}{f:Value}{i n ep k:Nat}{o:Obj}{es:Array (Int×Value)}{t:SetTable}{ms:List Int}{ps:List Nat}
def b2M (w:World) (a:Addr) (ep:Nat) (es:Array (Int×Value)):List Value:=(pickOrder (w.params.setOrder a ep) es).toList.map (·.2)
theorem b1f (hh:A.handled=none) (hne:a≠it) (hT:byT w=true):Walks prog w A it [it,a] [it] es.size (fun i v=>(b2M w a ep es)[i]?=some v) (fun i h=>SetIt h it a (.int (0:Nat) 0) i es.size ep/\SO prog w h a es ep t ms):=by
 have hl:(pickOrder (w.params.setOrder a ep) es).size=es.size:=by rw[<- Array.length_toList,(a7b _ es).length_eq,Array.length_toList]
 refine⟨fun b hb=>by simp at hb;simp[hb],fun _ _ _ st hk=>⟨st.1.at fun o e=>hk it (by simp) o e,st.2.at fun o e=>hk a (by simp) o e⟩,fun i s Q E hi st hQ=>?_,fun s Q E st hQ=>?_,fun _ _ _ _ st hQ=>a6p st.1 hQ⟩
 ·have hg:(pickOrder (w.params.setOrder a ep) es)[i]?=some ((pickOrder (w.params.setOrder a ep) es)[i]'(by omega)):=Array.getElem?_eq_getElem _;refine a7a (v:=((pickOrder (w.params.setOrder a ep) es)[i]'(by omega)).2) (nx:=0) st.1 st.2 (fun B F R hR=>a69 st.2 hT ?_) fun h' x sb=>?_
  ·rw[hg];exact hR
  ·refine hQ _ h' s.toks ?_ ⟨x,st.2.at fun o e=>sb.extBut a o hne e⟩ fun b o hb e=>sb.extBut b o (fun z=>hb (by simp[z])) e;unfold b2M;rw[List.getElem?_map,Array.getElem?_toList,hg]
   rfl
 ·refine a8O hh st.1 st.2 (fun B F R hR=>a69 st.2 hT ?_) fun h' kp=>hQ h' s.toks fun b o hb e=>kp b o (fun z=>hb (by simp[z])) e;rw[Array.getElem?_eq_none (by omega)];exact hR
theorem a9G (hh:A.handled=none) (hne:a≠it) (hT:byT w=false) (hp:(!t.plain&&decide (es.size > 1))=false) (hf:t.fits es.size=true) (ok:TOk (!byT w) t) :
  Walks prog w A it [it,a] [it] es.size (fun i v=>(es.toList.map (·.2))[i]?=some v) (fun i h=>SetIt h it a (.int (a3E t i) 0) i es.size ep/\SO prog w h a es ep t ms):=by
 have hl:t.place.size=es.size:=by
  simp only[SetTable.fits,Bool.and_eq_true,beq_iff_eq]at hf;exact hf.1
 refine⟨fun b hb=>by simp at hb;simp[hb],fun _ _ _ st hk=>⟨st.1.at fun o e=>hk it (by simp) o e,st.2.at fun o e=>hk a (by simp) o e⟩,fun i s Q E hi st hQ=>?_,fun s Q E st hQ=>?_,fun _ _ _ _ st hQ=>a6p st.1 hQ⟩
 ·have hi':i<t.place.size:=by omega
  refine a7a (v:=es[i].2) (nx:=a3E t (i+1)) st.1 st.2 (fun B F R hR=>a5U st.2 hT hp ?_) fun h' x sb=>?_
  ·rw[a5V ok (by omega),Array.getElem?_eq_getElem hi,Array.getElem?_eq_getElem hi'];have e:a3E t (i+1)=t.place[i]+1:=by show t.place.getD i 0+1=_;rw[Array.getD_eq_getD_getElem?,Array.getElem?_eq_getElem hi'];rfl
   rw[e]at hR;exact hR
  ·refine hQ _ h' s.toks ?_ ⟨x,st.2.at fun o e=>sb.extBut a o hne e⟩ fun b o hb e=>sb.extBut b o (fun z=>hb (by simp[z])) e;rw[List.getElem?_map,Array.getElem?_toList,Array.getElem?_eq_getElem hi]
   rfl
 ·refine a8O hh st.1 st.2 (fun B F R hR=>a5U st.2 hT hp ?_) fun h' kp=>hQ h' s.toks fun b o hb e=>kp b o (fun z=>hb (by simp[z])) e;rw[a5V ok (by omega),Array.getElem?_eq_none (by omega)];exact hR
end
end SetW
namespace SetW
open PySem PyProof.Rows
section
variable {prog:Program}{w:World}{A:Around}{E:Value->Shared->Prop}{s:Shared}{it a T:Addr}{f:Value}{i n ep k:Nat}{o:Obj}{es:Array (Int×Value)}{t:SetTable}{ms:List Int}{ps:List Nat}
theorem b4O {Q:Nat->Shared->Prop}{src:Source}(hn:n≠0) (h:∀ i d',i<n->Q i { s with drawn:=d' }):wpAny (model prog w) A (choose src n) Q E s:=
 fun _ _ _=>⟨hn,h _ _ (Nat.mod_lt _ (Nat.pos_of_ne_zero hn))⟩
theorem a8P {α:Type}:∀ (n:Nat) (xs:List α) (s:Shared) (Q:List α->Shared->Prop),xs.length=n->(∀ ys d',ys.Perm xs->Q ys { s with drawn:=d' })->wpAny (model prog w) A (drawOrder n xs) Q E s
 | 0,xs,s,Q,hl,h=>by
  have:xs=[]:=List.length_eq_zero_iff.mp hl
  subst this;unfold drawOrder;exact wpAny_pure (h [] s.drawn .nil)
 | n+1,[],s,Q,hl,h=>by cases hl
 | n+1,x::xs,s,Q,hl,h=>by
  unfold drawOrder;refine wpAny_bind (b4O (by simp) fun i d1 hi=>?_);rw[List.getElem?_eq_getElem hi];dsimp only;refine wpAny_bind (a8P n _ _ _ (by rw[List.length_eraseIdx_of_lt hi];omega) fun ys d2 hp=>?_);refine wpAny_pure ?_;exact h _ d2 ((List.Perm.cons _ hp).trans (a35 (x::xs) hi).symm)
def PlacesAt (h:Heap) (T:Addr) (ps:List Nat):Prop:=∃ o c,h.get? T=some o/\o.data=.seq (ps.map fun (i:Nat)=>rawInt i).toArray c
theorem PlacesAt.at {h h':Heap}(x:PlacesAt h T ps) (k:∀ o,h.get? T=some o->h'.get? T=some o):PlacesAt h' T ps:=let ⟨o,c,g,d⟩:=x;⟨o,c,k _ g,d⟩
theorem a9H {p:Nat}{e:Int×Value}{Q:Option Value->Shared->Prop}(x:SetIt s.heap it a (.ref T) i es.size ep) (S:SO prog w s.heap a es ep t ms) (y:PlacesAt s.heap T ps) (hp:ps[i]?=some p) (he:es[p]?=some e)
  (hQ:∀ h',SetIt h' it a (.ref T) (i+1) es.size ep->Heap.SameBut it s.heap h'->Q (some e.2) { s with heap:=h' }):wpAny (model prog w) A (pyNext (.ref it)) Q E s:=by
 obtain⟨u,hu,hc,hf⟩:=id x;obtain⟨⟨o,ho,hx,hd⟩,hel,hnum,hsc,hfit,hok⟩:=id S;obtain⟨oT,c,gT,dT⟩:=y;unfold pyNext;refine wpAny_bind (wpAny_attempt (wpAny_callSpecial?_slot (name:=Str.ofString "__next__") x.ty sit_next (wpAny_call_entry sit_next x.ty a1v ?_ (a1G _))));unfold Builtin.«set_iterator.__next__»;refine wpAny_bind (m:=slotArgs "__next__" 0 _) (wpAny_pure ?_);refine wpAny_bind (wpAny_fieldsOf hu hf ?_);dsimp only;refine wpAny_bind (wpAny_setEntries_of ho hd hfit ?_);rw[if_neg (by simp)]
 show wpAny _ _ (seqItems? (.ref T) >>= _) _ _ _
 unfold seqItems?;refine wpAny_bind (wpAny_bind (wpAny_load gT ?_));rw[dT];refine wpAny_pure ?_;dsimp only;have hq:(ps.map fun (i:Nat)=>rawInt i).toArray[(i:Int).toNat]?=some (rawInt p):=by
  rw[Int.toNat_natCast,List.getElem?_toArray,List.getElem?_map,hp];rfl
 rw[hq]
 show wpAny _ _ (setNextDrawn a (p:Int).toNat (ep:Int).toNat >>= _) _ _ _
 simp only[Int.toNat_natCast];refine wpAny_bind ?_;unfold setNextDrawn;refine wpAny_bind (wpAny_setState_of ho hd hfit ?_);simp only[bne_self_eq_false,Bool.false_eq_true,↓reduceIte];rw[he];refine wpAny_pure ?_;refine wpAny_bind (wpAny_setField hu hf (by simp) ?_);have g2:=Heap.get?_update_self (Obj.mapFields (·.setIfInBounds 1 (rawInt ((i:Int)+1)))) hu (Obj.isFreed_of_fields (Obj.data_mapFields hf _));have d2:=Obj.data_mapFields hf (·.setIfInBounds 1 (rawInt ((i:Int)+1)));have x2:SetIt (s.heap.update it (Obj.mapFields (·.setIfInBounds 1 (rawInt ((i:Int)+1))))) it a (.ref T) (i+1) es.size ep:=
  ⟨_,g2,(Obj.cls_mapFields ..).trans hc,by rw[d2];simp[rawInt]⟩
 refine wpAny_pure ⟨_,rfl,?_⟩;exact wpAny_pure (hQ _ x2 (Heap.SameBut.update ..))
theorem b1g {Q:Option Value->Shared->Prop}(hh:A.handled=none) (x:SetIt s.heap it a (.ref T) i es.size ep) (S:SO prog w s.heap a es ep t ms) (y:PlacesAt s.heap T ps) (hp:ps[i]?=none)
  (hQ:∀ h',(∀ b o,b≠it->s.heap.get? b=some o->h'.get? b=some o)->Q none { s with heap:=h' }):wpAny (model prog w) A (pyNext (.ref it)) Q E s:=by
 obtain⟨u,hu,hc,hf⟩:=id x;obtain⟨⟨o,ho,hx,hd⟩,hel,hnum,hsc,hfit,hok⟩:=id S;obtain⟨oT,c,gT,dT⟩:=y;unfold pyNext;refine wpAny_bind (wpAny_attempt (wpAny_callSpecial?_slot (name:=Str.ofString "__next__") x.ty sit_next (wpAny_call_entry sit_next x.ty a1v ?_ (a1G _))));unfold Builtin.«set_iterator.__next__»;refine wpAny_bind (m:=slotArgs "__next__" 0 _) (wpAny_pure ?_);refine wpAny_bind (wpAny_fieldsOf hu hf ?_);dsimp only;refine wpAny_bind (wpAny_setEntries_of ho hd hfit ?_);rw[if_neg (by simp)]
 show wpAny _ _ (seqItems? (.ref T) >>= _) _ _ _
 unfold seqItems?;refine wpAny_bind (wpAny_bind (wpAny_load gT ?_));rw[dT];refine wpAny_pure ?_;dsimp only;have hq:(ps.map fun (i:Nat)=>rawInt i).toArray[(i:Int).toNat]?=none:=by
  rw[Int.toNat_natCast,List.getElem?_toArray,List.getElem?_map,hp];rfl
 rw[hq];dsimp only;refine wpAny_bind (wpAny_setField hu hf (by simp) ?_);have g1:=Heap.get?_update_self (Obj.mapFields (·.setIfInBounds 0 (rawInt 0))) hu (Obj.isFreed_of_fields (Obj.data_mapFields hf _));have d1:=Obj.data_mapFields hf (·.setIfInBounds 0 (rawInt 0));refine wpAny_bind (wpAny_setField g1 d1 (by simp) ?_);refine wpAny_mono (a8N (prog:=prog) (w:=w) hh (Q:=Q) (E:=E) fun h' k'=>?_) (fun _ _ z=>z.elim) fun e s' z=>z;have q:=hQ h' fun b o hb e=>k' b o (((Heap.SameBut.update s.heap it _).trans (Heap.SameBut.update _ it _)).extBut b o hb e);exact q
def a7c (es:Array (Int×Value)) (ps:List Nat):List Value:=ps.map fun p=>((es[p]?).getD (0,.none)).2
theorem a9I (hh:A.handled=none) (hne:a≠it) (hnT:T≠it) (hps:ps.Perm (List.range es.size)) :
  Walks prog w A it [it,a,T] [it] es.size (fun i v=>(a7c es ps)[i]?=some v) (fun i h=>SetIt h it a (.ref T) i es.size ep/\SO prog w h a es ep t ms/\PlacesAt h T ps):=by
 have hl:ps.length=es.size:=by rw[hps.length_eq,List.length_range]
 refine⟨fun b hb=>by simp at hb;simp[hb],fun _ _ _ st hk=>⟨st.1.at fun o e=>hk it (by simp) o e,st.2.1.at fun o e=>hk a (by simp) o e,st.2.2.at fun o e=>hk T (by simp) o e⟩,fun i s Q E hi st hQ=>?_,fun s Q E st hQ=>?_,fun _ _ _ _ st hQ=>a6p st.1 hQ⟩
 ·have hi':i<ps.length:=by omega
  have hp:ps[i]<es.size:=List.mem_range.mp (hps.mem_iff.mp (List.getElem_mem hi'));refine a9H (p:=ps[i]) (e:=es[ps[i]]) st.1 st.2.1 st.2.2 (List.getElem?_eq_getElem hi') (Array.getElem?_eq_getElem hp) fun h' x sb=>?_;refine hQ _ h' s.toks ?_ ⟨x,st.2.1.at fun o e=>sb.extBut a o hne e,st.2.2.at fun o e=>sb.extBut T o hnT e⟩ fun b o hb e=>sb.extBut b o (fun z=>hb (by simp[z])) e;unfold a7c;rw[List.getElem?_map,List.getElem?_eq_getElem hi',Option.map_some,Array.getElem?_eq_getElem hp]
  rfl
 ·exact b1g hh st.1 st.2.1 st.2.2 (List.getElem?_eq_none (by omega)) fun h' kp=>hQ h' s.toks fun b o hb e=>kp b o (fun z=>hb (by simp[z])) e
end
end SetW
namespace SetW
open PySem PyProof.Rows
section
variable {prog:Program}{w:World}{A:Around}{E:Value->Shared->Prop}{s:Shared}{it a T:Addr}{f:Value}{i n ep k:Nat}{o:Obj}{es:Array (Int×Value)}{t:SetTable}{ms:List Int}{ps:List Nat}
theorem b1h {α:Type}(d:α) (l:Array α):(List.range l.size).map (fun p=>(l[p]?).getD d)=l.toList:=by
 refine List.ext_getElem (by simp) fun i h1 h2=>?_
 have:i<l.size:=by simpa using h2
 simp[this]
theorem a9J (hps:ps.Perm (List.range es.size)):(a7c es ps).Perm (es.toList.map (·.2)):=by
 have q:=hps.map fun p=>((es[p]?).getD (0,Value.none)).2;refine q.trans (List.Perm.of_eq ?_);rw[<- b1h (0,Value.none) es,List.map_map]
 rfl
theorem SO.ty (S:SO prog w s.heap a es ep t ms):s.TypeIs (.ref a) "set":=let ⟨o,g,x,_⟩:=S.at_;⟨o,g,x.1⟩
theorem SO.len (S:SO prog w s.heap a es ep t ms):es.size=ms.length:=by
 have q:=congrArg List.length S.nums.nums;simpa using q
abbrev b7f (f:Value) (a:Addr) (n ep:Nat):Obj:={ cls:=.type "set_iterator",data:=.fields #[f,.int (0:Nat) 0,.ref a,.int n 0,.int ep 0] }
theorem a5b {h:Heap}{f:Value}:SetIt (h.push (b7f f a n ep)) h.objs.size a f 0 n ep:=⟨_,Heap.get?_push_size _ rfl,rfl,rfl⟩
theorem b2N {Q:Value->Shared->Prop}(hh:A.handled=none) (S:SI prog w s.heap a ms)
  (h:∀ (I:Addr) (fp:List Addr) (g:Heap) (d':Drawn) (vs:List Value) (ns:List Int) (St:Nat->Heap->Prop),(∀ b o,s.heap.get? b=some o->g.get? b=some o)->s.heap.objs.size≤I->(∀ b∈fp,b=a\/s.heap.objs.size≤b) ->
   IntsAre vs ns->ns.Perm ms->Walks prog w A I fp [I] vs.length (fun i v=>vs[i]?=some v) St->St 0 g->Q (.ref I) { s with heap:=g,drawn:=d' }) :
  wpAny (model prog w) A (pyIter (.ref a)) Q E s:=by
 obtain⟨es,ep,t,S⟩:=S;obtain⟨⟨o,ho,hx,hd⟩,hel,hnum,hsc,hfit,hok⟩:=id S;have ha:a<s.heap.objs.size:=Heap.lt_size ho;refine wpAny_pyIter_slot S.ty PySem.F.slot_set_iter (wpAny_call_entry PySem.F.slot_set_iter S.ty a5z ?_ (PySem.F.args_set_iter_1 _));unfold Builtin.«frozenset.__iter__» Builtin.Frozenset.slot0 Builtin.Frozenset.sizeOf;refine wpAny_bind (wpAny_bind (m:=slotArgs "__iter__" 0 _) (wpAny_pure (wpAny_pure ?_)));refine wpAny_bind (wpAny_bind (wpAny_setEntries_of ho hd hfit (wpAny_pure ?_)));unfold setDrawn setsByText;refine wpAny_bind (wpAny_bind (wpAny_setState_of ho hd hfit (wpAny_bind (wpAny_bind (wpAny_askSetting (wpAny_pure ?_))))));dsimp only;refine wpAny_pure ?_
 show wpAny _ _ (if (!byT w&&(!t.plain&&decide (es.size > 1)))=true then _ else _) _ _ _
 have hl:(es.toList.map (·.2)).length=es.size:=by simp
 by_cases c:(!byT w&&(!t.plain&&decide (es.size > 1)))=true
 ·rw[if_pos c];refine wpAny_bind (a8P es.size (List.range es.size) _ _ (by simp) fun ps d' hps=>?_);have hlen:ps.length=es.size:=by rw[hps.length_eq,List.length_range]
  have sb:scanBound≤16777216:=by decide
  refine wpAny_bind (wpAny_newTuple ?_ (by rw[List.length_map,hlen,sizeLine_eq];omega));refine wpAny_bind (wpAny_setEpoch_of (Heap.get?_push_of_some _ ho) hd hfit ?_);unfold newFields;refine wpAny_bind (wpAny_newObj_type (wpAny_pure ⟨_,rfl,"set_iterator",_,⟨_,Heap.get?_push_size _ rfl,rfl⟩,sit_next.lookup,?_⟩));obtain⟨ns,i1,i2⟩:=a1R hnum (a9J (es:=es) hps);have hT:s.heap.objs.size<(s.heap.push { cls:=.type "tuple",data:=.seq (ps.map fun (i:Nat)=>rawInt i).toArray }).objs.size:=by rw[Heap.size_push];exact Nat.lt_succ_self _
  have wk:=a9I (prog:=prog) (w:=w) (A:=A) (t:=t) (ms:=ms) (ep:=ep) (it:=(s.heap.push { cls:=.type "tuple",data:=.seq (ps.map fun (i:Nat)=>rawInt i).toArray }).objs.size) (T:=s.heap.objs.size) (a:=a) hh (Nat.ne_of_lt (Nat.lt_trans ha hT)) (Nat.ne_of_lt hT) hps;have e:(a7c es ps).length=es.size:=by unfold a7c;rw[List.length_map,hlen]
  rw[<- e]at wk;refine h _ _ _ _ _ ns _ (fun b o g=>Heap.get?_push_of_some _ (Heap.get?_push_of_some _ g)) (Nat.le_of_lt hT) (fun b hb=>?_) i1 i2 wk ⟨?_,S.at fun o g=>Heap.get?_push_of_some _ (Heap.get?_push_of_some _ g),⟨_,_,Heap.get?_push_of_some _ (Heap.get?_push_size _ rfl),rfl⟩⟩
  ·simp only[List.mem_cons,List.not_mem_nil,or_false]at hb;rcases hb with rfl | rfl | rfl
   ·exact .inr (Nat.le_of_lt hT)
   ·exact .inl rfl
   ·exact .inr (Nat.le_refl _)
  ·rw[e];exact a5b
 ·rw[if_neg c];refine wpAny_bind (wpAny_pure ?_);refine wpAny_bind (wpAny_setEpoch_of ho hd hfit ?_);unfold newFields;refine wpAny_bind (wpAny_newObj_type (wpAny_pure ⟨_,rfl,"set_iterator",_,⟨_,Heap.get?_push_size _ rfl,rfl⟩,sit_next.lookup,?_⟩));have fpq:∀ b∈[s.heap.objs.size,a],b=a\/s.heap.objs.size≤b:=fun b hb=>by
   simp only[List.mem_cons,List.not_mem_nil,or_false]at hb;rcases hb with rfl | rfl
   ·exact .inr (Nat.le_refl _)
   ·exact .inl rfl
  cases hT:byT w with
  | true=>
   have pp:(b2M w a ep es).Perm (es.toList.map (·.2)):=(a7b _ es).map _;obtain⟨ns,i1,i2⟩:=a1R hnum pp;have wk:=b1f (prog:=prog) (w:=w) (A:=A) (t:=t) (ms:=ms) (ep:=ep) (es:=es) (it:=s.heap.objs.size) (a:=a) hh (Nat.ne_of_lt ha) hT;have e:(b2M w a ep es).length=es.size:=by rw[pp.length_eq,hl]
   rw[<- e]at wk;refine h _ _ _ _ _ ns _ (fun b o g=>Heap.get?_push_of_some _ g) (Nat.le_refl _) fpq i1 i2 wk ⟨?_,S.at fun o g=>Heap.get?_push_of_some _ g⟩;rw[e];exact a5b
  | false=>
   have hp:(!t.plain&&decide (es.size > 1))=false:=by
    rw[hT]at c;simpa using c
   have wk:=a9G (prog:=prog) (w:=w) (A:=A) (t:=t) (ms:=ms) (ep:=ep) (es:=es) (it:=s.heap.objs.size) (a:=a) hh (Nat.ne_of_lt ha) hT hp hfit hok;rw[<- hl]at wk;refine h _ _ _ _ _ ms _ (fun b o g=>Heap.get?_push_of_some _ g) (Nat.le_refl _) fpq hnum (List.Perm.refl _) wk ⟨?_,S.at fun o g=>Heap.get?_push_of_some _ g⟩;rw[hl];exact a5b
end
end SetW
namespace SetW
open PySem PyProof.Rows
section
variable {prog:Program}{w:World}{A:Around}{E:Value->Shared->Prop}{s:Shared}{a:Addr}{ms:List Int}
theorem b2O {Q:Bool->Shared->Prop}(y:s.TypeIs (.ref a) "set") (h:Q false s):wpAny (model prog w) A (Builtin.List.listLengthHint (.ref a)) Q E s:=by
 unfold Builtin.List.listLengthHint;refine wpAny_bind (wpAny_specialOf y PySem.F.slot_set_len.lookup ?_);generalize e0:("set.__len__":String)=z
 wp_delta
 rw[show splitId z=some ("set","__len__") from by subst e0;decide +kernel];subst e0;refine wpAny_bind (wpAny_isInstance (T:="set") (b:=true) y (by rw[isSubtype_type];kernel_rfl) ?_);refine wpAny_ite_split (fun q=>absurd q (by decide)) fun _=>?_;refine wpAny_ite_split (fun _=>?_) fun q=>absurd (by decide +kernel) q;exact wpAny_bind (wpAny_typeOf y (wpAny_pure h))
theorem b2P {vs:List Value}{acc:Array Value}(h:ItemsOf (fun i v=>vs[i]?=some v) acc vs.length):acc.toList=vs:=by
 obtain⟨h1,h2⟩:=h;refine List.ext_getElem (by simpa using h1) fun i q1 q2=>?_;have q3:i<acc.size:=by simpa using q1
 have:vs[i]?=some acc[i]:=h2 i acc[i] (Array.getElem?_eq_getElem q3)
 rw[List.getElem?_eq_getElem q2]at this;simpa using this.symm
theorem a9K {R:Result->Shared->Prop}(hh:A.handled=none) (S:SI prog w s.heap a ms) (L:Addr) (hL:L≠a) (res:Value) (c0:Nat) (gL:s.heap.get? L=some { cls:=.type "list",data:=.seq #[] c0 })
  (hR:∀ g tk d' acc c' ns,(∀ b o,b≠L->s.heap.get? b=some o->g.get? b=some o)->g.get? L=some { cls:=.type "list",dict:=none,data:=.seq acc c',slots:=#[] }->IntsAre acc.toList ns->ns.Perm ms->R (.ok (.ret res)) { s with heap:=g,drawn:=d',toks:=tk }) :
  wpAny (model prog w) A.in1 (Builtin.List.listExtendWith (.ref L) (.ref a) res)
   (fun fin s'=>match fin with | .done f=>R (.ok f) s' | .again c'=>c'.quiet=true/\codeAny (model prog w) A c' R s') (fun e s'=>R (.error e) s') s:=by
 have ty:s.TypeIs (.ref a) "set":=let ⟨_,_,_,S'⟩:=S;S'.ty
 have small:ms.length≤sizeLine:=by
  obtain⟨es,ep,t,S'⟩:=S;have q1:=S'.len;have q2:=S'.sc;have sb:scanBound≤16777216:=by decide
  rw[sizeLine_eq];omega
 have lL:=Heap.lt_size gL;unfold Builtin.List.listExtendWith;refine wpAny_bind (wpAny_typeOf (T:="set") ty ?_);have n1:Builtin.List.listSameRef (.ref L) (.ref a)=false:=by simp[Builtin.List.listSameRef,hL]
 have n2:(Value.type "set"==Value.type "list")=false:=by decide
 have n3:(Value.type "set"==Value.type "tuple")=false:=by decide
 simp only[n1,n2,n3,Bool.or_false,Bool.false_eq_true,if_false];refine wpAny_bind (b2N (A:=A.in1) hh S fun I fp g d' vs ns St kp hI hfp i1 i2 wk st=>?_);have nf:L∉fp:=fun z=>(hfp L z).elim hL fun q=>Nat.lt_irrefl _ (Nat.lt_of_lt_of_le lL q);have hz:vs.length≤sizeLine:=by
  have q:=congrArg List.length i1.nums;rw[List.length_map,i2.length_eq]at q;omega
 have key:∀ (g2:Heap) (c1:Nat),St 0 g2->(∀ b o,b≠L->g.get? b=some o->g2.get? b=some o)->g2.get? L=some { cls:=.type "list",data:=.seq #[] c1 } ->
   codeAny (model prog w) A (.builtin "list.extend.loop" ⟨[.ref L,.ref I,res],[]⟩) R { s with heap:=g2,drawn:=d' }:=by
  intro g2 c1 st2 k2 gL2;refine codeAny_extend_loopS wk.toS hz L nf res vs.length 0 _ #[] c1 rfl (Nat.zero_le _) st2 gL2 (ItemsOf.nil _) fun s3 acc c3 mv g3 hacc=>?_;rw[Moved.eq_with mv];refine hR s3.heap s3.toks d' acc c3 ns (fun b o nb e=>mv.heap b o (fun hm=>?_) (k2 b o nb (kp b o e))) g3 (by rw[b2P hacc];exact i1) i2;rcases List.mem_cons.mp hm with q | q
  ·exact nb q
  ·rw[List.mem_singleton.mp q]at e;exact Nat.lt_irrefl _ (Nat.lt_of_lt_of_le (Heap.lt_size e) hI)
 have gL1:=kp L _ gL;refine wpAny_bind (wpAny_holding (b2O (let ⟨o,e,c⟩:=ty;⟨o,kp _ _ e,c⟩) ?_));refine wpAny_ite_split (fun _=>?_) fun _=>wpAny_pure ⟨plainId_quiet PySem.F.plain_extend_loop _,key _ c0 st (fun b o _ e=>e) gL1⟩;refine wpAny_bind (wpAny_rule (wpAny_bind ?_))
 show wpAny _ _ (updateSeq L (·.push .none) >>= fun _=>updateSeq L (·.pop)) _ _ _
 refine wpAny_bind (wpAny_updateSeq gL1 rfl ?_);have g2:=Heap.get?_update_self (Obj.mapSeq (·.push Value.none)) gL1 rfl;refine wpAny_updateSeq (hz:=by seq_fits) g2 rfl ?_;have g3:=Heap.get?_update_self (Obj.mapSeq (·.pop)) g2 rfl;have oth:∀ b o,b≠L->g.get? b=some o->((g.update L (Obj.mapSeq (·.push Value.none))).update L (Obj.mapSeq (·.pop))).get? b=some o:=fun b o nb e=>
  (Heap.get?_update_other _ _ (Ne.symm nb)).trans ((Heap.get?_update_other _ _ (Ne.symm nb)).trans e)
 exact wpAny_pure ⟨plainId_quiet PySem.F.plain_extend_loop _,key _ _ (wk.frame 0 _ _ st fun b hb o e=>oth b o (fun q=>nf (q▸hb)) e) oth g3⟩
theorem collect_set {R:List Value->Shared->Prop}(hh:A.handled=none) (S:SI prog w s.heap a ms)
  (h:∀ (g:Heap) (tk:Nat) (d':Drawn) (vs:List Value) (ns:List Int),(∀ b o,s.heap.get? b=some o->g.get? b=some o)->IntsAre vs ns->ns.Perm ms->R vs { s with heap:=g,drawn:=d',toks:=tk }) :
  wpAny (model prog w) A (collect (.ref a)) R E s:=by
 have la:a<s.heap.objs.size:=let ⟨_,_,_,S'⟩:=S;let ⟨_,g,_⟩:=S'.at_;Heap.lt_size g
 unfold collect;refine wpAny_bind (wpAny_runValue (codeAny_builtin PySem.F.entry_proto_collect ?_));rw[Around.under_plainId PySem.F.plain_proto_collect _]
 show wpAny _ A.in1 (newList [] >>= fun l=>again (.builtin "list.__iadd__" ⟨[l,.ref a],[]⟩)) _ _ s
 refine wpAny_bind (wpAny_newObj_type (wpAny_pure ⟨plainId_quiet PySem.F.plain_list_iadd _,codeAny_builtin PySem.F.entry_list_iadd ?_⟩));rw[Around.under_plainId PySem.F.plain_list_iadd _];have gL:(s.heap.push { cls:=.type "list",data:=.seq ([]:List Value).toArray }).get? s.heap.objs.size=some { cls:=.type "list",data:=.seq #[] }:=Heap.get?_push_size _ rfl
 show wpAny _ A.in1 (Builtin.List.listExtendWith (.ref s.heap.objs.size) (.ref a) (.ref s.heap.objs.size)) _ _ _
 have key:=a9K (prog:=prog) (w:=w) (A:=A) (s:={ s with heap:=s.heap.push { cls:=.type "list",data:=.seq ([]:List Value).toArray } }) (a:=a) (ms:=ms)
  (R:=fun (q:Result) (s':Shared)=>∃ (g:Heap) (tk:Nat) (d':Drawn) (acc:Array Value) (c':Nat) (ns:List Int),q=.ok (.ret (.ref s.heap.objs.size))/\s'={ s with heap:=g,drawn:=d',toks:=tk } /\
   (∀ b o,s.heap.get? b=some o->g.get? b=some o)/\g.get? s.heap.objs.size=some { cls:=.type "list",dict:=none,data:=.seq acc c',slots:=#[] }/\IntsAre acc.toList ns/\ns.Perm ms)
  hh (S.at fun o e=>Heap.get?_push_of_some _ e) s.heap.objs.size (Nat.ne_of_gt la) (.ref s.heap.objs.size) 0 gL
  fun g tk d' acc c' ns kp g1 i1 i2=>⟨g,tk,d',acc,c',ns,rfl,rfl,fun b o e=>kp b o (Nat.ne_of_lt (Heap.lt_size e)) (Heap.get?_push_of_some _ e),g1,i1,i2⟩
 refine wpAny_mono key (fun fin s' x=>?_) fun e s' x=>?_
 ·cases fin with
  | done f=>
   obtain⟨g,tk,d',acc,c',ns,e,rfl,kp,g1,i1,i2⟩:=x;cases e
   show wpAny _ A (load s.heap.objs.size >>= _) _ _ _
   exact wpAny_bind (wpAny_load g1 (wpAny_pure (h g tk d' _ ns kp i1 i2)))
  | again c1=>
   refine⟨x.1,codeAny_mono x.2 fun q s2 y=>?_⟩;obtain⟨g,tk,d',acc,c',ns,rfl,rfl,kp,g1,i1,i2⟩:=y
   show wpAny _ A (load s.heap.objs.size >>= _) _ _ _
   exact wpAny_bind (wpAny_load g1 (wpAny_pure (h g tk d' _ ns kp i1 i2)))
 ·obtain⟨_,_,_,_,_,_,e',_⟩:=x;cases e'
end
end SetW
namespace L2
open PySem PySem.Spec PyProof.Rows
theorem a4R:∀ {vs:List Value}{ns:List Int},IntsAre vs ns->vs.length=ns.length
 | _,_,.nil=>rfl
 | _,_,.cons n t h=>by rw[List.length_cons,List.length_cons,a4R h]
theorem a5c:∀ {vs:List Value}{ns:List Int},IntsAre vs ns->Vals (ns.map V.int) vs
 | _,_,.nil=>.nil
 | _,_,.cons n t h=>.cons ⟨t,rfl⟩ (a5c h)
theorem b1i:∀ {vs:List Value}{ns:List Int},vs.length=ns.length->(∀ (i:Nat) v,vs[i]?=some v->∃ n t,ns[i]?=some n/\v=.int n t)->IntsAre vs ns
 | [],[],_,_=>.nil
 | [],_::_,h,_=>by simp at h
 | _::_,[],h,_=>by simp at h
 | v::vs,n::ns,h,q=>by
  obtain⟨m,t,e1,e2⟩:=q 0 v rfl;simp at e1;subst e1 e2;exact .cons _ t (b1i (by simpa using h) fun i v e=>by simpa using q (i+1) v (by simpa using e))
section
variable {P:Program}{w:World}{A:Around}{E:Value->Shared->Prop}{s:Shared}
theorem a7d {r:Addr}{ns:List Int}{Q:Value->Shared->Prop}(hmx:ns.length≤1000)
  (hcol:∀ R:List Value->Shared->Prop,(∀ (g:Heap) (tk:Nat) (d:Drawn) (vs:List Value) (ks:List Int),(∀ b o,s.heap.get? b=some o->g.get? b=some o)->IntsAre vs ks->ks.Perm ns->R vs { s with heap:=g,drawn:=d,toks:=tk })->wpAny (model P w) A.in1 (collect (.ref r)) R E s)
  (h:∀ (g g':Heap) (tk:Nat) (d:Drawn) (out:List Value) (n:Nat) (ms:List Int),(∀ b o,s.heap.get? b=some o->g.get? b=some o)->(∀ b o,g.get? b=some o->g'.get? b=some o)->g'.get? g.objs.size=some { cls:=.type "list",data:=.seq out.toArray n } ->
   IntsAre out ms->ms.Perm ns->ms.Pairwise (·≤·)->Q (.ref g.objs.size) { s with heap:=g',drawn:=d,toks:=tk }):wpAny (model P w) A (call (.builtin "sorted") [.ref r]) Q E s:=by
 refine Calls.call_function_entry kind_sorted plain_sorted entry_sorted (args_sorted1 _) ?_;unfold Builtin.«sorted»;refine wpAny_bind (m:=checkCount "sorted" 1 1 _) (wpAny_pure (wpAny_bind (hcol _ fun g tk d vs ks kp hI hP=>?_)));have hl:vs.length=ns.length:=(a4R hI).trans hP.length_eq;have hz:vs.length≤sizeLine:=by rw[sizeLine_eq];omega
 refine wpAny_bind (wpAny_newList ?_ hz);have ho:(g.push (seqObj "list" vs.toArray 0)).get? g.objs.size=some (seqObj "list" vs.toArray 0):=Heap.get?_push_size _ rfl;refine wpAny_bind (wpAny_holding (wpAny_call_entry slot_list_sort ⟨_,ho,rfl⟩ entry_list_sort (Tim.sort_any ho hI (by omega) fun out ms a1 a2 a3=>⟨_,rfl,?_⟩) (args_list_sort _)));have hat:=sortedHeap_at (out:=out) ho;obtain⟨n,hat⟩:=hat;refine wpAny_pure ⟨_,rfl,h g _ tk d out.toList n ms kp (fun b o e=>?_) (by simpa using hat) a1 (a2.trans hP) a3⟩;have hlt:=Heap.lt_size e;rw[sortedHeap_old (Nat.ne_of_lt hlt) (by rw[Heap.size_push];exact Nat.lt_succ_of_lt hlt)];exact Heap.get?_push_of_some _ e
end
section
variable {X:Cx}
theorem Inv.drew {pins:List (Addr×Obj)}{σ:St}{H:Hp}{s:Shared}(I:Inv X pins σ H s) (d:Drawn):Inv X pins σ H { s with drawn:=d }:=
 I.step (h':=s.heap) (g':=s.gens) (t':=s.toks) (d':=d) (ch:=[]) (fun b hb=>nomatch hb) (fun b o _ _ _ e _=>e) (fun b o _ _ _ e _=>⟨o.slots,e⟩) (fun _ _ _ _ n=>n) (fun b o _ e=>⟨o,e⟩) (fun _ _ e=>e) (fun _ _ _ e=>e) (fun b ps e=>⟨#[],by rw[e];simp⟩) (fun m hm=>hm) I.hok I.bare
def b4P (K:Fg):List V->Hp->VK->Prop:=fun xs H Q=>∃ (p:Addr) (ns:List Int),xs=[.ref p]/\(SqL K H p (ns.map V.int)\/∃ kvs:List (Key×V),H p=some (.dK kvs)/\kvs.map (·.1)=ns.map Sum.inl)/\ns.length≤1000 /\
 ∀ (t:Addr) (ms:List Int),H t=none->ms.Perm ns->ms.Pairwise (·≤·)->Q (.ref t) (upd H t (.lst (ms.map V.int)))
theorem a74 (hc:X.calm=true):CallR X (.builtin "sorted") (b4P X.K):=by
 intro pins s σ H xs us Q I r h;obtain⟨p,ns,rfl,hq,hmx,q⟩:=h;obtain⟨u,rfl,rx⟩:=a3d r;cases rx;have hh:X.A.in1.handled=none:=I.ok.hd hc;refine a7d (ns:=ns) hmx (fun R hR=>?_) fun g g' tk d out n ms k1 k2 e a1 a2 a3=>?_
 ·rcases hq with hq | ⟨kvs,hd,hk⟩
  ·obtain⟨its,rv,pl,_⟩:=I.list hq;have hI:=a5M rv;refine collect_list pl.isList ?_ (by rw[a4R hI,sizeLine_eq];omega);refine hR _ s.toks s.drawn its _ (fun b o e=>?_) hI (List.Perm.refl _);have hlt:=Heap.lt_size e;rw[Heap.get?_update_ne _ _ _ _ (Nat.ne_of_lt hlt)];exact Heap.get?_push_of_some _ e
  ·obtain⟨z,lo,vs,rel,dd⟩:=b2n I.hok hd;obtain⟨ep,hat⟩:=dd.dictAt;have hl:vs.length=ns.length:=by rw[<- rel.length,<- List.length_map (f:=(·.1)) (as:=kvs),hk,List.length_map]
   refine PySem.W.kdu_collect (PySem.W.kdl_dict (knd:=a0K X.prog X.w) (kvs:=vs) (ep:=ep) lo) hh hat (by rw[hl,sizeLine_eq];omega) fun g tk acc kp hacc=>?_;refine hR g tk s.drawn acc.toList ns kp (b1i (by rw[Array.length_toList,hacc.1,hl]) fun i v e=>?_) (List.Perm.refl _);obtain⟨k,x,e1,e2⟩:=hacc.2 i v (by rw[<- Array.getElem?_toList];exact e);have hkeys:vs.map (·.1)=ns.map Sum.inl:=by rw[<- rel.keys];exact hk
   have e3:(ns.map Sum.inl)[i]?=some k:=by rw[<- hkeys,List.getElem?_map,e1];rfl
   rw[List.getElem?_map]at e3;cases hn:ns[i]? with
   | none=>rw[hn]at e3;cases e3
   | some n=>
    rw[hn]at e3;cases e3;have e4:Value.isInt n v=true:=e2;cases v with
    | int m t=>exact⟨n,t,rfl,by simp[Value.isInt]at e4;rw[e4]⟩
    | _=>simp[Value.isInt]at e4
 ·have I1:Inv X pins σ H { s with heap:=g,drawn:=d,toks:=tk }:=(I.drew d).kept (t':=tk) k1;exact⟨.ref g.objs.size,_,I1.laid (t':=tk) k2 (Nat.le_refl _) (show ObjOk X.prog X.w _ g' _ (.lst (ms.map V.int)) from ⟨by rw[List.length_map,a2.length_eq,sizeLine_eq];omega,out,n,a5c a1,e⟩),rfl,q _ ms (I1.hok.fresh (Nat.le_refl _)) a2 a3⟩
end
end L2
namespace L2
open PySem PySem.Spec PyProof.Rows
structure Zs where
 it:Addr
 tp:Bool
 l:Addr
def Zs.At (z:Zs) (k:Nat) (h:Heap):Prop:=if z.tp=true then h.IsTupleIter z.it z.l k else h.IsListIter z.it z.l k
def Zs.Has (z:Zs) (h:Heap) (xs:Array Value):Prop:=if z.tp=true then h.IsTuple z.l xs else h.IsList z.l xs
theorem Zs.At.keep {z:Zs}{k:Nat}{h h':Heap}(a:z.At k h) (q:∀ o,h.get? z.it=some o->h'.get? z.it=some o):z.At k h':=by
 unfold Zs.At at a ⊢
 split
 ·next e=>rw[if_pos e]at a;exact a.at q
 ·next e=>rw[if_neg e]at a;exact a.at q
theorem Zs.Has.keep {z:Zs}{h h':Heap}{xs:Array Value}(a:z.Has h xs) (q:∀ o,h.get? z.l=some o->h'.get? z.l=some o):z.Has h' xs:=by
 unfold Zs.Has at a ⊢
 split
 ·next e=>rw[if_pos e]at a;exact let ⟨o,ho,r⟩:=a;⟨o,q o ho,r⟩
 ·next e=>rw[if_neg e]at a;exact let ⟨o,ho,r⟩:=a;⟨o,q o ho,r⟩
theorem Zs.At.obj {z:Zs}{k:Nat}{h:Heap}(a:z.At k h):∃ o,h.get? z.it=some o/\∀ v,o.data≠.cell v:=by
 unfold Zs.At at a
 split at a<;>(obtain⟨o,e,_,d⟩:=a;exact⟨o,e,fun v q=>by rw[d]at q;cases q⟩)
section
variable {P:Program}{w:World}{A:Around}{E:Value->Shared->Prop}{s:Shared}
end
end L2
namespace L2
open PySem PySem.Spec PyProof.Rows
section
variable {P:Program}{w:World}{A:Around}{E:Value->Shared->Prop}{s:Shared}
end
end L2
namespace L2
open PySem PySem.Spec PyProof.Rows
section
variable {X:Cx}{pins:List (Addr×Obj)}{σ:St}{H:Hp}{s:Shared}{h':Heap}
end
def SrcV (K:Fg) (H:Hp) (y:Zs) (xs:List V):Prop:=if y.tp=true then SqT K H y.l xs else SqL K H y.l xs
theorem SrcV.has {X:Cx}{pins:List (Addr×Obj)}{σ:St}{H:Hp}{s:Shared}{y:Zs}{xs:List V}(I:Inv X pins σ H s) (h:SrcV X.K H y xs):∃ its:List Value,Vals xs its/\y.Has s.heap its.toArray:=by
 unfold SrcV at h;unfold Zs.Has
 split at h
 ·next e=>obtain⟨its,r,p,_⟩:=I.tuple h;exact⟨its,r,by rw[if_pos e];exact p⟩
 ·next e=>obtain⟨its,r,p,_⟩:=I.list h;exact⟨its,r,by rw[if_neg e];exact p.isList⟩
theorem SrcV.inj {X:Cx}{pins:List (Addr×Obj)}{σ:St}{H:Hp}{s:Shared}{y:Zs}{xs xs':List V}(I:Inv X pins σ H s) (h:SrcV X.K H y xs) (h':SrcV X.K H y xs'):xs=xs':=by
 unfold SrcV at h h'
 split at h
 ·next e=>rw[if_pos e]at h';exact I.tuple_inj h h'
 ·next e=>rw[if_neg e]at h';exact I.list_inj h h'
end L2
namespace L2
open PySem PySem.Spec PyProof.Rows
def SrcP (K:Fg) (H:Hp) (p:Bool×Addr) (xs:List V):Prop:=if p.1=true then SqT K H p.2 xs else SqL K H p.2 xs
theorem Turn.imp {P:Program}{w:World}{K:Fg}{tg:Expr}{J J':It}{fp:List Addr}{it:Addr}{tn:Nat->Heap->Prop}(t:Turn P w K tg J fp it tn) (g:∀ i H,J'.go i H->J.go i H) (y:∀ i H x H',J'.go i H->J.yld i H x H'->J'.yld i H x H') (s:∀ i H,J'.stop i H->J.stop i H):Turn P w K tg J' fp it tn where
 mem:=t.mem
 obj:=t.obj
 keep:=t.keep
 item:=fun X h1 h2 h3 h4 i pins s σ H E I hf st hg=>wpAny_mono (t.item X h1 h2 h3 h4 i pins s σ H E I hf st (g i H hg)) (fun r s1 ⟨u,e,q⟩=>⟨u,e,wpAny_mono q (fun _ s2 ⟨x,H',a,b,c,d,e⟩=>⟨x,H',a,b,y i H x H' hg c,d,e⟩) fun _ _ z=>z⟩) fun _ _ z=>z
 done:=fun X h1 h2 h3 h4 i pins s' σ H E I hf st hg=>t.done X h1 h2 h3 h4 i pins s' σ H E I hf st (s i H hg)
 self:=t.self
end L2
namespace L2
open PySem PySem.Spec PyProof.Rows
def Itv (K:Fg) (a:Addr) (n:Nat):It:=
 ⟨fun i H=>i<n/\∃ xs,SqL K H a xs/\xs.length=n,fun i H x H'=>H'=H/\∀ xs,SqL K H a xs->xs[n - 1 - i]?=some x,fun i _=>i=n⟩
theorem b2Q {P:Program}{w:World}{K:Fg}{tg:Expr}(a it:Addr) (n:Nat):Turn P w K tg (Itv K a n) [it] it (fun i h=>i≤n/\h.IsRevIter it a ((n:Int) - 1 - (i:Nat))) where
 mem:=by simp
 obj:=fun i h st b hb=>by
  have e:b=it:=by simpa using hb
  subst e;obtain⟨o,e,c,d⟩:=st.2;exact⟨o,e,fun v z=>by rw[d]at z;cases z⟩
 keep:=fun i h h' st k=>⟨st.1,st.2.at fun o e=>k it (by simp) o e⟩
 item:=by
  intro X hP hw hK hc i pins s σ H E I hf st hg;subst hP hw hK;obtain⟨hi,xs,hq,hx⟩:=hg;obtain⟨its,rv,p,hz⟩:=I.list hq;have hx':=List.getElem?_eq_getElem (show n - 1 - i<xs.length by omega);obtain⟨u,hu,ru⟩:=rv.get hx';obtain⟨f0,f1,f2,f3,f4,f5⟩:=hf it (by simp);have st':=st.2;have e1:(n:Int) - 1 - (i:Nat)=((n - 1 - i:Nat):Int):=by omega
  rw[e1]at st';refine wpAny_pyNext_rev_item st' p.isList (x:=u) (by simpa using hu) fun h' s2 sb=>?_;have I1:Inv X pins σ H { s with heap:=h' }:=I.turned (t':=s.toks) (fun b o hb e=>(sb.2 b hb).trans e) f0 f1 f3 f4 f5;obtain⟨o,e,c,d⟩:=id s2;refine⟨u,rfl,a9o (s:={ s with heap:=h' }) e c d (by decide) ⟨xs[n - 1 - i],H,I1,ru,⟨rfl,fun ys hy=>by rw[I.list_inj hy hq];exact hx'⟩,⟨by omega,?_⟩,fun b hb=>(hf b hb).1⟩⟩;have e2:(n:Int) - 1 - ((i+1:Nat):Int)=((n - 1 - i:Nat):Int) - 1:=by omega
  rw[e2];exact s2
 done:=by
  intro X hP hw hK hc i pins s σ H E I hf st hg;subst hP hw hK;obtain⟨f0,f1,f2,f3,f4,f5⟩:=hf it (by simp);have hi:i=n:=hg;have st':=st.2;have e1:(n:Int) - 1 - (i:Nat)=-1:=by omega
  rw[e1]at st';exact wpAny_pyNext_rev_end (I.ok.hd hc) st' fun h' eb=>⟨rfl,I.turned (t':=s.toks) (fun b o hb e=>eb b o hb e) f0 f1 f3 f4 f5⟩
 self:=fun _ _ _ _ _ st h=>wpAny_pyIter_revIter st.2 h
def b9f (K:Fg) (ta:TA):TI:=fun σ H R=>ta σ H fun vs H1=>∃ a xs,vs=[.ref a]/\SqL K H1 a xs/\R (Itv K a xs.length) H1
theorem b7g {X:Cx}{tg e:Expr}{p pos:Pos}{ta:TA}(hg:Gl X "reversed") (hm:X.mg "reversed"=none) (ha:PA X [e] ta)
  (he:starEach [e] X.env=(false,eval e X.env)::starEach [] X.env:=by rfl):PI X tg (.Call (.Name "reversed" p) [e] [] pos) (b9f X.K ta):=by
 intro pins s σ H R I h;refine Call_ (a6L I hg hm boot_reversed (PyProof.Rows.callWith_type1 (thn (ha pos pins s σ H _ I h) fun us s1 ⟨vs,H1,I1,r1,q1⟩=>?_) he rfl));obtain⟨a,xs,rfl,hq,q⟩:=q1;obtain⟨u,rfl,r⟩:=a3d r1;cases r;obtain⟨its,rv,pl,hz⟩:=I1.list hq;have hl:its.toArray.size=xs.length:=by rw[List.size_toArray,rv.length]
 refine call_reversed_list pl.isList ?_;rw[hl];have rit:(s1.heap.push (revObj a ((xs.length:Int) - 1))).IsRevIter s1.heap.objs.size a ((xs.length:Int) - 1 - ((0:Nat):Int)):=⟨_,Heap.get?_push_size _ rfl,rfl,by simp[revObj]⟩;refine wpAny_pyIter_revIter (s:={ s1 with heap:=s1.heap.push (revObj a ((xs.length:Int) - 1)) }) rit ?_;refine⟨s1.heap.objs.size,[s1.heap.objs.size],_,_,H1,rfl,I1.kept (t':=s1.toks) fun b o e=>Heap.get?_push_of_some _ e,b2Q a _ xs.length,⟨Nat.zero_le _,rit⟩,fun b hb=>?_,q⟩;have e:b=s1.heap.objs.size:=by simpa using hb
 subst e;exact I1.fpOk (Nat.le_refl _) (I1.hok.fresh (Nat.le_refl _))
end L2
namespace L2
open PySem PySem.Spec PyProof.Rows
section
variable {X:Cx}
def a9L (x y:Str):Int:=match Builtin.Str.occurrences x y 0 x.length 1 with
 | i::_=>(i:Int)
 | []=>-1
theorem b4Q:MtR X "str.find" (fun x vs H Q=>∃ (z y:Str),x=.str z/\vs=[.str y]/\Q (.int (a9L z y)) H):=by
 intro pins s σ H x xs v us Q I rx rs h;obtain⟨z,y,rfl,rfl,q⟩:=h;obtain⟨t,rfl⟩:=rx;obtain⟨u,rfl,r1⟩:=a3d rs;obtain⟨t',rfl⟩:=r1;exact call_gives PySem.F.slot_str_find (typeIs_str _ _ _) PySem.F.entry_str_find (PySem.F.args_str_find_2 _ _) (gives_str_find z y t t') ⟨.int _,H,I.tok _,⟨_,rfl⟩,q⟩
end
end L2
namespace L3
open PySem PySem.Spec PyProof.Rows L2
section
variable {X:Cx}
def b7h:Z->List Z->Hq->K3->Prop:=fun x xs G R=>match x,xs with
 | .str z,[.str y]=>R (.int (a9L z y)) G
 | _,_=>False
theorem b7i:MtQ X "str.find" b7h:=a7Q b4Q fun x xs H Q hx=>hx.un fun w ws G R rw' rs hg h up=>by
 match w,ws,h with
 | .str z,[.str y],h=>
  rw[a0w]at rw';obtain⟨v,rfl,r⟩:=rs.one;rw[a0w]at r;exact⟨z,y,rw',by rw[r],up _ _ _ _ h (by rw[a0r]) hg (.refl _ _)⟩
theorem b7j {G:Hq}{R:K3}{z y:Str}(h:R (.int (a9L z y)) G):b7h (.str z) [.str y] G R:=h
def putZ (kvs:List (Key×Z)) (k:Key) (v:Z):List (Key×Z):=
 if (kvs.any fun kv=>decide (kv.1=k))=true then kvs.map (fun kv=>if kv.1=k then (kv.1,v) else kv) else kvs++[(k,v)]
theorem b1j {α β:Type}{k:Key}:∀ {kvs:List (Key×α)}{us:List (Key×β)},us.map (·.1)=kvs.map (·.1)->(us.any fun kv=>decide (kv.1=k))=kvs.any fun kv=>decide (kv.1=k)
 | [],[],_=>rfl
 | [],_::_,h=>by simp at h
 | _::_,[],h=>by simp at h
 | p::ps,q::qs,h=>by
  rw[List.map_cons,List.map_cons]at h;injection h with h1 h2
  rw[List.any_cons,List.any_cons,b1j h2,h1]
theorem a8Q {K:Fg}{H:Hp}{k:Key}{w:Z}{v:V}(rv:Rep K H w v) {kvs:List (Key×Z)}{us:List (Key×V)}(hk:us.map (·.1)=kvs.map (·.1)) (hr:Reps K H (kvs.map (·.2)) (us.map (·.2))) :
  (putK us k v).map (·.1)=(putZ kvs k w).map (·.1)/\Reps K H ((putZ kvs k w).map (·.2)) ((putK us k v).map (·.2)):=by
 unfold putK putZ;rw[b1j hk]
 split
 ·have go:∀ {kvs:List (Key×Z)}{us:List (Key×V)},us.map (·.1)=kvs.map (·.1)->Reps K H (kvs.map (·.2)) (us.map (·.2))->((us.map fun kv=>if kv.1=k then (kv.1,v) else kv).map (·.1)=(kvs.map fun kv=>if kv.1=k then (kv.1,w) else kv).map (·.1)/\Reps K H ((kvs.map fun kv=>if kv.1=k then (kv.1,w) else kv).map (·.2)) ((us.map fun kv=>if kv.1=k then (kv.1,v) else kv).map (·.2))):=by
   intro kvs
   induction kvs with
   | nil=>intro us h1 h2;cases us with
    | nil=>exact⟨rfl,.nil⟩
    | cons _ _=>simp at h1
   | cons p ps ih=>
    intro us h1 h2;cases us with
    | nil=>simp at h1
    | cons q qs=>
     rw[List.map_cons,List.map_cons]at h1 h2;injection h1 with h3 h4
     rw[a0q]at h2;obtain⟨a,b,e,r1,r2⟩:=h2;injection e with e1 e2
     subst e1 e2;have i:=ih h4 r2;simp only[List.map_cons]
     by_cases e:p.1=k
     ·rw[if_pos e,if_pos (h3.trans e)];exact⟨by rw[i.1,h3],.cons rv i.2⟩
     ·rw[if_neg e,if_neg (fun z=>e (h3.symm.trans z))];exact⟨by rw[i.1,h3],.cons r1 i.2⟩
  exact go hk hr
 ·rw[List.map_append,List.map_append,hk,List.map_append,List.map_append];exact⟨rfl,hr.append (.cons rv .nil)⟩
def keyZ:Z->Option Key
 | .int i=>some (.inl i)
 | .str x=>some (.inr x)
 | _=>none
def b7k:Z3:=fun o i v G R=>match o with
 | .ref p=>∃ kvs k,G p=some (.dK kvs)/\keyZ i=some k/\kvs.length<sizeLine/\R (put G p (.dK (putZ kvs k v)))
 | _=>False
theorem a4S {K:Fg}{H:Hp}{i:Z}{v:V}{k:Key}(h:keyZ i=some k) (r:Rep K H i v):v=kV k:=by
 cases i with
 | int j=>rw[a0r]at r;cases h;exact r
 | str j=>rw[a0w]at r;cases h;exact r
 | _=>cases h
theorem b2R (hu:X.A.units+66<cLine):PSet X (fun o i v H Q=>∃ a H',o=.ref a/\DPut H a i v H'/\Q H'):=by
 intro pins s σ H o i v ov iv u Q I ro ri rv h;obtain⟨a,H',rfl,g,q⟩:=h;cases (show ov=Value.ref a from ro);exact b0A (by omega) I g ri rv fun s' I'=>⟨H',I',q⟩
theorem b1k {α β:Type}{kvs:List (Key×α)}{us:List (Key×β)}(h:us.map (·.1)=kvs.map (·.1)):us.length=kvs.length:=by
 rw[<- List.length_map (f:=(·.1)) (as:=us),h,List.length_map]
theorem b7l (hu:X.A.units+66<cLine):SetQ X b7k:=b3A (b2R hu) fun o i v H Q hx=>hx.un fun a b w G R ra rb rw' hg h up=>by
 cases a with
 | ref p=>
  rw[a0m]at ra;obtain⟨kvs,k,e,hk,hz,h⟩:=h;obtain⟨us,e',hn,rs⟩:=hg _ _ e;have hp:=a8Q (k:=k) rw' hn rs;refine⟨p,_,ra,?_,up _ _ h (hg.set (o:=.dK (putZ kvs k w)) (.dK e') ⟨_,a0C,hp.1,hp.2.mono (.dK e')⟩) (.dK e')⟩;rw[a4S hk rb];exact DPut.k e' (by rw[b1k hn];exact hz)
 | _=>exact False.elim h
theorem b7m {p:Addr}{kvs:List (Key×Z)}{k:Key}{i w:Z}{G:Hq}{Rg:Hq->Prop}(e:G p=some (.dK kvs)) (a:keyZ i=some k) (z:kvs.length<sizeLine) (h:Rg (put G p (.dK (putZ kvs k w)))):b7k (.ref p) i w G Rg:=⟨kvs,k,e,a,z,h⟩
def b4R:List Z->Hq->K3->Prop:=fun xs G R=>match xs with
 | [.ref p]=>∃ ns:List Int,(G p=some (.lst (ns.map Z.int))\/∃ kvs,G p=some (.dK kvs)/\kvs.map (·.1)=ns.map Sum.inl)/\ns.length≤1000/\∀ (t:Addr) (ms:List Int),G t=none->ms.Perm ns->ms.Pairwise (·≤·)->R (.ref t) (put G t (.lst (ms.map Z.int)))
 | _=>False
theorem b_sorted (hc:X.calm=true):a3h X (.builtin "sorted") b4R:=a1H (a74 hc) fun xs H Q hx=>hx.un fun ws G R rs hg h up=>by
 match ws,h with
 | [.ref p],h=>
  obtain⟨v,rfl,r⟩:=rs.one;rw[a0m]at r;obtain⟨ns,hq,hmx,h⟩:=h;refine⟨p,ns,by rw[r],?_,hmx,fun t ms ht a2 a3=>up _ _ _ _ (h t ms (hg.out ht) a2 a3) (by rw[a0m]) (hg.set (.new ht) (a1e (a2a _) (.new ht))) (.new ht)⟩;rcases hq with hq | ⟨kvs,hq,hk⟩
  ·obtain⟨vs,e',rs'⟩:=hg _ _ hq
   have:=a43 rs'
   subst this;exact .inl (SqL.of e')
  ·obtain⟨us,e',hn,_⟩:=hg _ _ hq;exact .inr ⟨us,e',hn.trans hk⟩
variable {tg:Expr}{t:A3}
def iRev (t:A3):I3:=fun σ G R=>t σ G fun ws G1=>∃ a xs,ws=[.ref a]/\G1 a=some (.lst xs)/\R xs.reverse (fun G=>G a=some (.lst xs)) G1
theorem b1l {K:Fg}{a:Addr}{ws:List Z}{H0:Hp}:a6i K ws.reverse (fun G=>G a=some (.lst ws)) (Itv K a ws.length) H0:=fun i G H hg t ok hi=>by
 obtain⟨vs,e,rs⟩:=hg a _ ok;rw[List.length_reverse]at hi ⊢;refine⟨fun h=>h,fun w hw=>?_⟩;have hlt:i<ws.length:=by
  have:=(List.getElem?_eq_some_iff.mp hw).1
  rwa [List.length_reverse]at this
 rw[List.getElem?_reverse hlt]at hw;obtain⟨v,ev,rv⟩:=rs.get hw;refine⟨⟨hlt,vs,SqL.of e,rs.length.symm⟩,?_⟩;rintro x H' ⟨rfl,y⟩
 have:=y vs (SqL.of e)
 rw[ev]at this;cases this;exact⟨rv,hg,.refl _ _⟩
theorem a75 {e:Expr}{p pos:Pos}(hg:Gl X "reversed") (hm:X.mg "reversed"=none) (ha:QA X [e] t)
  (he:starEach [e] X.env=(false,eval e X.env)::starEach [] X.env:=by rfl):QI X tg (.Call (.Name "reversed" p) [e] [] pos) (iRev t):=a9z (b7g hg hm ha.p he) fun τ H R2 hx=>hx.un fun σ G R hs hg h up=>by
 refine⟨σ,G,_,hs,hg,h,fun ws G1 vs H1 ⟨a,xs,e,ea,h1⟩ rv hg1 t1=>?_⟩;subst e;obtain⟨v,rfl,r⟩:=rv.one;rw[a0m]at r;subst r;obtain⟨us,e',rs⟩:=hg1 a _ ea;exact⟨a,us,rfl,SqL.of e',by rw[<- rs.length];exact up _ _ _ _ _ h1 b1l hg1 t1⟩
theorem SrcP.uniq {K:Fg}{H:Hp}{p:Bool×Addr}{xs ys:List V}(h:SrcP K H p xs) (g:(if p.1=true then H p.2=some (.tup ys) else H p.2=some (.lst ys))):SrcP K H p ys:=by
 unfold SrcP
 split
 ·next e=>rw[if_pos e]at g;exact SqT.of g
 ·next e=>rw[if_neg e]at g;exact SqL.of g
theorem b7n {σ:S3}{G:Hq}{Ri:List Z->(Hq->Prop)->Hq->Prop}(h:t σ G fun ws G1=>∃ a xs,ws=[.ref a]/\G1 a=some (.lst xs)/\Ri xs.reverse (fun G=>G a=some (.lst xs)) G1):iRev t σ G Ri:=h
end
end L3
namespace L3
open PySem PySem.Spec PyProof.Rows L2
def putQ (f:Str) (y:Z):List (Str×Z)->List (Str×Z)
 | []=>[(f,y)]
 | (g,x)::r=>if g=f then (g,y)::r else (g,x)::putQ f y r
section
variable {K:Fg}{H:Hp}
theorem a3F {f:Str}:∀ {fs:List (Str×Z)}{gs:List (Str×V)},gs.map (·.1)=fs.map (·.1)->Reps K H (fs.map (·.2)) (gs.map (·.2))->(fs.lookup f=none->gs.lookup f=none)/\∀ z,fs.lookup f=some z->∃ v,gs.lookup f=some v/\Rep K H z v
 | [],[],_,_=>⟨fun _=>rfl,fun _ h=>by cases h⟩
 | [],_::_,h,_=>by simp at h
 | _::_,[],h,_=>by simp at h
 | (k,x)::fs,(k',v)::gs,h,r=>by
  simp only[List.map_cons,List.cons.injEq]at h;obtain⟨rfl,h⟩:=h;simp only[List.map_cons]at r;rw[a0q]at r;obtain⟨v',r',e,r1,r2⟩:=r;obtain⟨rfl,rfl⟩:=List.cons.inj e;have ih:=a3F (f:=f) h r2;rw[List.lookup_cons,List.lookup_cons];cases c:f==k' with
  | true=>
   refine⟨fun e=>?_,fun z e=>?_⟩
   ·cases e
   ·cases e;exact⟨v,rfl,r1⟩
  | false=>exact ih
theorem a76 {f:Str}{y:Z}{u:V}(ry:Rep K H y u):∀ {fs:List (Str×Z)}{gs:List (Str×V)},gs.map (·.1)=fs.map (·.1)->Reps K H (fs.map (·.2)) (gs.map (·.2))->(putF f u gs).map (·.1)=(putQ f y fs).map (·.1)/\Reps K H ((putQ f y fs).map (·.2)) ((putF f u gs).map (·.2))
 | [],[],_,_=>⟨rfl,by show Reps K H [y] [u];rw[a0q];exact⟨u,[],rfl,ry,by rw[a0A]⟩⟩
 | [],_::_,h,_=>by simp at h
 | _::_,[],h,_=>by simp at h
 | (k,x)::fs,(k',v)::gs,h,r=>by
  simp only[List.map_cons,List.cons.injEq]at h;obtain⟨rfl,h⟩:=h;simp only[List.map_cons]at r;rw[a0q]at r;obtain⟨v',r',e,r1,r2⟩:=r;obtain⟨rfl,rfl⟩:=List.cons.inj e;have ih:=a76 (f:=f) ry h r2;unfold putQ putF
  by_cases c:k'=f
  ·rw[if_pos c,if_pos c];exact⟨by simp[h],by show Reps K H (y::fs.map (·.2)) (u::gs.map (·.2));rw[a0q];exact⟨u,_,rfl,ry,r2⟩⟩
  ·rw[if_neg c,if_neg c];exact⟨by simp[ih.1],by show Reps K H (x::(putQ f y fs).map (·.2)) (v::(putF f u gs).map (·.2));rw[a0q];exact⟨v,_,rfl,r1,ih.2⟩⟩
end
section
variable {X:Cx}{C f:Addr}{fd:FuncData}{ps:List Str}{sp:P3}{k:Nat}{a m x:Str}{p pos pos' tpos apos:Pos}{e o value:Expr}{es:List Expr}{te to:E3}{t:A3}
def uFld (C:Addr) (te:E3) (a:Str):E3:=fun σ G R=>te σ G fun x G1=>∃ q dx fs v,x=.ref q/\G1 q=some (.ins C dx fs)/\fs.lookup a=some v/\R v G1
theorem a77 (hc:Cls X.K C) (hn:NoAttr X.K C a) (he:QE X e te) (hb:attributeBase e a X.env (eval e X.env)=eval e X.env:=by rfl):QE X (.Attribute e a pos) (uFld C te a):=⟨a1w (b50 he.p hb) fun τ H Q hx=>hx.un fun σ G R hs hg h up=>
 ⟨σ,G,_,hs,hg,h,fun w G1 v H1 ⟨q,dx,fs,z,ew,ea,el,hq⟩ rv hg1 t1=>by
  subst ew;rw[a0m]at rv;obtain⟨gs,e1,e2,e3⟩:=hg1 _ _ ea;obtain⟨v',l',r'⟩:=(a3F e2 e3).2 _ el;exact⟨q,C,dx,gs,v',rv,e1,hc,hn,l',up _ _ _ _ hq r' hg1 t1⟩⟩⟩
def b1m (C:Addr) (to te:E3) (a:Str):X3:=fun nx _ _ _ σ G=>te σ G fun y G1=>to σ G1 fun x G2=>∃ q dx fs,x=.ref q/\G2 q=some (.ins C dx fs)/\fs.length<1000/\nx σ (put G2 q (.ins C dx (putQ a y fs)))
theorem b7o (hc:Cls X.K C) (hn:NoAttr X.K C a) (ho:QE X o to) (hv:QE X value te) (hs:swapsWith value (some (.Attribute o a pos')) pos.line X.env=pure false:=by rfl):QS X (.Assign [.Attribute o a pos'] value pos) (b1m C to te a):=⟨a30 (b51 ho.p hv.p hs) fun D τ H hx=>hx.un fun σ G nx rt bk ct hs hg h u1 u2 u3 u4=>
 ⟨σ,G,_,hs,hg,h,fun y G1 u H1 h1 ry hg1 t1=>⟨σ,G1,_,hs.mono t1,hg1,h1,fun w G2 v H2 ⟨q,dx,fs,ew,ea,hl,hq⟩ rv hg2 t2=>by
  subst ew;rw[a0m]at rv;obtain⟨gs,e1,e2,e3⟩:=hg2 _ _ ea;have tk:TK X.K H2 (L2.upd H2 q (.ins C dx (putF a u gs))):=.ins e1;have pq:=a76 (f:=a) (ry.mono t2) e2 e3;exact⟨q,C,dx,gs,rv,e1,hc,hn,by have:=congrArg List.length e2;simp at this;omega,u1 _ _ _ _ hq (hs.mono ((t1.trans t2).trans tk)) (hg2.set tk ⟨_,a0C,pq.1,pq.2.mono tk⟩) ((t1.trans t2).trans tk)⟩⟩⟩⟩
def b1n (C:Addr) (to te:E3) (r:R3) (a:Str):X3:=fun nx _ _ _ σ G=>to σ G fun x G1=>∃ q dx fs v,x=.ref q/\G1 q=some (.ins C dx fs)/\fs.lookup a=some v/\te σ G1 fun y G2=>r v y G2 fun z G3=>∃ dx' fs',G3 q=some (.ins C dx' fs')/\fs'.length<1000/\nx σ (put G3 q (.ins C dx' (putQ a z fs')))
theorem b2S {op:Operator}{r:R3}(hc:Cls X.K C) (hn:NoAttr X.K C a) (ho:QE X o to) (hv:QE X value te) (hop:OpQ X (inplaceOp op) r):QS X (.AugAssign (.Attribute o a tpos) op value pos) (b1n C to te r a):=⟨a30 (b0m ho.p hv.p hop) fun D τ H hx=>hx.un fun σ G nx rt bk ct hs hg h u1 u2 u3 u4=>
 ⟨σ,G,_,hs,hg,h,fun w G1 v H1 ⟨q,dx,fs,z,ew,ea,el,hq⟩ rv hg1 t1=>by
  subst ew;rw[a0m]at rv;obtain⟨gs,e1,e2,e3⟩:=hg1 _ _ ea;obtain⟨v',l',r'⟩:=(a3F e2 e3).2 _ el;refine⟨q,C,dx,gs,v',rv,e1,hc,hn,l',σ,G1,_,hs.mono t1,hg1,hq,fun y G2 u H2 h2 ry hg2 t2=>⟨z,y,G2,_,r'.mono t2,ry,hg2,h2,fun z2 G3 v3 H3 ⟨dx',fs',ea',hl,hq'⟩ rz hg3 t3=>?_⟩⟩;obtain⟨gs',e1',e2',e3'⟩:=hg3 _ _ ea';have tk:TK X.K H3 (L2.upd H3 q (.ins C dx' (putF a v3 gs'))):=.ins e1';have pq:=a76 (f:=a) rz e2' e3';have tt:=((t1.trans t2).trans t3).trans tk;exact⟨dx',gs',e1',by have:=congrArg List.length e2';simp at this;omega,u1 _ _ _ _ hq' (hs.mono tt) (hg3.set tk ⟨_,a0C,pq.1,pq.2.mono tk⟩) tt⟩⟩⟩
def b4S (C:Addr) (m:Str) (sp:P3) (to:E3) (t:A3):E3:=fun σ G R=>to σ G fun x G1=>∃ q dx fs,x=.ref q/\G1 q=some (.ins C dx fs)/\fs.lookup m=none/\t σ G1 fun ws G2=>sp (.ref q::ws) G2 R
theorem b2T {τ:L2.St}{H:Hp}{Q:VK}{E:XK}{o':TE}{t':TA}(h:low X.K (b4S C m sp to t) τ H Q) (h1:o'=low X.K to) (h2:t'=lowA X.K t):b54 C m (lowP X.K sp) [] E o' t' τ H Q:=by
 subst h1 h2;obtain⟨σ,G,R,hs,hg,h,up⟩:=h;refine⟨σ,G,_,hs,hg,h,fun w G1 v H1 ⟨q,dx,fs,ew,ea,el,hq⟩ rv hg1 t1=>?_⟩;subst ew;rw[a0m]at rv;obtain⟨gs,e1,e2,e3⟩:=hg1 _ _ ea;refine⟨q,dx,gs,rv,e1,(a3F e2 e3).1 el,σ,G1,_,hs.mono t1,hg1,hq,fun ws G2 vs H2 h2 rs hg2 t2=>?_⟩;exact⟨.ref q::ws,G2,R,by rw[List.append_nil,a0q];exact⟨v,vs,rfl,by rw[a0m];exact rv,rs⟩,hg2,h2,up.mono (t1.trans t2)⟩
theorem a5W {pl:Sem Bool}(ho:QE X o to) (c:Cls X.K C) (hm:Meth X.K C m f) (F:FnOk X.prog X.w X.K X.mg X.base CX0 k f fd ps (lowP X.K sp)) (hr:Room k X.A) (hb:Binds X.K fd ps []) (ha:QA X (e::es) t)
  (hst:starEach (e::es) X.env=(false,eval e X.env)::starEach es X.env:=by rfl) (hpl:(backTo pos (starEach es X.env)).any (·.1)=false:=by rfl)
  (ht:eval (.Call (.Attribute o m apos) (e::es) [] pos) X.env=(do
   let ov <- eval o X.env
   standAt apos.atName
   let (f,first) <- holding [ov] (getMethod ov m pl)
   callWith pos f first (backTo pos (starEach (e::es) X.env)) (backToKw pos (keywordEach [] X.env))):=by rfl):QE X (.Call (.Attribute o m apos) (e::es) [] pos) (b4S C m sp to t):=
 ⟨a1w (b0q ho.p c hm F hr hb .nil b4s ha.p hst hpl ht) fun _ _ _ h=>b2T h rfl rfl⟩
def b7p (C:Addr) (sp:P3) (t:A3):E3:=fun σ G R=>t σ G fun ws G1=>∀ q dx,G1 q=none->sp (.ref q::ws) (put G1 q (.ins C dx [])) fun v G2=>v=.non/\R (.ref q) G2
theorem made {G1:Hq}{H1:Hp}{E:XK}{R:K3}{Q:VK}{ws:List Z}{vs:List V}(h1:∀ q dx,G1 q=none->sp (.ref q::ws) (put G1 q (.ins C dx [])) fun v G2=>v=.non/\R (.ref q) G2) (rs:Reps X.K H1 ws vs) (hg1:RH X.K G1 H1) (up:UpV X.K H1 R Q) (q dx:Addr) (n1:H1 q=none) (n2:H1 dx=none) (ne:dx≠q) :
  lowP X.K sp (.ref q::(vs++[])) (L2.upd (L2.upd H1 dx (.own q)) q (.ins C dx [])) (fun v H2=>v=.non/\Q (.ref q) H2) E:=by
 have n1':L2.upd H1 dx (.own q) q=none:=by rw[a0L (Ne.symm ne)];exact n1
 have tk:TK X.K H1 (L2.upd (L2.upd H1 dx (.own q)) q (.ins C dx [])):=(TK.new n2).trans (TK.new n1');refine⟨.ref q::ws,put G1 q (.ins C dx []),_,?_,?_,h1 q dx (hg1.out n1),?_⟩
 ·rw[List.append_nil,a0q];exact⟨_,vs,rfl,by rw[a0m],rs.mono tk⟩
 ·exact (hg1.hid n2).set (TK.new n1') ⟨[],a0C,rfl,by rw[List.map_nil,a0A];rfl⟩
 ·rintro w G2 v H2 ⟨ew,hq⟩ rv hg2 t2;subst ew;rw[a1b]at rv;exact⟨rv,up _ _ _ _ hq (by rw[a0m]) hg2 (tk.trans t2)⟩
theorem b4T (M:Mk X.K C f) (F:FnOk X.prog X.w X.K X.mg X.base CX0 k f fd ps (lowP X.K sp)) (hr:Room (k+1) X.A) (hg:Gl X x) (hm:X.mg x=some (.ref C)) (hb:Binds X.K fd ps [])
  (hdb:(x==("__debug__":Str))=false:=by decide):QE X (.Call (.Name x p) [] [] pos) (b7p C sp uNil):=
 ⟨a1w (b2g M F hr hg hm hb .nil b4s hdb) fun τ H Q ⟨σ,G,R,hs,hg,h,up⟩ q dx n1 n2 ne=>made (vs:=[]) h (by rw[a0A]) hg up q dx n1 n2 ne⟩
variable {σ:S3}{G:Hq}{R:K3}{nx bk ct:C3}{rt:K3}{q dx:Addr}{fs:List (Str×Z)}{v:Z}{Ra:List Z->Hq->Prop}
theorem b7q (h:te σ G fun x G1=>∃ q dx fs v,x=.ref q/\G1 q=some (.ins C dx fs)/\fs.lookup a=some v/\R v G1):uFld C te a σ G R:=h
theorem b7r (h:te σ G fun y G1=>to σ G1 fun x G2=>∃ q dx fs,x=.ref q/\G2 q=some (.ins C dx fs)/\fs.length<1000/\nx σ (put G2 q (.ins C dx (putQ a y fs)))):b1m C to te a nx rt bk ct σ G:=h
theorem b4U (h:to σ G fun x G1=>∃ q dx fs,x=.ref q/\G1 q=some (.ins C dx fs)/\fs.lookup m=none/\t σ G1 fun ws G2=>sp (.ref q::ws) G2 R):b4S C m sp to t σ G R:=h
theorem b4V (h:t σ G fun ws G1=>∀ q dx,G1 q=none->sp (.ref q::ws) (put G1 q (.ins C dx [])) fun v G2=>v=.non/\R (.ref q) G2):b7p C sp t σ G R:=h
theorem b7s {r:R3}(h:to σ G fun x G1=>∃ q dx fs v,x=.ref q/\G1 q=some (.ins C dx fs)/\fs.lookup a=some v/\te σ G1 fun y G2=>r v y G2 fun z G3=>∃ dx' fs',G3 q=some (.ins C dx' fs')/\fs'.length<1000/\nx σ (put G3 q (.ins C dx' (putQ a z fs')))):b1n C to te r a nx rt bk ct σ G:=h
end
end L3
namespace L2
open PySem PySem.Spec PyProof.Rows
section
variable {X:Cx}{pins:List (Addr×Obj)}{σ:St}{H:Hp}{s:Shared}{a:Addr}{kvs:List (Key×V)}{k:Key}{d:V}{u r:Value}{A:Around}{E:Value->Shared->Prop}
theorem b7t {Q:Value->Shared->Prop}(I:Inv X pins σ H s) (e:H a=some (.dK kvs)) (ry:RelV (kV k) u) (rd:RelV d r) (hz:kvs.length<sizeLine)
  (h1:∀ v w' s',valV kvs k=some v->Inv X pins σ H s'->RelV v w'->Q w' s') (h2:valV kvs k=none->∀ s',Inv X pins σ (upd H a (.dK (putK kvs k d))) s'->Q r s') :
  wpAny (model X.prog X.w) A (call (.builtin "dict.setdefault") [.ref a,u,r]) Q E s:=by
 obtain⟨z,hd,vs,rel,dd⟩:=b2n I.hok e;have hl:(putK kvs k d).length≤sizeLine:=by have:=a3f kvs k d;omega
 refine call_meetsIn PySem.F.slot_dict_setdefault dd.typeIs PySem.F.entry_dict_setdefault (PySem.F.args_dict_setdefault_3 _ _ _) (kt_meets_setdefault (a0K X.prog X.w) a (b0y ry) hd r) ⟨vs,dd,by rw[<- rel.length];exact z,fun w' hw=>?_,fun hn h' dd' hs=>?_⟩
 ·cases hv:valV kvs k with
  | none=>
   have:=(rel.val k).isSome_eq
   rw[hv,hw]at this;cases this
  | some v=>
   have rv:=rel.val k;rw[hv,hw]at rv;exact h1 v w' _ hv (I.tok _) rv
 ·have hn':valV kvs k=none:=by
   have:=(rel.val k).isSome_eq
   rw[hn]at this;cases hv:valV kvs k with
   | none=>rfl
   | some v=>rw[hv]at this;cases this
  have he:∃ q,h'.get? a=some q:=let ⟨q,_,_,hq,_⟩:=dd';⟨q,hq⟩
  exact h2 hn' _ (a7P I (by rw[e];exact True.intro) hs he (b3w hl hd (rel.put k rd) dd'))
end
section
variable {X:Cx}
theorem b4W (hu:X.A.units+66<cLine):MtR X "dict.get" (fun x vs H Q=>∃ a y d o,x=.ref a/\vs=[y,d]/\DGet H a y o/\Q (o.getD d) H):=by
 intro pins s σ H x vs v us Q I rx rv ⟨a,y,d,o,ex,ev,g,q⟩;subst ex ev;cases rx;obtain⟨u,r,rfl,ru,rr⟩:=b0h rv;exact b6i (by omega) I g ru rr fun w' s' I' rw'=>⟨_,H,I',rw',q⟩
theorem b4X:MtR X "dict.setdefault" (fun x vs H Q=>∃ a kvs k d,x=.ref a/\vs=[kV k,d]/\H a=some (.dK kvs)/\kvs.length<sizeLine/\(∀ v,valV kvs k=some v->Q v H)/\(valV kvs k=none->Q d (upd H a (.dK (putK kvs k d))))):=by
 intro pins s σ H x vs v us Q I rx rv ⟨a,kvs,k,d,ex,ev,e,hz,h1,h2⟩;subst ex ev;cases rx;obtain⟨u,r,rfl,ru,rr⟩:=b0h rv;exact b7t I e ru rr hz (fun v w' s' hv I' rw'=>⟨v,H,I',rw',h1 v hv⟩) fun hn s' I'=>⟨d,_,I',rr,h2 hn⟩
theorem b4Y:IxR X (fun x y H Q=>∃ a kvs k v,x=.ref a/\y=kV k/\H a=some (.dK kvs)/\valV kvs k=some v/\Q v H):=by
 intro value slice pins s σ H x y v u Q I rx ry ⟨a,kvs,k,w,ex,ey,e,l,q⟩ hs;subst ex ey;cases rx;obtain⟨z,hd,vs,rel,dd⟩:=b2n I.hok e;obtain⟨w',hw,rw'⟩:=RelO.some_of (v:=w) (o:=valueAt vs k) (by rw[<- l];exact rel.val k);exact subscriptTail_builtinR (x:=w') dd.typeIs PySem.F.slot_dict_getitem.lookup (wpAny_getItem_of (Q:=fun r s'=>r=w'/\EP X pins σ Q r s') (b0y ry) dd.mapOf hw ⟨rfl,w,H,I.tok _,rw',q⟩) hs
end
end L2
namespace L3
open PySem PySem.Spec PyProof.Rows L2
def valZ (kvs:List (Key×Z)) (k:Key):Option Z:=(kvs.find? fun kv=>decide (kv.1=k)).map (·.2)
theorem a2v {K:Fg}{H:Hp}{k:Key}:∀ {kvs:List (Key×Z)}{us:List (Key×V)},us.map (·.1)=kvs.map (·.1)->Reps K H (kvs.map (·.2)) (us.map (·.2))->(valZ kvs k=none->valV us k=none)/\∀ z,valZ kvs k=some z->∃ v,valV us k=some v/\Rep K H z v
 | [],[],_,_=>⟨fun _=>rfl,fun _ h=>by cases h⟩
 | [],_::_,h,_=>by simp at h
 | _::_,[],h,_=>by simp at h
 | (c,x)::fs,(c',v)::gs,h,r=>by
  simp only[List.map_cons,List.cons.injEq]at h;obtain⟨rfl,h⟩:=h;simp only[List.map_cons]at r;rw[a0q]at r;obtain⟨v',r',e,r1,r2⟩:=r;obtain⟨rfl,rfl⟩:=List.cons.inj e;have ih:=a2v (k:=k) h r2;unfold valZ valV;rw[List.find?_cons,List.find?_cons];cases q:decide (c'=k) with
  | true=>
   refine⟨fun e=>?_,fun z e=>?_⟩
   ·cases e
   ·cases e;exact⟨v,rfl,r1⟩
  | false=>exact ih
section
variable {X:Cx}
def b7u:Z->List Z->Hq->K3->Prop:=fun x xs G R=>match x,xs with
 | .ref p,[y,d]=>∃ kvs k,(G p=some (.dK kvs)\/G p=some (.dF kvs))/\keyZ y=some k/\R ((valZ kvs k).getD d) G
 | _,_=>False
theorem b7v (hu:X.A.units+66<cLine):MtQ X "dict.get" b7u:=a7Q (b4W hu) fun x xs H Q hx=>hx.un fun w ws G R rw' rs hg h up=>by
 match w,ws,h with
 | .ref p,[y,d],h=>
  rw[a0m]at rw';obtain⟨v,v',rfl,r1,r2⟩:=rs.two;obtain⟨kvs,k,e,hk,h⟩:=h;obtain⟨us,e',hn,rr⟩:∃ us,Rd H p (.dK us)/\us.map (·.1)=kvs.map (·.1)/\Reps X.K H (kvs.map (·.2)) (us.map (·.2)):=by
   rcases e with e | e
   ·obtain⟨us,e',hn,rr⟩:=hg _ _ e;exact⟨us,.inl e',hn,rr⟩
   ·obtain⟨ob,us,e',hn,rr⟩:=hg _ _ e;exact⟨us,.inr ⟨ob,e'⟩,hn,rr⟩
  refine⟨p,v,v',valV us k,rw',rfl,by rw[a4S hk r1];exact .inl ⟨us,k,e',rfl,rfl⟩,?_⟩;cases hz:valZ kvs k with
  | none=>
   rw[hz]at h;rw[(a2v hn rr).1 hz];exact up _ _ _ _ h r2 hg (.refl _ _)
  | some z=>
   rw[hz]at h;obtain⟨u,e1,e2⟩:=(a2v hn rr).2 z hz;rw[e1];exact up _ _ _ _ h e2 hg (.refl _ _)
def b7w:Z->List Z->Hq->K3->Prop:=fun x xs G R=>match x,xs with
 | .ref p,[y,d]=>∃ kvs k,G p=some (.dK kvs)/\keyZ y=some k/\kvs.length<sizeLine/\(∀ z,valZ kvs k=some z->R z G)/\(valZ kvs k=none->R d (put G p (.dK (putZ kvs k d))))
 | _,_=>False
theorem a7e:MtQ X "dict.setdefault" b7w:=a7Q b4X fun x xs H Q hx=>hx.un fun w ws G R rw' rs hg h up=>by
 match w,ws,h with
 | .ref p,[y,d],h=>
  rw[a0m]at rw';obtain⟨v,v',rfl,r1,r2⟩:=rs.two;obtain⟨kvs,k,e,hk,hz,h1,h2⟩:=h;obtain⟨us,e',hn,rr⟩:=hg _ _ e;refine⟨p,us,k,v',rw',by rw[a4S hk r1],e',by rw[b1k hn];exact hz,fun u hu=>?_,fun hu=>?_⟩
  ·cases hq:valZ kvs k with
   | none=>rw[(a2v hn rr).1 hq]at hu;cases hu
   | some z=>
    obtain⟨u',e1,e2⟩:=(a2v hn rr).2 z hq;rw[e1]at hu;cases hu;exact up _ _ _ _ (h1 z hq) e2 hg (.refl _ _)
  ·cases hq:valZ kvs k with
   | some z=>
    obtain⟨u',e1,e2⟩:=(a2v hn rr).2 z hq;rw[e1]at hu;cases hu
   | none=>
    have hp:=a8Q (k:=k) r2 hn rr;exact up _ _ _ _ (h2 hq) (r2.mono (.dK e')) (hg.set (o:=.dK (putZ kvs k d)) (.dK e') ⟨_,a0C,hp.1,hp.2.mono (.dK e')⟩) (.dK e')
def zDIx:R3:=fun x y G R=>match x with
 | .ref p=>∃ kvs k z,G p=some (.dK kvs)/\keyZ y=some k/\valZ kvs k=some z/\R z G
 | _=>False
theorem b9g:IxQ X zDIx:=b6t b4Y fun x y H Q hx=>hx.un fun a b G R ra rb hg h up=>by
 cases a with
 | ref p=>
  rw[a0m]at ra;obtain⟨kvs,k,z,e,hk,hz,h⟩:=h;obtain⟨us,e',hn,rr⟩:=hg _ _ e;obtain⟨u',e1,e2⟩:=(a2v hn rr).2 z hz;exact⟨p,us,k,u',ra,a4S hk rb,e',e1,up _ _ _ _ h e2 hg (.refl _ _)⟩
 | _=>exact False.elim h
theorem b4Z {p:Addr}{kvs:List (Key×Z)}{k:Key}{y d:Z}{G:Hq}{R:K3}(e:G p=some (.dK kvs)\/G p=some (.dF kvs)) (a:keyZ y=some k) (h:R ((valZ kvs k).getD d) G):b7u (.ref p) [y,d] G R:=⟨kvs,k,e,a,h⟩
theorem b7x {p:Addr}{kvs:List (Key×Z)}{k:Key}{y d:Z}{G:Hq}{R:K3}(e:G p=some (.dK kvs)) (a:keyZ y=some k) (z:kvs.length<sizeLine) (h1:∀ z,valZ kvs k=some z->R z G) (h2:valZ kvs k=none->R d (put G p (.dK (putZ kvs k d)))):b7w (.ref p) [y,d] G R:=⟨kvs,k,e,a,z,h1,h2⟩
theorem b9h {p:Addr}{kvs:List (Key×Z)}{k:Key}{y w:Z}{G:Hq}{R:K3}(e:G p=some (.dK kvs)) (a:keyZ y=some k) (v:valZ kvs k=some w) (h:R w G):zDIx (.ref p) y G R:=⟨kvs,k,w,e,a,v,h⟩
theorem b9i {p:Addr}{kvs:List (Key×Z)}{G:Hq}{P:Prop}(e:G p=some (.dK kvs)) (h:P):tyZ "dict" (.ref p) G/\P:=⟨.inr ⟨rfl,kvs,.inl e⟩,h⟩
theorem b9j {p:Addr}{kvs:List (Key×Z)}{G:Hq}{P:Prop}(e:G p=some (.dK kvs)\/G p=some (.dF kvs)) (h:P):tyZ "dict" (.ref p) G/\P:=⟨.inr ⟨rfl,kvs,e⟩,h⟩
end
end L3
namespace L3
open PySem PySem.Spec PyProof.Rows L2
def PReps (K:Fg) (H:Hp):List (Z×Z)->List (V×V)->Prop:=Paired fun p q=>Rep K H p.1 q.1/\Rep K H p.2 q.2
theorem PReps.mono {K:Fg}{H H':Hp}(t:TK K H H'):∀ {ps:List (Z×Z)}{vs:List (V×V)},PReps K H ps vs->PReps K H' ps vs
 | _,_,.nil=>.nil
 | _,_,.cons r s=>.cons ⟨r.1.mono t,r.2.mono t⟩ (PReps.mono t s)
section
variable {X:Cx}
end
end L3
namespace L3
theorem ln0 {α:Type}{C:List α->Prop}(h:C []):∀ us:List α,us.length=0->C us
 | [],_=>h
theorem lnS {α:Type}{C:List α->Prop}{n:Nat}(h:∀ a,∀ us:List α,us.length=n->C (a::us)):∀ us:List α,us.length=n+1->C us
 | a::us,e=>h a us (Nat.succ.inj e)
end L3
namespace L2
open PySem PySem.Spec PyProof.Rows
section
variable {X:Cx}
def setO (X:Cx) (t:Addr) (ms:List Int):HO:=.ext fun h=>SetW.SI X.prog X.w h t ms
def b7y (X:Cx):List V->Hp->VK->Prop:=fun xs H Q=>∃ (p:Addr) (ns:List Int),xs=[.ref p]/\SqL X.K H p (ns.map V.int)/\ns.length≤1000 /\
 ∀ (t:Addr) (ms:List Int),H t=none->SetW.Met (fun i=>ns.getD i 0) ns.length ms->Q (.ref t) (upd H t (setO X t ms))
theorem a9M (hc:X.calm=true):CallR X (.type "set") (b7y X):=by
 intro pins s σ H xs us Q I r h;obtain⟨p,ns,rfl,hq,hz,q⟩:=h;obtain⟨u,rfl,rx⟩:=a3d r;cases rx;obtain⟨its,rv,pl,_⟩:=I.list hq;have hI:=a5M rv;have hl:=a4R hI;have sb:1001<scanBound:=by decide
 have hs:its.toArray.size=ns.length:=by rw[List.size_toArray];exact hl
 refine SetW.call_set (I.ok.hd hc) pl.isList (by simpa using hI) (by rw[hs];omega) fun g tk ms S M k=>?_;rw[hs]at M;have I1:Inv X pins σ (upd H s.heap.objs.size (setO X s.heap.objs.size ms)) { s with heap:=g,toks:=tk }:=
  I.laid (t':=tk) (fun b o e=>k b o (Heap.lt_size e) e) (Nat.le_refl _) (show ObjOk X.prog X.w _ g _ (setO X s.heap.objs.size ms) from ⟨S,let ⟨_,_,_,S'⟩:=S;let ⟨o,e,_⟩:=S'.at_;⟨o,e⟩,fun _ _ x y=>x.at y⟩)
 exact⟨.ref s.heap.objs.size,_,I1,rfl,q _ ms (I.hok.fresh (Nat.le_refl _)) M⟩
def b2U (X:Cx):List V->Hp->VK->Prop:=fun xs H Q=>∃ (p:Addr) (ms:List Int),xs=[.ref p]/\H p=some (setO X p ms)/\ms.length≤1000 /\
 ∀ (t:Addr) (ks:List Int),H t=none->ks.Perm ms->ks.Pairwise (·≤·)->Q (.ref t) (upd H t (.lst (ks.map V.int)))
theorem a7f (hc:X.calm=true):CallR X (.builtin "sorted") (b2U X):=by
 intro pins s σ H xs us Q I r h;obtain⟨p,ns,rfl,hq,hz,q⟩:=h;obtain⟨u,rfl,rx⟩:=a3d r;cases rx;have hh:X.A.in1.handled=none:=I.ok.hd hc;have S:SetW.SI X.prog X.w s.heap p ns:=(I.hok p _ hq).1;refine a7d (ns:=ns) hz (fun R hR=>SetW.collect_set hh S fun g tk d vs ks kp i1 i2=>hR g tk d vs ks kp i1 i2) fun g g' tk d out n ms k1 k2 e a1 a2 a3=>?_;have I1:Inv X pins σ H { s with heap:=g,drawn:=d,toks:=tk }:=(I.drew d).kept (t':=tk) k1;exact⟨.ref g.objs.size,_,I1.laid (t':=tk) k2 (Nat.le_refl _) (show ObjOk X.prog X.w _ g' _ (.lst (ms.map V.int)) from ⟨by rw[List.length_map,a2.length_eq,sizeLine_eq];omega,out,n,a5c a1,e⟩),rfl,q _ ms (I1.hok.fresh (Nat.le_refl _)) a2 a3⟩
end
end L2
namespace L3
open PySem PySem.Spec PyProof.Rows L2
theorem b40 {ns ms:List Int}(h:SetW.Met (fun i=>ns.getD i 0) ns.length ms):∀ x,x∈ms↔x∈ns:=fun x=>by
 rw[h.2.2 x]
 constructor
 ·rintro⟨j,hj,e⟩;have e:ns.getD j 0=x:=e;rw[List.getD_eq_getElem?_getD,List.getElem?_eq_getElem hj]at e;exact e▸List.getElem_mem hj
 ·intro hx;obtain⟨j,hj,e⟩:=List.mem_iff_getElem.mp hx;exact⟨j,hj,by show ns.getD j 0=x;rw[List.getD_eq_getElem?_getD,List.getElem?_eq_getElem hj];exact e⟩
theorem a7g:∀ {ks:List Int},ks.Nodup->ks.Pairwise (·≤·)->ks.Pairwise (·<·)
 | [],_,_=>.nil
 | k::ks,h1,h2=>by
  obtain⟨a1,a2⟩:=List.nodup_cons.mp h1;obtain⟨b1,b2⟩:=List.pairwise_cons.mp h2;refine List.pairwise_cons.mpr ⟨fun x hx=>?_,a7g a2 b2⟩;have q1:=b1 x hx;have q2:k≠x:=fun e=>a1 (e▸hx);omega
section
variable {X:Cx}{e:Expr}{es:List Expr}{t:A3}{x y:Str}{p p2 pos pos2:Pos}
def uSS (t:A3):E3:=fun σ G R=>t σ G fun ws G1=>∃ (p:Addr) (ns:List Int),ws=[.ref p]/\G1 p=some (.lst (ns.map Z.int))/\ns.length≤1000 /\
 ∀ (t:Addr) (ks:List Int),G1 t=none->ks.Pairwise (·<·)->(∀ x,x∈ks↔x∈ns)->ks.length≤ns.length->R (.ref t) (put G1 t (.lst (ks.map Z.int)))
theorem q_ss (hc:X.calm=true) (hg:Gl X x) (hm:X.mg x=none) (hv:bootBuiltins x=some (.builtin "sorted")) (hg2:Gl X y) (hm2:X.mg y=none) (hv2:bootBuiltins y=some (.type "set")) (ha:QA X (e::es) t)
  (he:starEach (e::es) X.env=(false,eval e X.env)::starEach es X.env) (hpl:(backTo pos2 (starEach es X.env)).any (·.1)=false)
  (hn:x≠"__name__":=by decide) (hdb:(x==("__debug__":Str))=false:=by decide) (hn2:y≠"__name__":=by decide) (hdb2:(y==("__debug__":Str))=false:=by decide) :
  QE X (.Call (.Name x p) [.Call (.Name y p2) (e::es) [] pos2] [] pos) (uSS t):=⟨a1w (a8q (a7f hc) hg hm hv (b0o (a6R (a9M hc) hg2 hm2 hv2 ha.p hn2 hdb2 he hpl) b3s rfl) hn hdb rfl rfl) fun τ H Q hx=>hx.un fun σ G R hs hg h up=>
 ⟨σ,G,_,hs,hg,h,fun ws G1 vs H1 h1 rs hg1 t1=>by
  obtain⟨p,ns,rfl,e1,z,h1⟩:=h1;obtain⟨v,rfl,r⟩:=rs.one;rw[a0m]at r;obtain⟨vs',e',rs'⟩:=hg1 _ _ e1
  have:=a43 rs'
  subst this;refine⟨p,ns,by rw[r],SqL.of e',z,fun a ms ha M=>⟨a,ms,rfl,a0C,Nat.le_trans M.2.1 z,fun u ks hu pm pw=>?_⟩⟩;have g2:=hg1.hid (u:=setO X a ms) ha;exact up _ _ _ _ (h1 u ks (g2.out hu) (a7g (pm.nodup_iff.mpr M.1) pw) (fun x=>by rw[pm.mem_iff];exact b40 M x) (by rw[pm.length_eq];exact M.2.1)) (by rw[a0m]) (g2.set (.new hu) (a1e (a2a _) (.new hu))) (t1.trans ((TK.new ha).trans (.new hu)))⟩⟩
end
end L3
namespace L3
open PySem PySem.Spec PyProof.Rows L2
section
variable {X:Cx}
end
end L3
namespace L2
open PySem PySem.Spec PyProof.Rows
section
variable {X:Cx}
theorem a9N:CallR X (.type "str") (fun xs H Q=>(∃ i:Int,xs=[.int i]/\i.natAbs.log2<1920/\Q (.str (Str.ofString (toString i))) H)\/∃ x,xs=[.str x]/\Q (.str x) H):=by
 intro pins s σ H xs us Q I r h;rcases h with ⟨i,rfl,hi,q⟩ | ⟨x,rfl,q⟩
 ·obtain⟨u,rfl,rx⟩:=a3d r;obtain⟨t,rfl⟩:=rx;exact PySem.P.str_of_int hi ⟨.str _,H,I.tok _,⟨_,rfl⟩,q⟩
 ·obtain⟨u,rfl,rx⟩:=a3d r;obtain⟨t,rfl⟩:=rx;exact PySem.P.str_of_str ⟨.str _,H,I,⟨_,rfl⟩,q⟩
theorem a9O:CallR X (.type "int") (fun xs H Q=>∃ (x:Str) (n:Int),xs=[.str x]/\intText? x=some n/\x.length≤640/\Q (.int n) H):=by
 intro pins s σ H xs us Q I r h;obtain⟨x,n,rfl,hn,hl,q⟩:=h;obtain⟨u,rfl,rx⟩:=a3d r;obtain⟨t,rfl⟩:=rx;exact PySem.W.KIN.call_text hn hl ⟨.int n,H,I.tok _,⟨_,rfl⟩,q⟩
def KD (X:Cx) (a:Addr) (kvs:List (Key×V)):Prop:=kvs.length≤sizeLine/\(a==sysModules)=false/\∃ vs,KV kvs vs/\∀ h:Heap,X.K.In h->h.DictOf (a0K X.prog X.w) a vs
end
end L2
namespace L3
open PySem PySem.Spec PyProof.Rows L2
section
variable {X:Cx}
def zStr:List Z->Hq->K3->Prop:=fun xs G R=>match xs with
 | [.int i]=>i.natAbs.log2<1920/\R (.str (Str.ofString (toString i))) G
 | [.str x]=>R (.str x) G
 | _=>False
theorem b_str:a3h X (.type "str") zStr:=a1H a9N fun xs H Q hx=>hx.un fun ws G R rs hg h up=>by
 match ws,h with
 | [.int i],h=>
  obtain⟨v,rfl,r⟩:=rs.one;rw[a0r]at r;exact .inl ⟨i,by rw[r],h.1,up _ _ _ _ h.2 (by rw[a0w]) hg (.refl _ _)⟩
 | [.str x],h=>
  obtain⟨v,rfl,r⟩:=rs.one;rw[a0w]at r;exact .inr ⟨x,by rw[r],up _ _ _ _ h (by rw[a0w]) hg (.refl _ _)⟩
def b9k:List Z->Hq->K3->Prop:=fun xs G R=>match xs with
 | [.str x]=>∃ n,intText? x=some n/\x.length≤640/\R (.int n) G
 | _=>False
theorem b_int:a3h X (.type "int") b9k:=a1H a9O fun xs H Q hx=>hx.un fun ws G R rs hg h up=>by
 match ws,h with
 | [.str x],h=>
  obtain⟨v,rfl,r⟩:=rs.one;rw[a0w]at r;obtain⟨n,h1,h2,h⟩:=h;exact⟨x,n,by rw[r],h1,h2,up _ _ _ _ h (by rw[a0r]) hg (.refl _ _)⟩
def b7z:List Z->Hq->K3->Prop:=fun xs G R=>match xs with
 | [.ref p]=>∃ ws,G p=some (.lst ws)/\R (.tup ws) G
 | _=>False
theorem b_tuple:a3h X (.type "tuple") b7z:=a1H a6c fun xs H Q hx=>hx.un fun ws G R rs hg h up=>by
 match ws,h with
 | [.ref p],h=>
  obtain⟨v,rfl,r⟩:=rs.one;rw[a0m]at r;obtain⟨ys,e,h⟩:=h;obtain⟨vs,e',rs'⟩:=hg _ _ e;exact⟨p,vs,by rw[r],.inl ⟨SqL.of e',fun t ht=>up _ _ _ _ h (by rw[a01];exact⟨t,vs,rfl,a0C,rs'.mono (.new ht)⟩) (hg.hid ht) (.new ht)⟩⟩
def zV:Z->V
 | .str x=>.str x
 | .ref a=>.ref a
 | .int i=>.int i
 | _=>.non
def b7A:Z->Bool
 | .str _=>true
 | .ref _=>true
 | .int _=>true
 | _=>false
def KDZ (X:Cx) (a:Addr) (kvs:List (Key×Z)):Prop:=(∀ kv∈kvs,b7A kv.2=true)/\KD X a (kvs.map fun kv=>(kv.1,zV kv.2))
def KTup (K:Fg) (a:Addr) (ss:List Str):Prop:=∃ (o:Obj) (its:Array Value) (n:Nat),K.lookup a=some o/\o.cls=.type "tuple"/\o.data=.seq its n/\its.size≤sizeLine/\Vals (ss.map V.str) its.toList
theorem KTup.sq {K:Fg}{H:Hp}{a:Addr}{ss:List Str}(h:KTup K a ss):SqT K H a (ss.map V.str):=.inr h
variable {t:A3}
end
end L3
namespace L3
open PySem PySem.Spec PyProof.Rows L2
def KDk (w:World) (K:Fg) (a:Addr) (kvs:List (Key×Z)):Prop:=(∀ kv∈kvs,b7A kv.2=true)/\kvs.length≤sizeLine/\(a==sysModules)=false/\∃ vs:List (Key×Value),KV (kvs.map fun kv=>(kv.1,zV kv.2)) vs/\∀ (P:Program) (h:Heap),K.In h->h.DictOf (a0K P w) a vs
theorem KDk.at {X:Cx}{a:Addr}{kvs:List (Key×Z)}(h:KDk X.w X.K a kvs):KDZ X a kvs:=⟨h.1,by rw[List.length_map];exact h.2.1,h.2.2.1,let ⟨vs,r,q⟩:=h.2.2.2;⟨vs,r,q X.prog⟩⟩
end L3
namespace L2
open PySem PySem.W
end L2
namespace L2
open PySem PySem.Spec PyProof.Rows
section
variable {X:Cx}{e:Addr}{oe:Obj}{C:Addr}
end
end L2
namespace L3
open PySem PySem.Spec PyProof.Rows L2
abbrev PX3:=List Z->Hq->K3->(Addr->Hq->Prop)->Prop
def UpX (K:Fg) (H:Hp) (EE:Addr->Hq->Prop) (E:XK):Prop:=∀ C G H',EE C G->RH K G H'->TK K H H'->E (.ref C) none H'
def a3m (K:Fg) (sp:PX3):Sp:=fun vs H Q E=>∃ ws G R EE,Reps K H ws vs/\RH K G H/\sp ws G R EE/\UpV K H R Q/\UpX K H EE E
theorem b7B {K:Fg}{H H':Hp}(t:TKs H H'):TK K H H':=⟨t.tup,fun a xs h=>by
 rcases h with ⟨o,h⟩ | h
 ·exact .inl ⟨o,t.frz _ _ _ h⟩
 ·exact .inr h,t.frz⟩
def UpN (K:Fg) (EE:Addr->Hq->Prop) (E:XK):Prop:=∀ C G H',EE C G->RH K G H'->E (.ref C) none H'
theorem UpX.since {K:Fg}{H:Hp}{EE:Addr->Hq->Prop}{E:XK}(h:UpX K H EE E):UpN K EE (since H E):=fun C G H' q r t=>h C G H' q r (b7B t)
abbrev EE0:Addr->Hq->Prop:=fun _ _=>False
theorem up0 {K:Fg}:UpN K EE0 E0:=fun _ _ _ z _=>z.elim
theorem a1g {X:Cx}:a28 (CXx X.prog X.w) X E0:=by
 rintro pins σ H s ev s' _ ⟨_,_,_,_,_,_,_,_,_,q⟩;exact q.elim
section
variable {X:Cx}{E:XK}{EE:Addr->Hq->Prop}{e e0:Expr}{es:List Expr}{x n:Str}{p pos np cpos hpos tpos:Pos}{t:A3}{te:E3}{k:Nat}{f C D:Addr}{fd:FuncData}{ps:List Str}{sp:PX3}
def b3P (sp:PX3) (EE:Addr->Hq->Prop) (t:A3):E3:=fun σ G R=>t σ G fun ws G1=>sp ws G1 R EE
theorem a1a (hp:a28 (CXx X.prog X.w) X E) (hU:UpN X.K EE E) (F:FnOk X.prog X.w X.K X.mg X.base (CXx X.prog X.w) k f fd ps (a3m X.K sp)) (hr:Room k X.A) (hg:Gl X x) (hm:X.mg x=some (.ref f)) (hk:PySem.W.keepIn X.K (.ref f)=true) (hb:Binds X.K fd ps []) (ha:QA X (e::es) t)
  (hdb:(x==("__debug__":Str))=false:=by decide) (he:starEach (e::es) X.env=(false,eval e X.env)::starEach es X.env:=by rfl) (hpl:(backTo pos (starEach es X.env)).any (·.1)=false:=by rfl) :
  QE X (.Call (.Name x p) (e::es) [] pos) (b3P sp EE t):=⟨a1w (b0p F hr hg hm hk hb .nil hp ha.p hdb he hpl) fun τ H Q hx=>hx.un fun σ G R hs hg h up=>⟨σ,G,_,hs,hg,h,fun ws G1 vs H1 h1 rs hg1 t1=>⟨ws,G1,R,EE,by rw[List.append_nil];exact rs,hg1,h1,up.mono t1,fun C G H' z r _=>hU C G H' z r⟩⟩⟩
def b3Q (EE:Addr->Hq->Prop) (C:Addr) (te:E3):X3:=fun _ _ _ _ σ G=>te σ G fun _ G1=>EE C G1
theorem a6q (O:Outs X E) (hU:UpX X.K X.H₀ EE E) (hc:X.calm=true) (hg:Gl X x) (hm:X.mg x=some (.ref C)) (hq:PySem.W.excIn X.K C veM "ValueError.__new__"=true) (he:QE X e0 te)
  (hs:starEach [e0] X.env=(false,eval e0 X.env)::starEach [] X.env:=by rfl) (hp:(backTo cpos (starEach [] X.env)).any (·.1)=false:=by rfl) (hd:(x==("__debug__":Str))=false:=by decide) :
  QS X (.Raise (some (.Call (.Name x np) [e0] [] cpos)) none pos) (b3Q EE C te):=⟨a30 (b2z O hc hg hm hq he.p hs hp hd) fun D τ H hx=>hx.un fun σ G nx rt bk ct hs hg h u1 u2 u3 u4=>⟨σ,G,_,hs,hg,h,fun w G1 v H1 h1 rv hg1 t1=>fun t=>hU _ _ _ h1 hg1 (b7B t)⟩⟩
variable {o:Expr}{m:Str}{apos:Pos}{to:E3}{PC:Addr->Prop}
def b3R (C:Addr) (m:Str) (sp:PX3) (EE:Addr->Hq->Prop) (to:E3) (t:A3):E3:=fun σ G R=>to σ G fun x G1=>∃ q dx fs,x=.ref q/\G1 q=some (.ins C dx fs)/\fs.lookup m=none/\t σ G1 fun ws G2=>sp (.ref q::ws) G2 R EE
theorem a3n {pl:Sem Bool}(hp:a28 (CXx X.prog X.w) X E) (hU:UpN X.K EE E) (ho:QE X o to) (c:Cls X.K C) (hm:Meth X.K C m f) (F:FnOk X.prog X.w X.K X.mg X.base (CXx X.prog X.w) k f fd ps (a3m X.K sp)) (hr:Room k X.A) (hb:Binds X.K fd ps []) (ha:QA X (e::es) t)
  (hst:starEach (e::es) X.env=(false,eval e X.env)::starEach es X.env:=by rfl) (hpl:(backTo pos (starEach es X.env)).any (·.1)=false:=by rfl)
  (ht:eval (.Call (.Attribute o m apos) (e::es) [] pos) X.env=(do
   let ov <- eval o X.env
   standAt apos.atName
   let (f,first) <- holding [ov] (getMethod ov m pl)
   callWith pos f first (backTo pos (starEach (e::es) X.env)) (backToKw pos (keywordEach [] X.env))):=by rfl):QE X (.Call (.Attribute o m apos) (e::es) [] pos) (b3R C m sp EE to t):=
 ⟨a1w (b0q ho.p c hm F hr hb .nil hp ha.p hst hpl ht) fun τ H Q hx=>hx.un fun σ G R hs hg h up=>by
  refine⟨σ,G,_,hs,hg,h,fun w G1 v H1 ⟨q,dx,fs,ew,ea,el,hq⟩ rv hg1 t1=>?_⟩;subst ew;rw[a0m]at rv;obtain⟨gs,e1,e2,e3⟩:=hg1 _ _ ea;refine⟨q,dx,gs,rv,e1,(a3F e2 e3).1 el,σ,G1,_,hs.mono t1,hg1,hq,fun ws G2 vs H2 h2 rs hg2 t2=>?_⟩;exact⟨.ref q::ws,G2,R,EE,by rw[List.append_nil,a0q];exact⟨v,vs,rfl,by rw[a0m];exact rv,rs⟩,hg2,h2,up.mono (t1.trans t2),fun C G H' z r _=>hU C G H' z r⟩⟩
end
section
variable {X:Cx}{EW:XK}{N':List Str}{sc:Scope}{cap:List (Option Nat)}{tg iter elt:Expr}{ifs:List Expr}{wi:I3}{pt:Pt}{tt:T3}{te:E3}{pos:Pos}
end
section
variable {P:Program}{w:World}{K:Fg}{mg:Str->Option Value}{base:Heap}
theorem fn3x {x qual:Str}{st:Stmt}{f:Addr}{fd:FuncData}{N ps:List Str}{k:Nat}{sp:PX3}(F:Fun K x qual st f fd) (S:FnScope N ps (a0f st)) (len:∀ ws G R EE,sp ws G R EE->ws.length=ps.length)
  (hbody:∀ (cdv:Value) (A:Around) (outer:List Env) (s:Shared) (H:Hp) (E:XK) (ws:List Z) (G:Hq) (R:K3) (EE:Addr->Hq->Prop),Room k (A.deeper (envOfC qual (a0f st) s.heap.objs.size f cdv))->sp ws G R EE->UpX K H EE E ->
   ∃ t,QSs (cxOf (CXx P w) P w K mg base N qual (a0f st) f cdv A outer s H E) (a1Y st) t/\t (fun _ G'=>R .non G') R (fun _ _=>False) (fun _ _=>False) (a4q N ws) G):FnOk P w K mg base (CXx P w) (k+1) f fd ps (a3m K sp):=by
 obtain⟨oc,od,kV,doc,pm,an,cdv,ct,osl,rfl,lk,hcd⟩:=F.ex;refine b55 lk hcd S (fun vs H Q E ⟨ws,G,R,EE,rs,hg,h,up,ux⟩=>by rw[<- rs.length];exact len _ _ _ _ h) ?_;rintro A outer s H vs Q E hr ⟨ws,G,R,EE,rs,hg,h,up,ux⟩;obtain⟨t,ht,hq⟩:=hbody cdv A outer s H E ws G R EE hr h ux;exact⟨_,ht.p,a4q N ws,G,_,R,_,_,.start rs,hg,hq,fun σ' G' τ' H' h' hs' hg' t'=>up _ _ _ _ h' (by rw[a1b]) hg' t',up,fun _ _ _ _ h _ _ _=>h.elim,fun _ _ _ _ h _ _ _=>h.elim⟩
end
end L3
namespace L3
open PySem PySem.Spec PyProof.Rows L2
mutual
def DZ (G:Hq):PyData->Z->Prop
 | .none,x=>x=.non
 | .bool b,x=>x=.bl b
 | .int i,x=>x=.int i
 | .str s,x=>x=.str s
 | .list ds,x=>∃ p ws,x=.ref p/\G p=some (.lst ws)/\DZs G ds ws
 | .tuple ds,x=>∃ ws,x=.tup ws/\DZs G ds ws
 | .dict _,_=>False
def DZs (G:Hq):List PyData->List Z->Prop
 | [],ws=>ws=[]
 | d::ds,ws=>∃ w r,ws=w::r/\DZ G d w/\DZs G ds r
end
mutual
theorem DZ.sm {G G':Hq}(s:Sm G G'):∀ {d:PyData}{w:Z},DZ G d w->DZ G' d w
 | .none,w,q=>by unfold DZ at q ⊢;exact q
 | .bool b,w,q=>by unfold DZ at q ⊢;exact q
 | .int i,w,q=>by unfold DZ at q ⊢;exact q
 | .str _,w,q=>by unfold DZ at q ⊢;exact q
 | .list ds,w,q=>by
  unfold DZ at q ⊢;obtain⟨p,ws,e,hp,q⟩:=q;exact⟨p,ws,e,s _ _ hp,DZs.sm s q⟩
 | .tuple ds,w,q=>by
  unfold DZ at q ⊢;obtain⟨ws,e,q⟩:=q;exact⟨ws,e,DZs.sm s q⟩
 | .dict _,w,q=>by unfold DZ at q;exact q.elim
theorem DZs.sm {G G':Hq}(s:Sm G G'):∀ {ds:List PyData}{ws:List Z},DZs G ds ws->DZs G' ds ws
 | [],ws,q=>by unfold DZs at q ⊢;exact q
 | d::ds,ws,q=>by
  unfold DZs at q ⊢;obtain⟨w,r,e,q1,q2⟩:=q;exact⟨w,r,e,DZ.sm s q1,DZs.sm s q2⟩
end
section
variable {X:Cx}
end
def b7C:List Z->Hq->K3->Prop:=fun xs G R=>match xs with
 | [.bl b]=>R (.int (if b then 1 else 0)) G
 | _=>False
end L3
namespace L2
open PySem PySem.Spec PyProof.Rows
theorem b1o {X:Cx}:CallR X (.type "int") (fun xs H Q=>∃ b:Bool,xs=[.bl b]/\Q (.int (if b then 1 else 0)) H):=by
 intro pins s σ H xs us Q I r h;obtain⟨b,rfl,q⟩:=h;obtain⟨u,rfl,rx⟩:=a3d r;cases (show u=Value.bool b from rx);exact PySem.call_int_bool ⟨.int _,H,I.tok _,⟨_,rfl⟩,q⟩
end L2
namespace L3
open PySem PySem.Spec PyProof.Rows L2
theorem b7D {X:Cx}:a3h X (.type "int") b7C:=a1H b1o fun xs H Q hx=>hx.un fun ws G R rs hg h up=>by
 match ws,h with
 | [.bl b],h=>
  obtain⟨v,rfl,r⟩:=rs.one;rw[a0M]at r;exact⟨b,by rw[r],up _ _ _ _ h (by rw[a0r]) hg (.refl _ _)⟩
theorem b7E {b:Bool}{G:Hq}{R:K3}(h:R (.int (if b then 1 else 0)) G):b7C [.bl b] G R:=h
section
variable {X:Cx}{E:XK}{e:Expr}{es:List Expr}{x n:Str}{p pos np hpos tpos:Pos}{t:A3}{k:Nat}{f D:Addr}{fd:FuncData}{ps:List Str}{sp:PX3}
end
end L3
namespace L2
open PySem PySem.Spec PyProof.Rows
def ItD (o:Obj) (a:Addr) (kvs:List (Key×V)):It:=
 ⟨fun i H=>H a=some (.frz o (.dK kvs))/\i<kvs.length,fun i H x H'=>H'=H/\∃ p,kvs[i]?=some p/\x=kV p.1,fun i H=>H a=some (.frz o (.dK kvs))/\kvs.length≤i⟩
theorem b9l {P:Program}{w:World}{k:Key}{u:Value}(h:(a0K P w).is k u=true):RelV (kV k) u:=by
 rcases a0O (k:=k) (v:=u) h with ⟨i,t,rfl,rfl⟩ | ⟨x,t,rfl,rfl⟩
 ·exact⟨t,rfl⟩
 ·exact⟨t,rfl⟩
theorem a8R:∀ {kvs:List (Key×V)}{vs:List (Key×Value)},KV kvs vs->vs.length=kvs.length
 | [],vs,h=>by cases h;rfl
 | p::kvs,vs,h=>by
  cases h with
  | cons h1 h2=>rw[List.length_cons,List.length_cons,a8R h2]
theorem b3S:∀ {kvs:List (Key×V)}{vs:List (Key×Value)}{i:Nat}{p:Key×V},KV kvs vs->kvs[i]?=some p->∃ q,vs[i]?=some q/\p.1=q.1
 | [],vs,i,p,h,e=>by simp at e
 | p0::kvs,vs,i,p,h,e=>by
  cases h with
  | cons h1 h2=>
   cases i with
   | zero=>cases e;exact⟨_,rfl,h1.1⟩
   | succ i=>exact b3S (i:=i) h2 (by simpa using e)
theorem b1p {P:Program}{w:World}{K:Fg}{tg:Expr}(a it:Addr) {o:Obj}(kvs:List (Key×V)) {es:Array DictEntry}{ep:Nat}(hd:o.data=.dict es ep):Turn P w K tg (ItD o a kvs) [it] it (fun i h=>h.IsKeyIter it a i kvs.length ep) where
 mem:=by simp
 obj:=fun i h st b hb=>by
  have e:b=it:=by simpa using hb
  subst e;obtain⟨o,e,c,d⟩:=st;exact⟨o,e,fun v z=>by rw[d]at z;cases z⟩
 keep:=fun i h h' st k=>st.at fun o e=>k it (by simp) o e
 item:=by
  intro X hP hw hK hc i pins s σ H E I hf st hg;subst hP hw hK;obtain⟨ha,hi⟩:=hg;obtain⟨g,hz,hsm,vs,kv,dof⟩:=(show ObjOk X.prog X.w H s.heap a (.frz o (.dK kvs)) from I.hok a _ ha);obtain⟨f0,f1,f2,f3,f4,f5⟩:=hf it (by simp);have hl:=a8R kv;have dat:s.heap.DictAt (a0K X.prog X.w) a vs ep:=by
   obtain⟨o',es',ep',h1,h2,h3,h4⟩:=dof;rw[g]at h1;cases h1;rw[hd]at h3;cases h3;exact⟨o,es,g,h2,hd,h4⟩
  obtain⟨p,hp⟩:∃ p,kvs[i]?=some p:=⟨kvs[i],List.getElem?_eq_getElem hi⟩;obtain⟨⟨k,v⟩,hq,e1⟩:=b3S kv hp;refine wpAny_pyNext_dict_item (by rw[hl];exact st) dat hq fun key h' hk st' sb=>?_;have I1:Inv X pins σ H { s with heap:=h' }:=I.turned (t':=s.toks) (fun b o hb e=>(sb.2 b hb).trans e) f0 f1 f3 f4 f5;rw[hl]at st';obtain⟨oi,e,c,d⟩:=id st';exact⟨key,rfl,a9o (s:={ s with heap:=h' }) e c d (by decide) ⟨kV p.1,H,I1,by rw[e1];exact b9l hk,⟨rfl,p,hp,rfl⟩,st',fun b hb=>(hf b hb).1⟩⟩
 done:=by
  intro X hP hw hK hc i pins s σ H E I hf st hg;subst hP hw hK;obtain⟨ha,hi⟩:=hg;obtain⟨g,hz,hsm,vs,kv,dof⟩:=(show ObjOk X.prog X.w H s.heap a (.frz o (.dK kvs)) from I.hok a _ ha);obtain⟨f0,f1,f2,f3,f4,f5⟩:=hf it (by simp);have hl:=a8R kv;have dat:s.heap.DictAt (a0K X.prog X.w) a vs ep:=by
   obtain⟨o',es',ep',h1,h2,h3,h4⟩:=dof;rw[g]at h1;cases h1;rw[hd]at h3;cases h3;exact⟨o,es,g,h2,hd,h4⟩
  exact wpAny_pyNext_dict_end (I.ok.hd hc) (by rw[hl];exact st) dat (List.getElem?_eq_none (by omega)) fun h' eb=>⟨rfl,I.turned (t':=s.toks) (fun b o hb e=>eb b o hb e) f0 f1 f3 f4 f5⟩
 self:=fun _ _ _ _ _ st h=>wpAny_pyIter_keyiter st h
section
variable {X:Cx}{pins:List (Addr×Obj)}{σ:St}{H:Hp}{s:Shared}{a:Addr}{kvs:List (Key×V)}{tg:Expr}
theorem Inv.freeze (I:Inv X pins σ H s) (e:H a=some (.dK kvs)):∃ o,Inv X pins σ (upd H a (.frz o (.dK kvs))) s:=by
 obtain⟨hz,hsm,vs,kv,dof⟩:=(show ObjOk X.prog X.w H s.heap a (.dK kvs) from I.hok a _ e);have dof':=dof;obtain⟨o,es,ep,g,r⟩:=dof';refine⟨o,?_⟩;have nn:∀ b,H b=none->b≠a:=fun b q z=>by rw[z,e]at q;cases q
 have nt:∀ b xs,H b=some (.tup xs)->b≠a:=fun b xs q z=>by rw[z,e]at q;cases q
 have nf:∀ b o u,H b=some (.frz o u)->b≠a:=fun b o u q z=>by rw[z,e]at q;cases q
 have nb:∀ b ps,H b=some (.tbl ps)->b≠a:=fun b ps q z=>by rw[z,e]at q;cases q
 have no:∀ b c,H b=some (.own c)->b≠a:=fun b c q z=>by rw[z,e]at q;cases q
 refine I.un (t':=s.toks) (h':=s.heap) ⟨fun b o q _ _ _=>q,fun b o q _ _ _=>⟨o.slots,q⟩,fun b o q n _=>by rw[a0L (nn b n)];exact n,fun b o q _=>⟨o,q⟩,fun b xs q=>by rw[a0L (nt b xs q)];exact q,fun b o u q=>by rw[a0L (nf b o u q)];exact q,fun b ps q=>⟨#[],by rw[a0L (nb b ps q),Array.append_empty];exact q⟩⟩ fun b u q=>?_
 by_cases hb:b=a
 ·subst hb;rw[a0C]at q;cases q;exact⟨g,hz,hsm,vs,kv,dof⟩
 ·rw[a0L hb]at q;exact (I.hok b u q).stay (fun c v _ r=>r) (fun c r=>by rw[a0L (no c b r)];exact r) fun c xs r=>by rw[a0L (nt c xs r)];exact r
def iDct (tl:TE):TI:=fun σ H R=>tl σ H fun x H1=>∃ a kvs,x=.ref a/\((H1 a=some (.dK kvs)/\∀ o,R (ItD o a kvs) (upd H1 a (.frz o (.dK kvs))))\/∃ o,H1 a=some (.frz o (.dK kvs))/\R (ItD o a kvs) H1)
theorem b41 {l:Expr}{tl:TE}(hl:PE X l tl):PI X tg l (iDct tl):=by
 intro pins s σ H R I h;refine thn (hl pins s σ H _ I h) fun v s1 ⟨x,H1,I1,r1,q1⟩=>?_;obtain⟨a,kvs,e,q⟩:=q1;subst e;cases r1;have core:∀ o H2,Inv X pins σ H2 s1->H2 a=some (.frz o (.dK kvs))->R (ItD o a kvs) H2->wpAny (model X.prog X.w) X.A (pyIter (.ref a)) (PIE X pins σ tg R) X.xe s1:=fun o H2 I2 ea q=>by
  obtain⟨g,hz,hsm,vs,kv,dof⟩:=(show ObjOk X.prog X.w H2 s1.heap a (.frz o (.dK kvs)) from I2.hok a _ ea);obtain⟨ep,dat⟩:=dof.dictAt;have dat':=dat;obtain⟨o',es,g',_,hd,_⟩:=dat';rw[g]at g';cases g';refine wpAny_pyIter_dict hsm dat ?_;refine⟨s1.heap.objs.size,[s1.heap.objs.size],_,_,H2,rfl,I2.kept (t':=s1.toks) fun b o e=>Heap.get?_push_of_some _ e,b1p a _ kvs hd,⟨_,Heap.get?_push_size _ rfl,rfl,by rw[a8R kv];rfl⟩,fun b hb=>?_,q⟩;have e:b=s1.heap.objs.size:=by simpa using hb
  subst e;exact I2.fpOk (Nat.le_refl _) (I2.hok.fresh (Nat.le_refl _))
 rcases q with ⟨ea,q⟩ | ⟨o,ea,q⟩
 ·obtain⟨o,I2⟩:=I1.freeze ea;exact core o _ I2 a0C (q o)
 ·exact core o H1 I1 ea q
end
end L2
namespace L3
open PySem PySem.Spec PyProof.Rows L2
def keyW:Key->Z
 | .inl i=>.int i
 | .inr s=>.str s
theorem b2V {K:Fg}{H:Hp}:∀ k:Key,Rep K H (keyW k) (kV k)
 | .inl i=>by show Rep K H (.int i) (.int i);rw[a0r]
 | .inr s=>by show Rep K H (.str s) (.str s);rw[a0w]
def wkD (x:Z) (G:Hq) (R:List Z->(Hq->Prop)->Hq->Prop):Prop:=match x with
 | .ref a=>∃ kvs,(G a=some (.dK kvs)\/G a=some (.dF kvs))/\R (kvs.map fun p=>keyW p.1) (fun _=>True) (put G a (.dF kvs))
 | _=>False
def iD (tl:E3):I3:=fun σ G R=>tl σ G fun x G1=>wkD x G1 R
theorem a5X {K:Fg}{a:Addr}{o:Obj}{us:List (Key×V)}{kvs:List (Key×Z)}{H0:Hp}(e:H0 a=some (.frz o (.dK us))) (hn:us.map (·.1)=kvs.map (·.1)):a6i K (kvs.map fun p=>keyW p.1) (fun _=>True) (ItD o a us) H0:=fun i G H hg t ok hi=>by
 have e1:=t.frd _ _ _ e;have hl:us.length=kvs.length:=by have:=congrArg List.length hn;simpa using this
 rw[List.length_map]at hi;refine⟨fun h=>⟨e1,by rw[List.length_map]at h;omega⟩,fun w hw=>?_⟩;rw[List.getElem?_map]at hw;cases hk:kvs[i]? with
 | none=>rw[hk]at hw;cases hw
 | some p=>
  rw[hk]at hw;cases hw;have hlt:=(List.getElem?_eq_some_iff.mp hk).1;refine⟨⟨e1,by omega⟩,?_⟩;rintro x H' ⟨rfl,q,hq,rfl⟩
  have:q.1=p.1:=by
   have h1:(us.map (·.1))[i]?=some q.1:=by rw[List.getElem?_map,hq];rfl
   rw[hn,List.getElem?_map,hk]at h1;exact (Option.some.inj h1).symm
  rw[this];exact⟨b2V _,hg,.refl _ _⟩
section
variable {X:Cx}{tg l:Expr}{tl:E3}
theorem b42 (hl:QE X l tl):QI X tg l (iD tl):=a9z (b41 hl.p) fun τ H R2 hx=>hx.un fun σ G R hs hg h up=>by
 refine⟨σ,G,_,hs,hg,h,fun w G1 v H1 h1 rv hg1 t1=>?_⟩;cases w with
 | ref a=>
  rw[a0m]at rv;obtain⟨kvs,e,h1⟩:=h1;rcases e with e | e
  ·obtain⟨us,e',hn,rr⟩:=hg1 _ _ e;refine⟨a,us,rv,.inl ⟨e',fun o=>?_⟩⟩;have tk:TK X.K H1 (L2.upd H1 a (.frz o (.dK us))):=.dK e';exact up _ _ _ _ _ h1 (a5X a0C hn) (hg1.set (o:=.dF kvs) tk ⟨o,us,a0C,hn,rr.mono tk⟩) (t1.trans tk)
  ·have e0:=e;obtain⟨o,us,e',hn,rr⟩:=hg1 _ _ e;refine⟨a,us,rv,.inr ⟨o,e',?_⟩⟩;have eG:put G1 a (.dF kvs)=G1:=by
    funext b
    unfold put
    split
    ·next hb=>rw[hb,e0]
    ·rfl
   rw[eG]at h1;exact up _ _ _ _ _ h1 (a5X e' hn) hg1 t1
 | _=>exact False.elim h1
theorem i_iD {tl:E3}{σ:S3}{G:Hq}{R:List Z->(Hq->Prop)->Hq->Prop}(h:tl σ G fun x G1=>wkD x G1 R):iD tl σ G R:=h
theorem b9m {p:Addr}{kvs:List (Key×Z)}{G:Hq}{R:List Z->(Hq->Prop)->Hq->Prop}(e:G p=some (.dK kvs)\/G p=some (.dF kvs)) (h:R (kvs.map fun p=>keyW p.1) (fun _=>True) (put G p (.dF kvs))):wkD (.ref p) G R:=⟨kvs,e,h⟩
end
end L3
namespace L2
open PySem PySem.Spec PyProof.Rows
theorem b1q:∀ {ss:List Str}{us:List Value},Vals (ss.map V.str) us->StrsAre us ss
 | [],us,r=>by rw[List.map_nil]at r;cases r;exact .nil
 | s::ss,us,r=>by
  rw[List.map_cons]at r;cases r with
  | cons r1 r2=>obtain⟨t,rfl⟩:=r1;exact .cons s t (b1q r2)
theorem a7h:∀ {vs:List Value}{ss:List Str},StrsAre vs ss->Vals (ss.map V.str) vs
 | _,_,.nil=>.nil
 | _,_,.cons s t h=>.cons ⟨t,rfl⟩ (a7h h)
def b2W (K:Fg):List V->Hp->VK->Prop:=fun xs H Q=>∃ (p:Addr) (ss:List Str),xs=[.ref p]/\SqL K H p (ss.map V.str)/\ss.length<64 /\
 ∀ (t:Addr) (ts:List Str),H t=none->ts.Perm ss->sortedS ts=true->Q (.ref t) (upd H t (.lst (ts.map V.str)))
theorem a7i {X:Cx}:CallR X (.builtin "sorted") (b2W X.K):=by
 intro pins s σ H xs us Q I r h;obtain⟨p,ss,rfl,hq,h64,q⟩:=h;obtain⟨u,rfl,rx⟩:=a3d r;cases rx;obtain⟨its,rv,pl,_⟩:=I.list hq;have hS:=b1q rv;have hl:=hS.length;refine sorted_strs pl.isList hS (by omega) fun out ts a1 a2 a3=>?_;obtain⟨e,he⟩:=sortedAll_at s.heap its out;exact⟨.ref (s.heap.objs.size+1),_,I.laid (t':=s.toks) (fun _ _=>sortedAll_old) (Nat.le_succ _) (show ObjOk X.prog X.w _ _ _ (.lst (ts.map V.str)) from ⟨by rw[List.length_map,a2.length_eq,sizeLine_eq];omega,out.toList,e,a7h a1,by simpa[seqObj]using he⟩),rfl,q _ ts (I.hok.fresh (Nat.le_succ _)) a2 a3⟩
end L2
namespace L3
open PySem PySem.Spec PyProof.Rows L2
theorem a5Y {K:Fg}{H:Hp}:∀ ss:List Str,Reps K H (ss.map Z.str) (ss.map V.str)
 | []=>by rw[List.map_nil,List.map_nil,a0A]
 | s::ss=>by
  rw[List.map_cons,List.map_cons,a0q];exact⟨_,_,rfl,by rw[a0w],a5Y ss⟩
theorem a5Z {K:Fg}{H:Hp}:∀ {ss:List Str}{vs:List V},Reps K H (ss.map Z.str) vs->vs=ss.map V.str
 | [],vs,h=>by rw[List.map_nil,a0A]at h;subst h;rfl
 | s::ss,vs,h=>by
  rw[List.map_cons,a0q]at h;obtain⟨v,r,rfl,h1,h2⟩:=h;rw[a0w]at h1;rw[h1,a5Z h2];rfl
def a8S:List Z->Hq->K3->Prop:=fun xs G R=>match xs with
 | [.ref p]=>∃ ss:List Str,G p=some (.lst (ss.map Z.str))/\ss.length<64/\∀ (t:Addr) (ts:List Str),G t=none->ts.Perm ss->sortedS ts=true->R (.ref t) (put G t (.lst (ts.map Z.str)))
 | _=>False
theorem a5d {X:Cx}:a3h X (.builtin "sorted") a8S:=a1H a7i fun xs H Q hx=>hx.un fun ws G R rs hg h up=>by
 match ws,h with
 | [.ref p],h=>
  obtain⟨v,rfl,r⟩:=rs.one;rw[a0m]at r;obtain⟨ss,e,h64,h⟩:=h;obtain⟨vs,e',r'⟩:=hg _ _ e
  have:=a5Z r'
  subst this;exact⟨p,ss,by rw[r],SqL.of e',h64,fun t ts ht h1 h2=>up _ _ _ _ (h t ts (hg.out ht) h1 h2) (by rw[a0m]) (hg.set (o:=.lst (ts.map Z.str)) (.new ht) ⟨_,a0C,a5Y ts⟩) (.new ht)⟩
theorem a5e {G:Hq}{R:K3}{p:Addr}{ss:List Str}(e:G p=some (.lst (ss.map Z.str))) (z:ss.length<64) (h:∀ (t:Addr) (ts:List Str),G t=none->ts.Perm ss->sortedS ts=true->R (.ref t) (put G t (.lst (ts.map Z.str)))):a8S [.ref p] G R:=⟨ss,e,z,h⟩
end L3
namespace L2
open PySem PySem.Spec PyProof.Rows
structure Cl where
 x:Str
 np:Pos
 b₀:Stmt
 suite:List Stmt
 hp:Pos
def Cl.h (n:Str) (c:Cl):ExceptHandler:=.ExceptHandler (some (.Name c.x c.np)) (some n) (c.b₀::c.suite) c.hp
inductive Picks (X:Cx) (C:Addr) (th:Addr->TS):List Cl->Prop
 | here {c:Cl} {cs:List Cl} {D:Addr} (hg:Gl X c.x) (hm:X.mg c.x=some (.ref D)) (hd:(c.x==("__debug__":Str))=false) (hD:PySem.W.exmOne X.K (.ref C) (.ref D)=some true)
   (hh:∀ e oe,oe.cls=.ref C->oe.dict=none->PySem.W.notCls oe=true->PSs (X.hnd e oe) (c.b₀::c.suite) (th e)):Picks X C th (c::cs)
 | next {c:Cl} {cs:List Cl} {D:Addr} (hg:Gl X c.x) (hm:X.mg c.x=some (.ref D)) (hd:(c.x==("__debug__":Str))=false) (hD:PySem.W.exmOne X.K (.ref C) (.ref D)=some false) (hp:Picks X C th cs):Picks X C th (c::cs)
section
variable {X:Cx}{n:Str}{pos tpos:Pos}{ce:Expr}
end
end L2
namespace L3
open PySem PySem.Spec PyProof.Rows L2
inductive Alt (X:Cx) (cs:List Cl):List (Addr×(Addr->X3))->Prop
 | nil:Alt X cs []
 | cons {C:Addr} {th:Addr->X3} {l:List (Addr×(Addr->X3))} (h:Picks X C (fun e=>lowS X.K (th e)) cs) (hs:Alt X cs l):Alt X cs ((C,th)::l)
theorem Alt.get {X:Cx}{cs:List Cl}:∀ {l:List (Addr×(Addr->X3))},Alt X cs l->∀ p∈l,Picks X p.1 (fun e=>lowS X.K (p.2 e)) cs
 | _,.nil,p,h=>by simp at h
 | _,.cons h hs,p,hp=>by
  rcases List.mem_cons.mp hp with rfl | hp
  ·exact h
  ·exact hs.get p hp
section
variable {X:Cx}{e:Expr}{es:List Expr}{n:Str}{p pos tpos:Pos}{t:A3}{k:Nat}{f:Addr}{fd:FuncData}{ps:List Str}{sp:PX3}
end
end L3
namespace L2
open PySem PySem.W
end L2
set_option maxHeartbeats 4000000
namespace L3
set_option genInjectivity false in
inductive Ex4 {α0 α1 α2 α3:Type}(p:α0->α1->α2->α3->Prop):Prop
 | mk (a0:α0) (a1:α1) (a2:α2) (a3:α3) (h:p a0 a1 a2 a3):Ex4 p
set_option genInjectivity false in
inductive Ex5 {α0 α1 α2 α3 α4:Type}(p:α0->α1->α2->α3->α4->Prop):Prop
 | mk (a0:α0) (a1:α1) (a2:α2) (a3:α3) (a4:α4) (h:p a0 a1 a2 a3 a4):Ex5 p
set_option genInjectivity false in
inductive Ex6 {α0 α1 α2 α3 α4 α5:Type}(p:α0->α1->α2->α3->α4->α5->Prop):Prop
 | mk (a0:α0) (a1:α1) (a2:α2) (a3:α3) (a4:α4) (a5:α5) (h:p a0 a1 a2 a3 a4 a5):Ex6 p
set_option genInjectivity false in
inductive Ex9 {α0 α1 α2 α3 α4 α5 α6 α7 α8:Type}(p:α0->α1->α2->α3->α4->α5->α6->α7->α8->Prop):Prop
 | mk (a0:α0) (a1:α1) (a2:α2) (a3:α3) (a4:α4) (a5:α5) (a6:α6) (a7:α7) (a8:α8) (h:p a0 a1 a2 a3 a4 a5 a6 a7 a8):Ex9 p
set_option genInjectivity false in
inductive Ex11 {α0 α1 α2 α3 α4 α5 α6 α7 α8 α9 α10:Type}(p:α0->α1->α2->α3->α4->α5->α6->α7->α8->α9->α10->Prop):Prop
 | mk (a0:α0) (a1:α1) (a2:α2) (a3:α3) (a4:α4) (a5:α5) (a6:α6) (a7:α7) (a8:α8) (a9:α9) (a10:α10) (h:p a0 a1 a2 a3 a4 a5 a6 a7 a8 a9 a10):Ex11 p
end L3
namespace Lw
open PySem L2 L3
def top (i:Nat):Stmt:=PySem.Challenge.pw_twotimes_k32_all_when_who.main.body.getD i (.Pass ⟨0,0,0,0⟩)
abbrev a2w:Stmt:=top 9
abbrev a2x:Stmt:=top 10
abbrev a16:Stmt:=top 11
abbrev a1J:Stmt:=top 12
abbrev a17:Stmt:=top 14
abbrev a1z:Stmt:=top 15
abbrev a1q:Stmt:=top 16
abbrev a1h:Stmt:=top 17
abbrev a3o:Stmt:=top 24
abbrev a2y:Stmt:=top 23
abbrev a2U:Stmt:=top 19
abbrev a1S:Stmt:=top 21
abbrev a03:Stmt:=top 25
abbrev a2z:Stmt:=top 22
abbrev a36:Stmt:=top 20
abbrev a04:Stmt:=a2Q (top 33) 7
abbrev a0Z:Stmt:=a2Q (top 33) 9
abbrev a1i:Stmt:=a2Q (top 33) 6
abbrev a1A:Stmt:=a2Q (top 33) 4
abbrev a2c:Stmt:=top 27
abbrev a1K:Stmt:=a2Q (top 33) 5
abbrev a4T:Stmt:=top 28
abbrev a78:Stmt:=top 29
abbrev a1r:Stmt:=top 31
abbrev a1L:Stmt:=top 32
abbrev a5f:Stmt:=top 35
abbrev a5g:Stmt:=top 36
abbrev a6r:Stmt:=top 37
abbrev a5h:Stmt:=top 38
abbrev a3p:Stmt:=top 39
abbrev a5i:Stmt:=top 40
abbrev b43:Stmt:=top 41
abbrev a79:Stmt:=top 42
abbrev a6s:Stmt:=top 43
abbrev b1r:Stmt:=top 44
abbrev a8T:Stmt:=top 45
abbrev b1s:Stmt:=top 46
abbrev a5j:Stmt:=top 47
abbrev a1B:Stmt:=a2Q (top 33) 0
abbrev a1s:Stmt:=a2Q (top 33) 8
abbrev a2V:Stmt:=a2Q (top 33) 1
abbrev a4A:Stmt:=top 48
theorem a0P {A:Around}{k:Nat}(hr:Room k A):A.units+66<cLine:=by have:=hr.un;omega
local macro_rules | `(tactic| walk_at "sc")=>`(tactic| exact⟨rfl,rfl,rfl,by decide +kernel,rfl,by decide +kernel,by decide +kernel⟩)
theorem a7j:FnScope ["thing"] ["thing"] (a0f a2w):=by walk_at "sc"
theorem a5A:FnScope ["thing"] ["thing"] (a0f a2x):=by walk_at "sc"
theorem a5k:FnScope ["begin","end"] ["begin","end"] (a0f a16):=by walk_at "sc"
theorem a4B:FnScope ["end","other"] ["end","other"] (a0f a1J):=by walk_at "sc"
theorem a5l:FnScope ["thing"] ["thing"] (a0f a17):=by walk_at "sc"
theorem a37:FnScope ["thing"] ["thing"] (a0f a1z):=by walk_at "sc"
theorem a3G:FnScope ["begin","end"] ["begin","end"] (a0f a1q):=by walk_at "sc"
theorem a3q:FnScope ["knowing","last"] ["knowing","last"] (a0f a1h):=by walk_at "sc"
theorem a7k:FnScope ["stretch","moment"] ["stretch","moment"] (a0f a3o):=by walk_at "sc"
theorem sc_p_worths_in:FnScope ["line","moments","worths","at","moment"] ["line","moments"] (a0f a2y):=by walk_at "sc"
theorem a6t:FnScope ["line","moment"] ["line","moment"] (a0f a2U):=by walk_at "sc"
theorem a6u:FnScope ["line","moment"] ["line","moment"] (a0f a1S):=by walk_at "sc"
theorem sc_p_with_alike_joined:FnScope ["pieces","told","piece"] ["pieces"] (a0f a03):=by walk_at "sc"
theorem a7l:FnScope ["line","moment"] ["line","moment"] (a0f a2z):=by walk_at "sc"
theorem sc_p_put_on:FnScope ["line","begin","end","worth","pieces"] ["line","begin","end","worth"] (a0f a36):=by walk_at "sc"
theorem a2N:FnScope ["self","knowing"] ["self","knowing"] (a0f a04):=by walk_at "sc"
theorem sc_Sheet_known_line:FnScope ["self","key","knowing","since","line"] ["self","key","knowing"] (a0f a0Z):=by walk_at "sc"
theorem a4C:FnScope ["self","knowing"] ["self","knowing"] (a0f a1i):=by walk_at "sc"
theorem a38:FnScope ["self","key","moment","knowing"] ["self","key","moment","knowing"] (a0f a1A):=by walk_at "sc"
theorem sc_p_all_at:FnScope ["sheet","moment","knowing","keys","worths"] ["sheet","moment","knowing"] (a0f a2c):=by walk_at "sc"
theorem a4D:FnScope ["self","key","knowing"] ["self","key","knowing"] (a0f a1K):=by walk_at "sc"
theorem sc_p_when:FnScope ["sheet","key","worth","knowing","line"] ["sheet","key","worth","knowing"] (a0f a4T):=by walk_at "sc"
theorem sc_p_who:FnScope ["sheet","worth","knowing","keys","told","key","begin","end"] ["sheet","worth","knowing"] (a0f a78):=by walk_at "sc"
theorem sc_p_check_telling:FnScope ["telling","name"] ["telling"] (a0f a1r):=by walk_at "sc"
theorem sc_p_line_behind:FnScope ["line","telling","worth"] ["line","telling"] (a0f a1L):=by walk_at "sc"
theorem a9P:FnScope ["script","k"] ["script","k"] (a0f a5f):=by walk_at "sc"
theorem sc_tumbled:FnScope ["cell","k","stir"] ["cell","k"] (a0f a5g):=by walk_at "sc"
theorem sc_words:FnScope ["cell","letters","word","at","first","last","moved"] ["cell"] (a0f a6r):=by walk_at "sc"
theorem sc_stretch:FnScope ["cell","kind","begin"] ["cell"] (a0f a5h):=by walk_at "sc"
theorem sc_by_digits:FnScope ["cell","keys","worths","begin","end"] ["cell","keys","worths"] (a0f a3p):=by walk_at "sc"
theorem sc_telling:FnScope ["cell","keys","worths","key","begin","end"] ["cell","keys","worths"] (a0f a5i):=by walk_at "sc"
theorem b7F:FnScope ["telling","moment"] ["telling","moment"] (a0f b43):=by walk_at "sc"
theorem sc_worth:FnScope ["tellings","key","moment","found","telling"] ["tellings","key","moment"] (a0f a79):=by walk_at "sc"
theorem sc_points:FnScope ["tellings","found","telling"] ["tellings"] (a0f a6s):=by walk_at "sc"
theorem sc_when:FnScope ["there","points","worth","rows","at","end"] ["there","points","worth"] (a0f b1r):=by walk_at "sc"
theorem sc_told:FnScope ["found","due","row"] ["found","due"] (a0f a8T):=by walk_at "sc"
theorem sc_all:FnScope ["tellings","keys","moment","rows"] ["tellings","keys","moment"] (a0f b1s):=by walk_at "sc"
theorem sc_right:FnScope ["sheet","tellings","keys","worths","knowing","xs","points","k","moment","due","there","key","worth","rows"] ["sheet","tellings","keys","worths","knowing","xs"] (a0f a5j):=by walk_at "sc"
theorem a39:FnScope ["self"] ["self"] (a0f a1B):=by walk_at "sc"
theorem a3H:FnScope ["self","key","line"] ["self","key","line"] (a0f a1s):=by walk_at "sc"
theorem sc_Sheet_tell:FnScope ["self","telling","key","line"] ["self","telling"] (a0f a2V):=by walk_at "sc"
theorem sc_law:FnScope ["script","keys","worths","tellings","sheet","telling","xs","knowing"] ["script"] (a0f a4A):=by walk_at "sc"
theorem b9n:List.Nodup (α:=Str) ["sign"]:=by decide +kernel
theorem a9Q:List.Nodup (α:=Str) ["begin","end","worth","moment"]:=by decide +kernel
theorem b44:List.Nodup (α:=Str) ["begin","end","worth"]:=by decide +kernel
theorem b9o:List.Nodup (α:=Str) ["key","knowing","self"]:=by decide +kernel
theorem b9p:List.Nodup (α:=Str) ["key","moment","knowing","sheet"]:=by decide +kernel
theorem b7G:List.Nodup (α:=Str) ["key","worth"]:=by decide +kernel
theorem b45:List.Nodup (α:=Str) ["begin","end","held","worth"]:=by decide +kernel
theorem b9q:List.Nodup (α:=Str) ["k","letters","cell"]:=by decide +kernel
theorem b9r:List.Nodup (α:=Str) ["part"]:=by decide +kernel
theorem b9s:List.Nodup (α:=Str) ["key","tellings","moment"]:=by decide +kernel
theorem b7H:List.Nodup (α:=Str) ["row"]:=by decide +kernel
theorem b7I:List.Nodup (α:=Str) ["point","tellings","key"]:=by decide +kernel
theorem b3T:List.Nodup (α:=Str) ["begin","end","key"]:=by decide +kernel
theorem b7J:List.Nodup (α:=Str) ["cell","keys","worths"]:=by decide +kernel
theorem b7K:List.Nodup (α:=Str) ["k","script"]:=by decide +kernel
theorem b7L:List.Nodup (α:=Str) ["x","tellings"]:=by decide +kernel
set_option genInjectivity false in
structure Ad where
 f0:Addr
 d0:FuncData
 f1:Addr
 d1:FuncData
 f2:Addr
 d2:FuncData
 f3:Addr
 d3:FuncData
 f4:Addr
 d4:FuncData
 f5:Addr
 d5:FuncData
 f6:Addr
 d6:FuncData
 f7:Addr
 d7:FuncData
 f8:Addr
 d8:FuncData
 f9:Addr
 d9:FuncData
 f10:Addr
 d10:FuncData
 f11:Addr
 d11:FuncData
 f12:Addr
 d12:FuncData
 f13:Addr
 d13:FuncData
 f14:Addr
 d14:FuncData
 f15:Addr
 d15:FuncData
 f16:Addr
 d16:FuncData
 f17:Addr
 d17:FuncData
 f18:Addr
 d18:FuncData
 f19:Addr
 d19:FuncData
 f20:Addr
 d20:FuncData
 f21:Addr
 d21:FuncData
 f22:Addr
 d22:FuncData
 f23:Addr
 d23:FuncData
 f24:Addr
 d24:FuncData
 f25:Addr
 d25:FuncData
 f26:Addr
 d26:FuncData
 f27:Addr
 d27:FuncData
 f28:Addr
 d28:FuncData
 f29:Addr
 d29:FuncData
 f30:Addr
 d30:FuncData
 f31:Addr
 d31:FuncData
 f32:Addr
 d32:FuncData
 f33:Addr
 d33:FuncData
 f34:Addr
 d34:FuncData
 f35:Addr
 d35:FuncData
 f36:Addr
 d36:FuncData
 f37:Addr
 d37:FuncData
 f38:Addr
 d38:FuncData
 f39:Addr
 d39:FuncData
 f40:Addr
 d40:FuncData
 f41:Addr
 d41:FuncData
 c_Sheet:Addr
 x_NoName:Addr
 x_NoStretch:Addr
 x_NoKnowing:Addr
structure Fns (K:Fg) (a:Ad):Prop where
 n0:Fun K "is_name" "is_name" a2w a.f0 a.d0
 n1:Fun K "is_moment" "is_moment" a2x a.f1 a.d1
 n2:Fun K "is_stretch" "is_stretch" a16 a.f2 a.d2
 n3:Fun K "earlier_end" "earlier_end" a1J a.f3 a.d3
 n4:Fun K "check_name" "check_name" a17 a.f4 a.d4
 n5:Fun K "check_moment" "check_moment" a1z a.f5 a.d5
 n6:Fun K "check_stretch" "check_stretch" a1q a.f6 a.d6
 n7:Fun K "check_in_reach" "check_in_reach" a1h a.f7 a.d7
 n8:Fun K "is_over" "is_over" a3o a.f8 a.d8
 n9:Fun K "worths_in" "worths_in" a2y a.f9 a.d9
 n10:Fun K "worth_in" "worth_in" a2U a.f10 a.d10
 n11:Fun K "ahead_of" "ahead_of" a1S a.f11 a.d11
 n12:Fun K "with_alike_joined" "with_alike_joined" a03 a.f12 a.d12
 n13:Fun K "from_on" "from_on" a2z a.f13 a.d13
 n14:Fun K "put_on" "put_on" a36 a.f14 a.d14
 n15:Fun K "check_knowing" "Sheet.check_knowing" a04 a.f15 a.d15
 n16:Fun K "known_line" "Sheet.known_line" a0Z a.f16 a.d16
 n17:Fun K "keys_at" "Sheet.keys_at" a1i a.f17 a.d17
 n18:Fun K "worth_at" "Sheet.worth_at" a1A a.f18 a.d18
 n19:Fun K "all_at" "all_at" a2c a.f19 a.d19
 n20:Fun K "line_at" "Sheet.line_at" a1K a.f20 a.d20
 n21:Fun K "when" "when" a4T a.f21 a.d21
 n22:Fun K "who" "who" a78 a.f22 a.d22
 n23:Fun K "check_telling" "check_telling" a1r a.f23 a.d23
 n24:Fun K "line_behind" "line_behind" a1L a.f24 a.d24
 n25:Fun K "_law_cell_at" "_law_cell_at" a5f a.f25 a.d25
 n26:Fun K "_law_tumbled" "_law_tumbled" a5g a.f26 a.d26
 n27:Fun K "_law_words" "_law_words" a6r a.f27 a.d27
 n28:Fun K "_law_stretch" "_law_stretch" a5h a.f28 a.d28
 n29:Fun K "_law_by_digits" "_law_by_digits" a3p a.f29 a.d29
 n30:Fun K "_law_telling" "_law_telling" a5i a.f30 a.d30
 n31:Fun K "_law_has" "_law_has" b43 a.f31 a.d31
 n32:Fun K "_law_worth" "_law_worth" a79 a.f32 a.d32
 n33:Fun K "_law_points" "_law_points" a6s a.f33 a.d33
 n34:Fun K "_law_when" "_law_when" b1r a.f34 a.d34
 n35:Fun K "_law_told" "_law_told" a8T a.f35 a.d35
 n36:Fun K "_law_all" "_law_all" b1s a.f36 a.d36
 n37:Fun K "_law_right" "_law_right" a5j a.f37 a.d37
 n38:Fun K "__init__" "Sheet.__init__" a1B a.f38 a.d38
 n39:Fun K "keep_line" "Sheet.keep_line" a1s a.f39 a.d39
 n40:Fun K "tell" "Sheet.tell" a2V a.f40 a.d40
 n41:Fun K "law" "law" a4A a.f41 a.d41
theorem a7m {K:Fg}{a:Ad}(F:Fns K a):Binds K a.d0 ["thing"] []:=F.n0.binds fun _ _ _ _ _ _=>lnS fun _=>ln0 rfl
theorem a18 {K:Fg}{a:Ad}(F:Fns K a):Binds K a.d1 ["thing"] []:=F.n1.binds fun _ _ _ _ _ _=>lnS fun _=>ln0 rfl
theorem a5m {K:Fg}{a:Ad}(F:Fns K a):Binds K a.d2 ["begin","end"] []:=F.n2.binds fun _ _ _ _ _ _=>lnS fun _=>lnS fun _=>ln0 rfl
theorem a4E {K:Fg}{a:Ad}(F:Fns K a):Binds K a.d3 ["end","other"] []:=F.n3.binds fun _ _ _ _ _ _=>lnS fun _=>lnS fun _=>ln0 rfl
theorem a05 {K:Fg}{a:Ad}(F:Fns K a):Binds K a.d4 ["thing"] []:=F.n4.binds fun _ _ _ _ _ _=>lnS fun _=>ln0 rfl
theorem a2d {K:Fg}{a:Ad}(F:Fns K a):Binds K a.d5 ["thing"] []:=F.n5.binds fun _ _ _ _ _ _=>lnS fun _=>ln0 rfl
theorem a3I {K:Fg}{a:Ad}(F:Fns K a):Binds K a.d6 ["begin","end"] []:=F.n6.binds fun _ _ _ _ _ _=>lnS fun _=>lnS fun _=>ln0 rfl
theorem a3r {K:Fg}{a:Ad}(F:Fns K a):Binds K a.d7 ["knowing","last"] []:=F.n7.binds fun _ _ _ _ _ _=>lnS fun _=>lnS fun _=>ln0 rfl
theorem a7n {K:Fg}{a:Ad}(F:Fns K a):Binds K a.d8 ["stretch","moment"] []:=F.n8.binds fun _ _ _ _ _ _=>lnS fun _=>lnS fun _=>ln0 rfl
theorem a5B {K:Fg}{a:Ad}(F:Fns K a):Binds K a.d9 ["line","moments"] []:=F.n9.binds fun _ _ _ _ _ _=>lnS fun _=>lnS fun _=>ln0 rfl
theorem a6v {K:Fg}{a:Ad}(F:Fns K a):Binds K a.d10 ["line","moment"] []:=F.n10.binds fun _ _ _ _ _ _=>lnS fun _=>lnS fun _=>ln0 rfl
theorem a6w {K:Fg}{a:Ad}(F:Fns K a):Binds K a.d11 ["line","moment"] []:=F.n11.binds fun _ _ _ _ _ _=>lnS fun _=>lnS fun _=>ln0 rfl
theorem a2O {K:Fg}{a:Ad}(F:Fns K a):Binds K a.d12 ["pieces"] []:=F.n12.binds fun _ _ _ _ _ _=>lnS fun _=>ln0 rfl
theorem a7o {K:Fg}{a:Ad}(F:Fns K a):Binds K a.d13 ["line","moment"] []:=F.n13.binds fun _ _ _ _ _ _=>lnS fun _=>lnS fun _=>ln0 rfl
theorem a8a {K:Fg}{a:Ad}(F:Fns K a):Binds K a.d14 ["line","begin","end","worth"] []:=F.n14.binds fun _ _ _ _ _ _=>lnS fun _=>lnS fun _=>lnS fun _=>lnS fun _=>ln0 rfl
theorem a0V {K:Fg}{a:Ad}(F:Fns K a):Binds K a.d15 ["self","knowing"] []:=F.n15.binds fun _ _ _ _ _ _=>lnS fun _=>lnS fun _=>ln0 rfl
theorem a0S {K:Fg}{a:Ad}(F:Fns K a):Binds K a.d16 ["self","key","knowing"] []:=F.n16.binds fun _ _ _ _ _ _=>lnS fun _=>lnS fun _=>lnS fun _=>ln0 rfl
theorem a2E {K:Fg}{a:Ad}(F:Fns K a):Binds K a.d17 ["self","knowing"] []:=F.n17.binds fun _ _ _ _ _ _=>lnS fun _=>lnS fun _=>ln0 rfl
theorem a4a {K:Fg}{a:Ad}(F:Fns K a):Binds K a.d18 ["self","key","moment","knowing"] []:=F.n18.binds fun _ _ _ _ _ _=>lnS fun _=>lnS fun _=>lnS fun _=>lnS fun _=>ln0 rfl
theorem a5n {K:Fg}{a:Ad}(F:Fns K a):Binds K a.d19 ["sheet","moment","knowing"] []:=F.n19.binds fun _ _ _ _ _ _=>lnS fun _=>lnS fun _=>lnS fun _=>ln0 rfl
theorem a4F {K:Fg}{a:Ad}(F:Fns K a):Binds K a.d20 ["self","key","knowing"] []:=F.n20.binds fun _ _ _ _ _ _=>lnS fun _=>lnS fun _=>lnS fun _=>ln0 rfl
theorem a7p {K:Fg}{a:Ad}(F:Fns K a):Binds K a.d21 ["sheet","key","worth","knowing"] []:=F.n21.binds fun _ _ _ _ _ _=>lnS fun _=>lnS fun _=>lnS fun _=>lnS fun _=>ln0 rfl
theorem a8U {K:Fg}{a:Ad}(F:Fns K a):Binds K a.d22 ["sheet","worth","knowing"] []:=F.n22.binds fun _ _ _ _ _ _=>lnS fun _=>lnS fun _=>lnS fun _=>ln0 rfl
theorem a3J {K:Fg}{a:Ad}(F:Fns K a):Binds K a.d23 ["telling"] []:=F.n23.binds fun _ _ _ _ _ _=>lnS fun _=>ln0 rfl
theorem a4G {K:Fg}{a:Ad}(F:Fns K a):Binds K a.d24 ["line","telling"] []:=F.n24.binds fun _ _ _ _ _ _=>lnS fun _=>lnS fun _=>ln0 rfl
theorem a4b {K:Fg}{a:Ad}(F:Fns K a):Binds K a.d25 ["script","k"] []:=F.n25.binds fun _ _ _ _ _ _=>lnS fun _=>lnS fun _=>ln0 rfl
theorem a0x {K:Fg}{a:Ad}(F:Fns K a):Binds K a.d26 ["cell","k"] []:=F.n26.binds fun _ _ _ _ _ _=>lnS fun _=>lnS fun _=>ln0 rfl
theorem a8V {K:Fg}{a:Ad}(F:Fns K a):Binds K a.d27 ["cell"] []:=F.n27.binds fun _ _ _ _ _ _=>lnS fun _=>ln0 rfl
theorem a9R {K:Fg}{a:Ad}(F:Fns K a):Binds K a.d28 ["cell"] []:=F.n28.binds fun _ _ _ _ _ _=>lnS fun _=>ln0 rfl
theorem a7q {K:Fg}{a:Ad}(F:Fns K a):Binds K a.d29 ["cell","keys","worths"] []:=F.n29.binds fun _ _ _ _ _ _=>lnS fun _=>lnS fun _=>lnS fun _=>ln0 rfl
theorem a9S {K:Fg}{a:Ad}(F:Fns K a):Binds K a.d30 ["cell","keys","worths"] []:=F.n30.binds fun _ _ _ _ _ _=>lnS fun _=>lnS fun _=>lnS fun _=>ln0 rfl
theorem b7M {K:Fg}{a:Ad}(F:Fns K a):Binds K a.d31 ["telling","moment"] []:=F.n31.binds fun _ _ _ _ _ _=>lnS fun _=>lnS fun _=>ln0 rfl
theorem a8W {K:Fg}{a:Ad}(F:Fns K a):Binds K a.d32 ["tellings","key","moment"] []:=F.n32.binds fun _ _ _ _ _ _=>lnS fun _=>lnS fun _=>lnS fun _=>ln0 rfl
theorem b1t {K:Fg}{a:Ad}(F:Fns K a):Binds K a.d33 ["tellings"] []:=F.n33.binds fun _ _ _ _ _ _=>lnS fun _=>ln0 rfl
theorem b46 {K:Fg}{a:Ad}(F:Fns K a):Binds K a.d34 ["there","points","worth"] []:=F.n34.binds fun _ _ _ _ _ _=>lnS fun _=>lnS fun _=>lnS fun _=>ln0 rfl
theorem a8b {K:Fg}{a:Ad}(F:Fns K a):Binds K a.d35 ["found","due"] []:=F.n35.binds fun _ _ _ _ _ _=>lnS fun _=>lnS fun _=>ln0 rfl
theorem b7N {K:Fg}{a:Ad}(F:Fns K a):Binds K a.d36 ["tellings","keys","moment"] []:=F.n36.binds fun _ _ _ _ _ _=>lnS fun _=>lnS fun _=>lnS fun _=>ln0 rfl
theorem b2X {K:Fg}{a:Ad}(F:Fns K a):Binds K a.d37 ["sheet","tellings","keys","worths","knowing","xs"] []:=F.n37.binds fun _ _ _ _ _ _=>lnS fun _=>lnS fun _=>lnS fun _=>lnS fun _=>lnS fun _=>lnS fun _=>ln0 rfl
theorem a4c {K:Fg}{a:Ad}(F:Fns K a):Binds K a.d38 ["self"] []:=F.n38.binds fun _ _ _ _ _ _=>lnS fun _=>ln0 rfl
theorem a3K {K:Fg}{a:Ad}(F:Fns K a):Binds K a.d39 ["self","key","line"] []:=F.n39.binds fun _ _ _ _ _ _=>lnS fun _=>lnS fun _=>lnS fun _=>ln0 rfl
theorem a6x {K:Fg}{a:Ad}(F:Fns K a):Binds K a.d40 ["self","telling"] []:=F.n40.binds fun _ _ _ _ _ _=>lnS fun _=>lnS fun _=>ln0 rfl
def FE (K:Fg) (x q:Str) (st:Stmt) (f:Addr):Prop:=∃ d,Fun K x q st f d
theorem fe_mk {K:Fg}{x qual:Str}{st:Stmt}{f:Addr}{oc:Value}{od an:Option Addr}{osl:Array (Option Value)}{kV doc pm cdv ct:Value}(l:K.lookup f=some ⟨oc,od,.func (PySem.W.fnOf x qual (a3e st) (a1Y st) (a0f st) .none kV doc pm an cdv ct),osl⟩) (c:PySem.W.codeIn K cdv qual=true) (k:PySem.W.keepIn K (.ref f)=true):FE K x qual st f:=⟨_,b3v l c k⟩
structure Txt (K:Fg) (mg:Str->Option Value) (a:Ad):Prop where
 m0:mg "is_name"=some (.ref a.f0)
 m1:mg "is_moment"=some (.ref a.f1)
 m2:mg "is_stretch"=some (.ref a.f2)
 m3:mg "earlier_end"=some (.ref a.f3)
 m4:mg "check_name"=some (.ref a.f4)
 m5:mg "check_moment"=some (.ref a.f5)
 m6:mg "check_stretch"=some (.ref a.f6)
 m7:mg "check_in_reach"=some (.ref a.f7)
 m8:mg "is_over"=some (.ref a.f8)
 m9:mg "worths_in"=some (.ref a.f9)
 m10:mg "worth_in"=some (.ref a.f10)
 m11:mg "ahead_of"=some (.ref a.f11)
 m12:mg "with_alike_joined"=some (.ref a.f12)
 m13:mg "from_on"=some (.ref a.f13)
 m14:mg "put_on"=some (.ref a.f14)
 mt15:Meth K a.c_Sheet "check_knowing" a.f15
 mt16:Meth K a.c_Sheet "known_line" a.f16
 mt17:Meth K a.c_Sheet "keys_at" a.f17
 mt18:Meth K a.c_Sheet "worth_at" a.f18
 m19:mg "all_at"=some (.ref a.f19)
 mt20:Meth K a.c_Sheet "line_at" a.f20
 m21:mg "when"=some (.ref a.f21)
 m22:mg "who"=some (.ref a.f22)
 m23:mg "check_telling"=some (.ref a.f23)
 m24:mg "line_behind"=some (.ref a.f24)
 m25:mg "_law_cell_at"=some (.ref a.f25)
 m26:mg "_law_tumbled"=some (.ref a.f26)
 m27:mg "_law_words"=some (.ref a.f27)
 m28:mg "_law_stretch"=some (.ref a.f28)
 m29:mg "_law_by_digits"=some (.ref a.f29)
 m30:mg "_law_telling"=some (.ref a.f30)
 m31:mg "_law_has"=some (.ref a.f31)
 m32:mg "_law_worth"=some (.ref a.f32)
 m33:mg "_law_points"=some (.ref a.f33)
 m34:mg "_law_when"=some (.ref a.f34)
 m35:mg "_law_told"=some (.ref a.f35)
 m36:mg "_law_all"=some (.ref a.f36)
 m37:mg "_law_right"=some (.ref a.f37)
 mt38:Meth K a.c_Sheet "__init__" a.f38
 mt39:Meth K a.c_Sheet "keep_line" a.f39
 mt40:Meth K a.c_Sheet "tell" a.f40
 m41:mg "law"=some (.ref a.f41)
 b_all:mg "all"=none
 b_isinstance:mg "isinstance"=none
 b_str:mg "str"=none
 b_len:mg "len"=none
 b_bool:mg "bool"=none
 b_int:mg "int"=none
 b_min:mg "min"=none
 b_max:mg "max"=none
 b_reversed:mg "reversed"=none
 b_sorted:mg "sorted"=none
 b_range:mg "range"=none
 b_set:mg "set"=none
 b_list:mg "list"=none
 b_tuple:mg "tuple"=none
 cl_Sheet:Cls K a.c_Sheet
 mg_Sheet:mg "Sheet"=some (.ref a.c_Sheet)
 mk_Sheet:Mk K a.c_Sheet a.f38
 na_last:NoAttr K a.c_Sheet "last"
 na_kept:NoAttr K a.c_Sheet "kept"
 x_NoName:mg "NoName"=some (.ref a.x_NoName)
 x_NoStretch:mg "NoStretch"=some (.ref a.x_NoStretch)
 x_NoKnowing:mg "NoKnowing"=some (.ref a.x_NoKnowing)
 xi_NoName:PySem.W.excIn K a.x_NoName veM "ValueError.__new__"=true
 xi_NoStretch:PySem.W.excIn K a.x_NoStretch veM "ValueError.__new__"=true
 xi_NoKnowing:PySem.W.excIn K a.x_NoKnowing veM "ValueError.__new__"=true
 c_LONGEST_NAME:∃ t,mg "LONGEST_NAME"=some (.int 8 t)
 c_LAST_MOMENT:∃ t,mg "LAST_MOMENT"=some (.int 1000000000000 t)
theorem a8X {X:Cx}{x:Str}{i:Int}{pos:Pos}(hg:Gl X x) (hm:∃ t,X.mg x=some (.int i t)) (hd:(x==("__debug__":Str))=false:=by decide):PE X (.Name x pos) (tC (.int i)):=by
 obtain⟨t,h⟩:=hm;exact b39 hg h ⟨t,rfl⟩ hd
theorem b9t {t:A3}{σ:S3}{G:Hq}{R:K3}(h:t σ G fun ws G1=>∃ (p:Addr) (ns:List Int),ws=[.ref p]/\G1 p=some (.lst (ns.map Z.int))/\ns.length≤1000 /\
  ∀ (t:Addr) (ks:List Int),G1 t=none->ks.Pairwise (·<·)->(∀ x,x∈ks↔x∈ns)->ks.length≤ns.length->R (.ref t) (put G1 t (.lst (ks.map Z.int)))):uSS t σ G R:=h
def a50:P3:=fun ws G R=>∃ a ns,ws=[.scr a ns]/\ns.length≤63/\∀ G',R (.bl true) G'
theorem b1u {K:Fg}{H:Hp}{E:XK}(a:Addr) (ns:List Int) (hl:ns.length≤63) (f:Fz K H a (ns.map V.int)):lowP K a50 [.ref a] H (fun v _=>v=.bl true) E:=
 ⟨[.scr a ns],fun _=>none,fun w _=>w=.bl true,.cons (by rw[a12];exact⟨rfl,f⟩) .nil,fun _ _ e=>(nomatch e),⟨a,ns,rfl,hl,fun _=>rfl⟩,fun w G v H' e r _ _=>by subst e;rw[a0M]at r;exact r⟩
theorem lenK {n:Nat}(h:Nat.ble n 1000=true):n≤sizeLine:=Nat.le_of_lt (a0t (Nat.le_of_ble_eq_true h))
theorem a2F {n:Nat}(h:n≤1000):n≤sizeLine:=Nat.le_of_lt (a0t h)
def b7O (x w:Int):Prop:=w=0\/(w=1/\0≤x/\x<536870909)
abbrev RowO (x w:Int):O:=.lst [.int x,.int w]
def RowAt (G:Hq) (r:Addr):Prop:=∃ x w,G r=some (RowO x w)/\b7O x w
local macro_rules | `(tactic| walk_at "sd")=>`(tactic| first | assumption | (exact a2F (by first | decide | omega | (simp;done) | (simp;omega))) | (exact a0t (by first | decide | omega | (simp;done) | (simp;omega))) | decide | omega)
local macro_rules | `(tactic| walk_at "hp")=>`(tactic| first | assumption | exact a0d | (refine a0p ?_ (by assumption);walk_at "hp") | (refine Sm.get (by assumption) ?_;walk_at "hp"))
local macro_rules | `(tactic| walk_at "go1")=>`(tactic| with_reducible (first
 | refine b8R ?_ | refine b8I (by with_unfolding_all rfl) ?_ | refine i_c ?_ | refine i_op ?_ | refine i_un ?_ | refine b6P ?_ | refine b4F ?_ | refine b8J ?_ | refine i_or ?_ | refine b8K ?_ | refine b6Q ?_ | refine b8L ?_ | refine i_notV ?_ | refine i_if ?_
 | refine b8M ?_ | refine i_truI ?_ | refine i_truB ?_ | refine i_sl ?_ | refine b2F ?_ | refine b6R ?_ | refine b8N ?_ | refine b6S ?_ | refine b8O ?_ | refine b8P ?_ | refine i_cb ?_ | refine b9t ?_ | refine b8Q ?_ | refine i_bm ?_ | refine b6T ?_
 | refine b6U ?_ | refine b6V ?_ | refine b8S ?_ | refine i_retN ?_ | refine b8T ?_ | refine b8U ?_ | refine b8V ?_ | refine b8W (by with_unfolding_all rfl) ?_ | refine i_break ?_ | refine i_cont ?_ | refine b66 ?_ | refine b84 ?_ | refine i_iL ?_ | refine i_iT ?_ | refine i_iS ?_ | refine b85 ?_ | refine i_iR2 ?_ | refine i_wkC ?_ | refine b86 ?_ | refine b87 ?_ | refine i_tt ?_
 | refine b6W ?_ | refine i_I0 ?_ | refine b8X ?_ | refine i_CI ?_ | refine i_CS ?_ | refine b8Y ?_ | refine i_isB ?_ | refine b6Y ?_ | refine i_eqB ?_ | refine b6Z ?_ | refine b8Z ?_ | refine i_inS ?_ | refine b63 ?_ | refine i_nm ?_ | refine a1I (by with_unfolding_all rfl) ?_ | refine i_lenT ?_ | refine b64 ?_ | refine i_mm ?_ | refine b83 ?_
 | refine ifT ?_ | refine ifF ?_ | refine ifNN ?_ | refine ifNI ?_ | refine ifNS ?_ | refine ifNU ?_ | refine ifMN ?_ | refine ifMI ?_ | refine ifMS ?_ | refine ifMU ?_ | refine a1I at0 ?_ | refine a1I at1 ?_ | refine a1I at2 ?_ | refine b7j ?_ | refine b7n ?_ | refine i_iR3 ?_ | refine i_iZip ?_ | refine b7q ?_ | refine b4U ?_ | refine b4V ?_ | refine b7r ?_ | refine b7s ?_ | refine i_disp ?_ | refine i_pcons ?_ | refine i_pnil ?_ | refine⟨_,rfl,?_⟩))
local macro_rules | `(tactic| walk_at "go")=>`(tactic| repeat walk_at "go1")
def a51:P3:=fun ws G R=>∃ p ns k,ws=[.scr p ns,.int k]/\0≤k/\∀ i,R (.int i) G
theorem a8c {ws:List Z}{G:Hq}{R:K3}(h:a51 ws G R):ws.length=2:=by obtain⟨_,_,_,rfl,_⟩:=h;rfl
variable {P:Program}{w:World}{K:Fg}{mg:Str->Option Value}{base:Heap}{a:Ad}
theorem a9T (F:Fns K a) (T:Txt K mg a):FnOk P w K mg base CX0 1 a.f25 a.d25 ["script","k"] (lowP K a51):=by
 refine fn3 F.n25 a9P (fun ws G R h=>(by exact a8c h)) (fun cdv A outer s H E ws G R hr h=>?_);have hu:=a0P hr;refine⟨_,(a0k (z_if (a0v o_lt (a0c (pv 1)) (a0G b_len rfl T.b_len PySem.boot_len (a0b (a0c (pv 0)) a0i a0a) (he:=a0a) (hpl:=a0j)) (a0s _))
  (a0n (a0D (q_ix x_ix (a0c (pv 0)) (a0c (pv 1)) (fun _ _=>rfl))))
  a08)
  (a0n (a0D a0h))),?_⟩
 obtain⟨p,ns,k,rfl,hk,q⟩:=h;walk_at "go";refine ifD (fun c=>?_) fun _=>?_
 ·obtain⟨j,rfl⟩:=Int.eq_ofNat_of_zero_le hk;have hj:j<ns.length:=by omega
  walk_at "go";exact b80 (a1y (List.getElem?_eq_getElem hj)) (q _)
 ·walk_at "go";exact q _
theorem m9 (x:Int):0≤x % 536870909/\x % 536870909<536870909:=⟨Int.emod_nonneg _ (by decide),Int.emod_lt_of_pos _ (by decide)⟩
theorem RowAt.new {G:Hq}{r p:Addr}{o:O}(h:RowAt G r) (n:G p=none):RowAt (put G p o) r:=by
 obtain⟨x,w,e,k⟩:=h;exact⟨x,w,a0p e n,k⟩
theorem RowAt.at {G:Hq}{r:Addr}{x w:Int}(k:b7O x w):RowAt (put G r (RowO x w)) r:=⟨x,w,a0d,k⟩
structure Rw where
 b:Int
 e:Option Int
 w:List Z
@[reducible] def oz:Option Int->Z
 | none=>.non
 | some i=>.int i
def Rw.z (r:Rw):Z:=.tup (.int r.b::oz r.e::r.w)
def bef (t:Int):Option Int->Bool
 | none=>true
 | some e=>decide (t<e)
def Rw.has (r:Rw) (t:Int):Bool:=decide (r.b≤t)&&bef t r.e
def Rw.good (r:Rw):Prop:=bef r.b r.e=true
def val (l:List Rw) (t:Int):Option (List Z):=(l.find? (·.has t)).map (·.w)
theorem a1C {t:Int}:val [] t=none:=rfl
theorem a0y {r:Rw}{l:List Rw}{t:Int}:val (r::l) t=if r.has t=true then some r.w else val l t:=by
 unfold val;rw[List.find?_cons];cases h:r.has t<;>simp
theorem a1d {l m:List Rw}{t:Int}:val (l++m) t=(val l t).or (val m t):=by
 unfold val;rw[List.find?_append];cases h:l.find? (·.has t)<;>simp
def Lt (r s:Rw):Prop:=∃ e,r.e=some e/\e≤s.b
def Lt2 (r s:Rw):Prop:=∃ e,r.e=some e/\e≤s.b/\(e=s.b->r.w≠s.w)
def Rise (l:List Rw):Prop:=(∀ r∈l,r.good)/\l.Pairwise Lt
def Can (l:List Rw):Prop:=(∀ r∈l,r.good)/\l.Pairwise Lt2
theorem Lt2.lt {r s:Rw}(h:Lt2 r s):Lt r s:=let ⟨e,a,b,_⟩:=h;⟨e,a,b⟩
theorem Can.rise {l:List Rw}(h:Can l):Rise l:=⟨h.1,h.2.imp Lt2.lt⟩
theorem Can.nil:Can []:=⟨fun _ h=>by simp at h,.nil⟩
theorem Rise.nil:Rise []:=Can.nil.rise
theorem Can.tail {r:Rw}{l:List Rw}(h:Can (r::l)):Can l:=⟨fun s hs=>h.1 s (.tail _ hs),(List.pairwise_cons.mp h.2).2⟩
theorem Rise.tail {r:Rw}{l:List Rw}(h:Rise (r::l)):Rise l:=⟨fun s hs=>h.1 s (.tail _ hs),(List.pairwise_cons.mp h.2).2⟩
theorem b1v {r:Rw}(h:r.good):r.has r.b=true:=by
 unfold Rw.has;rw[show bef r.b r.e=true from h];simp
theorem Lt.has {r s:Rw}{t:Int}(h:Lt r s) (a:r.has t=true):s.has t=false:=by
 obtain⟨e,h1,h2⟩:=h;unfold Rw.has at a ⊢;rw[h1]at a;simp only[bef,Bool.and_eq_true,decide_eq_true_eq]at a
 have:decide (s.b≤t)=false:=decide_eq_false (by omega)
 rw[this,Bool.false_and]
theorem Lt.b {r s:Rw}(g:r.good) (h:Lt r s):r.b<s.b:=by
 obtain⟨e,h1,h2⟩:=h
 have:bef r.b r.e=true:=g
 rw[h1]at this;simp only[bef,decide_eq_true_eq]at this;omega
theorem a3L {l:List Rw}{t:Int}(h:∀ r∈l,r.has t=false):val l t=none:=by
 induction l with
 | nil=>rfl
 | cons r l ih=>
  rw[a0y,h r (.head _),if_neg (by decide)];exact ih fun s hs=>h s (.tail _ hs)
theorem b2Y {l:List Rw}{t:Int}{w:List Z}(h:val l t=some w):∃ r∈l,r.has t=true/\r.w=w:=by
 induction l with
 | nil=>cases h
 | cons r l ih=>
  rw[a0y]at h
  split at h
  ·next e=>cases h;exact⟨r,.head _,e,rfl⟩
  ·obtain⟨s,h1,h2⟩:=ih h;exact⟨s,.tail _ h1,h2⟩
theorem a7r {r:Rw}{t:Int}(h:t<r.b):r.has t=false:=by
 unfold Rw.has;rw[decide_eq_false (by omega),Bool.false_and]
theorem b7P {r s:Rw}{l m:List Rw}(h:Can (r::l)) (h':Can (s::m)) (q:∀ t,val (r::l) t=val (s::m) t):¬ r.b<s.b:=fun hlt=>by
 have h1:=q r.b;rw[a0y,b1v (h.1 r (.head _)),if_pos rfl,a3L]at h1
 ·cases h1
 ·intro x hx;refine a7r ?_;rcases List.mem_cons.mp hx with rfl | hx
  ·exact hlt
  ·have:=(((List.pairwise_cons.mp h'.2).1 x hx).lt).b (h'.1 s (.head _))
   omega
theorem b47 {r s:Rw}{l m:List Rw}(h:Can (r::l)) (hb:r.b=s.b) (hw:r.w=s.w) (q:∀ t,val (r::l) t=val (s::m) t) {e:Int}(he:r.e=some e):bef e s.e=false:=by
 cases hc:bef e s.e with
 | false=>rfl
 | true=>
  exfalso;have h0:bef r.b r.e=true:=h.1 r (.head _)
  rw[he]at h0;simp only[bef,decide_eq_true_eq]at h0;have h1:=q e;have hs:s.has e=true:=by unfold Rw.has;rw[hc,decide_eq_true (show s.b≤e by omega)];rfl
  have hr:r.has e=false:=by unfold Rw.has;rw[he];simp[bef]
  rw[a0y,a0y,hs,hr,if_pos rfl,if_neg (by decide)]at h1;obtain⟨x,hx,hx1,hx2⟩:=b2Y h1;obtain⟨e',a1,a2,a3⟩:=(List.pairwise_cons.mp h.2).1 x hx;rw[he]at a1;cases a1;have hxb:x.b≤e:=by unfold Rw.has at hx1;simp only[Bool.and_eq_true,decide_eq_true_eq]at hx1;exact hx1.1
  exact a3 (by omega) (by rw[hw,hx2])
theorem b1w:∀ {l m:List Rw},Can l->Can m->(∀ t,val l t=val m t)->l=m
 | [],[],_,_,_=>rfl
 | [],s::m,_,h',q=>by
  have:=q s.b
  rw[a1C,a0y,b1v (h'.1 s (.head _)),if_pos rfl]at this;cases this
 | r::l,[],h,_,q=>by
  have:=q r.b
  rw[a1C,a0y,b1v (h.1 r (.head _)),if_pos rfl]at this;cases this
 | r::l,s::m,h,h',q=>by
  have hb:r.b=s.b:=by
   have h1:=b7P h h' q;have h2:=b7P h' h fun t=>(q t).symm;omega
  have hw:r.w=s.w:=by
   have h1:=q r.b;have h2:s.has r.b=true:=by rw[hb];exact b1v (h'.1 s (.head _))
   rw[a0y,a0y,b1v (h.1 r (.head _)),h2,if_pos rfl,if_pos rfl]at h1;exact Option.some.inj h1
  have he:r.e=s.e:=by
   cases e1:r.e with
   | none=>
    cases e2:s.e with
    | none=>rfl
    | some e=>
     have:=b47 h' hb.symm hw.symm (fun t=>(q t).symm) e2
     rw[e1]at this;cases this
   | some e=>
    have:=b47 h hb hw q e1
    cases e2:s.e with
    | none=>rw[e2]at this;cases this
    | some e'=>
     have h3:=b47 h' hb.symm hw.symm (fun t=>(q t).symm) e2;rw[e1]at h3;rw[e2]at this;simp only[bef,decide_eq_false_iff_not]at this h3
     congr 1
     omega
  have hrs:r=s:=by
   obtain⟨_,_,_⟩:=r;obtain⟨_,_,_⟩:=s;simp only at hb hw he;rw[hb,hw,he]
  subst hrs
  congr 1
  refine b1w h.tail h'.tail fun t=>?_;cases ht:r.has t with
  | true=>
   rw[a3L fun x hx=>((List.pairwise_cons.mp h.2).1 x hx).lt.has ht,a3L fun x hx=>((List.pairwise_cons.mp h'.2).1 x hx).lt.has ht]
  | false=>
   have:=q t
   rw[a0y,a0y,ht,if_neg (by decide),if_neg (by decide)]at this;exact this
def jn (told:List Rw) (p:Rw):List Rw:=match told.getLast? with
 | some l=>if l.e=some p.b/\l.w=p.w then told.dropLast++[⟨l.b,p.e,p.w⟩] else told++[p]
 | none=>told++[p]
def join (ps:List Rw):List Rw:=ps.foldl jn []
theorem a3M {α:Type}{l:List α}{x:α}(h:l.getLast?=some x):l=l.dropLast++[x]:=by
 obtain⟨ys,rfl⟩:=List.getLast?_eq_some_iff.mp h;simp
theorem b9u {told:List Rw}{p:Rw}(h:Can told) (g:p.good) (hlt:∀ r∈told,Lt r p):Can (jn told p)/\(∀ t,val (jn told p) t=(val told t).or (val [p] t))/\(∀ x,(∀ r∈told,Lt r x)->Lt p x->∀ r∈jn told p,Lt r x)/\(jn told p).length≤told.length+1/\∀ r∈jn told p,r.w=p.w\/∃ r'∈told,r.w=r'.w:=by
 unfold jn;cases hl:told.getLast? with
 | none=>
  have:told=[]:=List.getLast?_eq_none_iff.mp hl
  subst this;exact⟨⟨fun r hr=>by simp at hr;rw[hr];exact g,by simp⟩,fun t=>by simp[a1C],fun x _ hp r hr=>by simp at hr;rw[hr];exact hp,by simp,fun r hr=>by simp at hr;rw[hr];exact .inl rfl⟩
 | some l=>
  have hs:=a3M hl;generalize told.dropLast=init at hs;subst hs;have hlm:l∈init++[l]:=by simp
  have pw:=List.pairwise_append.mp h.2;dsimp only
  split
  ·next hc=>
   obtain⟨h1,h2⟩:=hc;have gl:l.b<p.b:=by
    have:bef l.b l.e=true:=h.1 l hlm
    rw[h1]at this;simpa[bef]using this
   have gn:(⟨l.b,p.e,p.w⟩:Rw).good:=by
    show bef l.b p.e=true
    have:bef p.b p.e=true:=g
    cases hpe:p.e with
    | none=>rfl
    | some e=>
     rw[hpe]at this;simp only[bef,decide_eq_true_eq]at this ⊢;omega
   refine⟨⟨fun r hr=>?_,?_⟩,fun t=>?_,fun x hx hp r hr=>?_,by simp,fun r hr=>?_⟩
   ·rcases List.mem_append.mp hr with hr | hr
    ·exact h.1 r (by simp[hr])
    ·rw[List.mem_singleton.mp hr];exact gn
   ·refine List.pairwise_append.mpr ⟨pw.1,by simp,fun r hr s hs=>?_⟩;rw[List.mem_singleton.mp hs];obtain⟨e,a1,a2,a3⟩:=pw.2.2 r hr l (by simp);exact⟨e,a1,a2,fun z=>by rw[<- h2];exact a3 z⟩
   ·rw[a1d,a1d];cases val init t with
    | some w=>rfl
    | none=>
     have e1:(⟨l.b,p.e,p.w⟩:Rw).has t=(l.has t||p.has t):=by
      unfold Rw.has;rw[h1]
      have:bef p.b p.e=true:=g
      cases hpe:p.e with
      | none=>
       simp only[bef,Bool.and_true]
       by_cases c1:l.b≤t<;>by_cases c2:t<p.b<;>by_cases c3:p.b≤t<;>simp[c1,c2,c3]<;>omega
      | some e=>
       rw[hpe]at this;simp only[bef,decide_eq_true_eq]at this ⊢
       by_cases c1:l.b≤t<;>by_cases c2:t<p.b<;>by_cases c3:p.b≤t<;>by_cases c4:t<e<;>simp[c1,c2,c3,c4]<;>omega
     simp only[a0y,a1C,e1,h2,Option.none_or];cases l.has t<;>cases p.has t<;>simp
   ·rcases List.mem_append.mp hr with hr | hr
    ·exact hx r (by simp[hr])
    ·rw[List.mem_singleton.mp hr];obtain⟨e,a1,a2⟩:=hp;exact⟨e,a1,a2⟩
   ·rcases List.mem_append.mp hr with hr | hr
    ·exact .inr ⟨r,by simp[hr],rfl⟩
    ·rw[List.mem_singleton.mp hr];exact .inl rfl
  ·next hc=>
   refine⟨⟨fun r hr=>?_,?_⟩,fun t=>a1d,fun x hx hp r hr=>?_,by simp,fun r hr=>?_⟩
   ·rcases List.mem_append.mp hr with hr | hr
    ·exact h.1 r hr
    ·rw[List.mem_singleton.mp hr];exact g
   ·refine List.pairwise_append.mpr ⟨h.2,by simp,fun r hr s hs=>?_⟩;rw[List.mem_singleton.mp hs];obtain⟨e,a1,a2⟩:=hlt r hr;refine⟨e,a1,a2,fun z hw=>?_⟩;rcases List.mem_append.mp hr with hr' | hr'
    ·obtain⟨e',b1,b2,_⟩:=pw.2.2 r hr' l (by simp);rw[a1]at b1;cases b1
     have:=(hlt l hlm).b (h.1 l hlm)
     omega
    ·rw[List.mem_singleton.mp hr']at a1 hw;exact hc ⟨by rw[a1,z],hw⟩
   ·rcases List.mem_append.mp hr with hr | hr
    ·exact hx r hr
    ·rw[List.mem_singleton.mp hr];exact hp
   ·rcases List.mem_append.mp hr with hr | hr
    ·exact .inr ⟨r,hr,rfl⟩
    ·rw[List.mem_singleton.mp hr];exact .inl rfl
theorem b1x:∀ (ps told:List Rw),Can told->Rise ps->(∀ r∈told,∀ p∈ps,Lt r p)->Can (ps.foldl jn told)/\(∀ t,val (ps.foldl jn told) t=(val told t).or (val ps t))/\(ps.foldl jn told).length≤told.length+ps.length/\∀ r∈ps.foldl jn told,∃ r'∈told++ps,r.w=r'.w
 | [],told,h,_,_=>⟨h,fun t=>by simp[a1C],by simp,fun r hr=>⟨r,by simpa using hr,rfl⟩⟩
 | p::ps,told,h,hr,hlt=>by
  have pc:=List.pairwise_cons.mp hr.2;have a:=b9u h (hr.1 p (.head _)) fun r q=>hlt r q p (.head _);have b:=b1x ps (jn told p) a.1 hr.tail fun r q x hx=>a.2.2.1 x (fun r' q'=>hlt r' q' x (.tail _ hx)) (pc.1 x hx) r q;refine⟨b.1,fun t=>?_,?_,fun r hr'=>?_⟩
  ·show val (ps.foldl jn (jn told p)) t=_
   rw[b.2.1 t,a.2.1 t,show p::ps=[p]++ps from rfl,a1d,Option.or_assoc]
  ·have h1:=b.2.2.1;have h2:=a.2.2.2.1
   show (ps.foldl jn (jn told p)).length≤_
   rw[List.length_cons];omega
  ·obtain⟨r',hr1,hr2⟩:=b.2.2.2 r hr';rcases List.mem_append.mp hr1 with hr1 | hr1
   ·rcases a.2.2.2.2 r' hr1 with e | ⟨r2,e1,e2⟩
    ·exact⟨p,by simp,hr2.trans e⟩
    ·exact⟨r2,by simp[e1],hr2.trans e2⟩
   ·exact⟨r',by simp[hr1],hr2⟩
theorem b1y {ps:List Rw}(h:Rise ps):Can (join ps)/\(∀ t,val (join ps) t=val ps t)/\(join ps).length≤ps.length/\∀ r∈join ps,∃ r'∈ps,r.w=r'.w:=by
 have:=b1x ps [] .nil h fun r hr=>by simp at hr
 unfold join;exact⟨this.1,fun t=>by rw[this.2.1 t];rfl,by simpa using this.2.2.1,by simpa using this.2.2.2⟩
def emin:Option Int->Option Int->Option Int
 | none,o=>o
 | some e,none=>some e
 | some e,some o=>some (if o<e then o else e)
def a3a (m:Option Int) (r:Rw):Option Rw:=if bef r.b m=true then some ⟨r.b,emin r.e m,r.w⟩ else none
def ahead (m:Option Int) (l:List Rw):List Rw:=l.filterMap (a3a m)
def a6y (m:Int) (r:Rw):Option Rw:=if bef m r.e=true then some ⟨if m > r.b then m else r.b,r.e,r.w⟩ else none
def fromOn (m:Int) (l:List Rw):List Rw:=l.filterMap (a6y m)
theorem b1z {f:Rw->Option Rw}{t:Int}{c:Bool}(h1:∀ r r',f r=some r'->r'.has t=(r.has t&&c)/\r'.w=r.w) (h2:∀ r,f r=none->(r.has t&&c)=false):∀ l:List Rw,val (l.filterMap f) t=if c=true then val l t else none
 | []=>by simp[a1C]
 | r::l=>by
  have ih:=b1z h1 h2 l;rw[List.filterMap_cons];cases hf:f r with
  | none=>
   have:=h2 r hf
   rw[ih,a0y];cases c with
   | true=>rw[Bool.and_true]at this;rw[this];rfl
   | false=>rfl
  | some r'=>
   obtain⟨a1,a2⟩:=h1 r r' hf;rw[a0y,ih,a1,a2,a0y];cases c<;>cases r.has t<;>rfl
theorem a8Y {t:Int}{x y:Option Int}:bef t (emin x y)=(bef t x&&bef t y):=by
 cases x with
 | none=>cases y<;>simp[bef,emin]
 | some a=>
  cases y with
  | none=>simp[bef,emin]
  | some b=>
   simp only[bef,emin];rw[<- Bool.decide_and];apply a0J;rw[eq_iff_iff]
   split<;>omega
theorem a7s (m:Option Int) (l:List Rw) (t:Int):val (ahead m l) t=if bef t m=true then val l t else none:=by
 refine b1z (fun r r' h=>?_) (fun r h=>?_) l
 ·unfold a3a at h
  split at h
  ·cases h;refine⟨?_,rfl⟩;unfold Rw.has;simp only[a8Y,Bool.and_assoc]
  ·cases h
 ·unfold a3a at h
  split at h
  ·cases h
  ·next hc=>
   unfold Rw.has;cases m with
   | none=>exact absurd rfl hc
   | some m=>
    simp only[bef,decide_eq_true_eq]at hc ⊢
    by_cases c1:r.b≤t
    ·rw[decide_eq_false (show ¬ t<m by omega),Bool.and_false]
    ·rw[decide_eq_false c1];rfl
theorem b2Z (m:Int) (l:List Rw) (t:Int):val (fromOn m l) t=if m≤t then val l t else none:=by
 have:(if m≤t then val l t else none)=if decide (m≤t)=true then val l t else none:=by simp
 rw[this];refine b1z (fun r r' h=>?_) (fun r h=>?_) l
 ·unfold a6y at h
  split at h
  ·cases h;refine⟨?_,rfl⟩;unfold Rw.has;simp only
   have:decide ((if m > r.b then m else r.b)≤t)=(decide (r.b≤t)&&decide (m≤t)):=by
    rw[<- Bool.decide_and];apply a0J;rw[eq_iff_iff]
    split<;>omega
   rw[this];cases decide (r.b≤t)<;>cases decide (m≤t)<;>simp
  ·cases h
 ·unfold a6y at h
  split at h
  ·cases h
  ·next hc=>
   unfold Rw.has;cases he:r.e with
   | none=>rw[he]at hc;exact absurd rfl hc
   | some e=>
    rw[he]at hc;simp only[bef,decide_eq_true_eq]at hc ⊢
    by_cases c1:m≤t
    ·rw[decide_eq_false (show ¬ t<e by omega),Bool.and_false];rfl
    ·rw[decide_eq_false c1,Bool.and_false]
theorem a3N {m:Option Int}{l:List Rw}{x:Rw}(h:x∈ahead m l):∃ r∈l,bef r.b m=true/\x=⟨r.b,emin r.e m,r.w⟩:=by
 obtain⟨r,h1,h2⟩:=List.mem_filterMap.mp h;unfold a3a at h2
 split at h2
 ·next c=>cases h2;exact⟨r,h1,c,rfl⟩
 ·cases h2
theorem a4U {m:Int}{l:List Rw}{x:Rw}(h:x∈fromOn m l):∃ r∈l,bef m r.e=true/\x=⟨if m > r.b then m else r.b,r.e,r.w⟩:=by
 obtain⟨r,h1,h2⟩:=List.mem_filterMap.mp h;unfold a6y at h2
 split at h2
 ·next c=>cases h2;exact⟨r,h1,c,rfl⟩
 ·cases h2
theorem b48 {R:Rw->Rw->Prop}{f:Rw->Option Rw}(hf:∀ r s r' s',R r s->f r=some r'->f s=some s'->R r' s'):∀ {l:List Rw},l.Pairwise R->(l.filterMap f).Pairwise R
 | [],_=>by simp
 | r::l,h=>by
  have pc:=List.pairwise_cons.mp h;have ih:=b48 hf pc.2;rw[List.filterMap_cons];cases e:f r with
  | none=>exact ih
  | some r'=>
   refine List.pairwise_cons.mpr ⟨fun s hs=>?_,ih⟩;obtain⟨s0,h1,h2⟩:=List.mem_filterMap.mp hs;exact hf r s0 r' s (pc.1 s0 h1) e h2
theorem b49 {x:Int}{m:Option Int}:∃ e,emin (some x) m=some e/\e≤x:=by
 cases m with
 | none=>exact⟨x,rfl,Int.le_refl _⟩
 | some o=>
  refine⟨_,rfl,?_⟩
  split<;>omega
theorem a9U (m:Option Int) {l:List Rw}(h:Rise l):Rise (ahead m l):=by
 refine⟨fun x hx=>?_,b48 (fun r s r' s' hlt hr hs=>?_) h.2⟩
 ·obtain⟨r,h1,h2,rfl⟩:=a3N hx
  show bef r.b (emin r.e m)=true
  rw[a8Y,h2,Bool.and_true];exact h.1 r h1
 ·unfold a3a at hr hs
  split at hr
  ·split at hs
   ·cases hr;cases hs;obtain⟨e,a1,a2⟩:=hlt;obtain⟨e',b1,b2⟩:=@b49 e m;exact⟨e',by rw[<- b1,<- a1],by show e'≤s.b;omega⟩
   ·cases hs
  ·cases hr
theorem b1A (m:Int) {l:List Rw}(h:Rise l):Rise (fromOn m l):=by
 refine⟨fun x hx=>?_,b48 (fun r s r' s' hlt hr hs=>?_) h.2⟩
 ·obtain⟨r,h1,h2,rfl⟩:=a4U hx
  show bef (if m > r.b then m else r.b) r.e=true
  split
  ·exact h2
  ·exact h.1 r h1
 ·unfold a6y at hr hs
  split at hr
  ·split at hs
   ·cases hr;cases hs;obtain⟨e,a1,a2⟩:=hlt;exact⟨e,a1,by show e≤(if m > s.b then m else s.b);split<;>omega⟩
   ·cases hs
  ·cases hr
theorem a7t (m:Option Int) (l:List Rw):(ahead m l).length≤l.length:=List.length_filterMap_le _ _
theorem b20 (m:Int) (l:List Rw):(fromOn m l).length≤l.length:=List.length_filterMap_le _ _
theorem a8Z {b e:Int}(hbe:b≤e):∀ {l:List Rw},Rise l->(ahead (some b) l).length+(fromOn e l).length≤l.length+1
 | [],_=>by simp[ahead,fromOn]
 | r::l,h=>by
  have ih:=a8Z hbe h.tail;have pc:=(List.pairwise_cons.mp h.2).1;have la:(ahead (some b) (r::l)).length=(if bef r.b (some b)=true then 1 else 0)+(ahead (some b) l).length:=by
   unfold ahead;rw[List.filterMap_cons];unfold a3a
   split
   ·next q=>
         split at q
         ·cases q
         ·next hc=>rw[if_neg hc];simp
   ·next q=>
         split at q
         ·next hc=>rw[if_pos hc,List.length_cons];omega
         ·cases q
  have lf:(fromOn e (r::l)).length=(if bef e r.e=true then 1 else 0)+(fromOn e l).length:=by
   unfold fromOn;rw[List.filterMap_cons];unfold a6y
   split
   ·next q=>
         split at q
         ·cases q
         ·next hc=>rw[if_neg hc];simp
   ·next q=>
         split at q
         ·next hc=>rw[if_pos hc,List.length_cons];omega
         ·cases q
  rw[la,lf,List.length_cons]
  by_cases c1:bef r.b (some b)=true
  ·by_cases c2:bef e r.e=true
   ·have:ahead (some b) l=[]:=by
     unfold ahead;rw[List.filterMap_eq_nil_iff];intro s hs;unfold a3a;obtain⟨e',a1,a2⟩:=pc s hs;rw[a1]at c2;simp only[bef,decide_eq_true_eq]at c1 c2 ⊢;rw[if_neg (by omega)]
    have:=b20 e l
    rw[if_pos c1,if_pos c2];simp_all;omega
   ·rw[if_pos c1,if_neg c2];omega
  ·rw[if_neg c1];split<;>omega
def a1T (l:List Rw) (b:Int) (e:Option Int) (w:Option (List Z)):List Rw:=
 ahead (some b) l++(match w with | some w=>[⟨b,e,w⟩] | none=>[])++(match e with | some e=>fromOn e l | none=>[])
theorem a7u {l:List Rw}{b:Int}{e:Option Int}{w:Option (List Z)}(h:Rise l) (g:bef b e=true):Rise (a1T l b e w)/\(∀ t,val (a1T l b e w) t=if (decide (b≤t)&&bef t e)=true then w else val l t)/\(a1T l b e w).length≤l.length+2:=by
 have hA:=a9U (some b) h;have eA:∀ r∈ahead (some b) l,∃ x,r.e=some x/\x≤b:=fun r hr=>by
  obtain⟨r0,_,_,rfl⟩:=a3N hr
  show ∃ x,emin r0.e (some b)=some x/\x≤b
  cases r0.e with
  | none=>exact⟨b,rfl,Int.le_refl _⟩
  | some x=>refine⟨_,rfl,?_⟩;split<;>omega
 have hM:Rise (match w with | some w=>[(⟨b,e,w⟩:Rw)] | none=>[]):=by
  cases w with
  | none=>exact .nil
  | some w=>exact⟨fun r hr=>by rw[List.mem_singleton.mp hr];exact g,by simp⟩
 have mM:∀ r∈(match w with | some w=>[(⟨b,e,w⟩:Rw)] | none=>[]),r.b=b/\r.e=e:=fun r hr=>by
  cases w with
  | none=>simp at hr
  | some w=>rw[List.mem_singleton.mp hr];exact⟨rfl,rfl⟩
 have vM:∀ t,val (match w with | some w=>[(⟨b,e,w⟩:Rw)] | none=>[]) t=if (decide (b≤t)&&bef t e)=true then w else none:=fun t=>by
  cases w with
  | none=>simp[a1C]
  | some w=>rw[a0y,a1C];rfl
 have app:∀ {A B:List Rw},Rise A->Rise B->(∀ r∈A,∀ s∈B,Lt r s)->Rise (A++B):=fun ha hb hab=>⟨fun r hr=>(List.mem_append.mp hr).elim (ha.1 r) (hb.1 r),List.pairwise_append.mpr ⟨ha.2,hb.2,hab⟩⟩;unfold a1T;cases e with
 | none=>
  dsimp only;rw[List.append_nil];refine⟨app hA hM fun r hr s hs=>?_,fun t=>?_,?_⟩
  ·obtain⟨x,a1,a2⟩:=eA r hr;exact⟨x,a1,by rw[(mM s hs).1];exact a2⟩
  ·rw[a1d,a7s,vM];simp only[bef,Bool.and_true,decide_eq_true_eq]
   by_cases c:b≤t
   ·rw[if_neg (by omega),if_pos c,if_pos c];rfl
   ·rw[if_pos (by omega),if_neg c,if_neg c];simp
  ·rw[List.length_append]
   have:=a7t (some b) l
   cases w<;>simp<;>omega
 | some e=>
  have hbe:b<e:=by simpa[bef]using g
  have hF:=b1A e h;have bF:∀ s∈fromOn e l,e≤s.b:=fun s hs=>by
   obtain⟨r0,_,_,rfl⟩:=a4U hs
   show e≤(if e > r0.b then e else r0.b)
   split<;>omega
  dsimp only;refine⟨app (app hA hM fun r hr s hs=>?_) hF fun r hr s hs=>?_,fun t=>?_,?_⟩
  ·obtain⟨x,a1,a2⟩:=eA r hr;exact⟨x,a1,by rw[(mM s hs).1];exact a2⟩
  ·have hs':=bF s hs;rcases List.mem_append.mp hr with hr | hr
   ·obtain⟨x,a1,a2⟩:=eA r hr;exact⟨x,a1,by omega⟩
   ·exact⟨e,(mM r hr).2,hs'⟩
  ·rw[a1d,a1d,a7s,vM,b2Z];simp only[bef,Bool.and_eq_true,decide_eq_true_eq]
   by_cases c1:b≤t
   ·by_cases c2:t<e
    ·rw[if_neg (by omega),if_pos ⟨c1,c2⟩,if_neg (by omega),if_pos ⟨c1,c2⟩];simp
    ·rw[if_neg (by omega),if_neg (by omega),if_pos (by omega),if_neg (by omega)];rfl
   ·rw[if_pos (by omega),if_neg (by omega),if_neg (by omega),if_neg (by omega)];simp
  ·rw[List.length_append,List.length_append]
   have:=a8Z (b:=b) (e:=e) (by omega) h
   cases w<;>simp<;>omega
def pcs (f:Int->Option (List Z)):List Int->List Rw
 | []=>[]
 | b::bs=>(match f b with | some w=>[⟨b,bs.head?,w⟩] | none=>[])++pcs f bs
theorem b1B {f:Int->Option (List Z)}:∀ {bs:List Int}{r:Rw},r∈pcs f bs->r.b∈bs/\f r.b=some r.w
 | [],_,h=>by simp[pcs]at h
 | b::bs,r,h=>by
  unfold pcs at h;rcases List.mem_append.mp h with h | h
  ·cases e:f b with
   | none=>rw[e]at h;simp at h
   | some w=>rw[e]at h;rw[List.mem_singleton.mp h];exact⟨.head _,e⟩
  ·obtain⟨h1,h2⟩:=b1B h;exact⟨.tail _ h1,h2⟩
theorem a4d (f:Int->Option (List Z)):∀ bs:List Int,(pcs f bs).length≤bs.length
 | []=>by simp[pcs]
 | b::bs=>by
  have:=a4d f bs
  unfold pcs;rw[List.length_append,List.length_cons];cases f b<;>simp<;>omega
theorem a80 (f:Int->Option (List Z)):∀ {bs:List Int},bs.Pairwise (·<·)->Rise (pcs f bs)
 | [],_=>by simp[pcs];exact .nil
 | b::bs,h=>by
  have pc:=List.pairwise_cons.mp h;have ih:=a80 f pc.2;unfold pcs;cases e:f b with
  | none=>simpa using ih
  | some w=>
   refine⟨fun r hr=>?_,List.pairwise_append.mpr ⟨by simp,ih.2,fun r hr s hs=>?_⟩⟩
   ·rcases List.mem_append.mp hr with hr | hr
    ·rw[List.mem_singleton.mp hr]
     show bef b bs.head?=true
     cases bs with
     | nil=>rfl
     | cons c cs=>simpa[bef]using pc.1 c (.head _)
    ·exact ih.1 r hr
   ·rw[List.mem_singleton.mp hr];have hs':=(b1B hs).1;cases bs with
    | nil=>simp at hs'
    | cons c cs=>
     refine⟨c,rfl,?_⟩;rcases List.mem_cons.mp hs' with q | q
     ·omega
     ·have:=(List.pairwise_cons.mp pc.2).1 _ q
      omega
theorem b1C {f:Int->Option (List Z)}:∀ {bs:List Int},bs.Pairwise (·<·)->(∀ t b,b∈bs->b≤t->(∀ c∈bs,c≤t->c≤b)->f t=f b)->∀ t,val (pcs f bs) t=if (bs.any fun b=>decide (b≤t))=true then f t else none
 | [],_,_,t=>by simp[pcs,a1C]
 | b::bs,h,hf,t=>by
  have pc:=List.pairwise_cons.mp h;have ih:=b1C pc.2 (fun t c hc hct hm=>hf t c (.tail _ hc) hct fun d hd hdt=>by
   rcases List.mem_cons.mp hd with rfl | hd
   ·have:=pc.1 c hc;omega
   ·exact hm d hd hdt) t
  unfold pcs;rw[a1d,ih,List.any_cons]
  by_cases c1:b≤t
  ·rw[decide_eq_true c1,Bool.true_or,if_pos rfl];cases c2:bs.any fun b=>decide (b≤t) with
   | true=>
    obtain⟨c,hc,hct⟩:=List.any_eq_true.mp c2;have hct:c≤t:=by simpa using hct
    rw[if_pos rfl]
    have:val (match f b with | some w=>[(⟨b,bs.head?,w⟩:Rw)] | none=>[]) t=none:=by
     cases f b with
     | none=>rfl
     | some w=>
      rw[a0y,a1C];cases bs with
      | nil=>simp at hc
      | cons d ds=>
       have hd:d≤t:=by
        rcases List.mem_cons.mp hc with rfl | hc
        ·exact hct
        ·have:=(List.pairwise_cons.mp pc.2).1 c hc;omega
       have hh:(⟨b,(d::ds).head?,w⟩:Rw).has t=false:=by
        unfold Rw.has;simp only[List.head?_cons,bef];rw[decide_eq_false (show ¬ t<d by omega),Bool.and_false]
       rw[hh]
       rfl
    rw[this];rfl
   | false=>
    rw[if_neg (by decide)];have hall:∀ c∈bs,¬ c≤t:=fun c hc hct=>by
     have:=List.any_eq_false.mp c2 c hc
     simp at this;omega
    have hft:=hf t b (.head _) c1 fun c hc hct=>by
     rcases List.mem_cons.mp hc with rfl | hc
     ·omega
     ·exact absurd hct (hall c hc)
    rw[hft];cases e:f b with
    | none=>rfl
    | some w=>
     rw[a0y,a1C]
     have:(⟨b,bs.head?,w⟩:Rw).has t=true:=by
      unfold Rw.has;simp only;rw[decide_eq_true c1];cases bs with
      | nil=>rfl
      | cons d ds=>simp only[List.head?_cons,bef,Bool.true_and,decide_eq_true_eq];have:=hall d (.head _);omega
     rw[this];rfl
  ·rw[decide_eq_false c1,Bool.false_or];have hall:(bs.any fun b=>decide (b≤t))=false:=List.any_eq_false.mpr fun c hc=>by
    have:=pc.1 c hc
    simp;omega
   rw[hall,if_neg (by decide)]
   have:val (match f b with | some w=>[(⟨b,bs.head?,w⟩:Rw)] | none=>[]) t=none:=by
    cases f b with
    | none=>rfl
    | some w=>
     rw[a0y,a1C,a7r (by show t<b;omega)]
     rfl
   rw[this];rfl
def a0R (puts:List Rw) (t:Int):Z:=match puts.reverse.find? (·.has t) with
 | some r=>r.w.headD .non
 | none=>.non
def optW (z:Z):Option (List Z):=if z=.non then none else some [z]
theorem a5o (puts:List Rw) (p:Rw) (t:Int):a0R (puts++[p]) t=if p.has t=true then p.w.headD .non else a0R puts t:=by
 unfold a0R;rw[List.reverse_append,List.reverse_cons,List.reverse_nil,List.nil_append,List.singleton_append,List.find?_cons];cases p.has t<;>rfl
theorem b21 {r:Rw}{b t:Int}(h:b≤t) (h1:r.b≤t->r.b≤b) (h2:∀ e,r.e=some e->e≤t->e≤b):r.has t=r.has b:=by
 unfold Rw.has;have e1:decide (r.b≤t)=decide (r.b≤b):=a0J (by rw[eq_iff_iff];omega);rw[e1]
 congr 1
 cases he:r.e with
 | none=>rfl
 | some e=>
  have:=h2 e he
  simp only[bef];exact a0J (by rw[eq_iff_iff];omega)
theorem a52 {f g:Rw->Bool}:∀ {l:List Rw},(∀ r∈l,f r=g r)->l.find? f=l.find? g
 | [],_=>rfl
 | r::l,h=>by rw[List.find?_cons,List.find?_cons,h r (.head _),a52 fun s hs=>h s (.tail _ hs)]
def a6z (l:List Rw) (b:Int) (e:Option Int) (w:Option (List Z)):List Rw:=join (a1T l b e w)
theorem b22 {l:List Rw}{b:Int}{e:Option Int}{w:Option (List Z)}(h:Rise l) (g:bef b e=true):Can (a6z l b e w)/\(∀ t,val (a6z l b e w) t=if (decide (b≤t)&&bef t e)=true then w else val l t)/\(a6z l b e w).length≤l.length+2:=by
 have a:=a7u (w:=w) h g;have j:=b1y a.1;exact⟨j.1,fun t=>by rw[<- a.2.1 t];exact j.2.1 t,Nat.le_trans j.2.2.1 a.2.2⟩
def okW (w:List Z):Prop:=w≠[]/\w.length≤4/\w.all (flat 4)=true
def OkR (l:List Rw):Prop:=∀ r∈l,okW r.w
theorem a2e:∀ {n m:Nat}{z:Z},n≤m->flat n z=true->flat m z=true:=by
 intro n
 induction n with
 | zero=>intro m z _ h;cases z<;>first | (simp[flat]at h;done) | (cases m<;>simp_all[flat])
 | succ n ih=>
  intro m z hm h;cases m with
  | zero=>omega
  | succ m=>
   cases z with
   | tup ws=>
    simp only[flat,List.all_eq_true]at h ⊢;exact fun x hx=>ih (by omega) (h x hx)
   | _=>first | (simp[flat];done) | (simp[flat]at h;done) | (simp only[flat]at h ⊢;exact h)
theorem b23 {n m:Nat}{ws:List Z}(hm:n≤m) (h:ws.all (flat n)=true):ws.all (flat m)=true:=by
 rw[List.all_eq_true]at h ⊢;exact fun x hx=>a2e hm (h x hx)
theorem b24 {n:Nat}{i:Int}:flat n (.int i)=true:=by cases n<;>rfl
theorem b25 {n:Nat}:flat n .non=true:=by cases n<;>rfl
def wz:Option (List Z)->Z
 | none=>.non
 | some w=>w.headD .non
theorem b3U {G:Hq}{R:K3}{e:Option Int}{b:Int}(h:R (.bl (decide (e=some b))) G):zEq id (oz e) (.int b) G R:=by
 cases e with
 | none=>
  refine (show flat 8 (Z.non)=true/\flat 8 (Z.int b)=true/\R (.bl (id (decide (Z.non=Z.int b)))) G from ⟨b25,b24,?_⟩)
  have:decide (Z.non=Z.int b)=decide (none=some b):=by simp
  rw[this];exact h
 | some e=>
  refine b6Z ?_
  have:decide (e=b)=decide (some e=some b):=a0J (by simp)
  rw[this];exact h
theorem b9v {f:Bool->Bool}{G:Hq}{R:K3}{xs ys:List Z}(h1:flat 8 (.tup xs)=true) (h2:flat 8 (.tup ys)=true) (h:R (.bl (f (decide (xs=ys)))) G):zEq f (.tup xs) (.tup ys) G R:=by
 refine (show flat 8 (.tup xs)=true/\flat 8 (.tup ys)=true/\R (.bl (f (decide (Z.tup xs=Z.tup ys)))) G from ⟨h1,h2,?_⟩);rw[a0J (Z.tup.injEq _ _)];exact h
def a2G:P3:=fun ws G R=>∃ x y,ws=[oz x,oz y]/\R (oz (emin x y)) G
theorem a4e {ws:List Z}{G:Hq}{R:K3}(h:a2G ws G R):ws.length=2:=by obtain⟨_,_,rfl,_⟩:=h;rfl
theorem a4H (F:Fns K a) (T:Txt K mg a):FnOk P w K mg base CX0 1 a.f3 a.d3 ["end","other"] (lowP K a2G):=by
 refine fn3 F.n3 a4B (fun ws G R h=>(by exact a4e h)) (fun cdv A outer s H E ws G R hr h=>?_);have hu:=a0P hr;refine⟨_,(a0k (z_if (a0v o_is (a0c (pv 0)) a2o (a0s _))
  (a0n (a0D (a0c (pv 1))))
  a08)
  (a0k (z_if (a0v o_is (a0c (pv 1)) a2o (a0s _))
  (a0n (a0D (a0c (pv 0))))
  a08)
  (a0n (a0D (a0G (b_min rfl) rfl T.b_min rfl (a0b (a0c (pv 0)) (a0b (a0c (pv 1)) a0i a0a) a0a) (he:=a0a) (hpl:=(a0g a0a a0j))))))),?_⟩
 obtain⟨x,y,rfl,q⟩:=h;cases x with
 | none=>
  walk_at "go";cases y<;>exact q
 | some x=>
  cases y with
  | none=>
   walk_at "go";exact q
  | some y=>
   walk_at "go";exact q
def over (r:Rw) (m:Int):Bool:=match r.e with
 | none=>false
 | some e=>decide (e≤m)
def a4s:P3:=fun ws G R=>∃ r m,ws=[Rw.z r,.int m]/\R (.bl (over r m)) G
theorem a6A {ws:List Z}{G:Hq}{R:K3}(h:a4s ws G R):ws.length=2:=by obtain⟨_,_,rfl,_⟩:=h;rfl
theorem a7v (F:Fns K a) (T:Txt K mg a):FnOk P w K mg base CX0 1 a.f8 a.d8 ["stretch","moment"] (lowP K a4s):=by
 refine fn3 F.n8 a7k (fun ws G R h=>(by exact a6A h)) (fun cdv A outer s H E ws G R hr h=>?_);have hu:=a0P hr;refine⟨_,(a0n (a0D (b0L (a7R a34 (q_ix x_ix (a0c (pv 0)) a0h (fun _ _=>rfl)) a2o (a0s _)) (b2C (a7R o_le (q_ix x_ix (a0c (pv 0)) a0h (fun _ _=>rfl)) (a0c (pv 1)) (a0s _)))))),?_⟩;obtain⟨⟨b,e,w⟩,m,rfl,q⟩:=h;cases e with
 | none=>
  walk_at "go";exact a1I at1 (by walk_at "go";exact q)
 | some e=>
  walk_at "go";refine a1I at1 ?_;walk_at "go";refine a1I at1 ?_;walk_at "go";exact q
theorem a3s {α β:Type}{l:List α}{g:α->Z}{g':β->Z}{ok:Hq->Prop}{cap:List (Option Nat)}{pt:Pt}{tt:T3}{te:E3}{σ:S3}{R:K3}{D:Addr}{G1:Hq}(f:α->Option β) (hok:∀ ys,ok (put G1 D (.lst ys))) (hz:l.length≤1000)
  (turn:∀ x,x∈l->∀ (ys:List Z) (K1:K3) (K2:Hq->Prop),(∀ y,f x=some y->K1 (g' y) (put G1 D (.lst ys)))->(f x=none->K2 (put G1 D (.lst ys)))->∃ σ',a5x pt (g x) (cap3 cap σ)=some σ'/\tt σ' (put G1 D (.lst ys)) fun b G4=>if b=true then te σ' G4 K1 else K2 G4)
  (fin:R (.ref D) (put G1 D (.lst ((l.filterMap f).map g')))):LCB (l.map g) ok cap pt tt te σ R D G1:=by
 refine a6j (fun i ys G=>ys=((l.take i).filterMap f).map g'/\G=put G1 D (.lst ys)) ⟨by simp,rfl⟩ ?_ ?_ ?_
 ·rintro i ys G _ ⟨_,rfl⟩;exact hok ys
 ·rintro i x ys G hx ⟨e,rfl⟩;rw[List.getElem?_map]at hx;cases hx':l[i]? with
  | none=>rw[hx']at hx;cases hx
  | some a=>
   rw[hx']at hx;cases hx;refine turn a (List.mem_of_getElem? hx') ys _ _ (fun y hy=>⟨a0d,?_,?_,?_⟩) fun hn=>⟨?_,rfl⟩
   ·rw[e,List.length_map];exact Nat.lt_of_le_of_lt (Nat.le_trans (List.length_filterMap_le _ _) (by rw[List.length_take];omega)) (a0t (Nat.le_refl 1000))
   ·rw[a1Q hx',hy,e,List.map_append];rfl
   ·rw[a2n]
   ·rw[a1Q hx',hn,e];simp
 ·rintro ys G ⟨e,rfl⟩;rw[List.length_map,List.take_length]at e;rw[e];exact fin
def One (l:List Rw):Prop:=∀ r∈l,∃ x,r.w=[x]
def a3O:P3:=fun ws G R=>∃ p l m,ws=[.ref p,oz m]/\G p=some (.lst (l.map Rw.z))/\One l/\l.length≤1000/\∀ t,G t=none->R (.ref t) (put G t (.lst ((ahead m l).map Rw.z)))
theorem a5C {ws:List Z}{G:Hq}{R:K3}(h:a3O ws G R):ws.length=2:=by obtain⟨_,_,_,rfl,_⟩:=h;rfl
theorem a6B (F:Fns K a) (T:Txt K mg a):FnOk P w K mg base CX0 2 a.f11 a.d11 ["line","moment"] (lowP K a3O):=by
 have G_p_earlier_end:=a4H (P:=P) (w:=w) (base:=base) F T;refine fn3 F.n11 a6u (fun ws G R h=>(by exact a5C h)) (fun cdv A outer s H E ws G R hr h=>?_);have hu:=a0P hr;refine⟨_,(a0n (a0D (q_lc (N₀:=["line","moment"]) (so:=a0f a1S) (N':=["begin","end","worth","moment"]) (cap:=[none,none,none,some 1]) (pt:=(.tp [0,1,2])) rfl rfl rfl (by decide +kernel) rfl (a0H (a0c (pv 0))) (fun _ _ _ _=>(show QP _ _ (.tp [0,1,2]) from (a3x rfl (a0z (a0o (i:=0) a9Q rfl (Or.inl rfl)) (a0z (a0o (i:=1) a9Q rfl (Or.inl rfl)) (a0z (a0o (i:=2) a9Q rfl (Or.inl rfl)) a2k)))))) (fun _ _ _ _=>(a3i (QW.qt (q_or (a0v o_is (a0c (pv 3)) a2o (a0s _)) (a44 (a0v o_lt (a0c (pv 0)) (a0c (pv 3)) (a0s _))))))) (fun _ _ _ _=>(a13 (a0b (a0c (pv 0)) (a0b (a0u G_p_earlier_end (hr.mono (by decide)) rfl T.m3 F.n3.kp (a4E F) (a0b (a0c (pv 1)) (a0b (a0c (pv 3)) a0i a0a) a0a) (he:=a0a) (hpl:=(a0g a0a a0j))) (a0b (a0c (pv 2)) a0i a0a) a0E) a0a)))))),?_⟩;obtain⟨p,l,m,rfl,hp,h1,hz,q⟩:=h;walk_at "go";refine a1E hp ?_;intro D hD;refine a3s (a3a m) (fun ys=>a0p hp hD) hz ?_ (q D hD);intro r hr ys K1 K2 k1 k2;obtain⟨x,hx⟩:=h1 r hr;obtain⟨b,e,w⟩:=r;cases hx;refine⟨_,rfl,?_⟩;cases m with
 | none=>
  walk_at "go";refine⟨e,none,rfl,?_⟩;walk_at "go";refine⟨lenK rfl,?_⟩;exact k1 _ rfl
 | some m=>
  walk_at "go";refine ifD (fun c=>?_) fun c=>?_
  ·walk_at "go";refine⟨e,some m,rfl,?_⟩;walk_at "go";refine⟨lenK rfl,?_⟩;refine k1 ⟨b,emin e (some m),[x]⟩ ?_;unfold a3a;rw[if_pos (by simpa[bef]using c)]
  ·refine k2 ?_;unfold a3a;rw[if_neg (by simpa[bef]using c)]
def a4t:P3:=fun ws G R=>∃ p l m,ws=[.ref p,.int m]/\G p=some (.lst (l.map Rw.z))/\One l/\l.length≤1000/\∀ t,G t=none->R (.ref t) (put G t (.lst ((fromOn m l).map Rw.z)))
theorem a6C {ws:List Z}{G:Hq}{R:K3}(h:a4t ws G R):ws.length=2:=by obtain⟨_,_,_,rfl,_⟩:=h;rfl
theorem a7w (F:Fns K a) (T:Txt K mg a):FnOk P w K mg base CX0 1 a.f13 a.d13 ["line","moment"] (lowP K a4t):=by
 refine fn3 F.n13 a7l (fun ws G R h=>(by exact a6C h)) (fun cdv A outer s H E ws G R hr h=>?_);have hu:=a0P hr;refine⟨_,(a0n (a0D (q_lc (N₀:=["line","moment"]) (so:=a0f a2z) (N':=["begin","end","worth","moment"]) (cap:=[none,none,none,some 1]) (pt:=(.tp [0,1,2])) rfl rfl rfl (by decide +kernel) rfl (a0H (a0c (pv 0))) (fun _ _ _ _=>(show QP _ _ (.tp [0,1,2]) from (a3x rfl (a0z (a0o (i:=0) a9Q rfl (Or.inl rfl)) (a0z (a0o (i:=1) a9Q rfl (Or.inl rfl)) (a0z (a0o (i:=2) a9Q rfl (Or.inl rfl)) a2k)))))) (fun _ _ _ _=>(a3i (QW.qt (q_or (a0v o_is (a0c (pv 1)) a2o (a0s _)) (a44 (a0v o_lt (a0c (pv 3)) (a0c (pv 1)) (a0s _))))))) (fun _ _ _ _=>(a13 (a0b (a0G (b_max rfl) rfl T.b_max rfl (a0b (a0c (pv 0)) (a0b (a0c (pv 3)) a0i a0a) a0a) (he:=a0a) (hpl:=(a0g a0a a0j))) (a0b (a0c (pv 1)) (a0b (a0c (pv 2)) a0i a0a) a0a) a0E)))))),?_⟩;obtain⟨p,l,m,rfl,hp,h1,hz,q⟩:=h;walk_at "go";refine a1E hp ?_;intro D hD;refine a3s (a6y m) (fun ys=>a0p hp hD) hz ?_ (q D hD);intro r hr ys K1 K2 k1 k2;obtain⟨x,hx⟩:=h1 r hr;obtain⟨b,e,w⟩:=r;cases hx;refine⟨_,rfl,?_⟩;cases e with
 | none=>
  walk_at "go";refine⟨lenK rfl,?_⟩;exact k1 ⟨if m > b then m else b,none,[x]⟩ rfl
 | some e=>
  walk_at "go";refine ifD (fun c=>?_) fun c=>?_
  ·walk_at "go";refine⟨lenK rfl,?_⟩;refine k1 ⟨if m > b then m else b,some e,[x]⟩ ?_;unfold a6y;rw[if_pos (by simpa[bef]using c)]
  ·refine k2 ?_;unfold a6y;rw[if_neg (by simpa[bef]using c)]
theorem a8d {n:Nat}(h:0<n):ixN n (-1)=some (n - 1):=by
 unfold ixN;rw[if_neg (by decide),if_pos (by omega)]
 congr 1
 omega
theorem a6D {α:Type}{l:List α}{x:α}(h:l.getLast?=some x):atI l (-1)=some x:=by
 have hne:l≠[]:=fun z=>by subst z;simp at h
 unfold atI;rw[a8d (List.length_pos_iff.mpr hne)]
 show l[l.length - 1]?=some x
 rw[<- List.getLast?_eq_getElem?];exact h
theorem a81 {α:Type}{l:List α}{x y:α}(h:l.getLast?=some x):l.set (l.length - 1) y=l.dropLast++[y]:=by
 have hs:=a3M h;generalize l.dropLast=i at hs;subst hs;simp
theorem sIx2 {a b:Z}{w:List Z}:HT.sIx (a::b::w).length 0 (some 2)=2:=by
 have:=HT.sIx_nat (a::b::w).length 0 2
 rw[show ((2:Nat):Int)=2 from rfl]at this;rw[this];simp
theorem cut2 {a b:Z}{w:List Z}:cutZ (a::b::w) (some 2) none=w:=by
 unfold cutZ;rw[sIx2,HT.sIx_none];simp
theorem b1D {a b:Z}{w:List Z}:¬ (HT.sIx (a::b::w).length 0 (some 2)=0/\HT.sIx (a::b::w).length (a::b::w).length none=(a::b::w).length):=by
 rw[sIx2];intro h;exact absurd h.1 (by decide)
def a0W:P3:=fun ws G R=>∃ p ps,ws=[.ref p]/\G p=some (.lst (ps.map Rw.z))/\OkR ps/\ps.length≤1000/\∀ t,G t=none->R (.ref t) (put G t (.lst ((join ps).map Rw.z)))
theorem a2A {ws:List Z}{G:Hq}{R:K3}(h:a0W ws G R):ws.length=1:=by obtain⟨_,_,rfl,_⟩:=h;rfl
theorem b5a {G:Hq}{R:K3}{a b:Z}{w:List Z}(h:R (.tup w) G):zSl (.tup (a::b::w)) (some 2) none G R:=b4G b1D (by rw[cut2];exact h)
theorem b1E {w:List Z}(h:okW w):flat 8 (.tup w)=true:=b23 (n:=4) (m:=7) (by decide) h.2.2
theorem a82:∀ (ps told:List Rw),OkR told->OkR ps->OkR (ps.foldl jn told)
 | [],_,h,_=>h
 | p::ps,told,h,h'=>by
  refine a82 ps (jn told p) (fun r hr=>?_) fun r hr=>h' r (.tail _ hr);unfold jn at hr
  split at hr
  ·next l hl=>
   split at hr
   ·rcases List.mem_append.mp hr with hr | hr
    ·exact h r (List.dropLast_subset _ hr)
    ·rw[List.mem_singleton.mp hr];exact h' p (.head _)
   ·rcases List.mem_append.mp hr with hr | hr
    ·exact h r hr
    ·rw[List.mem_singleton.mp hr];exact h' p (.head _)
  ·rcases List.mem_append.mp hr with hr | hr
   ·exact h r hr
   ·rw[List.mem_singleton.mp hr];exact h' p (.head _)
theorem b7Q (told:List Rw) (p:Rw):(jn told p).length≤told.length+1:=by
 unfold jn
 split
 ·split<;>simp
 ·simp
theorem a6E:∀ (ps told:List Rw),(ps.foldl jn told).length≤told.length+ps.length
 | [],told=>by simp
 | p::ps,told=>by
  have h1:=a6E ps (jn told p);have h2:=b7Q told p
  show (ps.foldl jn (jn told p)).length≤_
  rw[List.length_cons];omega
theorem b1F {ps:List Rw}{i:Nat}{p:Rw}(h:ps[i]?=some p):(ps.take (i+1)).foldl jn []=jn ((ps.take i).foldl jn []) p:=by
 rw[List.take_add_one,h];simp[List.foldl_append]
theorem a2P (F:Fns K a) (T:Txt K mg a):FnOk P w K mg base CX0 1 a.f12 a.d12 ["pieces"] (lowP K a0W):=by
 refine fn3 F.n12 sc_p_with_alike_joined (fun ws G R h=>(by exact a2A h)) (fun cdv A outer s H E ws G R hr h=>?_);have hu:=a0P hr;refine⟨_,(a0k (z_set (i:=1) sc_p_with_alike_joined.nd rfl (Or.inl rfl) (a2L a0i))
  (a0k (a24 (pt:=(.nm 2)) PassesOwn.never rfl (a0H (a0c (pv 0))) (show QP _ _ (.nm 2) from (a0o (i:=2) sc_p_with_alike_joined.nd rfl (Or.inl rfl)))
  (a0n (z_if (QW.qt (a7S (b6w (a0c (pv 1)) (fun _=>rfl)) (a7S (a0v (o_eq hu) (q_ix x_ix (q_ix x_ix (a0c (pv 1)) (q_un a2M a0h) (fun _ _=>rfl)) a0h (fun _ _=>rfl)) (q_ix x_ix (a0c (pv 2)) a0h (fun _ _=>rfl)) (a0s _)) (a5N (a0v (o_eq hu) (a2r x_sl (q_ix x_ix (a0c (pv 1)) (q_un a2M a0h) (fun _ _=>rfl)) (a2S a0h) a2q) (a2r x_sl (a0c (pv 2)) (a2S a0h) a2q) (a0s _))))))
  (a0n (b0P (q_op a1c (a13 (a0b (q_ix x_ix (q_ix x_ix (a0c (pv 1)) (q_un a2M a0h) (fun _ _=>rfl)) a0h (fun _ _=>rfl)) (a0b (q_ix x_ix (a0c (pv 2)) a0h (fun _ _=>rfl)) a0i a0l) a0l)) (a2r x_sl (a0c (pv 2)) (a2S a0h) a2q)) (a0c (pv 1)) (q_un a2M a0h) b6I))
  (a0n (a0Q (q_bm PySem.F.plainAttrs_list PySem.F.slot_list_append PySem.F.type_list_append a1D (a0c (pv 1)) (a0b (a0c (pv 2)) a0i a0a)))))))
  (a0n (a0D (a0c (pv 1)))))),?_⟩
 obtain⟨p,ps,rfl,hp,hok,hz,q⟩:=h;walk_at "go";refine⟨lenK rfl,fun t ht=>?_⟩;walk_at "go";refine a1E (a0p hp ht) ?_;refine a1k (fun i σ G'=>∃ v,σ=[some (.ref p),some (.ref t),v]/\G'=put G t (.lst (((ps.take i).foldl jn []).map Rw.z))) ⟨_,rfl,by simp⟩ (by rintro i σ G' _ ⟨v,_,e⟩;exact by rw[e];exact a0p hp ht) ?_ ?_
 ·rintro i x σ G' hx ⟨v,rfl,rfl⟩;rw[List.getElem?_map]at hx;cases hx':ps[i]? with
  | none=>rw[hx']at hx;cases hx
  | some r=>
   rw[hx']at hx;cases hx;have hr:=hok r (List.mem_of_getElem? hx');have hot:OkR ((ps.take i).foldl jn []):=a82 _ _ (fun r hr=>by simp at hr) fun r hr=>hok r (List.mem_of_mem_take hr);have hlt:=a6E (ps.take i) [];rw[List.length_take]at hlt;have hi:=(List.getElem?_eq_some_iff.mp hx').1;rw[b1F hx'];generalize (ps.take i).foldl jn []=told at hot hlt ⊢;simp only[List.length_nil]at hlt;refine⟨_,rfl,?_⟩;have app:∀ G',G'=put G t (.lst (told.map Rw.z))->jn told r=told++[r]->a6k (.ref t) [r.z] G' (fun _ G1=>∃ v,([some (.ref p),some (.ref t),some r.z]:S3)=[some (.ref p),some (.ref t),v]/\G1=put G t (.lst ((jn told r).map Rw.z))):=by
    rintro _ rfl e;refine a1t a0d (by rw[List.length_map];exact a0t (by omega)) ⟨_,rfl,?_⟩;rw[a2n,e,List.map_append]
    rfl
   walk_at "go";refine b3I a0d ?_;cases hl:told.getLast? with
   | none=>
    have e0:told=[]:=List.getLast?_eq_none_iff.mp hl;subst e0;refine ifF ?_;walk_at "go";refine a2T a0d ?_;walk_at "go";exact app _ rfl (by unfold jn;rw[hl])
   | some k=>
    have hne:told≠[]:=fun z=>by subst z;simp at hl
    have hlm:(told.map Rw.z).getLast?=some k.z:=by rw[List.getLast?_map,hl];rfl
    have he:(told.map Rw.z).isEmpty=false:=by cases told with | nil=>exact absurd rfl hne | cons _ _=>rfl
    have hk:=hot k (List.mem_of_getLast? hl);rw[he];refine ifT ?_;walk_at "go";refine a1n a0d (a6D hlm) ?_;walk_at "go";refine a1I at1 ?_;walk_at "go";refine a1I at0 ?_;refine b3U ?_;walk_at "go";refine ifD (fun c1=>?_) fun c1=>?_
    ·walk_at "go";refine a1n a0d (a6D hlm) ?_;walk_at "go";refine b5a ?_;walk_at "go";refine b5a ?_;refine b9v (b1E hk) (b1E hr) ?_;walk_at "go";refine ifD (fun c2=>?_) fun c2=>?_
     ·walk_at "go";refine a1n a0d (a6D hlm) ?_;walk_at "go";refine a1I at0 ?_;walk_at "go";refine a1I at1 ?_;walk_at "go";refine⟨lenK rfl,?_⟩;walk_at "go";refine b5a ?_;refine b6X (by simp) (a2F (by have:=hr.2.1;simp;omega)) ?_;walk_at "go";refine b62 a0d (a8d (by rw[List.length_map];exact List.length_pos_iff.mpr hne)) ?_;refine⟨_,rfl,?_⟩;rw[a2n,a81 hlm]
      congr 1
      unfold jn;rw[hl];dsimp only;rw[if_pos ⟨c1,c2⟩,List.map_append,List.map_dropLast]
      rfl
     ·walk_at "go";refine a2T a0d ?_;walk_at "go";exact app _ rfl (by unfold jn;rw[hl];dsimp only;rw[if_neg fun z=>c2 z.2])
    ·refine ifF ?_;walk_at "go";refine a2T a0d ?_;walk_at "go";exact app _ rfl (by unfold jn;rw[hl];dsimp only;rw[if_neg fun z=>c1 z.1])
 ·rintro σ G' ⟨v,rfl,rfl⟩;walk_at "go";rw[List.length_map,List.take_length];exact q t ht
theorem b26 {r:Rw}{m:Int}(h:over r m=true):r.has m=false:=by
 unfold over at h;unfold Rw.has;cases he:r.e with
 | none=>rw[he]at h;cases h
 | some e=>
  rw[he]at h;simp only[decide_eq_true_eq]at h;simp only[bef];rw[decide_eq_false (show ¬ m<e by omega),Bool.and_false]
theorem b1G {r:Rw}{m m':Int}(h:m≤m') (o:over r m=true):over r m'=true:=by
 unfold over at o ⊢;cases he:r.e with
 | none=>rw[he]at o;cases o
 | some e=>rw[he]at o;simp only[decide_eq_true_eq]at o ⊢;omega
theorem a83:∀ {l:List Rw}{m:Int}{k:Nat},(∀ (i:Nat) r,i<k->l[i]?=some r->over r m=true)->val l m=val (l.drop k) m
 | l,m,0,_=>rfl
 | [],m,k+1,_=>rfl
 | r::l,m,k+1,h=>by
  rw[a0y,b26 (h 0 r (by omega) rfl),if_neg (by decide),List.drop_succ_cons];exact a83 fun i s hi e=>h (i+1) s (by omega) (by simpa using e)
theorem b27 {r:Rw}{l:List Rw}{m:Int}(h:Rise (r::l)) (o:over r m=false):val (r::l) m=if r.b≤m then some r.w else none:=by
 rw[a0y];have hb:bef m r.e=true:=by
  unfold over at o;cases he:r.e with
  | none=>rfl
  | some e=>rw[he]at o;simp only[decide_eq_false_iff_not]at o;simp only[bef,decide_eq_true_eq];omega
 by_cases c:r.b≤m
 ·have:r.has m=true:=by unfold Rw.has;rw[hb,decide_eq_true c];rfl
  rw[this,if_pos rfl,if_pos c]
 ·rw[a7r (by omega),if_neg (by decide),if_neg c];refine a3L fun s hs=>a7r ?_
  have:=((List.pairwise_cons.mp h.2).1 s hs).b (h.1 r (.head _))
  omega
theorem Rise.drop {l:List Rw}(h:Rise l) (k:Nat):Rise (l.drop k):=⟨fun r hr=>h.1 r (List.mem_of_mem_drop hr),h.2.sublist (List.drop_sublist _ _)⟩
theorem drop_get {α:Type}{l:List α}{k:Nat}{x:α}(h:l[k]?=some x):l.drop k=x::l.drop (k+1):=by
 obtain⟨h1,h2⟩:=List.getElem?_eq_some_iff.mp h;rw[List.drop_eq_getElem_cons h1,h2]
def a3b:P3:=fun ws G R=>Ex4 fun (p q:Addr) (l:List Rw) (ms:List Int)=>ws=[.ref p,.ref q]/\G p=some (.lst (l.map Rw.z))/\G q=some (.lst (ms.map Z.int))/\Rise l/\OkR l/\l.length≤1000/\ms.Pairwise (·≤·)/\ms.length≤1000 /\
 ∀ t,G t=none->R (.ref t) (put G t (.lst (ms.map fun m=>wz (val l m))))
theorem a5p {ws:List Z}{G:Hq}{R:K3}(h:a3b ws G R):ws.length=2:=by obtain⟨_,_,_,_,rfl,_⟩:=h;rfl
theorem a8e {l:List Rw}{k:Nat}{r:Rw}(h:l[k]?=some r):atI (l.map Rw.z) (k:Int)=some r.z:=a1y (by rw[List.getElem?_map,h];rfl)
theorem take_snoc {α:Type}{l:List α}{i:Nat}{x:α}(h:l[i]?=some x):l.take (i+1)=l.take i++[x]:=by rw[List.take_add_one,h];rfl
theorem a5D (F:Fns K a) (T:Txt K mg a):FnOk P w K mg base CX0 2 a.f9 a.d9 ["line","moments"] (lowP K a3b):=by
 have G_p_is_over:=a7v (P:=P) (w:=w) (base:=base) F T;refine fn3 F.n9 sc_p_worths_in (fun ws G R h=>(by exact a5p h)) (fun cdv A outer s H E ws G R hr h=>?_);have hu:=a0P hr;refine⟨_,(a0k (z_set (i:=2) sc_p_worths_in.nd rfl (Or.inl rfl) (a2L a0i))
  (a0k (z_set (i:=3) sc_p_worths_in.nd rfl (Or.inl rfl) a0h)
  (a0k (a24 (pt:=(.nm 4)) PassesOwn.never rfl (a0H (a0c (pv 1))) (show QP _ _ (.nm 4) from (a0o (i:=4) sc_p_worths_in.nd rfl (Or.inl rfl)))
  (a6Y (b4v PassesOwn.never (QW.qt (a7S (a0v o_lt (a0c (pv 3)) (a0G b_len rfl T.b_len PySem.boot_len (a0b (a0c (pv 0)) a0i a0a) (he:=a0a) (hpl:=a0j)) (a0s _)) (a5N (a23 (a0u G_p_is_over (hr.mono (by decide)) rfl T.m8 F.n8.kp (a7n F) (a0b (q_ix x_ix (a0c (pv 0)) (a0c (pv 3)) (fun _ _=>rfl)) (a0b (a0c (pv 4)) a0i a0a) a0l) (he:=a0l) (hpl:=(a0g a0a a0j)))))))
  (a0n (b6E (i:=3) sc_p_worths_in.nd rfl (Or.inl rfl) a0h b3D)))
  (a0n (z_if (QW.qt (a7S (a0v o_lt (a0c (pv 3)) (a0G b_len rfl T.b_len PySem.boot_len (a0b (a0c (pv 0)) a0i a0a) (he:=a0a) (hpl:=a0j)) (a0s _)) (a5N (a0v o_le (q_ix x_ix (q_ix x_ix (a0c (pv 0)) (a0c (pv 3)) (fun _ _=>rfl)) a0h (fun _ _=>rfl)) (a0c (pv 4)) (a0s _)))))
  (a0n (a0Q (q_bm PySem.F.plainAttrs_list PySem.F.slot_list_append PySem.F.type_list_append a1D (a0c (pv 2)) (a0b (q_ix x_ix (q_ix x_ix (a0c (pv 0)) (a0c (pv 3)) (fun _ _=>rfl)) a0h (fun _ _=>rfl)) a0i a0l))))
  (a0n (a0Q (q_bm PySem.F.plainAttrs_list PySem.F.slot_list_append PySem.F.type_list_append a1D (a0c (pv 2)) (a0b a2o a0i a0e))))))))
  (a0n (a0D (a0c (pv 2))))))),?_⟩
 obtain⟨p,q,l,ms,rfl,hp,hq,hr,hok,hz,hm,hmz,fin⟩:=h;walk_at "go";refine⟨lenK rfl,fun t ht=>?_⟩;walk_at "go";refine a1E (a0p hq ht) ?_;refine a1k (fun i σ G'=>∃ (k:Nat) (v:Option Z),k≤l.length/\(∀ (j:Nat) r m,j<k->l[j]?=some r->ms[i]?=some m->over r m=true)/\σ=[some (.ref p),some (.ref q),some (.ref t),some (.int k),v]/\G'=put G t (.lst ((ms.take i).map fun m=>wz (val l m)))) ⟨0,_,Nat.zero_le _,fun j r m hj=>by omega,rfl,by simp⟩ (by rintro i σ G' _ ⟨_,_,_,_,_,e⟩;exact by rw[e];exact a0p hq ht) ?_ ?_
 ·rintro i x σ G' hx ⟨k,v,hk,hov,rfl,rfl⟩;rw[List.getElem?_map]at hx;cases hx':ms[i]? with
  | none=>rw[hx']at hx;cases hx
  | some m=>
   rw[hx']at hx;cases hx;refine⟨_,rfl,?_⟩;walk_at "go";have hp':put G t (.lst ((ms.take i).map fun m=>wz (val l m))) p=some (.lst (l.map Rw.z)):=a0p hp ht;generalize hG:put G t (.lst ((ms.take i).map fun m=>wz (val l m)))=G1 at hp' ⊢;refine a61 (fun σ' G'=>∃ k':Nat,k'≤l.length/\(∀ (j:Nat) r,j<k'->l[j]?=some r->over r m=true)/\(∀ r,l[k']?=some r->over r m=false)/\σ'=[some (.ref p),some (.ref q),some (.ref t),some (.int k'),some (.int m)]/\G1=G') ?_ ?_
   ·refine⟨fun n σ' G'=>∃ k':Nat,n+k'=l.length/\(∀ (j:Nat) r,j<k'->l[j]?=some r->over r m=true)/\σ'=[some (.ref p),some (.ref q),some (.ref t),some (.int k'),some (.int m)]/\G1=G',⟨l.length - k,k,by omega,fun j r hj e=>hov j r m hj e hx',rfl,rfl⟩,?_⟩;rintro n σ' G' ⟨k',hn,ho,rfl,rfl⟩;walk_at "go";refine a5S hp' ?_;walk_at "go";refine ifD (fun c=>?_) fun c=>?_
    ·rw[List.length_map]at c;have hlt:k'<l.length:=by omega
     have hg:=List.getElem?_eq_getElem hlt;walk_at "go";refine a1n hp' (a8e hg) ?_;walk_at "go";refine⟨_,_,rfl,?_⟩;walk_at "go";refine ifB (fun c2=>?_) fun c2=>?_
     ·walk_at "go";refine⟨n - 1,by omega,k'+1,by omega,fun j r hj e=>?_,rfl,rfl⟩
      by_cases hjk:j<k'
      ·exact ho j r hjk e
      ·have:j=k':=by omega
       subst this;rw[hg]at e;cases e;exact c2
     ·exact⟨k',by omega,ho,fun r e=>by rw[hg]at e;cases e;exact c2,rfl,rfl⟩
    ·rw[List.length_map]at c;refine ifF ?_;exact⟨k',by omega,ho,fun r e=>by have:=(List.getElem?_eq_some_iff.mp e).1;omega,rfl,rfl⟩
   ·rintro σ' G' ⟨k',hk',ho,hn,rfl,rfl⟩;have hv:val l m=val (l.drop k') m:=a83 ho;have nxt:∀ w:Z,w=wz (val l m)->a6k (.ref t) [w] G1 (fun _ G2=>∃ (k:Nat) (v:Option Z),k≤l.length/\(∀ (j:Nat) r m,j<k->l[j]?=some r->ms[i+1]?=some m->over r m=true)/\([some (.ref p),some (.ref q),some (.ref t),some (.int k'),some (.int m)]:S3)=[some (.ref p),some (.ref q),some (.ref t),some (.int k),v]/\G2=put G t (.lst ((ms.take (i+1)).map fun m=>wz (val l m)))):=by
     rintro w rfl;subst hG;have hi:=(List.getElem?_eq_some_iff.mp hx').1;refine a1t a0d (by rw[List.length_map,List.length_take];exact a0t (by omega)) ⟨k',_,hk',fun j r m' hj e e'=>b1G ?_ (ho j r hj e),rfl,?_⟩
     ·obtain⟨h1,e1⟩:=List.getElem?_eq_some_iff.mp hx';obtain⟨h2,e2⟩:=List.getElem?_eq_some_iff.mp e';rw[<- e1,<- e2];exact List.pairwise_iff_getElem.mp hm _ _ h1 h2 (by omega)
     ·rw[a2n,take_snoc hx',List.map_append];rfl
    have ht1:∃ ws,G1 t=some (.lst ws):=by rw[<- hG];exact⟨_,a0d⟩
    obtain⟨wt,ht1⟩:=ht1;walk_at "go";refine a5S hp' ?_;walk_at "go";refine ifD (fun c=>?_) fun c=>?_
    ·rw[List.length_map]at c;have hlt:k'<l.length:=by omega
     have hg:=List.getElem?_eq_getElem hlt;have hv2:=b27 (by rw[<- drop_get hg];exact hr.drop k') (hn _ hg);rw[<- drop_get hg,<- hv]at hv2;walk_at "go";refine a1n hp' (a8e hg) ?_;walk_at "go";refine a1I at0 ?_;walk_at "go";refine ifD (fun c2=>?_) fun c2=>?_
     ·walk_at "go";refine a2T ht1 ?_;walk_at "go";refine a1n hp' (a8e hg) ?_;walk_at "go";have hw:=hok _ (List.getElem_mem hlt);obtain⟨x,xs,ex⟩:∃ x xs,(l[k']).w=x::xs:=by
       cases e:(l[k']).w with
       | nil=>exact absurd e hw.1
       | cons x xs=>exact⟨x,xs,rfl⟩
      refine a1I (w:=x) (by show atI (_::_::(l[k']).w) 2=some x;rw[ex];exact at2) ?_;walk_at "go";refine nxt x ?_;rw[hv2,if_pos c2,ex];rfl
     ·walk_at "go";refine a2T ht1 ?_;walk_at "go";refine nxt .non ?_;rw[hv2,if_neg c2];rfl
    ·rw[List.length_map]at c;refine ifF ?_;walk_at "go";refine a2T ht1 ?_;walk_at "go";refine nxt .non ?_;rw[hv,List.drop_eq_nil_of_le (by omega)];rfl
 ·rintro σ G' ⟨k,v,_,_,rfl,rfl⟩;walk_at "go";rw[List.length_map,List.take_length];exact fin t ht
def a3P:P3:=fun ws G R=>∃ p l m,ws=[.ref p,.int m]/\G p=some (.lst (l.map Rw.z))/\Rise l/\OkR l/\l.length≤1000/\∀ G',Sm G G'->R (wz (val l m)) G'
theorem a5E {ws:List Z}{G:Hq}{R:K3}(h:a3P ws G R):ws.length=2:=by obtain⟨_,_,_,rfl,_⟩:=h;rfl
theorem a6F (F:Fns K a) (T:Txt K mg a):FnOk P w K mg base CX0 3 a.f10 a.d10 ["line","moment"] (lowP K a3P):=by
 have G_p_worths_in:=a5D (P:=P) (w:=w) (base:=base) F T;refine fn3 F.n10 a6t (fun ws G R h=>(by exact a5E h)) (fun cdv A outer s H E ws G R hr h=>?_);have hu:=a0P hr;refine⟨_,(a0n (a0D (q_ix x_ix (a0u G_p_worths_in (hr.mono (by decide)) rfl T.m9 F.n9.kp (a5B F) (a0b (a0c (pv 0)) (a0b (a2L (a0b (a0c (pv 1)) a0i a0a)) a0i a6h) a0a) (he:=a0a) (hpl:=(a0g a6h a0j))) a0h (fun _ _=>rfl)))),?_⟩;obtain⟨p,l,m,rfl,hp,hr,hok,hz,q⟩:=h;walk_at "go";refine⟨lenK rfl,fun a ha=>?_⟩;walk_at "go";refine⟨p,a,l,[m],rfl,a0p hp ha,a0d,hr,hok,hz,by simp,by simp,fun t ht=>?_⟩;walk_at "go";exact a1n a0d at0 (q _ ((Sm.new (o:=.lst [.int m]) ha).trans (Sm.new ht)))
theorem b1H {m:Option Int}{l:List Rw}(h:OkR l):OkR (ahead m l):=fun x hx=>by
 obtain⟨r,h1,_,rfl⟩:=a3N hx;exact h r h1
theorem b28 {m:Int}{l:List Rw}(h:OkR l):OkR (fromOn m l):=fun x hx=>by
 obtain⟨r,h1,_,rfl⟩:=a4U hx;exact h r h1
def okV (z:Z):Prop:=flat 4 z=true
theorem b7R {z:Z}(h:okV z):okW [z]:=⟨by simp,by simp,by rw[List.all_cons,show flat 4 z=true from h];rfl⟩
theorem a9V {l:List Rw}{b:Int}{e:Option Int}{z:Z}(h:OkR l) (hz:okV z):OkR (a1T l b e (optW z)):=by
 intro r hr;unfold a1T at hr;rcases List.mem_append.mp hr with hr | hr
 ·rcases List.mem_append.mp hr with hr | hr
  ·exact b1H h r hr
  ·unfold optW at hr
   split at hr
   ·next w e=>
          split at e
          ·cases e
          ·cases e;rw[List.mem_singleton.mp hr];exact b7R hz
   ·simp at hr
 ·cases e with
  | none=>simp at hr
  | some e=>exact b28 h r hr
def a5q:P3:=fun ws G R=>Ex5 fun p l b e z=>ws=[.ref p,.int b,oz e,z]/\G p=some (.lst (l.map Rw.z))/\Rise l/\OkR l/\One l/\l.length≤900/\bef b e=true/\okV z /\
 ∀ t G',G t=none->Sm G G'->G' t=some (.lst ((a6z l b e (optW z)).map Rw.z))->R (.ref t) G'
theorem a7x {ws:List Z}{G:Hq}{R:K3}(h:a5q ws G R):ws.length=4:=by obtain⟨_,_,_,_,_,rfl,_⟩:=h;rfl
theorem a8f (F:Fns K a) (T:Txt K mg a):FnOk P w K mg base CX0 3 a.f14 a.d14 ["line","begin","end","worth"] (lowP K a5q):=by
 have G_p_ahead_of:=a6B (P:=P) (w:=w) (base:=base) F T;have G_p_with_alike_joined:=a2P (P:=P) (w:=w) (base:=base) F T;have G_p_from_on:=a7w (P:=P) (w:=w) (base:=base) F T;refine fn3 F.n14 sc_p_put_on (fun ws G R h=>(by exact a7x h)) (fun cdv A outer s H E ws G R hr h=>?_);have hu:=a0P hr;refine⟨_,(a0k (z_set (i:=4) sc_p_put_on.nd rfl (Or.inl rfl) (a0u G_p_ahead_of (hr.mono (by decide)) rfl T.m11 F.n11.kp (a6w F) (a0b (a0c (pv 0)) (a0b (a0c (pv 1)) a0i a0a) a0a) (he:=a0a) (hpl:=(a0g a0a a0j))))
  (a6Y (z_if (a0v a34 (a0c (pv 3)) a2o (a0s _))
  (a0n (a0Q (q_bm PySem.F.plainAttrs_list PySem.F.slot_list_append PySem.F.type_list_append a1D (a0c (pv 4)) (a0b (a13 (a0b (a0c (pv 1)) (a0b (a0c (pv 2)) (a0b (a0c (pv 3)) a0i a0a) a0a) a0a)) a0i a4M))))
  a08)
  (a6Y (z_if (a0v a34 (a0c (pv 2)) a2o (a0s _))
  (a0n (a0Q (q_bm PySem.F.plainAttrs_list PySem.F.slot_list_extend PySem.F.type_list_extend a8A (a0c (pv 4)) (a0b (a0u G_p_from_on (hr.mono (by decide)) rfl T.m13 F.n13.kp (a7o F) (a0b (a0c (pv 0)) (a0b (a0c (pv 2)) a0i a0a) a0a) (he:=a0a) (hpl:=(a0g a0a a0j))) a0i a0E))))
  a08)
  (a0n (a0D (a0u G_p_with_alike_joined (hr.mono (by decide)) rfl T.m12 F.n12.kp (a2O F) (a0b (a0c (pv 4)) a0i a0a) (he:=a0a) (hpl:=a0j))))))),?_⟩
 obtain⟨p,l,b,e,z,rfl,hp,hr,hok,h1,hz,g,hv,q⟩:=h;have hpc:=(a7u (w:=optW z) hr g).2.2;walk_at "go";refine⟨p,l,some b,rfl,hp,h1,by omega,fun t ht=>?_⟩;walk_at "go";have la:=a7t (some b) l;refine a61 (fun σ' G'=>σ'=[some (.ref p),some (.int b),some (oz e),some z,some (.ref t)]/\G'=put G t (.lst ((ahead (some b) l++(match optW z with | some w=>[(⟨b,e,w⟩:Rw)] | none=>[])).map Rw.z))) ?_ ?_
 ·walk_at "go";refine ifN (fun c=>?_) fun c=>?_
  ·walk_at "go";refine a2T a0d ?_;walk_at "go";refine⟨lenK rfl,?_⟩;walk_at "go";refine a1t a0d (by rw[List.length_map];exact a0t (by omega)) ⟨rfl,?_⟩;rw[a2n,optW,if_neg c,List.map_append];rfl
  ·walk_at "go";refine⟨rfl,?_⟩;rw[optW,if_pos c];simp
 ·rintro σ' G' ⟨rfl,rfl⟩;have hp1:∀ o,put G t o p=some (.lst (l.map Rw.z)):=fun o=>a0p hp ht;have fin:∀ G' ,Sm G G'->G' t=some (.lst ((a1T l b e (optW z)).map Rw.z))->a0W [.ref t] G' R:=fun G' s ht'=>by
   refine⟨t,_,rfl,ht',a9V hok hv,by omega,fun u hu=>?_⟩;exact q u _ (s.free hu) (s.trans (Sm.new hu)) a0d
  refine a61 (fun σ' G'=>σ'=[some (.ref p),some (.int b),some (oz e),some z,some (.ref t)]/\Sm G G'/\G' t=some (.lst ((a1T l b e (optW z)).map Rw.z))) ?_ ?_
  ·cases e with
   | none=>
    walk_at "go";refine⟨rfl,Sm.new ht,?_⟩;unfold a1T;rw[List.append_nil];exact a0d
   | some e=>
    walk_at "go";refine a2T a0d ?_;walk_at "go";refine⟨p,l,e,rfl,hp1 _,h1,by omega,fun u hu=>?_⟩;have hut:t≠u:=fun z=>by subst z;rw[a0d]at hu;cases hu
    have hpl:(a1T l b (some e) (optW z)).length=(ahead (some b) l++(match optW z with | some w=>[(⟨b,some e,w⟩:Rw)] | none=>[])).length+(fromOn e l).length:=by
     unfold a1T;exact List.length_append
    generalize hA:(ahead (some b) l++(match optW z with | some w=>[(⟨b,some e,w⟩:Rw)] | none=>[]))=A at hu hpl ⊢
    have e1:put (put G t (.lst (A.map Rw.z))) u (.lst ((fromOn e l).map Rw.z)) t=some (.lst (A.map Rw.z)):=by rw[a0I hut];exact a0d
    walk_at "go";refine a8C e1 a0d (by rw[List.length_map,List.length_map];exact a2F (by omega)) ?_;refine⟨rfl,?_,?_⟩
    ·exact ((Sm.new ht).trans (Sm.new hu)).put ht
    ·rw[a0d,<- List.map_append,<- hA]
     rfl
  ·rintro σ' G' ⟨rfl,s,ht'⟩;walk_at "go";exact fin G' s ht'
def okS (s:Str):Prop:=s.length≤1000/\PyData.strOk s=true
def Th (G:Hq):Z->Prop
 | .non=>True
 | .bl _=>True
 | .int _=>True
 | .str s=>okS s
 | .tup _=>True
 | .ref p=>(∃ ws,G p=some (.lst ws))\/∃ kvs,G p=some (.dK kvs)
 | _=>False
theorem Th.sm {G G':Hq}(s:Sm G G') {x:Z}(h:Th G x):Th G' x:=by
 cases x with
 | ref p=>
  rcases h with ⟨ws,e⟩ | ⟨ws,e⟩
  ·exact .inl ⟨ws,s _ _ e⟩
  ·exact .inr ⟨ws,s _ _ e⟩
 | _=>exact h
structure Kd (G:Hq) (x:Z) (n:String):Prop where
 ty:tyN G x=some n
 is:n="NoneType"\/n="bool"\/n="int"\/n="str"\/n="tuple"\/n="list"\/n="dict"
theorem Th.kd {G:Hq}{x:Z}(h:Th G x):∃ n,Kd G x n:=by
 cases x with
 | non=>exact⟨_,rfl,.inl rfl⟩
 | bl _=>exact⟨_,rfl,.inr (.inl rfl)⟩
 | int _=>exact⟨_,rfl,.inr (.inr (.inl rfl))⟩
 | str _=>exact⟨_,rfl,.inr (.inr (.inr (.inl rfl)))⟩
 | tup _=>exact⟨_,rfl,.inr (.inr (.inr (.inr (.inl rfl))))⟩
 | ref p=>
  rcases h with ⟨ws,e⟩ | ⟨ws,e⟩
  ·exact⟨"list",by simp[tyN,e],.inr (.inr (.inr (.inr (.inr (.inl rfl)))))⟩
  ·exact⟨"dict",by simp[tyN,e],.inr (.inr (.inr (.inr (.inr (.inr rfl)))))⟩
 | _=>exact False.elim h
theorem b5b {n:String}(h:n="NoneType"\/n="bool"\/n="int"\/n="str"\/n="tuple"\/n="list"\/n="dict"):kit0 n "str"=some (decide (n="str")):=by
 rcases h with rfl | rfl | rfl | rfl | rfl | rfl | rfl<;>decide +kernel
theorem b29 {n:String}(h:n="NoneType"\/n="bool"\/n="int"\/n="str"\/n="tuple"\/n="list"\/n="dict"):kit0 n "bool"=some (decide (n="bool")):=by
 rcases h with rfl | rfl | rfl | rfl | rfl | rfl | rfl<;>decide +kernel
theorem b5c {n:String}(h:n="NoneType"\/n="bool"\/n="int"\/n="str"\/n="tuple"\/n="list"\/n="dict"):kit0 n "int"=some (decide (n="int")||decide (n="bool")):=by
 rcases h with rfl | rfl | rfl | rfl | rfl | rfl | rfl<;>decide +kernel
def isS:Z->Bool
 | .str _=>true
 | _=>false
def isB:Z->Bool
 | .bl _=>true
 | _=>false
def isI:Z->Bool
 | .int _=>true
 | .bl _=>true
 | _=>false
theorem b9w {G:Hq}{R:K3}{x:Z}(h:Th G x) (q:R (.bl (isS x)) G):zIsT [x,.ty "str"] G R:=by
 obtain⟨n,k⟩:=h.kd;refine⟨n,_,k.ty,b5b k.is,?_⟩;have e:decide (n="str")=isS x:=by
  have:=k.ty
  cases x with
  | ref p=>rcases h with ⟨ws,e⟩ | ⟨ws,e⟩<;>(simp[tyN,e]at this;subst this;show _=false;decide)
  | _=>first | (cases this;show _=false;decide;done) | (cases this;show _=true;decide;done) | exact False.elim h
 rw[e];exact q
theorem b7S {G:Hq}{R:K3}{x:Z}(h:Th G x) (q:R (.bl (isB x)) G):zIsT [x,.ty "bool"] G R:=by
 obtain⟨n,k⟩:=h.kd;refine⟨n,_,k.ty,b29 k.is,?_⟩;have e:decide (n="bool")=isB x:=by
  have:=k.ty
  cases x with
  | ref p=>rcases h with ⟨ws,e⟩ | ⟨ws,e⟩<;>(simp[tyN,e]at this;subst this;show _=false;decide)
  | _=>first | (cases this;show _=false;decide;done) | (cases this;show _=true;decide;done) | exact False.elim h
 rw[e];exact q
theorem b7T {G:Hq}{R:K3}{x:Z}(h:Th G x) (q:R (.bl (isI x)) G):zIsT [x,.ty "int"] G R:=by
 obtain⟨n,k⟩:=h.kd;refine⟨n,_,k.ty,b5c k.is,?_⟩;have e:(decide (n="int")||decide (n="bool"))=isI x:=by
  have:=k.ty
  cases x with
  | ref p=>rcases h with ⟨ws,e⟩ | ⟨ws,e⟩<;>(simp[tyN,e]at this;subst this;show _=false;decide)
  | _=>first | (cases this;show _=false;decide;done) | (cases this;show _=true;decide;done) | exact False.elim h
 rw[e];exact q
def okC (c:Nat):Bool:=decide (97≤c)&&decide (c≤122)
def a1P:Z->Bool
 | .str s=>decide (1≤s.length)&&decide (s.length≤8)&&s.cps.toList.all okC
 | _=>false
def momB:Z->Bool
 | .int i=>decide (0≤i)&&decide (i≤1000000000000)
 | _=>false
theorem a5r {i:Int}:momB (.int i)=(decide (0≤i)&&decide (i≤1000000000000)):=rfl
def strB (x y:Z):Bool:=momB x&&match y with
 | .non=>true
 | .int j=>momB (.int j)&&match x with | .int i=>decide (i<j) | _=>false
 | _=>false
def spB1 (f:Z->Bool):P3:=fun ws G R=>∃ x,ws=[x]/\Th G x/\∀ G',Sm G G'->R (.bl (f x)) G'
theorem b7U {f:Z->Bool}{ws:List Z}{G:Hq}{R:K3}(h:spB1 f ws G R):ws.length=1:=by obtain⟨_,rfl,_⟩:=h;rfl
def spB2 (f:Z->Z->Bool):P3:=fun ws G R=>∃ x y,ws=[x,y]/\Th G x/\Th G y/\∀ G',Sm G G'->R (.bl (f x y)) G'
theorem b9x {f:Z->Z->Bool}{ws:List Z}{G:Hq}{R:K3}(h:spB2 f ws G R):ws.length=2:=by obtain⟨_,_,rfl,_⟩:=h;rfl
abbrev a7y:P3:=spB1 a1P
abbrev a5F:P3:=spB1 momB
abbrev a5s:P3:=spB2 strB
theorem b1I (a b:Nat):ltS ⟨#[a]⟩ ⟨#[b]⟩=decide (a<b):=by
 show decide ([a]<[b])=decide (a<b)
 by_cases h:a<b
 ·rw[decide_eq_true h];exact decide_eq_true (List.cons_lt_cons_iff.mpr (.inl h))
 ·rw[decide_eq_false h];refine decide_eq_false fun q=>?_;rcases List.cons_lt_cons_iff.mp q with q | q
  ·exact h q
  ·exact absurd q.2 (List.not_lt_nil _)
theorem strA:(Str.ofString "a")=⟨#[97]⟩:=by decide +kernel
theorem strZ:(Str.ofString "z")=⟨#[122]⟩:=by decide +kernel
theorem b3a (x:Str) (g:Nat->Option Z) (f:Z->Option Z) (h:∀ c,f (.str ⟨#[c]⟩)=g c):(a4z x).filterMap f=x.cps.toList.filterMap g:=by
 unfold a4z;rw[List.filterMap_map]
 congr 1
 funext c
 exact h c
theorem b1J {x:Str}(h:x.length≤1000):(a4z x).length≤1000:=by unfold a4z;rw[List.length_map,Array.length_toList];exact h
theorem b7V (l:List Nat):(l.filterMap fun c=>some (Z.bl (okC c)))=(l.map okC).map Z.bl:=by
 induction l with
 | nil=>rfl
 | cons c l ih=>simp[List.filterMap_cons,ih]
theorem b5d (l:List Nat):(l.map okC).all id=l.all okC:=by
 induction l with
 | nil=>rfl
 | cons c l ih=>simp[List.all_cons,ih]
theorem a3Q {s:Str}:a1P (.str s)=(decide (1≤s.length)&&decide (s.length≤8)&&s.cps.toList.all okC):=rfl
theorem a7z (F:Fns K a) (T:Txt K mg a):FnOk P w K mg base CX0 1 a.f0 a.d0 ["thing"] (lowP K a7y):=by
 refine fn3 F.n0 a7j (fun ws G R h=>(by exact b7U h)) (fun cdv A outer s H E ws G R hr h=>?_);have hu:=a0P hr;refine⟨_,(a0k (z_if (a2D (a23 (a0G a9C rfl T.b_isinstance rfl (a0b (a0c (pv 0)) (a0b (q_ty (a3Y (v:=.ty "str") rfl T.b_str rfl rfl)) a0i a0a) a0a) (he:=a0a) (hpl:=(a0g a0a a0j)))))
  (a0n (a0D q_bl))
  a08)
  (a0k (z_if (QW.qt (q_or (a0v o_lt (a0G b_len rfl T.b_len PySem.boot_len (a0b (a0c (pv 0)) a0i a0a) (he:=a0a) (hpl:=a0j)) a0h (a0s _)) (a44 (a0v o_gt (a0G b_len rfl T.b_len PySem.boot_len (a0b (a0c (pv 0)) a0i a0a) (he:=a0a) (hpl:=a0j)) (b3y (a8X rfl T.c_LONGEST_NAME)) (a0s _)))))
  (a0n (a0D q_bl))
  a08)
  (a0n (a0D (a0G (b_all rfl) rfl T.b_all rfl (a0b (q_lc (N₀:=["thing"]) (so:=a0f a2w) (N':=["sign"]) (cap:=[none]) (pt:=(.nm 0)) rfl rfl rfl (by decide +kernel) rfl (b6O (a0c (pv 0))) (fun _ _ _ _=>(show QP _ _ (.nm 0) from (a0o (i:=0) b9n rfl (Or.inl rfl)))) (fun _ _ _ _=>a14) (fun _ _ _ _=>(b0K o_le o_le a3z (a0c (pv 0)) a3z))) a0i a1m) (he:=a1m) (hpl:=a0j)))))),?_⟩
 obtain⟨x,rfl,hx,q⟩:=h;walk_at "go";refine b9w hx ?_;walk_at "go";refine ifNB (fun c=>?_) fun c=>?_
 ·walk_at "go";have e:a1P x=false:=by cases x<;>first | rfl | cases c
  have:=q G (Sm.refl G)
  rw[e]at this;exact this
 ·obtain⟨s,rfl⟩:∃ s,x=.str s:=by cases x<;>first | exact⟨_,rfl⟩ | cases c
  have hs:okS s:=hx;walk_at "go";refine b06 (a2F hs.1) ?_;walk_at "go";have no:a1P (.str s)=false->R (.bl false) G:=fun e=>by have:=q G (Sm.refl G);rw[e]at this;exact this
  refine ifD (fun c1=>?_) fun c1=>?_
  ·walk_at "go";exact no (by rw[a3Q,decide_eq_false (show ¬ 1≤s.length by omega)];rfl)
  ·walk_at "go";refine b06 (a2F hs.1) ?_;walk_at "go";refine ifD (fun c2=>?_) fun c2=>?_
   ·walk_at "go";exact no (by rw[a3Q,decide_eq_false (show ¬ s.length≤8 by omega),Bool.and_false];rfl)
   ·walk_at "go";intro D hD;refine b0U (fun x=>match x with | .str z=>some (.bl (!ltS z (Str.ofString "a")&&!ltS (Str.ofString "z") z)) | _=>none) (fun _=>True.intro) (b1J hs.1) ?_ ?_
    ·intro x hm ys K1 K2 k1 k2;unfold a4z at hm;obtain⟨c,_,rfl⟩:=List.mem_map.mp hm;refine⟨_,rfl,?_⟩;walk_at "go";refine ifB (fun z=>?_) fun z=>?_
     ·walk_at "go";refine k1 _ ?_;dsimp only;rw[z];rfl
     ·refine k1 _ ?_;dsimp only;rw[z];rfl
    ·have e:(a4z s).filterMap (fun x=>match x with | .str z=>some (.bl (!ltS z (Str.ofString "a")&&!ltS (Str.ofString "z") z)) | _=>none)=(s.cps.toList.map okC).map Z.bl:=by
      rw[b3a s (fun c=>some (.bl (okC c))) _ fun c=>?_,b7V];dsimp only;rw[strA,strZ,b1I,b1I];unfold okC
      congr 2
      by_cases h1:c<97<;>by_cases h2:122<c<;>simp[h1,h2]<;>omega
     have e2:a1P (.str s)=s.cps.toList.all okC:=by rw[a3Q,decide_eq_true (show 1≤s.length by omega),decide_eq_true (show s.length≤8 by omega),Bool.true_and,Bool.true_and]
     refine b82 (by rw[e];exact a0d) ?_;rw[b5d,<- e2];exact q _ (Sm.new hD)
theorem a3c (F:Fns K a) (T:Txt K mg a):FnOk P w K mg base CX0 1 a.f1 a.d1 ["thing"] (lowP K a5F):=by
 refine fn3 F.n1 a5A (fun ws G R h=>(by exact b7U h)) (fun cdv A outer s H E ws G R hr h=>?_);have hu:=a0P hr;refine⟨_,(a0k (z_if (QW.qt (q_or (a23 (a0G a9C rfl T.b_isinstance rfl (a0b (a0c (pv 0)) (a0b (q_ty (a3Y (v:=.ty "bool") rfl T.b_bool rfl rfl)) a0i a0a) a0a) (he:=a0a) (hpl:=(a0g a0a a0j)))) (a44 (a2D (a23 (a0G a9C rfl T.b_isinstance rfl (a0b (a0c (pv 0)) (a0b (q_ty (a3Y (v:=.ty "int") rfl T.b_int rfl rfl)) a0i a0a) a0a) (he:=a0a) (hpl:=(a0g a0a a0j))))))))
  (a0n (a0D q_bl))
  a08)
  (a0n (a0D (b0K o_le o_le a0h (a0c (pv 0)) (b3y (a8X rfl T.c_LAST_MOMENT)))))),?_⟩
 obtain⟨x,rfl,hx,q⟩:=h;have no:momB x=false->R (.bl false) G:=fun e=>by have:=q G (Sm.refl G);rw[e]at this;exact this
 walk_at "go";refine b7S hx ?_;walk_at "go";refine ifB (fun c=>?_) fun c=>?_
 ·walk_at "go";exact no (by cases x<;>first | rfl | cases c)
 ·walk_at "go";refine b7T hx ?_;walk_at "go";refine ifNB (fun c2=>?_) fun c2=>?_
  ·walk_at "go";exact no (by cases x<;>first | rfl | cases c2)
  ·obtain⟨i,rfl⟩:∃ i,x=.int i:=by cases x<;>first | exact⟨_,rfl⟩ | (cases c;done) | (cases c2;done)
   walk_at "go";refine ifD (fun z=>?_) fun z=>?_
   ·walk_at "go"
    have:=q G (Sm.refl G)
    rw[a5r,decide_eq_true z,Bool.true_and]at this;exact this
   ·exact no (by rw[a5r,decide_eq_false z];rfl)
theorem a5t (F:Fns K a) (T:Txt K mg a):FnOk P w K mg base CX0 2 a.f2 a.d2 ["begin","end"] (lowP K a5s):=by
 have G_p_is_moment:=a3c (P:=P) (w:=w) (base:=base) F T;refine fn3 F.n2 a5k (fun ws G R h=>(by exact b9x h)) (fun cdv A outer s H E ws G R hr h=>?_);have hu:=a0P hr;refine⟨_,(a0k (z_if (a2D (a23 (a0u G_p_is_moment (hr.mono (by decide)) rfl T.m1 F.n1.kp (a18 F) (a0b (a0c (pv 0)) a0i a0a) (he:=a0a) (hpl:=a0j))))
  (a0n (a0D q_bl))
  a08)
  (a0k (z_if (a0v o_is (a0c (pv 1)) a2o (a0s _))
  (a0n (a0D q_bl))
  a08)
  (a0n (a0D (b0L (a0u G_p_is_moment (hr.mono (by decide)) rfl T.m1 F.n1.kp (a18 F) (a0b (a0c (pv 1)) a0i a0a) (he:=a0a) (hpl:=a0j)) (b2C (a7R o_lt (a0c (pv 0)) (a0c (pv 1)) (a0s _)))))))),?_⟩
 obtain⟨x,y,rfl,hx,hy,q⟩:=h;walk_at "go";refine⟨x,rfl,hx,fun G1 s1=>?_⟩;have no:∀ G',Sm G G'->strB x y=false->R (.bl false) G':=fun G' s e=>by have:=q G' s;rw[e]at this;exact this
 walk_at "go";refine ifNB (fun c=>?_) fun c=>?_
 ·walk_at "go";exact no _ s1 (by unfold strB;rw[c];rfl)
 ·walk_at "go";refine ifD (fun z=>?_) fun z=>?_
  ·walk_at "go"
   have:=q _ s1
   unfold strB at this;rw[c,z]at this;exact this
  ·walk_at "go";refine⟨y,rfl,hy.sm s1,fun G2 s2=>?_⟩;have s12:=s1.trans s2;walk_at "go";refine ifB (fun c2=>?_) fun c2=>?_
   ·obtain⟨i,rfl⟩:∃ i,x=.int i:=by cases x<;>first | exact⟨_,rfl⟩ | cases c
    obtain⟨j,rfl⟩:∃ j,y=.int j:=by cases y<;>first | exact⟨_,rfl⟩ | cases c2
    walk_at "go"
    have:=q _ s12
    unfold strB at this;rw[c]at this;dsimp only at this;rw[c2,Bool.true_and,Bool.true_and]at this;exact this
   ·refine no _ s12 ?_;unfold strB;rw[c,Bool.true_and];cases y<;>first | rfl | exact absurd rfl z | (dsimp only;rw[c2];rfl)
def isL (c:Nat):Prop:=97≤c/\c≤122
def nmOk (s:Str):Prop:=1≤s.cps.toList.length/\s.cps.toList.length≤8/\∀ c∈s.cps.toList,isL c
theorem a25 (s:Str):s.length=s.cps.toList.length:=by rw[Array.length_toList];rfl
theorem a84 {s:Str}(h:∀ c∈s.cps.toList,isL c):PyData.strOk s=true:=by
 unfold PyData.strOk;rw[Array.all_eq_true_iff_forall_mem];intro c hc
 have:=(h c (by simpa using hc)).2
 exact decide_eq_true (by omega)
theorem a5u {s:Str}(h:nmOk s) {n:Nat}:flat n (.str s)=true:=by
 have:=a84 h.2.2
 cases n<;>exact this
theorem a4I {G:Hq}{s:Str}(h:nmOk s):Th G (.str s):=⟨by rw[a25];have:=h.2.1;omega,a84 h.2.2⟩
theorem nm_b {s:Str}(h:nmOk s):a1P (.str s)=true:=by
 rw[a3Q,decide_eq_true (by rw[a25];exact h.1),decide_eq_true (by rw[a25];exact h.2.1)];rw[Bool.true_and,Bool.true_and,List.all_eq_true];intro c hc;obtain⟨h1,h2⟩:=h.2.2 c hc;unfold okC;rw[decide_eq_true h1,decide_eq_true h2];rfl
def T12:Int:=1000000000000
def stOk (b:Int) (e:Option Int):Prop:=0≤b/\b≤T12/\∀ x,e=some x->b<x/\x≤T12
theorem stOk.bef {b:Int}{e:Option Int}(h:stOk b e):bef b e=true:=by
 cases e with
 | none=>rfl
 | some x=>simp only[Lw.bef,decide_eq_true_eq];exact (h.2.2 x rfl).1
theorem st_b {b:Int}{e:Option Int}(h:stOk b e):strB (.int b) (oz e)=true:=by
 obtain⟨h1,h2,h3⟩:=h;unfold T12 at *;unfold strB;rw[a5r,decide_eq_true h1,decide_eq_true h2];cases e with
 | none=>rfl
 | some x=>
  obtain⟨h4,h5⟩:=h3 x rfl
  show (true&&(momB (.int x)&&decide (b<x)))=true
  rw[a5r,decide_eq_true (show 0≤x by omega),decide_eq_true h5,decide_eq_true h4];rfl
def Plain (l:List Rw):Prop:=∀ r∈l,∃ x,r.w=[x]/\flat 0 x=true
theorem Plain.one {l:List Rw}(h:Plain l):One l:=fun r hr=>let ⟨x,e,_⟩:=h r hr;⟨x,e⟩
theorem Plain.okR {l:List Rw}(h:Plain l):OkR l:=fun r hr=>by
 obtain⟨x,e,f⟩:=h r hr;rw[e];exact b7R (a2e (by decide) f)
theorem Plain.nil:Plain []:=fun r hr=>by simp at hr
theorem a4u {puts:List Rw}(h:Plain puts) (t:Int):flat 0 (a0R puts t)=true:=by
 unfold a0R;cases e:puts.reverse.find? (·.has t) with
 | none=>rfl
 | some r=>
  obtain⟨x,ex,f⟩:=h r (by have:=List.mem_of_find?_eq_some e;simpa using this)
  show flat 0 (r.w.headD .non)=true
  rw[ex];exact f
theorem b5e (z:Z):wz (optW z)=z:=by
 unfold optW
 split
 ·next h=>rw[h];rfl
 ·rfl
theorem b1K {L:List Rw}{b:Int}{e:Option Int}{z:Z}(h:Plain L) (f:flat 0 z=true):Plain (a6z L b e (optW z)):=fun r hr=>by
 unfold a6z at hr;have hp:Plain (a1T L b e (optW z)):=fun r hr=>by
  unfold a1T at hr;rcases List.mem_append.mp hr with hr | hr
  ·rcases List.mem_append.mp hr with hr | hr
   ·obtain⟨r0,h1,_,rfl⟩:=a3N hr;exact h r0 h1
   ·unfold optW at hr
    split at hr
    ·next w e=>
           split at e
           ·cases e
           ·cases e;rw[List.mem_singleton.mp hr];exact⟨z,rfl,f⟩
    ·simp at hr
  ·cases e with
   | none=>simp at hr
   | some e=>
    obtain⟨r0,h1,_,rfl⟩:=a4U hr;exact h r0 h1
 have key:∀ (ps told:List Rw),Plain told->Plain ps->Plain (ps.foldl jn told):=by
  intro ps
  induction ps with
  | nil=>exact fun _ h _=>h
  | cons p ps ih=>
   intro told ht hps;refine ih (jn told p) (fun r hr=>?_) fun r hr=>hps r (.tail _ hr)
   have:=hps p (.head _)
   unfold jn at hr
   split at hr
   ·split at hr
    ·rcases List.mem_append.mp hr with hr | hr
     ·exact ht r (List.dropLast_subset _ hr)
     ·rw[List.mem_singleton.mp hr];exact this
    ·rcases List.mem_append.mp hr with hr | hr
     ·exact ht r hr
     ·rw[List.mem_singleton.mp hr];exact this
   ·rcases List.mem_append.mp hr with hr | hr
    ·exact ht r hr
    ·rw[List.mem_singleton.mp hr];exact this
 exact key _ [] Plain.nil hp r hr
theorem b1L {f:Bool->Bool}{G:Hq}{R:K3}{x y:Z}(h1:flat 8 x=true) (h2:flat 8 y=true) (h:R (.bl (f (decide (x=y)))) G):zEq f x y G R:=by
 cases x<;>cases y<;>first
  | exact⟨h1,h2,h⟩
  | (simp[flat]at h1;done)
  | (simp[flat]at h2;done)
  | (rw[a0J (Z.int.injEq _ _)]at h;exact h)
  | (rw[a0J (Z.str.injEq _ _)]at h;exact h)
structure Tl where
 key:Str
 w:Option Str
 b:Int
 e:Option Int
abbrev sPut:Str:=Str.ofString "put"
abbrev b3V:Str:=Str.ofString "clear"
def Tl.z (τ:Tl):Z:=match τ.w with
 | some w=>.tup [.str sPut,.str τ.key,.str w,.int τ.b,oz τ.e]
 | none=>.tup [.str b3V,.str τ.key,.int τ.b,oz τ.e]
def Tl.v (τ:Tl):Z:=match τ.w with
 | some w=>.str w
 | none=>.non
structure Tl.Ok (τ:Tl):Prop where
 k:nmOk τ.key
 w:∀ s,τ.w=some s->nmOk s
 st:stOk τ.b τ.e
theorem Tl.Ok.v {τ:Tl}(h:τ.Ok):flat 0 τ.v=true:=by
 unfold Tl.v;cases e:τ.w with
 | none=>rfl
 | some w=>exact a5u (h.w w e)
def Tl.rw (τ:Tl):Rw:=⟨τ.b,τ.e,[τ.v]⟩
def a0U (T:List Tl) (k:Str):List Rw:=(T.filter fun τ=>decide (τ.key=k)).map Tl.rw
theorem a4f {T:List Tl}{τ:Tl}{k:Str}:a0U (T++[τ]) k=a0U T k++(if τ.key=k then [τ.rw] else []):=by
 unfold a0U;rw[List.filter_append,List.map_append]
 congr 1
 by_cases c:τ.key=k<;>simp[c]
def OkT (T:List Tl):Prop:=∀ τ∈T,τ.Ok
theorem a53 {T:List Tl}{k:Str}(h:OkT T):Plain (a0U T k):=fun r hr=>by
 unfold a0U at hr;obtain⟨τ,h1,rfl⟩:=List.mem_map.mp hr;exact⟨_,rfl,(h τ (List.mem_filter.mp h1).1).v⟩
structure IsLine (T:List Tl) (k:Str) (L:List Rw):Prop where
 can:Can L
 pl:Plain L
 len:L.length≤2*T.length
 v:∀ t,val L t=optW (a0R (a0U T k) t)
theorem IsLine.nil {T:List Tl}{k:Str}(h:a0U T k=[]):IsLine T k []:=⟨Can.nil,Plain.nil,by simp,fun t=>by rw[h];rfl⟩
theorem IsLine.snoc {T:List Tl}{τ:Tl}{L:List Rw}(h:IsLine T τ.key L) (o:τ.Ok):IsLine (T++[τ]) τ.key (a6z L τ.b τ.e (optW τ.v)):=by
 have po:=b22 (w:=optW τ.v) h.can.rise o.st.bef;refine⟨po.1,b1K h.pl o.v,by have:=po.2.2;have:=h.len;simp;omega,fun t=>?_⟩;rw[a4f,if_pos rfl,a5o,po.2.1 t,h.v t];unfold Rw.has
 show _=optW (if (decide (τ.b≤t)&&bef t τ.e)=true then τ.v else a0R (a0U T τ.key) t)
 split<;>rfl
def ixF (k:Str):Nat->List Tl->List Int
 | _,[]=>[]
 | n,τ::T=>(if τ.key=k then [(n:Int)+1] else [])++ixF k (n+1) T
def ix (T:List Tl) (k:Str):List Int:=ixF k 0 T
theorem a85 {k:Str}{τ:Tl}:∀ (n:Nat) (T:List Tl),ixF k n (T++[τ])=ixF k n T++(if τ.key=k then [(n+T.length:Int)+1] else [])
 | n,[]=>by simp[ixF]
 | n,σ::T=>by
  rw[List.cons_append,ixF,a85,ixF,List.append_assoc]
  congr 2
  split
  ·congr 1;rw[List.length_cons];omega
  ·rfl
theorem a4g {k:Str}{τ:Tl}{T:List Tl}:ix (T++[τ]) k=ix T k++(if τ.key=k then [(T.length:Int)+1] else []):=by
 unfold ix;rw[a85];simp
theorem a86 {k:Str}:∀ {n:Nat}{T:List Tl}{i:Int},i∈ixF k n T->(n:Int)+1≤i/\i≤n+T.length
 | _,[],i,h=>by simp[ixF]at h
 | n,τ::T,i,h=>by
  rw[ixF]at h;rw[List.length_cons];rcases List.mem_append.mp h with h | h
  ·split at h
   ·rw[List.mem_singleton.mp h];omega
   ·simp at h
  ·have:=a86 h;omega
theorem b7W {k:Str}{T:List Tl}{i:Int}(h:i∈ix T k):1≤i/\i≤T.length:=by
 have:=a86 h
 simpa using this
theorem b1M {k:Str}:∀ (n:Nat) (T:List Tl),(ixF k n T).length≤T.length
 | _,[]=>by simp[ixF]
 | n,τ::T=>by
  have:=b1M (k:=k) (n+1) T
  rw[ixF,List.length_append,List.length_cons]
  split<;>simp<;>omega
theorem b7X (T:List Tl) (k:Str):(ix T k).length≤T.length:=b1M 0 T
theorem a54 {k:Str}:∀ (n:Nat) (T:List Tl),(ixF k n T).Pairwise (·<·)
 | _,[]=>.nil
 | n,τ::T=>by
  rw[ixF];refine List.pairwise_append.mpr ⟨by split<;>simp,a54 (n+1) T,fun x hx y hy=>?_⟩
  have:=a86 hy
  split at hx
  ·rw[List.mem_singleton.mp hx];omega
  ·simp at hx
theorem b1N (T:List Tl) (k:Str):(ix T k).Pairwise (·<·):=a54 0 T
theorem a4V {k:Str}:∀ (n:Nat) (T:List Tl) (s q:Nat),s≤q->(∀ i∈ixF k n T,(i:Int)≤n+s\/(n+q:Int)<i)->a0U (T.take q) k=a0U (T.take s) k
 | n,[],s,q,_,_=>by simp
 | n,τ::T,s,0,hs,_=>by
  have:s=0:=by omega
  subst this;rfl
 | n,τ::T,0,q+1,hs,h=>by
  have hk:¬ τ.key=k:=fun e=>by
   have:=h ((n:Int)+1) (by rw[ixF,if_pos e];simp)
   omega
  have ih:=a4V (k:=k) (n+1) T 0 q (by omega) fun i hi=>by
   rcases h i (by rw[ixF];simp[hi]) with c | c
   ·have:=a86 hi;omega
   ·right;omega
  rw[List.take_succ_cons];unfold a0U at ih ⊢;rw[List.filter_cons,if_neg (by simpa using hk),ih];simp
 | n,τ::T,s+1,q+1,hs,h=>by
  have ih:=a4V (k:=k) (n+1) T s q (by omega) fun i hi=>by
   rcases h i (by rw[ixF];simp[hi]) with c | c
   ·left;omega
   ·right;omega
  rw[List.take_succ_cons,List.take_succ_cons];unfold a0U at ih ⊢;rw[List.filter_cons,List.filter_cons]
  split
  ·rw[List.map_cons,List.map_cons,ih]
  ·exact ih
theorem IsLine.cut {T:List Tl}{k:Str}{L:List Rw}{s q:Nat}(h:IsLine (T.take s) k L) (hs:s≤q) (hi:∀ i∈ix T k,i≤(s:Int)\/(q:Int)<i):IsLine (T.take q) k L:=by
 have e:=a4V (k:=k) 0 T s q hs fun i h=>by have:=hi i h;simpa using this
 exact⟨h.can,h.pl,by have:=h.len;rw[List.length_take]at this ⊢;omega,fun t=>by rw[e];exact h.v t⟩
abbrev a7A:Str:=Str.ofString "last"
abbrev a9W:Str:=Str.ofString "kept"
def shF (n:Int) (d:Addr):List (Str×Z):=[(a7A,.int n),(a9W,.ref d)]
theorem b9y:¬ (a7A=a9W):=by decide +kernel
theorem b5f {n:Int}{d:Addr}:putQ a9W (.ref d) [(a7A,.int n)]=shF n d:=by
 unfold putQ;rw[if_neg b9y];rfl
theorem b5g {n m:Int}{d:Addr}:putQ a7A (.int m) (shF n d)=shF m d:=by
 unfold shF putQ;rw[if_pos rfl]
theorem a4h {n:Int}{d:Addr}:(shF n d).lookup a7A=some (.int n):=by
 unfold shF;rw[List.lookup_cons,beq_self_eq_true]
theorem a8g {n:Int}{d:Addr}:(shF n d).lookup a9W=some (.ref d):=by
 unfold shF;rw[List.lookup_cons,show (a9W==a7A)=false by decide +kernel,List.lookup_cons,beq_self_eq_true]
theorem a4i {n:Int}{d:Addr}{m:Str}(h1:(m==a7A)=false) (h2:(m==a9W)=false):(shF n d).lookup m=none:=by
 unfold shF;rw[List.lookup_cons,h1,List.lookup_cons,h2];rfl
abbrev enZ (e:Int×Addr):Z:=.tup [.int e.1,.ref e.2]
structure Hist (G:Hq) (S:Addr->Prop) (T:List Tl) (k:Str) (h:Addr) (es:List (Int×Addr)):Prop where
 s:S h
 at_:G h=some (.lst (es.map enZ))
 ix:es.map (·.1)=ix T k
 ne:es≠[]
 ln:∀ e∈es,S e.2/\∃ L,G e.2=some (.lst (L.map Rw.z))/\IsLine (T.take e.1.toNat) k L
structure ShM (C:Addr) (G:Hq) (p:Addr) (S:Addr->Prop) (T:List Tl) (n:Int) (dx d:Addr) (kvs:List (Key×Z)):Prop where
 ob:G p=some (.ins C dx (shF n d))
 sp:S p
 sd:S d
 dc:G d=some (.dK kvs)
 len:kvs.length≤T.length
 no:∀ k,valZ kvs (.inr k)=none->ix T k=[]
 hs:∀ k z,valZ kvs (.inr k)=some z->∃ h es,z=.ref h/\Hist G S T k h es
 inj:∀ k k' z,valZ kvs (.inr k)=some z->valZ kvs (.inr k')=some z->k=k'
 al:∀ b,S b->∃ o,G b=some o
 nd:(kvs.map (·.1)).Nodup
 sk:∀ q∈kvs,∃ s,q.1=Sum.inr s
def Sheet (C:Addr) (G:Hq) (p:Addr) (S:Addr->Prop) (T:List Tl):Prop:=∃ dx d kvs,ShM C G p S T T.length dx d kvs
def KS (S:Addr->Prop) (G G':Hq):Prop:=∀ b o,S b->G b=some o->G' b=some o
def KN (S:Addr->Prop) (G G':Hq):Prop:=∀ b o,¬ S b->G b=some o->G' b=some o
theorem Sm.ks {S:Addr->Prop}{G G':Hq}(s:Sm G G'):KS S G G':=fun b o _ e=>s b o e
theorem Sm.kn {S:Addr->Prop}{G G':Hq}(s:Sm G G'):KN S G G':=fun b o _ e=>s b o e
theorem KN.trans {S:Addr->Prop}{G G1 G2:Hq}(a:KN S G G1) (b:KN S G1 G2):KN S G G2:=fun c o n e=>b c o n (a c o n e)
theorem Hist.keep {G G':Hq}{S:Addr->Prop}{T:List Tl}{k:Str}{h:Addr}{es:List (Int×Addr)}(H:Hist G S T k h es) (q:KS S G G'):Hist G' S T k h es:=
 ⟨H.s,q _ _ H.s H.at_,H.ix,H.ne,fun e he=>let ⟨s,L,a,b⟩:=H.ln e he;⟨s,L,q _ _ s a,b⟩⟩
theorem ShM.keep {C:Addr}{G G':Hq}{p:Addr}{S:Addr->Prop}{T:List Tl}{n:Int}{dx d:Addr}{kvs:List (Key×Z)}(H:ShM C G p S T n dx d kvs) (q:KS S G G'):ShM C G' p S T n dx d kvs:=
 ⟨q _ _ H.sp H.ob,H.sp,H.sd,q _ _ H.sd H.dc,H.len,H.no,fun k z e=>let ⟨h,es,a,b⟩:=H.hs k z e;⟨h,es,a,b.keep q⟩,H.inj,(fun b hb=>let ⟨o,e⟩:=H.al b hb;⟨o,q b o hb e⟩),H.nd,H.sk⟩
theorem Sheet.keep {C:Addr}{G G':Hq}{p:Addr}{S:Addr->Prop}{T:List Tl}(H:Sheet C G p S T) (q:KS S G G'):Sheet C G' p S T:=let ⟨dx,d,kvs,h⟩:=H;⟨dx,d,kvs,h.keep q⟩
structure ShV (C:Addr) (G:Hq) (p:Addr) (S:Addr->Prop) (T:List Tl) (n:Int) (dx d:Addr) (kvs:List (Key×Z)):Prop where
 ob:G p=some (.ins C dx (shF n d))
 sp:S p
 sd:S d
 dc:G d=some (.dK kvs)\/G d=some (.dF kvs)
 len:kvs.length≤T.length
 no:∀ k,valZ kvs (.inr k)=none->ix T k=[]
 hs:∀ k z,valZ kvs (.inr k)=some z->∃ h es,z=.ref h/\Hist G S T k h es
 al:∀ b,S b->∃ o,G b=some o
 nd:(kvs.map (·.1)).Nodup
 sk:∀ q∈kvs,∃ s,q.1=Sum.inr s
theorem ShM.v {C:Addr}{G:Hq}{p:Addr}{S:Addr->Prop}{T:List Tl}{n:Int}{dx d:Addr}{kvs:List (Key×Z)}(H:ShM C G p S T n dx d kvs):ShV C G p S T n dx d kvs:=⟨H.ob,H.sp,H.sd,.inl H.dc,H.len,H.no,H.hs,H.al,H.nd,H.sk⟩
theorem ShV.keep {C:Addr}{G G':Hq}{p:Addr}{S:Addr->Prop}{T:List Tl}{n:Int}{dx d:Addr}{kvs:List (Key×Z)}(H:ShV C G p S T n dx d kvs) (q:KS S G G'):ShV C G' p S T n dx d kvs:=
 ⟨q _ _ H.sp H.ob,H.sp,H.sd,H.dc.imp (q _ _ H.sd) (q _ _ H.sd),H.len,H.no,fun k z e=>let ⟨h,es,a,b⟩:=H.hs k z e;⟨h,es,a,b.keep q⟩,(fun b hb=>let ⟨o,e⟩:=H.al b hb;⟨o,q b o hb e⟩),H.nd,H.sk⟩
def SheetV (C:Addr) (G:Hq) (p:Addr) (S:Addr->Prop) (T:List Tl):Prop:=∃ dx d kvs,ShV C G p S T T.length dx d kvs
theorem Sheet.v {C:Addr}{G:Hq}{p:Addr}{S:Addr->Prop}{T:List Tl}(H:Sheet C G p S T):SheetV C G p S T:=let ⟨dx,d,kvs,h⟩:=H;⟨dx,d,kvs,h.v⟩
theorem SheetV.keep {C:Addr}{G G':Hq}{p:Addr}{S:Addr->Prop}{T:List Tl}(H:SheetV C G p S T) (q:KS S G G'):SheetV C G' p S T:=let ⟨dx,d,kvs,h⟩:=H;⟨dx,d,kvs,h.keep q⟩
theorem b5h {sp:PX3}{EE:Addr->Hq->Prop}{t:A3}{σ:S3}{G:Hq}{R:K3}(h:t σ G fun ws G1=>sp ws G1 R EE):b3P sp EE t σ G R:=h
theorem b5i {EE:Addr->Hq->Prop}{C:Addr}{te:E3}{nx:C3}{rt:K3}{bk ct:C3}{σ:S3}{G:Hq}(h:te σ G fun _ G1=>EE C G1):b3Q EE C te nx rt bk ct σ G:=h
theorem b5j {C:Addr}{m:Str}{sp:PX3}{EE:Addr->Hq->Prop}{to:E3}{t:A3}{σ:S3}{G:Hq}{R:K3}(h:to σ G fun x G1=>∃ q dx fs,x=.ref q/\G1 q=some (.ins C dx fs)/\fs.lookup m=none/\t σ G1 fun ws G2=>sp (.ref q::ws) G2 R EE):b3R C m sp EE to t σ G R:=h
local macro_rules | `(tactic| walk_at "go1")=>`(tactic| with_reducible (first | refine b5h ?_ | refine b5i ?_ | refine b5j ?_ | refine i_tryM ?_))
def a2W (a:Ad):PX3:=fun ws G R EE=>∃ x,ws=[x]/\Th G x/\∀ G',Sm G G'->if a1P x=true then R .non G' else EE a.x_NoName G'
theorem a4J {a:Ad}{ws:List Z}{G:Hq}{R:K3}{EE:Addr->Hq->Prop}(h:a2W a ws G R EE):ws.length=1:=by obtain⟨_,rfl,_⟩:=h;rfl
theorem a06 (F:Fns K a) (T:Txt K mg a):FnOk P w K mg base (CXx P w) 2 a.f4 a.d4 ["thing"] (a3m K (a2W a)):=by
 have G_p_is_name:=a7z (P:=P) (w:=w) (base:=base) F T;refine fn3x F.n4 a5l (fun ws G R EE h=>(by exact a4J h)) (fun cdv A outer s H E ws G R EE hr h ux=>?_);have hu:=a0P hr;refine⟨_,(a0n (z_if (a2D (a23 (a0u G_p_is_name (hr.mono (by decide)) rfl T.m0 F.n0.kp (a7m F) (a0b (a0c (pv 0)) a0i a0a) (he:=a0a) (hpl:=a0j))))
  (a0n (a6q Outs.of ux rfl rfl T.x_NoName T.xi_NoName a3z a0e a0j))
  a08)),?_⟩
 obtain⟨x,rfl,hx,q⟩:=h;walk_at "go";refine⟨_,rfl,hx,fun G' s1=>?_⟩;have q':=q G' s1;walk_at "go";refine ifNB (fun c=>?_) fun c=>?_
 ·rw[c]at q';walk_at "go";exact q'
 ·rw[c]at q';walk_at "go";exact q'
def a1U (a:Ad):PX3:=fun ws G R EE=>∃ x y,ws=[x,y]/\Th G x/\Th G y/\∀ G',Sm G G'->if strB x y=true then R .non G' else EE a.x_NoStretch G'
theorem a3t {a:Ad}{ws:List Z}{G:Hq}{R:K3}{EE:Addr->Hq->Prop}(h:a1U a ws G R EE):ws.length=2:=by obtain⟨_,_,rfl,_⟩:=h;rfl
theorem a3R (F:Fns K a) (T:Txt K mg a):FnOk P w K mg base (CXx P w) 3 a.f6 a.d6 ["begin","end"] (a3m K (a1U a)):=by
 have G_p_is_stretch:=a5t (P:=P) (w:=w) (base:=base) F T;refine fn3x F.n6 a3G (fun ws G R EE h=>(by exact a3t h)) (fun cdv A outer s H E ws G R EE hr h ux=>?_);have hu:=a0P hr;refine⟨_,(a0n (z_if (a2D (a23 (a0u G_p_is_stretch (hr.mono (by decide)) rfl T.m2 F.n2.kp (a5m F) (a0b (a0c (pv 0)) (a0b (a0c (pv 1)) a0i a0a) a0a) (he:=a0a) (hpl:=(a0g a0a a0j)))))
  (a0n (a6q Outs.of ux rfl rfl T.x_NoStretch T.xi_NoStretch a3z a0e a0j))
  a08)),?_⟩
 obtain⟨x,y,rfl,hx,hy,q⟩:=h;walk_at "go";refine⟨_,_,rfl,hx,hy,fun G' s1=>?_⟩;have q':=q G' s1;walk_at "go";refine ifNB (fun c=>?_) fun c=>?_
 ·rw[c]at q';walk_at "go";exact q'
 ·rw[c]at q';walk_at "go";exact q'
structure Tel (G:Hq) (z:Z) (h:Z) (nm:List Z) (x y:Z):Prop where
 e:z=.tup (h::(nm++[x,y]))
 l:(∃ k,nm=[k])\/∃ k w,nm=[k,w]
 n:∀ z∈nm,Th G z
 x:Th G x
 y:Th G y
theorem Tel.sm {G G':Hq}{z h:Z}{nm:List Z}{x y:Z}(T:Tel G z h nm x y) (s:Sm G G'):Tel G' z h nm x y:=⟨T.e,T.l,fun z hz=>(T.n z hz).sm s,T.x.sm s,T.y.sm s⟩
def a1V (a:Ad):PX3:=fun ws G R EE=>Ex5 fun (z h:Z) (nm:List Z) (x y:Z)=>ws=[z]/\Tel G z h nm x y/\∀ G',Sm G G'->if nm.all a1P=true then (if strB x y=true then R .non G' else EE a.x_NoStretch G') else EE a.x_NoName G'
theorem a3u {a:Ad}{ws:List Z}{G:Hq}{R:K3}{EE:Addr->Hq->Prop}(h:a1V a ws G R EE):ws.length=1:=by obtain⟨_,_,_,_,_,rfl,_⟩:=h;rfl
theorem b9z {h k x y:Z}:cutZ [h,k,x,y] (some 1) (some (-2))=[k]:=rfl
theorem b9A {h k w x y:Z}:cutZ [h,k,w,x,y] (some 1) (some (-2))=[k,w]:=rfl
theorem a7B {l:List Z}{f:Z->Bool}{x:Z}(h:x∈l) (c:f x=false):l.all f=false:=List.all_eq_false.mpr ⟨x,h,by rw[c];decide⟩
theorem a87 {l:List Z}{f:Z->Bool}{i:Nat}{x:Z}(h:(l.take i).all f=true) (e:l[i]?=some x) (c:f x=true):(l.take (i+1)).all f=true:=by
 rw[List.take_add_one,List.all_append,h,e]
 show (true&&([x].all f))=true
 rw[List.all_cons,c];rfl
theorem a3S (F:Fns K a) (T:Txt K mg a):FnOk P w K mg base (CXx P w) 4 a.f23 a.d23 ["telling"] (a3m K (a1V a)):=by
 have G_p_check_stretch:=a3R (P:=P) (w:=w) (base:=base) F T;have G_p_check_name:=a06 (P:=P) (w:=w) (base:=base) F T;refine fn3x F.n23 sc_p_check_telling (fun ws G R EE h=>(by exact a3u h)) (fun cdv A outer s H E ws G R EE hr h ux=>?_);have hu:=a0P hr;refine⟨_,(a0k (a24 (pt:=(.nm 1)) PassesOwn.leaving rfl (b3B (a2r x_sl (a0c (pv 0)) (a2S a0h) (a2S (q_un a2M a0h)))) (show QP _ _ (.nm 1) from (a0o (i:=1) sc_p_check_telling.nd rfl (Or.inl rfl)))
  (a0n (a0Q (a1a (a0Y Outs.of) ux.since G_p_check_name (hr.mono (by decide)) rfl T.m4 F.n4.kp (a05 F) (a0b (a0c (pv 1)) a0i a0a) (he:=a0a) (hpl:=a0j)))))
  (a0n (a0Q (a1a (a0Y Outs.of) ux.since G_p_check_stretch (hr.mono (by decide)) rfl T.m6 F.n6.kp (a3I F) (a0b (q_ix x_ix (a0c (pv 0)) (q_un a2M a0h) (fun _ _=>rfl)) (a0b (q_ix x_ix (a0c (pv 0)) (q_un a2M a0h) (fun _ _=>rfl)) a0i a0l) a0l) (he:=a0l) (hpl:=(a0g a0l a0j)))))),?_⟩
 obtain⟨z,h,nm,x,y,rfl,⟨rfl,hl,hn,hx,hy⟩,q⟩:=h;rcases hl with ⟨k,rfl⟩ | ⟨k,w,rfl⟩
 ·show uSeq _ _ _ _ _ _ (a4q _ [.tup [h,k,x,y]]) _
  walk_at "go";refine b4G (show ¬ (HT.sIx 4 0 (some 1)=0/\HT.sIx 4 4 (some (-2))=4) by decide) ?_;rw[b9z];walk_at "go";refine a1k (fun i σ G'=>∃ v:Option Z,Sm G G'/\(([k]:List Z).take i).all a1P=true/\σ=[some (.tup [h,k,x,y]),v]) ⟨_,Sm.refl _,rfl,rfl⟩ (fun _ _ _ _ _=>True.intro) ?_ ?_
  ·rintro i u σ G' hu ⟨v,s,ha,rfl⟩;have hm:=List.mem_of_getElem? hu;refine⟨_,rfl,?_⟩;walk_at "go";refine⟨u,rfl,(hn u hm).sm s,fun G1 s1=>?_⟩;have q':=q G1 (s.trans s1);refine ifB (fun c=>?_) fun c=>?_
   ·walk_at "go";exact⟨_,s.trans s1,a87 ha hu c,rfl⟩
   ·rw[a7B hm c]at q';exact q'
  ·rintro σ G' ⟨v,s,ha,rfl⟩;have ha:([k]:List Z).all a1P=true:=ha;walk_at "go";refine⟨x,y,rfl,hx.sm s,hy.sm s,fun G1 s1=>?_⟩;have q':=q G1 (s.trans s1);rw[ha]at q';refine ifB (fun c=>?_) fun c=>?_
   ·rw[c]at q';walk_at "go";exact q'
   ·rw[c]at q';exact q'
 ·show uSeq _ _ _ _ _ _ (a4q _ [.tup [h,k,w,x,y]]) _
  walk_at "go";refine b4G (show ¬ (HT.sIx 5 0 (some 1)=0/\HT.sIx 5 5 (some (-2))=5) by decide) ?_;rw[b9A];walk_at "go";refine a1k (fun i σ G'=>∃ v:Option Z,Sm G G'/\(([k,w]:List Z).take i).all a1P=true/\σ=[some (.tup [h,k,w,x,y]),v]) ⟨_,Sm.refl _,rfl,rfl⟩ (fun _ _ _ _ _=>True.intro) ?_ ?_
  ·rintro i u σ G' hu ⟨v,s,ha,rfl⟩;have hm:=List.mem_of_getElem? hu;refine⟨_,rfl,?_⟩;walk_at "go";refine⟨u,rfl,(hn u hm).sm s,fun G1 s1=>?_⟩;have q':=q G1 (s.trans s1);refine ifB (fun c=>?_) fun c=>?_
   ·walk_at "go";exact⟨_,s.trans s1,a87 ha hu c,rfl⟩
   ·rw[a7B hm c]at q';exact q'
  ·rintro σ G' ⟨v,s,ha,rfl⟩;have ha:([k,w]:List Z).all a1P=true:=ha;walk_at "go";refine⟨x,y,rfl,hx.sm s,hy.sm s,fun G1 s1=>?_⟩;have q':=q G1 (s.trans s1);rw[ha]at q';refine ifB (fun c=>?_) fun c=>?_
   ·rw[c]at q';walk_at "go";exact q'
   ·rw[c]at q';exact q'
def a1M (a:Ad):PX3:=fun ws G R EE=>∃ q n:Int,ws=[.int q,.int n]/\if 0≤q/\q≤n then R .non G else EE a.x_NoKnowing G
theorem a26 {a:Ad}{ws:List Z}{G:Hq}{R:K3}{EE:Addr->Hq->Prop}(h:a1M a ws G R EE):ws.length=2:=by obtain⟨_,_,rfl,_⟩:=h;rfl
theorem a3v (F:Fns K a) (T:Txt K mg a):FnOk P w K mg base (CXx P w) 1 a.f7 a.d7 ["knowing","last"] (a3m K (a1M a)):=by
 refine fn3x F.n7 a3q (fun ws G R EE h=>(by exact a26 h)) (fun cdv A outer s H E ws G R EE hr h ux=>?_);have hu:=a0P hr;refine⟨_,(a0n (z_if (QW.qt (q_or (a0v o_lt (a0c (pv 0)) a0h (a0s _)) (a44 (a0v o_gt (a0c (pv 0)) (a0c (pv 1)) (a0s _)))))
  (a0n (a6q Outs.of ux rfl rfl T.x_NoKnowing T.xi_NoKnowing a3z a0e a0j))
  a08)),?_⟩
 obtain⟨q,n,rfl,k⟩:=h;walk_at "go";refine ifD (fun c=>?_) fun c=>?_
 ·rw[if_neg (by omega)]at k;walk_at "go";exact k
 ·walk_at "go";refine ifD (fun c2=>?_) fun c2=>?_
  ·rw[if_neg (by omega)]at k;walk_at "go";exact k
  ·rw[if_pos (by omega)]at k;walk_at "go";exact k
def a2H:P3:=fun ws G R=>∃ (l:Addr) (L:List Rw) (τ:Tl),ws=[.ref l,τ.z]/\G l=some (.lst (L.map Rw.z))/\Rise L/\Plain L/\L.length≤400/\τ.Ok /\
 ∀ t G',G t=none->Sm G G'->G' t=some (.lst ((a6z L τ.b τ.e (optW τ.v)).map Rw.z))->R (.ref t) G'
theorem a4j {ws:List Z}{G:Hq}{R:K3}(h:a2H ws G R):ws.length=2:=by obtain⟨_,_,_,rfl,_⟩:=h;rfl
theorem b7Y:¬ (b3V=sPut):=by decide +kernel
theorem a4K (F:Fns K a) (T:Txt K mg a):FnOk P w K mg base CX0 4 a.f24 a.d24 ["line","telling"] (lowP K a2H):=by
 have G_p_put_on:=a8f (P:=P) (w:=w) (base:=base) F T;refine fn3 F.n24 sc_p_line_behind (fun ws G R h=>(by exact a4j h)) (fun cdv A outer s H E ws G R hr h=>?_);have hu:=a0P hr;refine⟨_,(a0k (z_set (i:=2) sc_p_line_behind.nd rfl (Or.inl rfl) (q_if (a0v (o_eq hu) (q_ix x_ix (a0c (pv 1)) a0h (fun _ _=>rfl)) a3z (a0s _)) (q_ix x_ix (a0c (pv 1)) a0h (fun _ _=>rfl)) a2o))
  (a0n (a0D (a0u G_p_put_on (hr.mono (by decide)) rfl T.m14 F.n14.kp (a8a F) (a0b (a0c (pv 0)) (a0b (q_ix x_ix (a0c (pv 1)) (q_un a2M a0h) (fun _ _=>rfl)) (a0b (q_ix x_ix (a0c (pv 1)) (q_un a2M a0h) (fun _ _=>rfl)) (a0b (a0c (pv 2)) a0i a0a) a0l) a0l) a0a) (he:=a0a) (hpl:=(a0g a0l (a0g a0l (a0g a0a a0j)))))))),?_⟩
 obtain⟨l,L,⟨key,w,b,e⟩,rfl,hl,hr,hp,hz,ok,q⟩:=h;have hb:=ok.st.bef;have hv:=ok.v;cases w with
 | none=>
  unfold Tl.z;walk_at "go";refine ifD (fun c=>absurd c b7Y) fun _=>?_;walk_at "go";exact⟨l,L,b,e,.non,rfl,hl,hr,hp.okR,hp.one,by omega,hb,rfl,q⟩
 | some w=>
  unfold Tl.z;walk_at "go";refine ifD (fun _=>?_) fun c=>absurd rfl c;walk_at "go";exact⟨l,L,b,e,.str w,rfl,hl,hr,hp.okR,hp.one,by omega,hb,a2e (by decide) hv,q⟩
def a2f (a:Ad):P3:=fun ws G R=>∃ p dx,ws=[.ref p]/\G p=some (.ins a.c_Sheet dx [])/\∀ d G',G d=none->(∀ b o,G b=some o->b≠p->G' b=some o)->Sheet a.c_Sheet G' p (fun x=>x=p\/x=d) []->R .non G'
theorem a3T {a:Ad}{ws:List Z}{G:Hq}{R:K3}(h:a2f a ws G R):ws.length=1:=by obtain⟨_,_,rfl,_⟩:=h;rfl
theorem a4k (F:Fns K a) (T:Txt K mg a):FnOk P w K mg base CX0 1 a.f38 a.d38 ["self"] (lowP K (a2f a)):=by
 refine fn3 F.n38 a39 (fun ws G R h=>(by exact a3T h)) (fun cdv A outer s H E ws G R hr h=>?_);have hu:=a0P hr;refine⟨_,(a0k (b7o T.cl_Sheet T.na_last (a0c (pv 0)) a0h)
  (a0n (b7o T.cl_Sheet T.na_kept (a0c (pv 0)) b3H))),?_⟩
 obtain⟨p,dx,rfl,hp,q⟩:=h;walk_at "go";refine⟨p,dx,[],rfl,hp,by decide,?_⟩;walk_at "go";intro d hd;have hpd:p≠d:=a07 a0d hd;walk_at "go";refine⟨p,dx,[(a7A,.int 0)],rfl,by rw[a0I hpd];exact a0d,by decide,?_⟩;rw[b5f];walk_at "go";have hd0:G d=none:=by rw[a0I (Ne.symm hpd)]at hd;exact hd
 refine q d _ hd0 (fun b o e nb=>?_) ⟨dx,d,[],⟨a0d,.inl rfl,.inr rfl,?_,by simp,fun k _=>rfl,(fun k z e=>by cases e),(fun k k' z e=>by cases e),?_,.nil,fun q hq=>by simp at hq⟩⟩
 ·rw[a0I nb,a0I (a07 e hd0),a0I nb];exact e
 ·rw[a0I (Ne.symm hpd)];exact a0d
 ·rintro b (rfl | rfl)
  ·exact⟨_,a0d⟩
  ·exact⟨_,by rw[a0I (Ne.symm hpd)];exact a0d⟩
def a1l (a:Ad):PX3:=fun ws G R EE=>Ex4 fun (p:Addr) (S:Addr->Prop) (T:List Tl) (q:Int)=>ws=[.ref p,.int q]/\SheetV a.c_Sheet G p S T/\if 0≤q/\q≤T.length then R .non G else EE a.x_NoKnowing G
theorem a2B {a:Ad}{ws:List Z}{G:Hq}{R:K3}{EE:Addr->Hq->Prop}(h:a1l a ws G R EE):ws.length=2:=by obtain⟨_,_,_,_,rfl,_⟩:=h;rfl
theorem a0X (F:Fns K a) (T:Txt K mg a):FnOk P w K mg base (CXx P w) 2 a.f15 a.d15 ["self","knowing"] (a3m K (a1l a)):=by
 have G_p_check_in_reach:=a3v (P:=P) (w:=w) (base:=base) F T;refine fn3x F.n15 a2N (fun ws G R EE h=>(by exact a2B h)) (fun cdv A outer s H E ws G R EE hr h ux=>?_);have hu:=a0P hr;refine⟨_,(a0n (a0Q (a1a (a0Y Outs.of) ux.since G_p_check_in_reach (hr.mono (by decide)) rfl T.m7 F.n7.kp (a3r F) (a0b (a0c (pv 1)) (a0b (a77 T.cl_Sheet T.na_last (a0c (pv 0))) a0i a1x) a0a) (he:=a0a) (hpl:=(a0g a1x a0j))))),?_⟩;obtain⟨p,S,T',q,rfl,⟨dx,d,kvs,sh⟩,k⟩:=h;walk_at "go";refine⟨p,dx,_,_,rfl,sh.ob,a4h,?_⟩;walk_at "go";refine⟨q,_,rfl,?_⟩
 by_cases c:0≤q/\q≤T'.length
 ·rw[if_pos c]at k ⊢;walk_at "go";exact k
 ·rw[if_neg c]at k ⊢;exact k
def a1N (a:Ad):P3:=fun ws G R=>Ex9 fun (p:Addr) (S:Addr->Prop) (T:List Tl) (k:Str) (q:Int) (n:Int) (dx d:Addr) (kvs:List (Key×Z))=>ws=[.ref p,.str k,.int q]/\ShV a.c_Sheet G p S T n dx d kvs/\0≤q/\q≤T.length/\T.length≤200 /\
 ∀ t L G',G t=none->Sm G G'->G' t=some (.lst (L.map Rw.z))->IsLine (T.take q.toNat) k L->R (.ref t) G'
theorem a27 {a:Ad}{ws:List Z}{G:Hq}{R:K3}(h:a1N a ws G R):ws.length=3:=by obtain⟨_,_,_,_,_,_,_,_,_,rfl,_⟩:=h;rfl
theorem a7C {T:List Tl}{k:Str}{q:Nat}(h:∀ i∈ix T k,(q:Int)<i):a0U (T.take q) k=[]:=by
 have:=a4V (k:=k) 0 T 0 q (Nat.zero_le _) fun i hi=>by right;have:=h i hi;simpa using this
 rw[this];rfl
theorem b5k (l:List Rw):l.filterMap (fun r=>some r)=l:=by
 induction l with
 | nil=>rfl
 | cons r l ih=>rw[List.filterMap_cons,ih]
theorem a0T (F:Fns K a) (T:Txt K mg a):FnOk P w K mg base CX0 1 a.f16 a.d16 ["self","key","knowing"] (lowP K (a1N a)):=by
 refine fn3 F.n16 sc_Sheet_known_line (fun ws G R h=>(by exact a27 h)) (fun cdv A outer s H E ws G R hr h=>?_);have hu:=a0P hr;refine⟨_,(a0k (a24 (pt:=(.tp [3,4])) PassesOwn.never rfl (a75 rfl T.b_reversed (a0b (q_bm PySem.F.plainAttrs_dict PySem.F.slot_dict_get PySem.F.type_dict_get (b7v hu) (a77 T.cl_Sheet T.na_kept (a0c (pv 0))) (a0b (a0c (pv 1)) (a0b (a2L a0i) a0i a6h) a0a)) a0i a0E)) (show QP _ _ (.tp [3,4]) from (a3x rfl (a0z (a0o (i:=3) sc_Sheet_known_line.nd rfl (Or.inl rfl)) (a0z (a0o (i:=4) sc_Sheet_known_line.nd rfl (Or.inl rfl)) a2k))))
  (a0n (z_if (a0v o_le (a0c (pv 3)) (a0c (pv 2)) (a0s _))
  (a0n (a0D (q_lc (N₀:=["self","key","knowing","since","line"]) (so:=a0f a0Z) (N':=["begin","end","worth"]) (cap:=[none,none,none]) (pt:=(.tp [0,1,2])) rfl rfl rfl (by decide +kernel) rfl (a0H (a0c (pv 4))) (fun _ _ _ _=>(show QP _ _ (.tp [0,1,2]) from (a3x rfl (a0z (a0o (i:=0) b44 rfl (Or.inl rfl)) (a0z (a0o (i:=1) b44 rfl (Or.inl rfl)) (a0z (a0o (i:=2) b44 rfl (Or.inl rfl)) a2k)))))) (fun _ _ _ _=>a14) (fun _ _ _ _=>(a13 (a0b (a0c (pv 0)) (a0b (a0c (pv 1)) (a0b (a0c (pv 2)) a0i a0a) a0a) a0a))))))
  a08)))
  (a0n (a0D (a2L a0i)))),?_⟩
 obtain⟨p,S,T,k,q,n,dx,d,kvs,rfl,sh,h0,h1,hT,fin⟩:=h;obtain⟨q,rfl⟩:=Int.eq_ofNat_of_zero_le h0;walk_at "go";refine⟨p,dx,_,_,rfl,sh.ob,a8g,?_⟩;refine b9j sh.dc ?_;walk_at "go";refine⟨lenK rfl,fun t0 ht0=>?_⟩;walk_at "go";refine b4Z (sh.dc.imp (fun e=>a0p e ht0) fun e=>a0p e ht0) rfl ?_;have s0:Sm G (put G t0 (.lst [])):=Sm.new ht0;have none_:(∀ i∈ix T k,(q:Int)<i)->∀ (v1 v2:Option Z) (G1:Hq),Sm G G1->∀ t,G1 t=none->R (.ref t) (put G1 t (.lst [])):=fun hi _ _ G1 s1 t ht=>
  fin t [] _ (s1.free ht) (s1.trans (Sm.new ht)) a0d (by
   have e:((q:Int)).toNat=q:=by omega
   rw[e];exact IsLine.nil (a7C hi))
 cases hv:valZ kvs (.inr k) with
 | none=>
  walk_at "go";refine⟨t0,[],rfl,a0d,?_⟩;refine a1k (fun i σ G'=>∃ v1 v2:Option Z,σ=[some (.ref p),some (.str k),some (.int q),v1,v2]/\G'=put G t0 (.lst [])) ⟨_,_,rfl,rfl⟩ (fun i σ G' _ ⟨_,_,_,e⟩=>by rw[e];exact a0d) ?_ ?_
  ·rintro i x σ G' hx _;simp at hx
  ·rintro σ G' ⟨v1,v2,rfl,rfl⟩;walk_at "go";refine⟨lenK rfl,fun t ht=>?_⟩;exact none_ (fun i hi=>by rw[sh.no k hv]at hi;simp at hi) v1 v2 _ s0 t ht
 | some z=>
  obtain⟨h,es,rfl,H⟩:=sh.hs k z hv;walk_at "go";refine⟨h,_,rfl,a0p H.at_ ht0,?_⟩;rw[<- List.map_reverse];refine a1k (fun i σ G'=>∃ v1 v2:Option Z,(∀ (j:Nat) e,j<i->es.reverse[j]?=some e->(q:Int)<e.1)/\σ=[some (.ref p),some (.str k),some (.int q),v1,v2]/\G'=put G t0 (.lst [])) ⟨_,_,fun j e hj=>by omega,rfl,rfl⟩ (fun i σ G' _ ⟨_,_,_,_,e⟩=>by rw[e];exact a0p H.at_ ht0) ?_ ?_
  ·rintro i x σ G' hx ⟨v1,v2,hall,rfl,rfl⟩;rw[List.getElem?_map]at hx;cases hx':es.reverse[i]? with
   | none=>rw[hx']at hx;cases hx
   | some e=>
   rw[hx']at hx;cases hx;obtain⟨s,l⟩:=e;have hmem:(s,l)∈es:=by have:=List.mem_of_getElem? hx';simpa using this
   have hix:s∈ix T k:=by rw[<- H.ix];exact List.mem_map_of_mem (f:=(·.1)) hmem
   obtain⟨hs1,hs2⟩:=b7W hix;obtain⟨_,L,gl,il⟩:=H.ln _ hmem;refine⟨_,rfl,?_⟩;walk_at "go";refine ifD (fun c=>?_) fun c=>?_
   ·walk_at "go";refine a1E (a0p gl ht0) ?_;intro D hD;have hone:=il.pl.one;have hll:L.length≤1000:=by have:=il.len;rw[List.length_take]at this;omega
    refine a3s (g':=Rw.z) (fun r=>some r) (fun ys=>a0p (a0p gl ht0) hD) hll ?_ ?_
    ·intro r hr ys K1 K2 k1 k2;obtain⟨x,hx⟩:=hone r hr;obtain⟨b,e,w⟩:=r;cases hx;refine⟨_,rfl,?_⟩;walk_at "go";refine⟨lenK rfl,?_⟩;exact k1 ⟨b,e,[x]⟩ rfl
    ·rw[b5k];refine fin D L _ (s0.free hD) (s0.trans (Sm.new hD)) a0d ?_;have e1:((q:Int)).toNat=q:=by omega
     rw[e1];have il':IsLine (T.take s.toNat) k L:=il;refine il'.cut (by omega) fun j hj=>?_;rw[<- H.ix]at hj;obtain⟨e2,he2,rfl⟩:=List.mem_map.mp hj
     by_cases c2:e2.1≤s
     ·left;omega
     ·right
      have he3:e2∈es.reverse:=by simpa using he2
      obtain⟨m,hm⟩:=List.getElem?_of_mem he3
      by_cases hmi:m<i
      ·exact hall m e2 hmi hm
      ·exfalso;have hst:(ix T k).Pairwise (·<·):=b1N T k
       rw[<- H.ix]at hst;have hst2:es.reverse.Pairwise (fun x y=>y.1<x.1):=by
        rw[List.pairwise_reverse];exact List.pairwise_map.mp hst
       by_cases hmi2:m=i
       ·subst hmi2;rw[hx']at hm;cases hm;omega
       ·obtain⟨l1,e5⟩:=List.getElem?_eq_some_iff.mp hx';obtain⟨l2,e6⟩:=List.getElem?_eq_some_iff.mp hm
        have:=List.pairwise_iff_getElem.mp hst2 i m l1 l2 (by omega)
        rw[e5,e6]at this;simp only at this;omega
   ·walk_at "go";refine⟨_,_,fun j e hj he=>?_,rfl,rfl⟩
    by_cases hji:j<i
    ·exact hall j e hji he
    ·have:j=i:=by omega
     subst this;rw[hx']at he;cases he;simp only;omega
  ·rintro σ G' ⟨v1,v2,hall,rfl,rfl⟩;walk_at "go";refine⟨lenK rfl,fun t ht=>?_⟩;refine none_ (fun j hj=>?_) v1 v2 _ s0 t ht;rw[<- H.ix]at hj;obtain⟨e2,he2,rfl⟩:=List.mem_map.mp hj;have he3:e2∈es.reverse:=by simpa using he2
   obtain⟨m,hm⟩:=List.getElem?_of_mem he3;exact hall m e2 (by rw[List.length_map];exact (List.getElem?_eq_some_iff.mp hm).1) hm
theorem a4W {kvs:List (Key×Z)}{k j:Key}{v:Z}:valZ (putZ kvs k v) j=if j=k then some v else valZ kvs j:=by
 unfold putZ
 split
 ·next hc=>
  have go:∀ kvs:List (Key×Z),valZ (kvs.map fun kv=>if kv.1=k then (kv.1,v) else kv) j=(valZ kvs j).map fun x=>if j=k then v else x:=by
   intro kvs
   induction kvs with
   | nil=>rfl
   | cons p r ih=>
    unfold valZ at ih ⊢;rw[List.map_cons,List.find?_cons,List.find?_cons];have e1:(if p.1=k then (p.1,v) else p).1=p.1:=by split<;>rfl
    rw[e1];cases c:decide (p.1=j) with
    | false=>exact ih
    | true=>
     have cj:=of_decide_eq_true c;simp only[Option.map_some]
     by_cases ck:p.1=k
     ·rw[if_pos ck,if_pos (cj.symm.trans ck)]
     ·rw[if_neg ck,if_neg (fun z=>ck (cj.trans z))]
  rw[go]
  by_cases c:j=k
  ·subst c;rw[if_pos rfl];obtain⟨p,h1,h2⟩:=List.any_eq_true.mp hc
   have:(kvs.find? fun kv=>decide (kv.1=j)).isSome=true:=List.find?_isSome.mpr ⟨p,h1,h2⟩
   unfold valZ;cases e:kvs.find? fun kv=>decide (kv.1=j) with
   | none=>rw[e]at this;cases this
   | some q=>simp
  ·rw[if_neg c];cases valZ kvs j with
   | none=>rfl
   | some x=>simp[c]
 ·next hc=>
  unfold valZ;rw[List.find?_append]
  by_cases c:j=k
  ·subst c;rw[if_pos rfl]
   have:kvs.find? (fun kv=>decide (kv.1=j))=none:=by
    rw[List.find?_eq_none];intro p hp hq;exact hc (List.any_eq_true.mpr ⟨p,hp,hq⟩)
   rw[this];simp
  ·rw[if_neg c]
   have:[(k,v)].find? (fun kv=>decide (kv.1=j))=none:=by simp;exact fun z=>c z.symm
   rw[this,Option.or_none]
theorem a88 {kvs:List (Key×Z)}{k:Key}{v:Z}:(putZ kvs k v).length≤kvs.length+1:=by
 unfold putZ
 split<;>simp
theorem Hist.ne_row {G:Hq}{S:Addr->Prop}{T:List Tl}{k:Str}{h x:Addr}{es:List (Int×Addr)}{L:List Rw}(H:Hist G S T k h es) (e:G x=some (.lst (L.map Rw.z))):x≠h:=fun z=>by
 subst z
 have:=e.symm.trans H.at_
 have h2:L.map Rw.z=es.map enZ:=by simpa using this
 cases es with
 | nil=>exact H.ne rfl
 | cons a es=>
  cases L with
  | nil=>simp at h2
  | cons r L=>
   rw[List.map_cons,List.map_cons]at h2;have h3:=(List.cons.inj h2).1;simp only[Rw.z,enZ,Z.tup.injEq,List.cons.injEq]at h3;obtain⟨rb,re,rw0⟩:=r;have h4:=h3.2.1;cases re<;>cases h4
theorem a7D {kvs:List (Key×Z)}{k:Key}(h:valZ kvs k=none):∀ q∈kvs,q.1≠k:=fun q hq e=>by
 unfold valZ at h
 have:(kvs.find? fun kv=>decide (kv.1=k)).isSome=true:=List.find?_isSome.mpr ⟨q,hq,decide_eq_true e⟩
 cases e2:kvs.find? fun kv=>decide (kv.1=k) with
 | none=>rw[e2]at this;cases this
 | some x=>rw[e2]at h;cases h
theorem b5l {kvs:List (Key×Z)}{k:Key}{v:Z}(h:valZ kvs k=none):putZ kvs k v=kvs++[(k,v)]:=by
 unfold putZ;rw[if_neg fun z=>?_];obtain⟨q,h1,h2⟩:=List.any_eq_true.mp z;exact a7D h q h1 (of_decide_eq_true h2)
theorem b7Z {kvs:List (Key×Z)}{k:Key}{v:Z}(h:valZ kvs k=none) (nd:(kvs.map (·.1)).Nodup):((putZ kvs k v).map (·.1)).Nodup:=by
 rw[b5l h,List.map_append,List.nodup_append];refine⟨nd,by simp,fun x hx y hy=>?_⟩;obtain⟨q,hq,rfl⟩:=List.mem_map.mp hx
 have:y=k:=by simpa using hy
 rw[this];exact a7D h q hq
theorem b70 {kvs:List (Key×Z)}{k:Str}{v:Z}(sk:∀ q∈kvs,∃ s,q.1=Sum.inr s):∀ q∈putZ kvs (.inr k) v,∃ s,q.1=Sum.inr s:=fun q hq=>by
 unfold putZ at hq
 split at hq
 ·obtain⟨q0,h0,e⟩:=List.mem_map.mp hq;obtain⟨s,hs⟩:=sk q0 h0;refine⟨s,?_⟩;rw[<- e]
  split
  ·exact hs
  ·exact hs
 ·rcases List.mem_append.mp hq with hq | hq
  ·exact sk q hq
  ·exact⟨k,by rw[List.mem_singleton.mp hq]⟩
def a1W (a:Ad):P3:=fun ws G R=>Ex9 fun (p:Addr) (S:Addr->Prop) (T:List Tl) (τ:Tl) (l:Addr) (L:List Rw) (dx d:Addr) (kvs:List (Key×Z))=>ws=[.ref p,.str τ.key,.ref l]/\ShM a.c_Sheet G p S T ((T.length:Int)+1) dx d kvs/\G l=some (.lst (L.map Rw.z))/\¬ S l/\IsLine (T++[τ]) τ.key L/\T.length≤200 /\
 ∀ (S':Addr->Prop) G',(∀ b,S b->S' b)->(∀ b,S' b->S b\/b=l\/G b=none)->KN S G G'->Sheet a.c_Sheet G' p S' (T++[τ])->R .non G'
theorem a3w {a:Ad}{ws:List Z}{G:Hq}{R:K3}(h:a1W a ws G R):ws.length=3:=by obtain⟨_,_,_,_,_,_,_,_,_,rfl,_⟩:=h;rfl
theorem a6G {T:List Tl}{τ:Tl}{k:Str}{s:Int}(h:s∈ix T k):(T++[τ]).take s.toNat=T.take s.toNat:=by
 have:=b7W h
 rw[List.take_append_of_le_length (by omega)]
theorem a89 {T:List Tl}{τ:Tl}:(T++[τ]).take ((T.length:Int)+1).toNat=T++[τ]:=by
 rw[List.take_of_length_le];rw[List.length_append,List.length_singleton];omega
theorem a3U (F:Fns K a) (T:Txt K mg a):FnOk P w K mg base CX0 1 a.f39 a.d39 ["self","key","line"] (lowP K (a1W a)):=by
 refine fn3 F.n39 a3H (fun ws G R h=>(by exact a3w h)) (fun cdv A outer s H E ws G R hr h=>?_);have hu:=a0P hr;refine⟨_,(a0n (a0Q (q_bm PySem.F.plainAttrs_list PySem.F.slot_list_append PySem.F.type_list_append a1D (q_bm PySem.F.plainAttrs_dict PySem.F.slot_dict_setdefault PySem.F.type_dict_setdefault a7e (a77 T.cl_Sheet T.na_kept (a0c (pv 0))) (a0b (a0c (pv 1)) (a0b (a2L a0i) a0i a6h) a0a)) (a0b (a13 (a0b (a77 T.cl_Sheet T.na_last (a0c (pv 0))) (a0b (a0c (pv 2)) a0i a0a) a1x)) a0i a4M)))),?_⟩;obtain⟨p,S,T,τ,l,L,dx,d,kvs,rfl,sh,gl,nl,il,hT,q⟩:=h;walk_at "go";refine⟨p,dx,_,_,rfl,sh.ob,a8g,?_⟩;refine b9i sh.dc ?_;walk_at "go";refine⟨lenK rfl,fun t0 ht0=>?_⟩;walk_at "go";have npd:p≠d:=fun z=>by have e:=sh.ob;rw[z,sh.dc]at e;cases e
 have hlen:((T++[τ]).length:Int)=(T.length:Int)+1:=by simp
 refine b7x (a0p sh.dc ht0) rfl (a0t (by have:=sh.len;omega)) (fun z hz=>?_) fun hz=>?_
 ·obtain⟨h,es,rfl,H⟩:=sh.hs _ z hz;have hpe:p≠h:=fun z=>by have e:=sh.ob;rw[z,H.at_]at e;cases e
  have hde:d≠h:=fun z=>by have e:=sh.dc;rw[z,H.at_]at e;cases e
  have hle:l≠h:=fun z=>nl (z▸H.s);refine a2T (a0p H.at_ ht0) ?_;walk_at "go";refine⟨p,dx,_,_,rfl,a0p sh.ob ht0,a4h,?_⟩;walk_at "go";refine⟨lenK rfl,?_⟩;walk_at "go";have hel:es.length≤T.length:=by
   have e1:=congrArg List.length H.ix;rw[List.length_map]at e1;rw[e1];exact b7X T τ.key
  refine a1t (a0p H.at_ ht0) (by rw[List.length_map];exact a0t (by omega)) ?_;have keep:∀ b o,b≠h->G b=some o->put (put G t0 (.lst [])) h (.lst (es.map enZ++[.tup [.int ((T.length:Int)+1),.ref l]])) b=some o:=fun b o nb e=>by rw[a0I nb];exact a0p e ht0
  refine q (fun b=>S b\/b=l) _ (fun b hb=>.inl hb) (fun b hb=>hb.elim .inl fun z=>.inr (.inl z)) (fun b o nb e=>keep b o (fun z=>nb (z▸H.s)) e) ⟨dx,d,kvs,?_⟩;refine⟨by rw[hlen];exact keep _ _ hpe sh.ob,.inl sh.sp,.inl sh.sd,keep _ _ hde sh.dc,by have:=sh.len;simp;omega,fun k hk=>?_,fun k z e=>?_,sh.inj,(fun b hb=>?_),sh.nd,sh.sk⟩
  ·rw[a4g,sh.no k hk,if_neg]
   ·rfl
   ·rintro rfl;rw[hz]at hk;cases hk
  ·by_cases ck:k=τ.key
   ·subst ck;rw[hz]at e;cases e;refine⟨h,es++[((T.length:Int)+1,l)],rfl,.inl H.s,by rw[a0d,List.map_append];rfl,by rw[List.map_append,H.ix,a4g,if_pos rfl];rfl,by simp,fun e he=>?_⟩;rcases List.mem_append.mp he with he | he
    ·obtain⟨s1,L1,g1,i1⟩:=H.ln e he;refine⟨.inl s1,L1,keep _ _ (H.ne_row g1) g1,?_⟩;rw[a6G (k:=τ.key) (by rw[<- H.ix];exact List.mem_map_of_mem (f:=(·.1)) he)];exact i1
    ·rw[List.mem_singleton.mp he];refine⟨.inr rfl,L,keep _ _ hle gl,?_⟩;rw[a89];exact il
   ·obtain⟨h',es',ez,H'⟩:=sh.hs k z e;have hh:h'≠h:=fun w=>ck (sh.inj k τ.key z e (by rw[hz,ez,w]));refine⟨h',es',ez,.inl H'.s,keep _ _ hh H'.at_,by rw[H'.ix,a4g,if_neg (Ne.symm ck),List.append_nil],H'.ne,fun e he=>?_⟩;obtain⟨s1,L1,g1,i1⟩:=H'.ln e he;refine⟨.inl s1,L1,keep _ _ (H.ne_row g1) g1,?_⟩;rw[a6G (k:=k) (by rw[<- H'.ix];exact List.mem_map_of_mem (f:=(·.1)) he)];exact i1
  ·by_cases c:b=h
   ·rw[c];exact⟨_,a0d⟩
   ·rcases hb with hb | hb
    ·obtain⟨o,e⟩:=sh.al b hb;exact⟨o,keep b o c e⟩
    ·rw[hb]at c ⊢;exact⟨_,keep l _ c gl⟩
 ·have hdt:d≠t0:=a07 sh.dc ht0;have hpt:p≠t0:=a07 sh.ob ht0;have hlt:l≠t0:=a07 gl ht0;have gt1:put (put G t0 (.lst [])) d (.dK (putZ kvs (.inr τ.key) (.ref t0))) t0=some (.lst []):=by rw[a0I (Ne.symm hdt)];exact a0d
  refine a2T gt1 ?_;walk_at "go";refine⟨p,dx,_,_,rfl,by rw[a0I npd];exact a0p sh.ob ht0,a4h,?_⟩;walk_at "go";refine⟨lenK rfl,?_⟩;walk_at "go";refine a1t gt1 (a0t (by decide)) ?_;have keep:∀ b o,b≠d->G b=some o->put (put (put G t0 (.lst [])) d (.dK (putZ kvs (.inr τ.key) (.ref t0)))) t0 (.lst ([]++[.tup [.int ((T.length:Int)+1),.ref l]])) b=some o:=fun b o nb e=>by
   rw[a0I (a07 e ht0),a0I nb];exact a0p e ht0
  have nS:∀ h',S h'->∀ o,G h'=some o->h'≠t0:=fun h' _ o e=>a07 e ht0;refine q (fun b=>S b\/b=l\/b=t0) _ (fun b hb=>.inl hb) (fun b hb=>hb.elim .inl fun z=>z.elim (fun z=>.inr (.inl z)) fun z=>.inr (.inr (by rw[z];exact ht0))) (fun b o nb e=>keep b o (fun z=>nb (z▸sh.sd)) e) ⟨dx,d,putZ kvs (.inr τ.key) (.ref t0),?_⟩;refine⟨by rw[hlen];exact keep _ _ npd sh.ob,.inl sh.sp,.inl sh.sd,by rw[a0I hdt];exact a0d,by have h1:=sh.len;have h2:=@a88 kvs (.inr τ.key) (.ref t0);simp;omega,fun k hk=>?_,fun k z e=>?_,fun k k' z e e'=>?_,(fun b hb=>?_),b7Z hz sh.nd,b70 sh.sk⟩
  ·rw[a4W]at hk
   split at hk
   ·cases hk
   ·next c=>
    rw[a4g,sh.no k hk,if_neg fun z=>c (by rw[z])]
    rfl
  ·rw[a4W]at e
   split at e
   ·next c=>
    cases e;have ck:k=τ.key:=by simpa using c
    subst ck;refine⟨t0,[((T.length:Int)+1,l)],rfl,.inr (.inr rfl),by rw[a0d];rfl,by rw[a4g,sh.no _ hz,if_pos rfl];rfl,by simp,fun e he=>?_⟩;rw[List.mem_singleton.mp he];refine⟨.inr (.inl rfl),L,keep _ _ (fun z=>by have z':l=d:=z;rw[z',sh.dc]at gl;cases gl) gl,?_⟩;rw[a89];exact il
   ·next c=>
    obtain⟨h',es',ez,H'⟩:=sh.hs k z e;have hd':h'≠d:=fun w=>by have e:=H'.at_;rw[w,sh.dc]at e;cases e
    refine⟨h',es',ez,.inl H'.s,keep _ _ hd' H'.at_,by rw[H'.ix,a4g,if_neg fun z=>c (by rw[z]),List.append_nil],H'.ne,fun e he=>?_⟩;obtain⟨s1,L1,g1,i1⟩:=H'.ln e he;refine⟨.inl s1,L1,keep _ _ (fun w=>by rw[w,sh.dc]at g1;cases g1) g1,?_⟩;rw[a6G (k:=k) (by rw[<- H'.ix];exact List.mem_map_of_mem (f:=(·.1)) he)];exact i1
  ·rw[a4W]at e e'
   split at e
   ·next c=>
    split at e'
    ·next c'=>simpa using c.trans c'.symm
    ·cases e;obtain⟨h',es',ez,H'⟩:=sh.hs k' _ e';cases ez;exact absurd rfl (nS _ H'.s _ H'.at_)
   ·split at e'
    ·cases e';obtain⟨h',es',ez,H'⟩:=sh.hs k _ e;cases ez;exact absurd rfl (nS _ H'.s _ H'.at_)
    ·exact sh.inj k k' z e e'
  ·by_cases c:b=t0
   ·rw[c];exact⟨_,a0d⟩
   ·by_cases c2:b=d
    ·rw[c2];exact⟨_,by rw[a0I hdt];exact a0d⟩
    ·rcases hb with hb | hb | hb
     ·obtain⟨o,e⟩:=sh.al b hb;exact⟨o,keep b o c2 e⟩
     ·rw[hb]at c2 ⊢;exact⟨_,keep l _ c2 gl⟩
     ·exact absurd hb c
def BadT (a:Ad) (G:Hq) (z:Z) (c:Addr):Prop:=Ex4 fun (h:Z) (nm:List Z) (x y:Z)=>Tel G z h nm x y/\((nm.all a1P=false/\c=a.x_NoName)\/(nm.all a1P=true/\strB x y=false/\c=a.x_NoStretch))
def a3V (a:Ad):PX3:=fun ws G R EE=>∃ (p:Addr) (S:Addr->Prop) (T:List Tl),Sheet a.c_Sheet G p S T/\((∃ τ:Tl,ws=[.ref p,τ.z]/\τ.Ok/\T.length≤150 /\
 ∀ (S':Addr->Prop) G',(∀ b,S b->S' b)->(∀ b,S' b->S b\/G b=none)->KN S G G'->Sheet a.c_Sheet G' p S' (T++[τ])->R (.int ((T.length:Int)+1)) G') \/
 ∃ (z:Z) (c:Addr),ws=[.ref p,z]/\BadT a G z c/\∀ G',Sm G G'->EE c G')
theorem a5G {a:Ad}{ws:List Z}{G:Hq}{R:K3}{EE:Addr->Hq->Prop}(h:a3V a ws G R EE):ws.length=2:=by obtain⟨_,_,_,_,⟨_,rfl,_⟩ | ⟨_,_,rfl,_⟩⟩:=h<;>rfl
theorem b3W {τ:Tl}:∃ ws,τ.z=.tup ws/\atI ws 1=some (.str τ.key):=by
 obtain⟨k,w,b,e⟩:=τ;cases w<;>exact⟨_,rfl,at1⟩
theorem b71 {G:Hq}{e:Option Int}:Th G (oz e):=by cases e<;>exact True.intro
theorem Tl.Ok.tel {G:Hq}{τ:Tl}(ok:τ.Ok):∃ (h:Z) (nm:List Z),Tel G τ.z h nm (.int τ.b) (oz τ.e)/\nm.all a1P=true/\strB (.int τ.b) (oz τ.e)=true:=by
 obtain⟨k,w,b,e⟩:=τ;have hk:=ok.k;have hw:=ok.w;have hs:=st_b ok.st;cases w with
 | none=>exact⟨_,[.str k],⟨rfl,.inl ⟨_,rfl⟩,fun z hz=>by rw[List.mem_singleton.mp hz];exact a4I hk,True.intro,b71⟩,by rw[List.all_cons,nm_b hk];rfl,hs⟩
 | some w=>
  have hw:=hw w rfl;refine⟨_,[.str k,.str w],⟨rfl,.inr ⟨_,_,rfl⟩,fun z hz=>?_,True.intro,b71⟩,by rw[List.all_cons,nm_b hk,List.all_cons,nm_b hw];rfl,hs⟩;simp only[List.mem_cons,List.not_mem_nil,or_false]at hz;rcases hz with rfl | rfl
  ·exact a4I hk
  ·exact a4I hw
theorem a6H (F:Fns K a) (T:Txt K mg a):FnOk P w K mg base (CXx P w) 5 a.f40 a.d40 ["self","telling"] (a3m K (a3V a)):=by
 have G_p_check_telling:=a3S (P:=P) (w:=w) (base:=base) F T;have G_p_line_behind:=a4K (P:=P) (w:=w) (base:=base) F T;have G_Sheet_keep_line:=a3U (P:=P) (w:=w) (base:=base) F T;have G_Sheet_known_line:=a0T (P:=P) (w:=w) (base:=base) F T;refine fn3x F.n40 sc_Sheet_tell (fun ws G R EE h=>(by exact a5G h)) (fun cdv A outer s H E ws G R EE hr h ux=>?_);have hu:=a0P hr;refine⟨_,(a0k (a0Q (a1a (a0Y Outs.of) ux.since G_p_check_telling (hr.mono (by decide)) rfl T.m23 F.n23.kp (a3J F) (a0b (a0c (pv 1)) a0i a0a) (he:=a0a) (hpl:=a0j)))
  (a0k (z_set (i:=2) sc_Sheet_tell.nd rfl (Or.inl rfl) (q_ix x_ix (a0c (pv 1)) a0h (fun _ _=>rfl)))
  (a0k (z_set (i:=3) sc_Sheet_tell.nd rfl (Or.inl rfl) (a0u G_p_line_behind (hr.mono (by decide)) rfl T.m24 F.n24.kp (a4G F) (a0b (a5W (a0c (pv 0)) T.cl_Sheet T.mt16 G_Sheet_known_line (hr.mono (by decide)) (a0S F) (a0b (a0c (pv 2)) (a0b (a77 T.cl_Sheet T.na_last (a0c (pv 0))) a0i a1x) a0a) (hst:=a0a) (hpl:=(a0g a1x a0j))) (a0b (a0c (pv 1)) a0i a0a) a0E) (he:=a0E) (hpl:=(a0g a0a a0j))))
  (a0k (b2S T.cl_Sheet T.na_last (a0c (pv 0)) a0h b3D)
  (a0k (a0Q (a5W (a0c (pv 0)) T.cl_Sheet T.mt39 G_Sheet_keep_line (hr.mono (by decide)) (a3K F) (a0b (a0c (pv 2)) (a0b (a0c (pv 3)) a0i a0a) a0a) (hst:=a0a) (hpl:=(a0g a0a a0j))))
  (a0n (a0D (a77 T.cl_Sheet T.na_last (a0c (pv 0)))))))))),?_⟩
 obtain⟨p,S,T,⟨dx,d,kvs,sh⟩,⟨τ,rfl,ok,hT,q⟩ | ⟨z,c,rfl,⟨h,nm,x,y,tel,hb⟩,q⟩⟩:=h
 rotate_left
 ·walk_at "go";refine⟨z,h,nm,x,y,rfl,tel,fun G1 s1=>?_⟩;have q':=q G1 s1;rcases hb with ⟨e1,rfl⟩ | ⟨e1,e2,rfl⟩
  ·rw[e1];exact ifF q'
  ·rw[e1,e2];exact ifT (ifF q')
 walk_at "go";obtain⟨th,tn,tel,ta,ts⟩:=ok.tel (G:=G);refine⟨_,_,_,_,_,rfl,tel,fun G1 s1=>?_⟩;rw[ta,ts];refine ifT (ifT ?_);have sh1:=sh.keep (Sm.ks s1);obtain⟨ws,ez,ek⟩:=@b3W τ;walk_at "go";rw[ez];refine a1I ek ?_;rw[<- ez];walk_at "go";refine⟨p,dx,_,rfl,sh1.ob,a4i (by decide +kernel) (by decide +kernel),?_⟩;walk_at "go";refine⟨p,dx,_,_,rfl,sh1.ob,a4h,?_⟩;walk_at "go";refine⟨p,S,T,τ.key,_,_,dx,d,kvs,rfl,sh1.v,by omega,by omega,by omega,fun t L G2 ht s2 gt il=>?_⟩;rw[show ((T.length:Int)).toNat=T.length by omega,List.take_length]at il;have sh2:=sh1.keep (Sm.ks s2);walk_at "go";have hll:=il.len;refine⟨t,L,τ,rfl,gt,il.can.rise,il.pl,by omega,ok,fun u G3 hu s3 gu=>?_⟩;have sh3:=sh2.keep (Sm.ks s3);have S13:=(s1.trans s2).trans s3;have hu0:G u=none:=(s1.trans s2).free hu;have nu:¬ S u:=fun z=>by obtain⟨o,e⟩:=sh.al u z;rw[hu0]at e;cases e
 walk_at "go";refine⟨p,dx,_,_,rfl,sh3.ob,a4h,?_⟩;walk_at "go";refine⟨dx,_,sh3.ob,by show 2<1000;decide,?_⟩;rw[b5g];have hup:u≠p:=fun z=>nu (z▸sh.sp);have sh4:ShM a.c_Sheet (put G3 p (.ins a.c_Sheet dx (shF ((T.length:Int)+1) d))) p S T ((T.length:Int)+1) dx d kvs:=by
  have kp:∀ b o,b≠p->G3 b=some o->put G3 p (.ins a.c_Sheet dx (shF ((T.length:Int)+1) d)) b=some o:=fun b o nb e=>by rw[a0I nb];exact e
  refine⟨a0d,sh3.sp,sh3.sd,kp _ _ (fun z=>by have e:=sh3.dc;rw[z,sh3.ob]at e;cases e) sh3.dc,sh3.len,sh3.no,fun k z e=>?_,sh3.inj,(fun b hb=>?_),sh3.nd,sh3.sk⟩
  ·obtain⟨h,es,ez,H⟩:=sh3.hs k z e;refine⟨h,es,ez,H.s,kp _ _ (fun z=>by have e:=H.at_;rw[z,sh3.ob]at e;cases e) H.at_,H.ix,H.ne,fun e he=>?_⟩;obtain⟨s1,L1,g1,i1⟩:=H.ln e he;exact⟨s1,L1,kp _ _ (fun z=>by rw[z,sh3.ob]at g1;cases g1) g1,i1⟩
  ·by_cases c:b=p
   ·rw[c];exact⟨_,a0d⟩
   ·obtain⟨o,e⟩:=sh3.al b hb;exact⟨o,kp b o c e⟩
 have gu4:put G3 p (.ins a.c_Sheet dx (shF ((T.length:Int)+1) d)) u=some (.lst ((a6z L τ.b τ.e (optW τ.v)).map Rw.z)):=by rw[a0I hup];exact gu
 have kn4:KN S G (put G3 p (.ins a.c_Sheet dx (shF ((T.length:Int)+1) d))):=fun b o nb e=>by rw[a0I (show b≠p from fun z=>nb (by rw[z];exact sh.sp))];exact S13 _ _ e
 have nn4:∀ b,put G3 p (.ins a.c_Sheet dx (shF ((T.length:Int)+1) d)) b=none->G b=none:=fun b e=>by
  by_cases c:b=p
  ·rw[c,a0d]at e;cases e
  ·rw[a0I c]at e;exact S13.free e
 generalize put G3 p (.ins a.c_Sheet dx (shF ((T.length:Int)+1) d))=G4 at sh4 gu4 kn4 nn4 ⊢;walk_at "go";refine⟨p,dx,_,rfl,sh4.ob,a4i (by decide +kernel) (by decide +kernel),?_⟩;walk_at "go";refine⟨p,S,T,τ,u,_,dx,d,kvs,rfl,sh4,gu4,nu,il.snoc ok,by omega,fun S' G5 i1 i2 kn5 sh5=>?_⟩;have sh5':=sh5;obtain⟨dx5,d5,kvs5,m5⟩:=sh5';walk_at "go";refine⟨p,dx5,_,_,rfl,m5.ob,a4h,?_⟩;have e:(((T++[τ]).length:Nat):Int)=(T.length:Int)+1:=by simp
 rw[e];refine q S' G5 i1 (fun b hb=>?_) (kn4.trans kn5) sh5;rcases i2 b hb with h | h | h
 ·exact .inl h
 ·rw[h];exact .inr hu0
 ·exact .inr (nn4 b h)
theorem a0F (a b:Str):(a++b).cps.toList=a.cps.toList++b.cps.toList:=by
 show (a.cps++b.cps).toList=_
 rw[Array.toList_append]
theorem b9B {s:Str}{p:Nat}(h:p≤s.cps.toList.length):(Txt.slice s none (some (p:Int))).cps.toList=s.cps.toList.take p:=by
 have:=eq_of_beq (PyProof.Rows.slice_closes_to (x:=s) (j:=(p:Int)) ⟨by omega,by omega⟩)
 rw[this];simp
theorem b5m {s:Str}{p:Nat}(h:p≤s.cps.toList.length):(Txt.slice s (some (p:Int)) none).cps.toList=s.cps.toList.drop p:=by
 have:=PyProof.Rows.slice_from_eq (x:=s) (i:=(p:Int)) (b:=(s.length:Int)) (by omega) (by rw[a25];omega) rfl
 rw[this,a25,List.take_of_length_le (by rw[List.length_drop];omega)];simp
theorem b3b {s:Str}(h:nmOk s):s.length≤sizeLine:=a2F (by rw[a25];have:=h.2.1;omega)
theorem a4l:(10:Int) ^ (12:Int).toNat=1000000000000:=by decide
theorem b3c:(Str.ofString "abcdefghijklmnopqrstuvwxyz").cps.toList=[97,98,99,100,101,102,103,104,105,106,107,108,109,110,111,112,113,114,115,116,117,118,119,120,121,122]:=by decide +kernel
theorem a9a {k:Int}(h0:0≤k) (h1:k<26):atI (Str.ofString "abcdefghijklmnopqrstuvwxyz").cps.toList k=some (97+k.toNat):=by
 obtain⟨j,rfl⟩:=Int.eq_ofNat_of_zero_le h0;have hj:j<26:=by omega
 refine a1y ?_;rw[b3c]
 have:∀ j:Fin 26,([97,98,99,100,101,102,103,104,105,106,107,108,109,110,111,112,113,114,115,116,117,118,119,120,121,122]:List Nat)[j.1]?=some (97+j.1):=by decide
 exact this ⟨j,hj⟩
theorem b9C:∀ cs:List Nat,(Txt.join (Str.ofString "") (cs.map fun c=>(⟨#[c]⟩:Str))).cps.toList=cs:=by
 intro cs;rw[show Txt.join (Str.ofString "") (cs.map fun c=>(⟨#[c]⟩:Str))=Str.join (Str.ofString "") (cs.map fun c=>(⟨#[c]⟩:Str)) from StrLaws.glued_eq_join _ _,show Str.ofString ""=Str.empty by decide +kernel]
 induction cs with
 | nil=>rfl
 | cons c cs ih=>
  cases cs with
  | nil=>rfl
  | cons d cs=>
   show ((⟨#[c]⟩:Str)++Str.empty++Str.join Str.empty ((d::cs).map fun c=>(⟨#[c]⟩:Str))).cps.toList=_
   rw[a0F,a0F,ih]
   rfl
theorem a9X (cs:List Nat) (h:cs.length≤100):((cs.map fun c=>(⟨#[c]⟩:Str)).map (·.length)).sum+(cs.map fun c=>(⟨#[c]⟩:Str)).length*(Str.ofString "").length≤16777216:=by
 have e:((cs.map fun c=>(⟨#[c]⟩:Str)).map (·.length)).sum=cs.length:=by
  clear h
  induction cs with
  | nil=>rfl
  | cons c cs ih=>
   rw[List.map_cons,List.map_cons,List.sum_cons,ih,List.length_cons]
   show 1+cs.length=_
   omega
 rw[e,show Str.ofString ""=Str.empty by decide +kernel,show Str.empty.length=0 from rfl];omega
def a55:P3:=fun ws G R=>∃ c k:Int,ws=[.int c,.int k]/\0≤k/\k≤1000/\∀ r:Int,0≤r->r<1000000007->R (.int r) G
theorem a8h {ws:List Z}{G:Hq}{R:K3}(h:a55 ws G R):ws.length=2:=by obtain⟨_,_,rfl,_⟩:=h;rfl
theorem mM (x:Int):0≤x % 1073676287/\x % 1073676287<1073676287:=⟨Int.emod_nonneg _ (by decide),Int.emod_lt_of_pos _ (by decide)⟩
theorem mP (x:Int):0≤x % 1000000007/\x % 1000000007<1000000007:=⟨Int.emod_nonneg _ (by decide),Int.emod_lt_of_pos _ (by decide)⟩
theorem a22 (F:Fns K a) (T:Txt K mg a):FnOk P w K mg base CX0 1 a.f26 a.d26 ["cell","k"] (lowP K a55):=by
 refine fn3 F.n26 sc_tumbled (fun ws G R h=>(by exact a8h h)) (fun cdv A outer s H E ws G R hr h=>?_);have hu:=a0P hr;refine⟨_,(a0k (z_set (i:=2) sc_tumbled.nd rfl (Or.inl rfl) (q_op a09 (q_op a1c (q_op a09 (a0c (pv 0)) a0h) (q_op a7W a0h (q_op a1c (a0c (pv 1)) a0h))) a0h))
  (a0k (z_set (i:=2) sc_tumbled.nd rfl (Or.inl rfl) (q_op a1c (q_op a09 (q_op a7W (a0c (pv 2)) (a0c (pv 2))) a0h) (q_op a7W a0h (a0c (pv 1)))))
  (a0n (a0D (q_op a09 (q_op a7W (a0c (pv 2)) (q_op a1c (a0c (pv 2)) a0h)) a0h))))),?_⟩
 obtain⟨c,k,rfl,h0,h1,q⟩:=h;walk_at "go";refine i_I (show (0:Int)<1073676287 by decide) ?_;walk_at "go";refine i_I (.inr ⟨by omega,by omega⟩) ?_;walk_at "go";refine i_I (show (0:Int)<1073676287 by decide) ?_;walk_at "go";have b1:=mM (c % 1073676287+39916801*(k+1));generalize (c % 1073676287+39916801*(k+1)) % 1073676287=u at b1 ⊢;refine i_I (.inl ⟨by omega,by omega⟩) ?_;walk_at "go";refine i_I (show (0:Int)<1073676287 by decide) ?_;walk_at "go";have b2:=mM (u*u);generalize u*u % 1073676287=v at b2 ⊢;refine i_I (.inr ⟨by omega,by omega⟩) ?_;walk_at "go";refine i_I (.inl ⟨by omega,by omega⟩) ?_;walk_at "go";refine i_I (show (0:Int)<1000000007 by decide) ?_;exact q _ (mP _).1 (mP _).2
theorem b3d {c:Nat}(h:isL c):a9L (Str.ofString "abcdefghijklmnopqrstuvwxyz") ⟨#[c]⟩=(c:Int) - 97:=by
 have:∀ j:Fin 26,a9L (Str.ofString "abcdefghijklmnopqrstuvwxyz") ⟨#[97+j.1]⟩=(j.1:Int):=by decide +kernel
 obtain⟨h1,h2⟩:=h;have e:=this ⟨c - 97,by omega⟩;have hc:97+(c - 97)=c:=by omega
 simp only[hc]at e;rw[e];omega
theorem a7E:∀ {l:List Nat}{a b:Nat},l++[a]=b::l->a=b
 | [],a,b,h=>by simpa using h
 | x::l,a,b,h=>by
  rw[List.cons_append]at h;injection h with h1 h2
  rw[a7E h2,h1]
def a9b:P3:=fun ws G R=>∃ c:Int,ws=[.int c]/\∀ (t:Addr) (ns:List Str) (G':Hq),G t=none->Sm G G'->G' t=some (.lst (ns.map Z.str))->ns.length=4->(∀ s∈ns,nmOk s)->ns.Nodup->R (.ref t) G'
theorem b1O {ws:List Z}{G:Hq}{R:K3}(h:a9b ws G R):ws.length=1:=by obtain⟨_,rfl,_⟩:=h;rfl
theorem b3e (F:Fns K a) (T:Txt K mg a):FnOk P w K mg base CX0 2 a.f27 a.d27 ["cell"] (lowP K a9b):=by
 have G_tumbled:=a22 (P:=P) (w:=w) (base:=base) F T;refine fn3 F.n27 sc_words (fun ws G R h=>(by exact b1O h)) (fun cdv A outer s H E ws G R hr h=>?_);have hu:=a0P hr;refine⟨_,(a0k (z_set (i:=1) sc_words.nd rfl (Or.inr rfl) a3z)
  (a0k (z_set (i:=2) sc_words.nd rfl (Or.inl rfl) (q_bm PySem.F.plainAttrs_str PySem.F.slot_str_join PySem.F.type_str_join b6M a3z (a0b (q_lc (N₀:=["cell","letters","word","at","first","last","moved"]) (so:=a0f a6r) (N':=["k","letters","cell"]) (cap:=[none,some 1,some 0]) (pt:=(.nm 0)) rfl rfl rfl (by decide +kernel) rfl (a2Z rfl T.b_range (a0b (q_op a1c a0h (q_op a09 (a0u G_tumbled (hr.mono (by decide)) rfl T.m26 F.n26.kp (a0x F) (a0b (a0c (pv 0)) (a0b a0h a0i a0e) a0a) (he:=a0a) (hpl:=(a0g a0e a0j))) a0h)) a0i a0N)) (fun _ _ _ _=>(show QP _ _ (.nm 0) from (a0o (i:=0) b9q rfl (Or.inl rfl)))) (fun _ _ _ _=>a14) (fun _ _ _ _=>(q_ix x_ix (a0c (pv 1)) (q_op a09 (a0u G_tumbled (hr.mono (by decide)) rfl T.m26 F.n26.kp (a0x F) (a0b (a0c (pv 2)) (a0b (a0c (pv 0)) a0i a0a) a0a) (he:=a0a) (hpl:=(a0g a0a a0j))) a0h) (fun _ _=>rfl)))) a0i a1m)))
  (a0k (z_set (i:=3) sc_words.nd rfl (Or.inl rfl) (q_op a09 (a0u G_tumbled (hr.mono (by decide)) rfl T.m26 F.n26.kp (a0x F) (a0b (a0c (pv 0)) (a0b a0h a0i a0e) a0a) (he:=a0a) (hpl:=(a0g a0e a0j))) (a0G b_len rfl T.b_len PySem.boot_len (a0b (a0c (pv 2)) a0i a0a) (he:=a0a) (hpl:=a0j))))
  (a0k (z_set (i:=4) sc_words.nd rfl (Or.inl rfl) (q_op a09 (a0u G_tumbled (hr.mono (by decide)) rfl T.m26 F.n26.kp (a0x F) (a0b (a0c (pv 0)) (a0b a0h a0i a0e) a0a) (he:=a0a) (hpl:=(a0g a0e a0j))) a0h))
  (a0k (z_set (i:=5) sc_words.nd rfl (Or.inl rfl) (q_ix x_ix (a0c (pv 1)) (q_op a09 (q_op a1c (q_op a1c (a0c (pv 4)) a0h) (q_op a09 (a0u G_tumbled (hr.mono (by decide)) rfl T.m26 F.n26.kp (a0x F) (a0b (a0c (pv 0)) (a0b a0h a0i a0e) a0a) (he:=a0a) (hpl:=(a0g a0e a0j))) a0h)) a0h) (fun _ _=>rfl)))
  (a0k (z_set (i:=6) sc_words.nd rfl (Or.inl rfl) (q_ix x_ix (a0c (pv 1)) (q_op a09 (q_op a1c (q_op a1c (q_bm PySem.F.plainAttrs_str PySem.F.slot_str_find PySem.F.type_str_find b7i (a0c (pv 1)) (a0b (q_ix x_ix (a0c (pv 2)) (a0c (pv 3)) (fun _ _=>rfl)) a0i a0l)) a0h) (q_op a09 (a0u G_tumbled (hr.mono (by decide)) rfl T.m26 F.n26.kp (a0x F) (a0b (a0c (pv 0)) (a0b a0h a0i a0e) a0a) (he:=a0a) (hpl:=(a0g a0e a0j))) a0h)) a0h) (fun _ _=>rfl)))
  (a0n (a0D (a2L (a0b (a0c (pv 2)) (a0b (q_op a1c (a0c (pv 2)) (a0c (pv 5))) (a0b (q_op a1c (q_ix x_ix (a0c (pv 1)) (a0c (pv 4)) (fun _ _=>rfl)) (a0c (pv 2))) (a0b (q_op a1c (q_op a1c (a2r x_sl (a0c (pv 2)) a2q (a2S (a0c (pv 3)))) (a0c (pv 6))) (a2r x_sl (a0c (pv 2)) (a2S (q_op a1c (a0c (pv 3)) a0h)) a2q)) a0i a0N) a0N) a0N) a0a)))))))))),?_⟩
 obtain⟨c,rfl,q⟩:=h;walk_at "go";refine⟨c,7,rfl,by decide,by decide,fun r r0 r1=>?_⟩;walk_at "go";refine i_I (show (0:Int)<7 by decide) ?_;walk_at "go";have hn:1≤1+r % 7/\1+r % 7≤7:=by omega
 generalize 1+r % 7=n at hn ⊢;refine⟨by omega,by omega,?_⟩;intro D hD;refine a6j (fun i ys G'=>∃ cs:List Nat,cs.length=i/\(∀ c∈cs,isL c)/\ys=cs.map (fun c=>Z.str ⟨#[c]⟩)/\G'=put G D (.lst ys)) ⟨[],rfl,fun c h=>by simp at h,rfl,rfl⟩ (by rintro _ _ _ _ _;exact True.intro) ?_ ?_
 ·rintro i x ys G' hx ⟨cs,hl,hc,rfl,rfl⟩;obtain⟨hi,rfl⟩:=a31 hx;refine⟨_,rfl,?_⟩;walk_at "go";refine⟨c,_,rfl,by omega,by omega,fun f f0 f1=>?_⟩;walk_at "go";refine i_I (show (0:Int)<26 by decide) ?_;walk_at "go";refine b05 (lenK rfl) (a9a (by omega) (by omega)) ?_;refine⟨a0d,by rw[List.length_map];exact a0t (by omega),cs++[97+(f % 26).toNat],by simp[hl],fun d hd=>?_,by rw[List.map_append];rfl,by rw[a2n]⟩;rcases List.mem_append.mp hd with hd | hd
  ·exact hc d hd
  ·rw[List.mem_singleton.mp hd];unfold isL;omega
 ·rintro ys G' ⟨cs,hl,hc,rfl,rfl⟩;rw[a2b]at hl;walk_at "go";refine b65 (ys:=cs.map fun c=>(⟨#[c]⟩:Str)) (by rw[a0d,List.map_map];rfl) (a9X cs (by omega)) ?_;have el:=b9C cs;generalize Txt.join (Str.ofString "") (cs.map fun c=>(⟨#[c]⟩:Str))=s at el ⊢;have ls:s.cps.toList.length=cs.length:=by rw[el]
  have ws:nmOk s:=⟨by omega,by omega,fun d hd=>by rw[el]at hd;exact hc d hd⟩;have w7:s.cps.toList.length≤7:=by omega
  walk_at "go";refine⟨c,8,rfl,by decide,by decide,fun f f0 f1=>?_⟩;walk_at "go";refine b06 (b3b ws) ?_;walk_at "go";refine i_I (show (0:Int)<(s.length:Int) by rw[a25];omega) ?_;walk_at "go";have ha:0≤f % (s.length:Int)/\f % (s.length:Int)<(s.length:Int):=⟨Int.emod_nonneg _ (by rw[a25];omega),Int.emod_lt_of_pos _ (by rw[a25];omega)⟩;generalize f % (s.length:Int)=at' at ha ⊢;obtain⟨p,rfl⟩:=Int.eq_ofNat_of_zero_le ha.1;have hp:p<s.cps.toList.length:=by rw[<- a25];omega
  refine⟨c,9,rfl,by decide,by decide,fun f2 f20 f21=>?_⟩;walk_at "go";refine i_I (show (0:Int)<26 by decide) ?_;walk_at "go";refine⟨c,10,rfl,by decide,by decide,fun f3 f30 f31=>?_⟩;walk_at "go";refine i_I (show (0:Int)<25 by decide) ?_;walk_at "go";refine i_I (show (0:Int)<26 by decide) ?_;walk_at "go";refine b05 (lenK rfl) (a9a (by omega) (by omega)) ?_;walk_at "go";refine b05 (b3b ws) (a1y (List.getElem?_eq_getElem hp)) ?_;walk_at "go";have hfd:=b3d (ws.2.2 _ (List.getElem_mem hp));have lsp:=ws.2.2 _ (List.getElem_mem hp);generalize a9L (Str.ofString "abcdefghijklmnopqrstuvwxyz") ⟨#[s.cps.toList[p]]⟩=fd at hfd ⊢;refine⟨c,11,rfl,by decide,by decide,fun f4 f40 f41=>?_⟩;walk_at "go";refine i_I (show (0:Int)<25 by decide) ?_;walk_at "go";refine i_I (show (0:Int)<26 by decide) ?_;walk_at "go";refine b05 (lenK rfl) (a9a (by omega) (by omega)) ?_;have one:∀ k:Nat,k<26->nmOk (⟨#[97+k]⟩:Str):=fun k hk=>⟨by simp,by simp,fun d hd=>by
   have:d=97+k:=by simpa using hd
   unfold isL;omega⟩
  have app:∀ {x y:Str},nmOk x->(∀ d∈y.cps.toList,isL d)->x.cps.toList.length+y.cps.toList.length≤8->nmOk (x++y):=fun {x y} hx hy hl=>⟨by rw[a0F,List.length_append];have:=hx.1;omega,by rw[a0F,List.length_append];exact hl,fun d hd=>by
   rw[a0F]at hd;rcases List.mem_append.mp hd with hd | hd
   ·exact hx.2.2 d hd
   ·exact hy d hd⟩
  have k1:((f2 % 26+1+f3 % 25) % 26).toNat<26:=by omega
  have k2:(f2 % 26).toNat<26:=by omega
  have k3:((fd+1+f4 % 25) % 26).toNat<26:=by omega
  have o1:=one _ k1;have o2:=one _ k2;have o3:=one _ k3;have d3:97+((fd+1+f4 % 25) % 26).toNat≠s.cps.toList[p]:=by unfold isL at lsp;omega
  have d1:97+((f2 % 26+1+f3 % 25) % 26).toNat≠97+(f2 % 26).toNat:=by omega
  have lone:∀ k:Nat,(⟨#[k]⟩:Str).length=1:=fun _=>rfl;have ltwo:∀ k:Nat,(⟨#[k]⟩:Str).cps.toList.length=1:=fun _=>rfl;generalize 97+((fd+1+f4 % 25) % 26).toNat=m3 at o3 d3 ⊢;walk_at "go";generalize 97+((f2 % 26+1+f3 % 25) % 26).toNat=m1 at o1 d1 ⊢;refine a8B (a2F (by rw[a25,lone];omega)) ?_;walk_at "go";refine b05 (lenK rfl) (a9a (by omega) (by omega)) ?_;generalize 97+(f2 % 26).toNat=m2 at o2 d1 ⊢;walk_at "go";refine a8B (a2F (by rw[a25 s,lone];omega)) ?_;walk_at "go";refine b60 (b3b ws) ?_;have e1:=b9B (s:=s) (p:=p) (by omega);have e2:=b5m (s:=s) (p:=p+1) (by omega);walk_at "go";refine a8B (a2F (by rw[a25,e1,List.length_take,lone];omega)) ?_;walk_at "go";refine b60 (b3b ws) ?_;rw[show ((p:Int)+1)=((p+1:Nat):Int) by omega];walk_at "go";refine a8B (a2F (by rw[a25,a0F,List.length_append,e1,a25,e2,List.length_take,List.length_drop,ltwo];omega)) ?_;walk_at "go";refine⟨lenK rfl,fun t ht=>?_⟩;refine q t [s,s++⟨#[m1]⟩,(⟨#[m2]⟩:Str)++s,Txt.slice s none (some (p:Int))++⟨#[m3]⟩++Txt.slice s (some ((p+1:Nat):Int)) none] _ ((Sm.new hD).free ht) ((Sm.new hD).trans (Sm.new ht)) a0d rfl (fun w hw=>?_) ?_
  rotate_left
  ·have ne:∀ {x y:Str},x.cps.toList≠y.cps.toList->x≠y:=fun h z=>h (by rw[z]);have e3:(Txt.slice s none (some (p:Int))++⟨#[m3]⟩++Txt.slice s (some ((p+1:Nat):Int)) none).cps.toList=s.cps.toList.take p++[m3]++s.cps.toList.drop (p+1):=by rw[a0F,a0F,e1,e2]
   have l3:(s.cps.toList.take p++[m3]++s.cps.toList.drop (p+1)).length=s.cps.toList.length:=by rw[List.length_append,List.length_append,List.length_take,List.length_drop];simp only[List.length_cons,List.length_nil];omega
   have n13:s.cps.toList++[m1]≠m2::s.cps.toList:=fun z=>d1 (a7E z);have n3:s.cps.toList≠s.cps.toList.take p++[m3]++s.cps.toList.drop (p+1):=fun z=>d3 (by
    have h1:s.cps.toList[p]?=some m3:=by
     have hm:(s.cps.toList.take p).length=p:=by rw[List.length_take];omega
     have h2:(s.cps.toList.take p++[m3]++s.cps.toList.drop (p+1))[p]?=some m3:=by
      rw[List.append_assoc,List.getElem?_append_right (by omega),hm,Nat.sub_self];rfl
     exact (congrArg (·[p]?) z).trans h2
    rw[List.getElem?_eq_getElem hp]at h1;injection h1 with h1
    exact h1.symm)
   refine List.nodup_cons.mpr ⟨?_,List.nodup_cons.mpr ⟨?_,List.nodup_cons.mpr ⟨?_,List.nodup_cons.mpr ⟨by simp,.nil⟩⟩⟩⟩
   ·simp only[List.mem_cons,List.not_mem_nil,or_false,not_or];refine⟨ne ?_,ne ?_,ne ?_⟩
    ·rw[a0F];exact fun z=>absurd (congrArg List.length z) (by rw[List.length_append,ltwo];omega)
    ·rw[a0F];exact fun z=>absurd (congrArg List.length z) (by rw[List.length_append,ltwo];omega)
    ·rw[e3];exact n3
   ·simp only[List.mem_cons,List.not_mem_nil,or_false,not_or];refine⟨ne ?_,ne ?_⟩
    ·rw[a0F,a0F];exact n13
    ·rw[a0F,e3];exact fun z=>absurd (congrArg List.length z) (by rw[l3,List.length_append,ltwo];omega)
   ·simp only[List.mem_cons,List.not_mem_nil,or_false];refine ne ?_;rw[a0F,e3];exact fun z=>absurd (congrArg List.length z) (by rw[l3,List.length_append,ltwo];omega)
  simp only[List.mem_cons,List.not_mem_nil,or_false]at hw;rcases hw with rfl | rfl | rfl | rfl
  ·exact ws
  ·exact app ws o1.2.2 (by rw[ltwo];omega)
  ·exact app o2 ws.2.2 (by rw[ltwo];omega)
  ·refine⟨by rw[a0F,a0F,List.length_append,List.length_append,ltwo];omega,by rw[a0F,a0F,List.length_append,List.length_append,ltwo,e1,e2,List.length_take,List.length_drop];omega,fun d hd=>?_⟩;rw[a0F,a0F,e1,e2]at hd;rcases List.mem_append.mp hd with hd | hd
   ·rcases List.mem_append.mp hd with hd | hd
    ·exact ws.2.2 d (List.mem_of_mem_take hd)
    ·exact o3.2.2 d hd
   ·exact ws.2.2 d (List.mem_of_mem_drop hd)
theorem a9c {ns:List Str}{k:Int}(h:∀ s∈ns,nmOk s) (h0:0≤k) (h1:k<(ns.length:Int)):∃ s,atI (ns.map Z.str) k=some (.str s)/\s∈ns/\nmOk s:=by
 obtain⟨j,rfl⟩:=Int.eq_ofNat_of_zero_le h0;have hj:j<ns.length:=by omega
 exact⟨ns[j],a1y (by rw[List.getElem?_map,List.getElem?_eq_getElem hj];rfl),List.getElem_mem hj,h _ (List.getElem_mem hj)⟩
def a56:P3:=fun ws G R=>∃ c:Int,ws=[.int c]/\∀ (b:Int) (e:Option Int) (G':Hq),Sm G G'->stOk b e->R (.tup [.int b,oz e]) G'
theorem a8i {ws:List Z}{G:Hq}{R:K3}(h:a56 ws G R):ws.length=1:=by obtain⟨_,rfl,_⟩:=h;rfl
theorem a9Y (F:Fns K a) (T:Txt K mg a):FnOk P w K mg base CX0 2 a.f28 a.d28 ["cell"] (lowP K a56):=by
 have G_tumbled:=a22 (P:=P) (w:=w) (base:=base) F T;refine fn3 F.n28 sc_stretch (fun ws G R h=>(by exact a8i h)) (fun cdv A outer s H E ws G R hr h=>?_);have hu:=a0P hr;refine⟨_,(a0k (z_set (i:=1) sc_stretch.nd rfl (Or.inl rfl) (q_op a09 (a0u G_tumbled (hr.mono (by decide)) rfl T.m26 F.n26.kp (a0x F) (a0b (a0c (pv 0)) (a0b a0h a0i a0e) a0a) (he:=a0a) (hpl:=(a0g a0e a0j))) a0h))
  (a0k (z_set (i:=2) sc_stretch.nd rfl (Or.inl rfl) (q_op a09 (a0u G_tumbled (hr.mono (by decide)) rfl T.m26 F.n26.kp (a0x F) (a0b (a0c (pv 0)) (a0b a0h a0i a0e) a0a) (he:=a0a) (hpl:=(a0g a0e a0j))) a0h))
  (a6Y (z_if (a0v (o_eq hu) (a0c (pv 1)) a0h (a0s _))
  (a0n (z_set (i:=2) sc_stretch.nd rfl (Or.inl rfl) (q_op a09 (q_op a7W (a0u G_tumbled (hr.mono (by decide)) rfl T.m26 F.n26.kp (a0x F) (a0b (a0c (pv 0)) (a0b a0h a0i a0e) a0a) (he:=a0a) (hpl:=(a0g a0e a0j))) a0h) (q_op a1c (q_op a33 a0h a0h) a0h))))
  a08)
  (a6Y (z_if (a0v (o_eq hu) (a0c (pv 1)) a0h (a0s _))
  (a0n (z_set (i:=2) sc_stretch.nd rfl (Or.inl rfl) (q_ix x_ix (a2L (a0b (q_op a33 a0h a0h) (a0b (q_op a9B (q_op a33 a0h a0h) a0h) (a0b a0h (a0b (q_op a9B (q_op a33 a0h a0h) a0h) a0i a0N) a0e) a0N) a0N)) (q_op a09 (a0c (pv 2)) a0h) (fun _ _=>rfl))))
  a08)
  (a0k (z_if (QW.qt (q_or (a0v (o_eq hu) (q_op a09 (a0u G_tumbled (hr.mono (by decide)) rfl T.m26 F.n26.kp (a0x F) (a0b (a0c (pv 0)) (a0b a0h a0i a0e) a0a) (he:=a0a) (hpl:=(a0g a0e a0j))) a0h) a0h (a0s _)) (a44 (a0v (o_eq hu) (a0c (pv 2)) (q_op a33 a0h a0h) (a0s _)))))
  (a0n (a0D (a13 (a0b (a0c (pv 2)) (a0b a2o a0i a0e) a0a))))
  a08)
  (a0k (z_if (a0v (o_eq hu) (q_op a09 (a0u G_tumbled (hr.mono (by decide)) rfl T.m26 F.n26.kp (a0x F) (a0b (a0c (pv 0)) (a0b a0h a0i a0e) a0a) (he:=a0a) (hpl:=(a0g a0e a0j))) a0h) a0h (a0s _))
  (a0n (a0D (a13 (a0b (a0c (pv 2)) (a0b (q_op a1c (q_op a1c (a0c (pv 2)) a0h) (q_op a09 (q_op a7W (a0u G_tumbled (hr.mono (by decide)) rfl T.m26 F.n26.kp (a0x F) (a0b (a0c (pv 0)) (a0b a0h a0i a0e) a0a) (he:=a0a) (hpl:=(a0g a0e a0j))) a0h) (q_op a9B (q_op a33 a0h a0h) (a0c (pv 2))))) a0i a0N) a0a))))
  a08)
  (a0n (a0D (a13 (a0b (a0c (pv 2)) (a0b (a0G (b_min rfl) rfl T.b_min rfl (a0b (q_op a33 a0h a0h) (a0b (q_op a1c (q_op a1c (a0c (pv 2)) a0h) (q_op a09 (a0u G_tumbled (hr.mono (by decide)) rfl T.m26 F.n26.kp (a0x F) (a0b (a0c (pv 0)) (a0b a0h a0i a0e) a0a) (he:=a0a) (hpl:=(a0g a0e a0j))) a0h)) a0i a0N) a0N) (he:=a0N) (hpl:=(a0g a0N a0j))) a0i a0E) a0a)))))))))),?_⟩
 obtain⟨c,rfl,q⟩:=h;walk_at "go";refine⟨c,20,rfl,by decide,by decide,fun r r0 r1=>?_⟩;walk_at "go";refine i_I (show (0:Int)<8 by decide) ?_;walk_at "go";generalize r % 8=kind;refine⟨c,21,rfl,by decide,by decide,fun r2 r20 r21=>?_⟩;walk_at "go";refine i_I (show (0:Int)<12 by decide) ?_;walk_at "go";have hb0:0≤r2 % 12/\r2 % 12<12:=by omega
 generalize r2 % 12=b0 at hb0 ⊢;refine a61 (fun σ' G'=>∃ b:Int,0≤b/\b≤1000000000000/\G'=G/\σ'=[some (.int c),some (.int kind),some (.int b)]) ?_ ?_
 ·walk_at "go";refine ifD (fun _=>?_) fun _=>?_
  ·walk_at "go";refine⟨c,21,rfl,by decide,by decide,fun r3 r30 r31=>?_⟩;walk_at "go";refine i_I (.inl ⟨by omega,by omega⟩) ?_;walk_at "go";refine i_I ⟨by decide,by decide,by decide⟩ ?_;rw[a4l];walk_at "go";refine i_I (show (0:Int)<1000000000000+1 by decide) ?_;walk_at "go";exact⟨_,Int.emod_nonneg _ (by decide),by have:=Int.emod_lt_of_pos (r3*1000) (show (0:Int)<1000000000000+1 by decide);omega,rfl,rfl⟩
  ·walk_at "go";exact⟨b0,by omega,by omega,rfl,rfl⟩
 ·rintro σ' G' ⟨b,h0,h1,rfl,rfl⟩;walk_at "go";refine a61 (fun σ' G''=>∃ b:Int,0≤b/\b≤1000000000000/\Sm G' G''/\σ'=[some (.int c),some (.int kind),some (.int b)]) ?_ ?_
  ·walk_at "go";refine ifD (fun _=>?_) fun _=>?_
   ·walk_at "go";refine i_I ⟨by decide,by decide,by decide⟩ ?_;rw[a4l];walk_at "go";refine i_I ⟨by decide,by decide,by decide⟩ ?_;rw[a4l];walk_at "go";refine i_I ⟨by decide,by decide,by decide⟩ ?_;rw[a4l];walk_at "go";refine⟨lenK rfl,fun u hu=>?_⟩;walk_at "go";refine i_I (show (0:Int)<4 by decide) ?_;have hk:b % 4=0\/b % 4=1\/b % 4=2\/b % 4=3:=by omega
    obtain⟨b',eb,hb'⟩:∃ b':Int,atI [Z.int 1000000000000,.int (1000000000000 - 1),.int 0,.int (1000000000000 - 7)] (b % 4)=some (.int b')/\0≤b'/\b'≤1000000000000:=by
     rcases hk with e | e | e | e<;>rw[e]
     ·exact⟨_,rfl,by decide,by decide⟩
     ·exact⟨_,rfl,by decide,by decide⟩
     ·exact⟨_,rfl,by decide,by decide⟩
     ·exact⟨_,rfl,by decide,by decide⟩
    refine a1n a0d eb ?_;walk_at "go";exact⟨b',hb'.1,hb'.2,Sm.new hu,rfl⟩
   ·walk_at "go";exact⟨b,h0,h1,Sm.refl _,rfl⟩
  ·rintro σ' G'' ⟨b,h0,h1,s1,rfl⟩;have none_:R (.tup [.int b,.non]) G'':=q b none G'' s1 ⟨h0,h1,fun x hx=>nomatch hx⟩;walk_at "go";refine⟨c,22,rfl,by decide,by decide,fun r3 r30 r31=>?_⟩;walk_at "go";refine i_I (show (0:Int)<5 by decide) ?_;walk_at "go";refine ifD (fun _=>?_) fun _=>?_
   ·walk_at "go";exact⟨lenK rfl,none_⟩
   ·walk_at "go";refine i_I ⟨by decide,by decide,by decide⟩ ?_;rw[a4l];walk_at "go";refine ifD (fun _=>?_) fun hne=>?_
    ·walk_at "go";exact⟨lenK rfl,none_⟩
    ·have hlt:b<1000000000000:=by omega
     walk_at "go";refine⟨c,22,rfl,by decide,by decide,fun r4 r40 r41=>?_⟩;walk_at "go";refine i_I (show (0:Int)<5 by decide) ?_;walk_at "go";refine ifD (fun _=>?_) fun _=>?_
     ·walk_at "go";refine⟨c,23,rfl,by decide,by decide,fun r5 r50 r51=>?_⟩;walk_at "go";refine i_I (.inl ⟨by omega,by omega⟩) ?_;walk_at "go";refine i_I ⟨by decide,by decide,by decide⟩ ?_;rw[a4l];walk_at "go";refine i_I (show (0:Int)<1000000000000 - b by omega) ?_;walk_at "go";refine⟨lenK rfl,?_⟩;have m0:=Int.emod_nonneg (r5*1000) (show (1000000000000 - b:Int)≠0 by omega);have m1:=Int.emod_lt_of_pos (r5*1000) (show (0:Int)<1000000000000 - b by omega);exact q b (some (b+1+r5*1000 % (1000000000000 - b))) G'' s1 ⟨h0,h1,fun x hx=>by cases hx;unfold T12;omega⟩
     ·walk_at "go";refine i_I ⟨by decide,by decide,by decide⟩ ?_;rw[a4l];walk_at "go";refine⟨c,23,rfl,by decide,by decide,fun r5 r50 r51=>?_⟩;walk_at "go";refine i_I (show (0:Int)<6 by decide) ?_;walk_at "go";refine⟨lenK rfl,?_⟩;exact q b (some (if b+1+r5 % 6<1000000000000 then b+1+r5 % 6 else 1000000000000)) G'' s1 ⟨h0,h1,fun x hx=>by cases hx;unfold T12;split<;>omega⟩
def a4v:P3:=fun ws G R=>Ex5 fun (c:Int) (ks wsA:Addr) (kn wn:List Str)=>ws=[.int c,.ref ks,.ref wsA]/\G ks=some (.lst (kn.map Z.str))/\G wsA=some (.lst (wn.map Z.str))/\kn.length=4/\wn.length=4/\(∀ s∈kn,nmOk s)/\(∀ s∈wn,nmOk s) /\
 ∀ τ,Tl.Ok τ->τ.key∈kn->R τ.z G
theorem a6I {ws:List Z}{G:Hq}{R:K3}(h:a4v ws G R):ws.length=3:=by obtain⟨_,_,_,_,_,rfl,_⟩:=h;rfl
theorem a7F (F:Fns K a) (T:Txt K mg a):FnOk P w K mg base CX0 1 a.f29 a.d29 ["cell","keys","worths"] (lowP K a4v):=by
 refine fn3 F.n29 sc_by_digits (fun ws G R h=>(by exact a6I h)) (fun cdv A outer s H E ws G R hr h=>?_);have hu:=a0P hr;refine⟨_,(a0k (z_set (i:=3) sc_by_digits.nd rfl (Or.inl rfl) (q_op a09 (q_op a45 (a0c (pv 0)) a0h) (q_op a1c (q_op a33 a0h a0h) a0h)))
  (a0k (z_set (i:=4) sc_by_digits.nd rfl (Or.inl rfl) (q_op a1c (a0c (pv 3)) (q_op a09 (q_op a45 (a0c (pv 0)) a0h) a0h)))
  (a6Y (z_if (QW.qt (a7S (a0v (o_eq hu) (a0c (pv 4)) (q_op a1c (a0c (pv 3)) a0h) (a0s _)) (a5N (a0v o_lt (a0c (pv 3)) (q_op a33 a0h a0h) (a0s _)))))
  (a0n (z_set (i:=4) sc_by_digits.nd rfl (Or.inl rfl) (q_op a1c (q_op a1c (a0c (pv 3)) a0h) (q_op a09 (q_op a45 (q_op a45 (a0c (pv 0)) a0h) (q_op a1c (q_op a33 a0h a0h) a0h)) (q_op a9B (q_op a33 a0h a0h) (a0c (pv 3)))))))
  a08)
  (a6Y (z_if (QW.qt (q_or (a0v (o_eq hu) (a0c (pv 4)) (a0c (pv 3)) (a0s _)) (a44 (a0v o_gt (a0c (pv 4)) (q_op a33 a0h a0h) (a0s _)))))
  (a0n (z_set (i:=4) sc_by_digits.nd rfl (Or.inl rfl) a2o))
  a08)
  (a0k (z_if (a0v (o_eq hu) (q_op a09 (q_op a45 (a0c (pv 0)) a0h) a0h) a0h (a0s _))
  (a0n (a0D (a13 (a0b a3z (a0b (q_ix x_ix (a0c (pv 1)) (q_op a09 (a0c (pv 0)) a0h) (fun _ _=>rfl)) (a0b (a0c (pv 3)) (a0b (a0c (pv 4)) a0i a0a) a0a) a0l) a0e))))
  a08)
  (a0n (a0D (a13 (a0b a3z (a0b (q_ix x_ix (a0c (pv 1)) (q_op a09 (a0c (pv 0)) a0h) (fun _ _=>rfl)) (a0b (q_ix x_ix (a0c (pv 2)) (q_op a09 (q_op a45 (a0c (pv 0)) a0h) a0h) (fun _ _=>rfl)) (a0b (a0c (pv 3)) (a0b (a0c (pv 4)) a0i a0a) a0a) a0l) a0l) a0e))))))))),?_⟩
 obtain⟨c,ks,wsA,kn,wn,rfl,gk,gw,lk,lw,hk,hw,q⟩:=h;walk_at "go";refine i_I ⟨by decide,by decide⟩ ?_;walk_at "go";refine i_I ⟨by decide,by decide,by decide⟩ ?_;rw[a4l];walk_at "go";refine i_I (show (0:Int)<1000000000000+1 by decide) ?_;walk_at "go";have b0:=Int.emod_nonneg (c / 384) (show (1000000000000+1:Int)≠0 by decide);have b1:=Int.emod_lt_of_pos (c / 384) (show (0:Int)<1000000000000+1 by decide);generalize c / 384 % (1000000000000+1)=b at b0 b1 ⊢;refine i_I ⟨by decide,by decide⟩ ?_;walk_at "go";refine i_I (show (0:Int)<8 by decide) ?_;walk_at "go";have e0:0≤c / 48 % 8/\c / 48 % 8<8:=by omega
 generalize c / 48 % 8=d at e0 ⊢;refine a61 (fun σ' G'=>∃ e:Int,b≤e/\G'=G/\σ'=[some (.int c),some (.ref ks),some (.ref wsA),some (.int b),some (.int e)]) ?_ ?_
 ·walk_at "go";refine ifD (fun _=>?_) fun _=>?_
  ·walk_at "go";refine i_I ⟨by decide,by decide,by decide⟩ ?_;rw[a4l];walk_at "go";refine ifD (fun hlt=>?_) fun _=>?_
   ·walk_at "go";refine i_I ⟨by decide,by decide⟩ ?_;walk_at "go";refine i_I ⟨by decide,by decide,by decide⟩ ?_;rw[a4l];walk_at "go";refine i_I ⟨by decide,by decide⟩ ?_;walk_at "go";refine i_I ⟨by decide,by decide,by decide⟩ ?_;rw[a4l];walk_at "go";refine i_I (show (0:Int)<1000000000000 - b by omega) ?_;walk_at "go";have m0:=Int.emod_nonneg (c / 384 / (1000000000000+1)) (show (1000000000000 - b:Int)≠0 by omega);exact⟨_,by omega,rfl,rfl⟩
   ·walk_at "go";exact⟨_,by omega,rfl,rfl⟩
  ·walk_at "go";exact⟨_,by omega,rfl,rfl⟩
 ·rintro σ' G' ⟨e,he,rfl,rfl⟩;walk_at "go";refine a61 (fun σ' G''=>∃ e:Option Int,stOk b e/\G''=G'/\σ'=[some (.int c),some (.ref ks),some (.ref wsA),some (.int b),some (oz e)]) ?_ ?_
  ·walk_at "go";refine ifD (fun _=>?_) fun hne=>?_
   ·walk_at "go";exact⟨none,⟨b0,by unfold T12;omega,fun x hx=>nomatch hx⟩,rfl,rfl⟩
   ·walk_at "go";refine i_I ⟨by decide,by decide,by decide⟩ ?_;rw[a4l];walk_at "go";refine ifD (fun _=>?_) fun hle=>?_
    ·walk_at "go";exact⟨none,⟨b0,by unfold T12;omega,fun x hx=>nomatch hx⟩,rfl,rfl⟩
    ·walk_at "go";exact⟨some e,⟨b0,by unfold T12;omega,fun x hx=>by cases hx;unfold T12;omega⟩,rfl,rfl⟩
  ·rintro σ' G'' ⟨e,hst,rfl,rfl⟩;obtain⟨kk,ekk,mkk,hkk⟩:=a9c hk (Int.emod_nonneg c (show (4:Int)≠0 by decide)) (by have:=Int.emod_lt_of_pos c (show (0:Int)<4 by decide);omega);obtain⟨ww,eww,_,hww⟩:=a9c hw (Int.emod_nonneg (c / 16) (show (3:Int)≠0 by decide)) (by have:=Int.emod_lt_of_pos (c / 16) (show (0:Int)<3 by decide);omega);walk_at "go";refine i_I ⟨by decide,by decide⟩ ?_;walk_at "go";refine i_I (show (0:Int)<4 by decide) ?_;walk_at "go";refine ifD (fun _=>?_) fun _=>?_
   ·walk_at "go";refine i_I (show (0:Int)<4 by decide) ?_;walk_at "go";refine a1n gk ekk ?_;walk_at "go";refine⟨lenK rfl,?_⟩;exact q ⟨kk,none,b,e⟩ ⟨hkk,(fun s h=>nomatch h),hst⟩ mkk
   ·walk_at "go";refine i_I (show (0:Int)<4 by decide) ?_;walk_at "go";refine a1n gk ekk ?_;walk_at "go";refine i_I ⟨by decide,by decide⟩ ?_;walk_at "go";refine i_I (show (0:Int)<3 by decide) ?_;walk_at "go";refine a1n gw eww ?_;walk_at "go";refine⟨lenK rfl,?_⟩;exact q ⟨kk,some ww,b,e⟩ ⟨hkk,(fun s h=>by cases h;exact hww),hst⟩ mkk
def a57:P3:=fun ws G R=>Ex5 fun (c:Int) (ks wsA:Addr) (kn wn:List Str)=>ws=[.int c,.ref ks,.ref wsA]/\G ks=some (.lst (kn.map Z.str))/\G wsA=some (.lst (wn.map Z.str))/\kn.length=4/\wn.length=4/\(∀ s∈kn,nmOk s)/\(∀ s∈wn,nmOk s) /\
 ∀ τ G',Sm G G'->Tl.Ok τ->τ.key∈kn->R τ.z G'
theorem a8j {ws:List Z}{G:Hq}{R:K3}(h:a57 ws G R):ws.length=3:=by obtain⟨_,_,_,_,_,rfl,_⟩:=h;rfl
theorem a9Z (F:Fns K a) (T:Txt K mg a):FnOk P w K mg base CX0 3 a.f30 a.d30 ["cell","keys","worths"] (lowP K a57):=by
 have G_stretch:=a9Y (P:=P) (w:=w) (base:=base) F T;have G_by_digits:=a7F (P:=P) (w:=w) (base:=base) F T;have G_tumbled:=a22 (P:=P) (w:=w) (base:=base) F T;refine fn3 F.n30 sc_telling (fun ws G R h=>(by exact a8j h)) (fun cdv A outer s H E ws G R hr h=>?_);have hu:=a0P hr;refine⟨_,(a0k (z_if (a0v (o_eq hu) (q_op a09 (a0c (pv 0)) a0h) a0h (a0s _))
  (a0n (a0D (a0u G_by_digits (hr.mono (by decide)) rfl T.m29 F.n29.kp (a7q F) (a0b (q_op a45 (a0c (pv 0)) a0h) (a0b (a0c (pv 1)) (a0b (a0c (pv 2)) a0i a0a) a0a) a0N) (he:=a0N) (hpl:=(a0g a0a (a0g a0a a0j))))))
  a08)
  (a0k (z_set (i:=3) sc_telling.nd rfl (Or.inl rfl) (q_ix x_ix (a0c (pv 1)) (q_op a09 (a0u G_tumbled (hr.mono (by decide)) rfl T.m26 F.n26.kp (a0x F) (a0b (a0c (pv 0)) (a0b a0h a0i a0e) a0a) (he:=a0a) (hpl:=(a0g a0e a0j))) a0h) (fun _ _=>rfl)))
  (a0k (b6D (pt:=(.tp [4,5])) (a0u G_stretch (hr.mono (by decide)) rfl T.m28 F.n28.kp (a9R F) (a0b (a0c (pv 0)) a0i a0a) (he:=a0a) (hpl:=a0j)) (show QP _ _ (.tp [4,5]) from (a3x rfl (a0z (a0o (i:=4) sc_telling.nd rfl (Or.inl rfl)) (a0z (a0o (i:=5) sc_telling.nd rfl (Or.inl rfl)) a2k)))))
  (a0k (z_if (a0v (o_eq hu) (q_op a09 (a0u G_tumbled (hr.mono (by decide)) rfl T.m26 F.n26.kp (a0x F) (a0b (a0c (pv 0)) (a0b a0h a0i a0e) a0a) (he:=a0a) (hpl:=(a0g a0e a0j))) a0h) a0h (a0s _))
  (a0n (a0D (a13 (a0b a3z (a0b (a0c (pv 3)) (a0b (a0c (pv 4)) (a0b (a0c (pv 5)) a0i a0a) a0a) a0a) a0e))))
  a08)
  (a0n (a0D (a13 (a0b a3z (a0b (a0c (pv 3)) (a0b (q_ix x_ix (a0c (pv 2)) (q_op a09 (a0u G_tumbled (hr.mono (by decide)) rfl T.m26 F.n26.kp (a0x F) (a0b (a0c (pv 0)) (a0b a0h a0i a0e) a0a) (he:=a0a) (hpl:=(a0g a0e a0j))) a0h) (fun _ _=>rfl)) (a0b (a0c (pv 4)) (a0b (a0c (pv 5)) a0i a0a) a0a) a0l) a0a) a0e)))))))),?_⟩
 obtain⟨c,ks,wsA,kn,wn,rfl,gk,gw,lk,lw,hk,hw,q⟩:=h;walk_at "go";refine i_I (show (0:Int)<2 by decide) ?_;walk_at "go";refine ifD (fun _=>?_) fun _=>?_
 ·walk_at "go";refine i_I ⟨by decide,by decide⟩ ?_;walk_at "go";exact⟨_,ks,wsA,kn,wn,rfl,gk,gw,lk,lw,hk,hw,fun τ ok mk=>q τ G (Sm.refl _) ok mk⟩
 ·walk_at "go";refine⟨c,24,rfl,by decide,by decide,fun r r0 r1=>?_⟩;walk_at "go";refine i_I (show (0:Int)<4 by decide) ?_;obtain⟨kk,ekk,mkk,hkk⟩:=a9c hk (Int.emod_nonneg r (show (4:Int)≠0 by decide)) (by have:=Int.emod_lt_of_pos r (show (0:Int)<4 by decide);omega);walk_at "go";refine a1n gk ekk ?_;walk_at "go";refine⟨c,rfl,fun b e G1 s1 hst=>?_⟩;walk_at "go";refine⟨c,25,rfl,by decide,by decide,fun r2 r20 r21=>?_⟩;walk_at "go";refine i_I (show (0:Int)<4 by decide) ?_;walk_at "go";refine ifD (fun _=>?_) fun _=>?_
  ·walk_at "go";refine⟨lenK rfl,?_⟩;exact q ⟨kk,none,b,e⟩ _ s1 ⟨hkk,(fun s h=>nomatch h),hst⟩ mkk
  ·walk_at "go";refine⟨c,26,rfl,by decide,by decide,fun r3 r30 r31=>?_⟩;walk_at "go";refine i_I (show (0:Int)<3 by decide) ?_;obtain⟨ww,eww,_,hww⟩:=a9c hw (Int.emod_nonneg r3 (show (3:Int)≠0 by decide)) (by have:=Int.emod_lt_of_pos r3 (show (0:Int)<3 by decide);omega);walk_at "go";refine a1n (s1 _ _ gw) eww ?_;walk_at "go";refine⟨lenK rfl,?_⟩;exact q ⟨kk,some ww,b,e⟩ _ s1 ⟨hkk,(fun s h=>by cases h;exact hww),hst⟩ mkk
local macro_rules | `(tactic| walk_at "go1")=>`(tactic| with_reducible (first | refine i_tryN ?_ | refine b7E ?_ | refine i_iD ?_))
theorem ShV.frz {C:Addr}{G:Hq}{p:Addr}{S:Addr->Prop}{T:List Tl}{n:Int}{dx d:Addr}{kvs:List (Key×Z)}(H:ShV C G p S T n dx d kvs):ShV C (put G d (.dF kvs)) p S T n dx d kvs:=by
 have k:∀ b o,b≠d->G b=some o->put G d (.dF kvs) b=some o:=fun b o nb e=>by rw[a0I nb];exact e
 have nl:∀ b ws,G b=some (.lst ws)->b≠d:=fun b ws e z=>by
  rw[z]at e;rcases H.dc with c | c<;>(rw[c]at e;cases e)
 refine⟨k _ _ (fun z=>?_) H.ob,H.sp,H.sd,.inr a0d,H.len,H.no,fun kk z e=>?_,fun b hb=>?_,H.nd,H.sk⟩
 ·have e:=H.ob;rw[z]at e;rcases H.dc with c | c<;>(rw[c]at e;cases e)
 ·obtain⟨h,es,ez,hh⟩:=H.hs kk z e;refine⟨h,es,ez,hh.s,k _ _ (nl _ _ hh.at_) hh.at_,hh.ix,hh.ne,fun e he=>?_⟩;obtain⟨s1,L,g1,i1⟩:=hh.ln e he;exact⟨s1,L,k _ _ (nl _ _ g1) g1,i1⟩
 ·by_cases c:b=d
  ·rw[c];exact⟨_,a0d⟩
  ·obtain⟨o,e⟩:=H.al b hb;exact⟨o,k b o c e⟩
theorem b5n {x:Z}(h:a1P x=true):∃ s,x=.str s/\nmOk s:=by
 cases x<;>first | (simp[a1P]at h;done) | skip
 rename_i s
 refine⟨s,rfl,?_⟩;rw[a3Q,Bool.and_eq_true,Bool.and_eq_true,decide_eq_true_eq,decide_eq_true_eq,List.all_eq_true,a25]at h;refine⟨h.1.1,h.1.2,fun c hc=>?_⟩
 have:=h.2 c hc
 unfold okC at this;rw[Bool.and_eq_true,decide_eq_true_eq,decide_eq_true_eq]at this;exact this
def inR (T:List Tl) (q:Int):Prop:=0≤q/\q≤T.length
def a2I (a:Ad):PX3:=fun ws G R EE=>Ex5 fun (p:Addr) (S:Addr->Prop) (T:List Tl) (x:Z) (q:Int)=>ws=[.ref p,x,.int q]/\SheetV a.c_Sheet G p S T/\(∀ G'',Th G'' x)/\T.length≤200 /\
 ((inR T q/\∃ k,x=.str k/\nmOk k/\∀ t L G',G t=none->Sm G G'->G' t=some (.lst (L.map Rw.z))->IsLine (T.take q.toNat) k L->R (.ref t) G')\/(¬ inR T q/\∀ G',Sm G G'->EE a.x_NoKnowing G')\/(inR T q/\a1P x=false/\∀ G',Sm G G'->EE a.x_NoName G'))
theorem a4m {a:Ad}{ws:List Z}{G:Hq}{R:K3}{EE:Addr->Hq->Prop}(h:a2I a ws G R EE):ws.length=3:=by obtain⟨_,_,_,_,_,rfl,_⟩:=h;rfl
theorem a4L (F:Fns K a) (T:Txt K mg a):FnOk P w K mg base (CXx P w) 3 a.f20 a.d20 ["self","key","knowing"] (a3m K (a2I a)):=by
 have G_Sheet_check_knowing:=a0X (P:=P) (w:=w) (base:=base) F T;have G_p_check_name:=a06 (P:=P) (w:=w) (base:=base) F T;have G_Sheet_known_line:=a0T (P:=P) (w:=w) (base:=base) F T;refine fn3x F.n20 a4D (fun ws G R EE h=>(by exact a4m h)) (fun cdv A outer s H E ws G R EE hr h ux=>?_);have hu:=a0P hr;refine⟨_,(a0k (a0Q (a3n (a0Y Outs.of) ux.since (a0c (pv 0)) T.cl_Sheet T.mt15 G_Sheet_check_knowing (hr.mono (by decide)) (a0V F) (a0b (a0c (pv 2)) a0i a0a) (hst:=a0a) (hpl:=a0j)))
  (a0k (a0Q (a1a (a0Y Outs.of) ux.since G_p_check_name (hr.mono (by decide)) rfl T.m4 F.n4.kp (a05 F) (a0b (a0c (pv 1)) a0i a0a) (he:=a0a) (hpl:=a0j)))
  (a0n (a0D (a5W (a0c (pv 0)) T.cl_Sheet T.mt16 G_Sheet_known_line (hr.mono (by decide)) (a0S F) (a0b (a0c (pv 1)) (a0b (a0c (pv 2)) a0i a0a) a0a) (hst:=a0a) (hpl:=(a0g a0a a0j))))))),?_⟩
 obtain⟨p,S,T',x,q,rfl,sh,hx,hT,h⟩:=h;have sh':=sh;obtain⟨dx,d,kvs,sm⟩:=sh';walk_at "go";refine⟨p,dx,_,rfl,sm.ob,a4i (by decide +kernel) (by decide +kernel),?_⟩;walk_at "go";refine⟨p,S,T',q,rfl,sh,?_⟩;rcases h with ⟨hq,k,rfl,hk,fin⟩ | ⟨hq,e⟩ | ⟨hq,hn,e⟩
 ·have hq':0≤q/\q≤T'.length:=hq;rw[if_pos hq'];walk_at "go";refine⟨_,rfl,hx _,fun G1 s1=>?_⟩;rw[nm_b hk];refine ifT ?_;have sm1:=sm.keep (Sm.ks s1);walk_at "go";refine⟨p,dx,_,rfl,sm1.ob,a4i (by decide +kernel) (by decide +kernel),?_⟩;walk_at "go";exact⟨p,S,T',k,q,_,dx,d,kvs,rfl,sm1,hq.1,hq.2,hT,fun t L G2 ht s2 gt il=>fin t L G2 (s1.free ht) (s1.trans s2) gt il⟩
 ·rw[if_neg (show ¬ (0≤q/\q≤T'.length) from hq)];exact e G (Sm.refl _)
 ·rw[if_pos (show 0≤q/\q≤T'.length from hq)];walk_at "go";refine⟨_,rfl,hx _,fun G1 s1=>?_⟩;rw[hn];exact ifF (e G1 s1)
def a2g (a:Ad):PX3:=fun ws G R EE=>∃ x,ws=[x]/\Th G x/\∀ G',Sm G G'->if momB x=true then R .non G' else EE a.x_NoStretch G'
theorem a3W {a:Ad}{ws:List Z}{G:Hq}{R:K3}{EE:Addr->Hq->Prop}(h:a2g a ws G R EE):ws.length=1:=by obtain⟨_,rfl,_⟩:=h;rfl
theorem a2h (F:Fns K a) (T:Txt K mg a):FnOk P w K mg base (CXx P w) 2 a.f5 a.d5 ["thing"] (a3m K (a2g a)):=by
 have G_p_is_moment:=a3c (P:=P) (w:=w) (base:=base) F T;refine fn3x F.n5 a37 (fun ws G R EE h=>(by exact a3W h)) (fun cdv A outer s H E ws G R EE hr h ux=>?_);have hu:=a0P hr;refine⟨_,(a0n (z_if (a2D (a23 (a0u G_p_is_moment (hr.mono (by decide)) rfl T.m1 F.n1.kp (a18 F) (a0b (a0c (pv 0)) a0i a0a) (he:=a0a) (hpl:=a0j))))
  (a0n (a6q Outs.of ux rfl rfl T.x_NoStretch T.xi_NoStretch a3z a0e a0j))
  a08)),?_⟩
 obtain⟨x,rfl,hx,q⟩:=h;walk_at "go";refine⟨_,rfl,hx,fun G' s1=>?_⟩;have q':=q G' s1;walk_at "go";refine ifNB (fun c=>?_) fun c=>?_
 ·rw[c]at q';walk_at "go";exact q'
 ·rw[c]at q';walk_at "go";exact q'
def a2i (a:Ad):P3:=fun ws G R=>Ex6 fun (p:Addr) (S:Addr->Prop) (T:List Tl) (k:Str) (m q:Int)=>ws=[.ref p,.str k,.int m,.int q]/\SheetV a.c_Sheet G p S T/\nmOk k/\momB (.int m)=true/\inR T q/\T.length≤200 /\
 ∀ G',Sm G G'->R (a0R (a0U (T.take q.toNat) k) m) G'
theorem a3X {a:Ad}{ws:List Z}{G:Hq}{R:K3}(h:a2i a ws G R):ws.length=4:=by obtain⟨_,_,_,_,_,_,rfl,_⟩:=h;rfl
theorem a4n (F:Fns K a) (T:Txt K mg a):FnOk P w K mg base CX0 4 a.f18 a.d18 ["self","key","moment","knowing"] (lowP K (a2i a)):=by
 have G_Sheet_check_knowing:=a0X (P:=P) (w:=w) (base:=base) F T;have G_p_check_name:=a06 (P:=P) (w:=w) (base:=base) F T;have G_p_check_moment:=a2h (P:=P) (w:=w) (base:=base) F T;have G_p_worth_in:=a6F (P:=P) (w:=w) (base:=base) F T;have G_Sheet_known_line:=a0T (P:=P) (w:=w) (base:=base) F T;refine fn3 F.n18 a38 (fun ws G R h=>(by exact a3X h)) (fun cdv A outer s H E ws G R hr h=>?_);have hu:=a0P hr;refine⟨_,(a0k (a0Q (a3n a1g up0 (a0c (pv 0)) T.cl_Sheet T.mt15 G_Sheet_check_knowing (hr.mono (by decide)) (a0V F) (a0b (a0c (pv 3)) a0i a0a) (hst:=a0a) (hpl:=a0j)))
  (a0k (a0Q (a1a a1g up0 G_p_check_name (hr.mono (by decide)) rfl T.m4 F.n4.kp (a05 F) (a0b (a0c (pv 1)) a0i a0a) (he:=a0a) (hpl:=a0j)))
  (a0k (a0Q (a1a a1g up0 G_p_check_moment (hr.mono (by decide)) rfl T.m5 F.n5.kp (a2d F) (a0b (a0c (pv 2)) a0i a0a) (he:=a0a) (hpl:=a0j)))
  (a0n (a0D (a0u G_p_worth_in (hr.mono (by decide)) rfl T.m10 F.n10.kp (a6v F) (a0b (a5W (a0c (pv 0)) T.cl_Sheet T.mt16 G_Sheet_known_line (hr.mono (by decide)) (a0S F) (a0b (a0c (pv 1)) (a0b (a0c (pv 3)) a0i a0a) a0a) (hst:=a0a) (hpl:=(a0g a0a a0j))) (a0b (a0c (pv 2)) a0i a0a) a0E) (he:=a0E) (hpl:=(a0g a0a a0j)))))))),?_⟩
 obtain⟨p,S,T',k,m,q,rfl,sh,hk,hm,hq,hT,fin⟩:=h;have sh':=sh;obtain⟨dx,d,kvs,sm⟩:=sh';walk_at "go";refine⟨p,dx,_,rfl,sm.ob,a4i (by decide +kernel) (by decide +kernel),?_⟩;walk_at "go";refine⟨p,S,T',q,rfl,sh,?_⟩;rw[if_pos (show 0≤q/\q≤T'.length from hq)];walk_at "go";refine⟨_,rfl,a4I hk,fun G1 s1=>?_⟩;rw[nm_b hk];refine ifT ?_;walk_at "go";refine⟨_,rfl,True.intro,fun G2 s2=>?_⟩;rw[hm];refine ifT ?_;have s12:=s1.trans s2;have sm2:=sm.keep (Sm.ks s12);walk_at "go";refine⟨p,dx,_,rfl,sm2.ob,a4i (by decide +kernel) (by decide +kernel),?_⟩;walk_at "go";refine⟨p,S,T',k,q,_,dx,d,kvs,rfl,sm2,hq.1,hq.2,hT,fun t L G3 ht s3 gt il=>?_⟩;walk_at "go";have hl:=il.len;rw[List.length_take]at hl;refine⟨t,L,m,rfl,gt,il.can.rise,il.pl.okR,by omega,fun G4 s4=>?_⟩;rw[il.v,b5e];exact fin G4 ((s12.trans s3).trans s4)
def NE (T:List Tl) (k:Str):Prop:=∃ L,IsLine T k L/\L≠[]
structure KeysAt (T:List Tl) (ts:List Str):Prop where
 so:PyProof.Rows.sortedS ts=true
 nd:ts.Nodup
 is:∀ s,s∈ts↔NE T s
theorem IsLine.uniq {T:List Tl}{k:Str}{L M:List Rw}(h:IsLine T k L) (g:IsLine T k M):L=M:=b1w h.can g.can fun t=>by rw[h.v,g.v]
theorem a8k {T:List Tl}{k:Str}(h:ix T k=[]) (q:Nat):a0U (T.take q) k=[]:=a7C fun i hi=>by rw[h]at hi;simp at hi
def Few (T:List Tl):Prop:=T.length≤200/\∃ kn:List Str,kn.length≤63/\∀ τ∈T,τ.key∈kn
theorem b3X:∀ {xs ys:List Str},xs.Nodup->(∀ x∈xs,x∈ys)->xs.length≤ys.length
 | [],_,_,_=>Nat.zero_le _
 | x::xs,ys,h,m=>by
  rw[List.nodup_cons]at h;have hx:=m x (.head _)
  have:=b3X (xs:=xs) (ys:=ys.erase x) h.2 fun y hy=>(List.mem_erase_of_ne (fun z=>h.1 (by rw[<- z];exact hy))).mpr (m y (.tail _ hy))
  rw[List.length_erase_of_mem hx]at this
  have:=List.length_pos_of_mem hx
  rw[List.length_cons];omega
theorem b3Y:∀ {T:List Tl}{k:Str}{n:Nat},ixF k n T≠[]->∃ τ∈T,τ.key=k
 | [],_,_,h=>absurd rfl h
 | τ::T,k,n,h=>by
  by_cases c:τ.key=k
  ·exact⟨τ,.head _,c⟩
  ·unfold ixF at h;rw[if_neg c,List.nil_append]at h;obtain⟨σ,h1,h2⟩:=b3Y h;exact⟨σ,.tail _ h1,h2⟩
theorem b72 {kvs:List (Key×Z)}{ks:List Str}(h:kvs.map (·.1)=ks.map Sum.inr) {s:Str}(m:s∈ks):∃ z,valZ kvs (.inr s)=some z:=by
 unfold valZ;cases e2:kvs.find? fun kv=>decide (kv.1=Sum.inr s) with
 | some q=>exact⟨_,rfl⟩
 | none=>
  have h1:(Sum.inr s:Key)∈kvs.map (·.1):=by rw[h];exact List.mem_map_of_mem m
  obtain⟨q,hq,eq⟩:=List.mem_map.mp h1
  have:=List.find?_eq_none.mp e2 q hq
  simp[eq]at this
def a2J (a:Ad):PX3:=fun ws G R EE=>Ex4 fun (p:Addr) (S:Addr->Prop) (T:List Tl) (q:Int)=>ws=[.ref p,.int q]/\SheetV a.c_Sheet G p S T/\Few T /\
 ((inR T q/\∀ t ts G',G t=none->KN S G G'->SheetV a.c_Sheet G' p S T->G' t=some (.lst (ts.map Z.str))->KeysAt (T.take q.toNat) ts->ts.length≤63->R (.ref t) G')\/(¬ inR T q/\∀ G',Sm G G'->EE a.x_NoKnowing G'))
theorem a4o {a:Ad}{ws:List Z}{G:Hq}{R:K3}{EE:Addr->Hq->Prop}(h:a2J a ws G R EE):ws.length=2:=by obtain⟨_,_,_,_,rfl,_⟩:=h;rfl
theorem a7G:∀ {kvs:List (Key×Z)},(∀ q∈kvs,∃ s,q.1=Sum.inr s)->∃ ks:List Str,kvs.map (·.1)=ks.map Sum.inr/\(kvs.map fun q=>keyW q.1)=ks.map Z.str
 | [],_=>⟨[],rfl,rfl⟩
 | q::kvs,h=>by
  obtain⟨s,hs⟩:=h q (.head _);obtain⟨ks,h1,h2⟩:=a7G (kvs:=kvs) fun q hq=>h q (.tail _ hq);exact⟨s::ks,by rw[List.map_cons,List.map_cons,h1,hs],by rw[List.map_cons,List.map_cons,h2,hs];rfl⟩
theorem b5o {kvs:List (Key×Z)}{ks:List Str}{s:Str}{z:Z}(h:kvs.map (·.1)=ks.map Sum.inr) (e:valZ kvs (.inr s)=some z):s∈ks:=by
 unfold valZ at e;cases e2:kvs.find? fun kv=>decide (kv.1=Sum.inr s) with
 | none=>rw[e2]at e;cases e
 | some q=>
  have h1:=List.mem_of_find?_eq_some e2;have h2:q.1=Sum.inr s:=by have:=List.find?_some e2;simpa using this
  have:(Sum.inr s:Key)∈ks.map Sum.inr:=by rw[<- h,<- h2];exact List.mem_map_of_mem (f:=(·.1)) h1
  obtain⟨x,hx,ex⟩:=List.mem_map.mp this;cases ex;exact hx
theorem a2K (F:Fns K a) (T:Txt K mg a):FnOk P w K mg base (CXx P w) 3 a.f17 a.d17 ["self","knowing"] (a3m K (a2J a)):=by
 have G_Sheet_check_knowing:=a0X (P:=P) (w:=w) (base:=base) F T;have G_Sheet_known_line:=a0T (P:=P) (w:=w) (base:=base) F T;refine fn3x F.n17 a4C (fun ws G R EE h=>(by exact a4o h)) (fun cdv A outer s H E ws G R EE hr h ux=>?_);have hu:=a0P hr;refine⟨_,(a0k (a0Q (a3n (a0Y Outs.of) ux.since (a0c (pv 0)) T.cl_Sheet T.mt15 G_Sheet_check_knowing (hr.mono (by decide)) (a0V F) (a0b (a0c (pv 1)) a0i a0a) (hst:=a0a) (hpl:=a0j)))
  (a0n (a0D (a0G a5d rfl T.b_sorted rfl (a0b (q_lc (N₀:=["self","knowing"]) (so:=a0f a1i) (N':=["key","knowing","self"]) (cap:=[none,some 1,some 0]) (pt:=(.nm 0)) rfl rfl rfl (by decide +kernel) rfl (b42 (a77 T.cl_Sheet T.na_kept (a0c (pv 0)))) (fun _ _ _ _=>(show QP _ _ (.nm 0) from (a0o (i:=0) b9o rfl (Or.inl rfl)))) (fun _ _ _ _=>(a3i (b6w (a5W (a0c (pv 2)) T.cl_Sheet T.mt16 G_Sheet_known_line (hr.mono (by decide)) (a0S F) (a0b (a0c (pv 0)) (a0b (a0c (pv 1)) a0i a0a) a0a) (hst:=a0a) (hpl:=(a0g a0a a0j))) (fun _=>rfl)))) (fun _ _ _ _=>(a0c (pv 0)))) a0i a1m) (he:=a1m) (hpl:=a0j))))),?_⟩
 obtain⟨p,S,T',q,rfl,sh,hT,h⟩:=h;have sh':=sh;obtain⟨dx,d,kvs,sm⟩:=sh';walk_at "go";refine⟨p,dx,_,rfl,sm.ob,a4i (by decide +kernel) (by decide +kernel),?_⟩;walk_at "go";refine⟨p,S,T',q,rfl,sh,?_⟩;rcases h with ⟨hq,fin⟩ | ⟨hq,e⟩
 rotate_left
 ·rw[if_neg (show ¬ (0≤q/\q≤T'.length) from hq)];exact e G (Sm.refl _)
 rw[if_pos (show 0≤q/\q≤T'.length from hq)];walk_at "go";refine⟨p,dx,_,_,rfl,sm.ob,a8g,?_⟩;walk_at "go";refine b9m sm.dc ?_;have smF:=sm.frz;obtain⟨ks,hk1,hk2⟩:=a7G sm.sk;have hnd:ks.Nodup:=by
  have:=sm.nd
  rw[hk1]at this;exact (List.pairwise_map.mp this).imp fun h z=>h (by rw[z])
 obtain⟨hT2,kn,kn1,kn2⟩:=hT;have hkl:ks.length≤63:=Nat.le_trans (b3X hnd fun s hs=>by
  obtain⟨z,ez⟩:=b72 hk1 hs;obtain⟨h,es,_,hh⟩:=sm.hs s z ez;obtain⟨τ,t1,t2⟩:=b3Y (T:=T') (k:=s) (n:=0) (fun z=>hh.ne (by
   have:=hh.ix
   rw[show ix T' s=[] from z]at this;exact List.map_eq_nil_iff.mp this))
  rw[<- t2];exact kn2 τ t1) kn1
 rw[hk2];intro D hD;refine a6j (fun i ys G'=>∃ ts:List Str,ys=ts.map Z.str/\ts.Nodup/\(∀ s,s∈ts↔s∈ks.take i/\NE (T'.take q.toNat) s)/\ts.length≤i/\Sm (put G d (.dF kvs)) G'/\G' D=some (.lst ys)) ⟨[],rfl,.nil,fun s=>by simp,Nat.le_refl _,Sm.new hD,a0d⟩ (fun _ _ _ _ _=>True.intro) ?_ ?_
 ·rintro i x ys G' hx ⟨ts,rfl,hn,hm,hl,s,gD⟩;rw[List.getElem?_map]at hx;cases hx':ks[i]? with
  | none=>rw[hx']at hx;cases hx
  | some k=>
  rw[hx']at hx;cases hx;have hi:=(List.getElem?_eq_some_iff.mp hx').1;have ht1:ks.take (i+1)=ks.take i++[k]:=by rw[List.take_add_one,hx'];rfl
  have nk:k∉ks.take i:=fun z=>by
   have h1:(ks.take (i+1)).Nodup:=hnd.sublist (List.take_sublist _ _);rw[ht1,List.nodup_append]at h1;exact h1.2.2 k z k (by simp) rfl
  have smA:=smF.keep (Sm.ks s);refine⟨_,rfl,?_⟩;walk_at "go";refine⟨p,dx,_,rfl,smA.ob,a4i (by decide +kernel) (by decide +kernel),?_⟩;walk_at "go";refine⟨p,S,T',k,q,_,dx,d,kvs,rfl,smA,hq.1,hq.2,by omega,fun t L G2 ht s2 gt il=>?_⟩;refine b3I gt ?_;cases hL:L with
  | nil=>
   walk_at "go";refine⟨ts,rfl,hn,fun y=>?_,by omega,s.trans s2,s2 _ _ gD⟩;rw[hm,ht1,List.mem_append,List.mem_singleton]
   constructor
   ·exact fun ⟨a1,a2⟩=>⟨.inl a1,a2⟩
   ·rintro⟨a1 | rfl,a2⟩
    ·exact⟨a1,a2⟩
    ·obtain⟨M,m1,m2⟩:=a2;exact absurd (m1.uniq il) (by rw[hL];exact m2)
  | cons r L'=>
   walk_at "go";refine⟨_,rfl,s2 _ _ gD,by rw[List.length_map];exact a0t (by omega),ts++[k],by rw[List.map_append];rfl,?_,fun y=>?_,by rw[List.length_append];simp;omega,(s.trans s2).put hD,a0d⟩
   ·rw[List.nodup_append];exact⟨hn,by simp,fun a1 h1 b1 h2 z=>nk (by rw[<- List.mem_singleton.mp h2,<- z];exact ((hm a1).mp h1).1)⟩
   ·rw[List.mem_append,hm,ht1,List.mem_append,List.mem_singleton]
    constructor
    ·rintro (⟨a1,a2⟩ | rfl)
     ·exact⟨.inl a1,a2⟩
     ·exact⟨.inr rfl,L,il,by rw[hL];simp⟩
    ·rintro⟨a1 | rfl,a2⟩
     ·exact .inl ⟨a1,a2⟩
     ·exact .inr rfl
 ·rintro ys G' ⟨ts,rfl,hn,hm,hl,s,gD⟩;rw[List.length_map]at hm hl;rw[List.take_length]at hm;walk_at "go";refine a5e gD (by omega) fun t us ht hp hs=>?_;have nS:∀ b,S b->put G d (.dF kvs) b≠none:=fun b hb z=>by
   obtain⟨o,e⟩:=smF.al b hb;rw[z]at e;cases e
  have fr:G t=none:=by
   have h1:=s.free ht
   by_cases c:t=d
   ·rw[c]at h1;exact absurd h1 (nS d sm.sd)
   ·rw[a0I c]at h1;exact h1
  refine fin t us _ fr (fun b o nb e=>?_) ⟨dx,d,kvs,smF.keep (Sm.ks (s.trans (Sm.new ht)))⟩ a0d ⟨hs,hp.nodup_iff.mpr hn,fun y=>?_⟩ (by rw[hp.length_eq];omega)
  ·refine (Sm.new ht) _ _ (s _ _ ?_);rw[a0I (show b≠d from fun z=>nb (by rw[z];exact sm.sd))];exact e
  ·rw[hp.mem_iff,hm]
   constructor
   ·exact fun z=>z.2
   ·intro z;refine⟨?_,z⟩;cases e:valZ kvs (.inr y) with
    | some w=>exact b5o hk1 e
    | none=>
     obtain⟨L,l1,l2⟩:=z;exact absurd (l1.uniq (IsLine.nil (a8k (sm.no y e) _))) l2
def a2C (r:Rw):Z:=.tup [.int r.b,oz r.e]
def a1X (y:Str) (L:List Rw):List Rw:=L.filter fun r=>decide (r.w=[Z.str y])
def a7H (a:Ad):PX3:=fun ws G R EE=>Ex6 fun (p:Addr) (S:Addr->Prop) (T:List Tl) (x y:Z) (q:Int)=>ws=[.ref p,x,y,.int q]/\SheetV a.c_Sheet G p S T/\(∀ G'',Th G'' x)/\(∀ G'',Th G'' y)/\T.length≤200 /\
 ((inR T q/\∃ k w,x=.str k/\nmOk k/\y=.str w/\nmOk w/\∀ t L G',G t=none->Sm G G'->G' t=some (.lst ((a1X w L).map a2C))->IsLine (T.take q.toNat) k L->R (.ref t) G') \/
 (¬ inR T q/\∀ G',Sm G G'->EE a.x_NoKnowing G')\/(inR T q/\(a1P x&&a1P y)=false/\∀ G',Sm G G'->EE a.x_NoName G'))
theorem a90 {a:Ad}{ws:List Z}{G:Hq}{R:K3}{EE:Addr->Hq->Prop}(h:a7H a ws G R EE):ws.length=4:=by obtain⟨_,_,_,_,_,_,rfl,_⟩:=h;rfl
theorem a7I (F:Fns K a) (T:Txt K mg a):FnOk P w K mg base (CXx P w) 4 a.f21 a.d21 ["sheet","key","worth","knowing"] (a3m K (a7H a)):=by
 have G_Sheet_line_at:=a4L (P:=P) (w:=w) (base:=base) F T;have G_p_check_name:=a06 (P:=P) (w:=w) (base:=base) F T;refine fn3x F.n21 sc_p_when (fun ws G R EE h=>(by exact a90 h)) (fun cdv A outer s H E ws G R EE hr h ux=>?_);have hu:=a0P hr;refine⟨_,(a0k (z_set (i:=4) sc_p_when.nd rfl (Or.inl rfl) (a3n (a0Y Outs.of) ux.since (a0c (pv 0)) T.cl_Sheet T.mt20 G_Sheet_line_at (hr.mono (by decide)) (a4F F) (a0b (a0c (pv 1)) (a0b (a0c (pv 3)) a0i a0a) a0a) (hst:=a0a) (hpl:=(a0g a0a a0j))))
  (a0k (a0Q (a1a (a0Y Outs.of) ux.since G_p_check_name (hr.mono (by decide)) rfl T.m4 F.n4.kp (a05 F) (a0b (a0c (pv 2)) a0i a0a) (he:=a0a) (hpl:=a0j)))
  (a0n (a0D (q_lc (N₀:=["sheet","key","worth","knowing","line"]) (so:=a0f a4T) (N':=["begin","end","held","worth"]) (cap:=[none,none,none,some 2]) (pt:=(.tp [0,1,2])) rfl rfl rfl (by decide +kernel) rfl (a0H (a0c (pv 4))) (fun _ _ _ _=>(show QP _ _ (.tp [0,1,2]) from (a3x rfl (a0z (a0o (i:=0) b45 rfl (Or.inl rfl)) (a0z (a0o (i:=1) b45 rfl (Or.inl rfl)) (a0z (a0o (i:=2) b45 rfl (Or.inl rfl)) a2k)))))) (fun _ _ _ _=>(a3i (a0v (o_eq hu) (a0c (pv 2)) (a0c (pv 3)) (a0s _)))) (fun _ _ _ _=>(a13 (a0b (a0c (pv 0)) (a0b (a0c (pv 1)) a0i a0a) a0a)))))))),?_⟩
 obtain⟨p,S,T',x,y,q,rfl,sh,hx,hy,hT,h⟩:=h;have sh':=sh;obtain⟨dx,d,kvs,sm⟩:=sh';walk_at "go";refine⟨p,dx,_,rfl,sm.ob,a4i (by decide +kernel) (by decide +kernel),?_⟩;walk_at "go";refine⟨p,S,T',x,q,rfl,sh,hx,hT,?_⟩;rcases h with ⟨hq,k,w,rfl,hk,rfl,hw,fin⟩ | ⟨hq,e⟩ | ⟨hq,hn,e⟩
 ·refine .inl ⟨hq,k,rfl,hk,fun t L G1 ht s1 gt il=>?_⟩;walk_at "go";refine⟨_,rfl,a4I hw,fun G2 s2=>?_⟩;rw[nm_b hw];refine ifT ?_;walk_at "go";refine a1E (s2 _ _ gt) ?_;intro D hD;have hl:=il.len;rw[List.length_take]at hl;refine a3s (g:=Rw.z) (g':=a2C) (fun r=>if decide (r.w=[Z.str w])=true then some r else none) (fun ys=>a0p (s2 _ _ gt) hD) (by omega) ?_ ?_
  ·rintro r hr ys K1 K2 k1 k2;obtain⟨v,ev,fv⟩:=il.pl r hr;have eb:decide (r.w=[Z.str w])=decide (v=Z.str w):=by rw[ev];simp
   rw[eb]at k1 k2;have er:r.z=.tup [.int r.b,oz r.e,v]:=by unfold Rw.z;rw[ev]
   rw[er];refine⟨_,rfl,?_⟩;walk_at "go";refine b1L (a2e (by decide) fv) (a5u hw) ?_;refine⟨_,rfl,?_⟩;cases c:decide (v=Z.str w) with
   | true=>
    rw[c]at k1;walk_at "go";exact⟨_,rfl,_,rfl,lenK rfl,k1 r rfl⟩
   | false=>
    rw[c]at k2;walk_at "go";exact k2 rfl
  ·have ef:(L.filterMap fun r=>if decide (r.w=[Z.str w])=true then some r else none)=a1X w L:=by
    unfold a1X;rw[<- List.filterMap_eq_filter]
    rfl
   rw[ef];walk_at "go";exact fin D L _ (s1.free (s2.free hD)) ((s1.trans s2).trans (Sm.new hD)) a0d il
 ·exact .inr (.inl ⟨hq,e⟩)
 ·cases c:a1P x with
  | false=>exact .inr (.inr ⟨hq,rfl,e⟩)
  | true=>
   rw[c,Bool.true_and]at hn;obtain⟨k,rfl,hk⟩:=b5n c;refine .inl ⟨hq,k,rfl,hk,fun t L G1 ht s1 gt il=>?_⟩;walk_at "go";refine⟨_,rfl,hy _,fun G2 s2=>?_⟩;rw[hn];exact ifF (e G2 (s1.trans s2))
theorem b1P {T:List Tl}{s:Str}(ok:OkT T) (h:NE T s):nmOk s:=by
 obtain⟨L,l1,l2⟩:=h
 by_cases c:∃ τ∈T,τ.key=s
 ·obtain⟨τ,h1,h2⟩:=c;rw[<- h2];exact (ok τ h1).k
 ·have:a0U T s=[]:=by
   unfold a0U;rw[List.map_eq_nil_iff,List.filter_eq_nil_iff];intro τ hτ;simpa using fun z=>c ⟨τ,hτ,z⟩
  exact absurd (l1.uniq (IsLine.nil this)) l2
def kwZ (v:Str×Z):Z:=.tup [.str v.1,v.2]
def a4p (T:List Tl) (m:Int) (ts:List Str):List (Str×Z):=ts.map fun k=>(k,a0R (a0U T k) m)
def a1O (v:Str×Z):Option (Str×Z):=if decide (v.2=Z.non)=true then none else some v
def a5v (a:Ad):PX3:=fun ws G R EE=>Ex5 fun (p:Addr) (S:Addr->Prop) (T:List Tl) (m q:Int)=>ws=[.ref p,.int m,.int q]/\SheetV a.c_Sheet G p S T/\OkT T/\Few T /\
 ((inR T q/\momB (.int m)=true/\∀ t ts G',G t=none->KN S G G'->SheetV a.c_Sheet G' p S T->KeysAt (T.take q.toNat) ts->G' t=some (.lst (((a4p (T.take q.toNat) m ts).filterMap a1O).map kwZ))->R (.ref t) G') \/
 (¬ inR T q/\∀ G',Sm G G'->EE a.x_NoKnowing G')\/(inR T q/\momB (.int m)=false/\∀ G',KN S G G'->SheetV a.c_Sheet G' p S T->EE a.x_NoStretch G'))
theorem a7J {a:Ad}{ws:List Z}{G:Hq}{R:K3}{EE:Addr->Hq->Prop}(h:a5v a ws G R EE):ws.length=3:=by obtain⟨_,_,_,_,_,rfl,_⟩:=h;rfl
theorem a8l (F:Fns K a) (T:Txt K mg a):FnOk P w K mg base (CXx P w) 5 a.f19 a.d19 ["sheet","moment","knowing"] (a3m K (a5v a)):=by
 have G_Sheet_keys_at:=a2K (P:=P) (w:=w) (base:=base) F T;have G_p_check_moment:=a2h (P:=P) (w:=w) (base:=base) F T;have G_Sheet_worth_at:=a4n (P:=P) (w:=w) (base:=base) F T;refine fn3x F.n19 sc_p_all_at (fun ws G R EE h=>(by exact a7J h)) (fun cdv A outer s H E ws G R EE hr h ux=>?_);have hu:=a0P hr;refine⟨_,(a0k (z_set (i:=3) sc_p_all_at.nd rfl (Or.inl rfl) (a3n (a0Y Outs.of) ux.since (a0c (pv 0)) T.cl_Sheet T.mt17 G_Sheet_keys_at (hr.mono (by decide)) (a2E F) (a0b (a0c (pv 2)) a0i a0a) (hst:=a0a) (hpl:=a0j)))
  (a0k (a0Q (a1a (a0Y Outs.of) ux.since G_p_check_moment (hr.mono (by decide)) rfl T.m5 F.n5.kp (a2d F) (a0b (a0c (pv 1)) a0i a0a) (he:=a0a) (hpl:=a0j)))
  (a0k (a7V (i:=4) sc_p_all_at.nd rfl rfl (N₀:=["sheet","moment","knowing","keys","worths"]) (so:=a0f a2c) (N':=["key","moment","knowing","sheet"]) (cap:=[none,some 1,some 2,some 0]) (pt:=(.nm 0)) rfl rfl rfl (by decide +kernel) rfl (a0H (a0c (pv 3))) (fun _ _ _ _=>(show QP _ _ (.nm 0) from (a0o (i:=0) b9p rfl (Or.inl rfl)))) (fun _ _ _ _=>a14) (fun _ _ _ _=>(a13 (a0b (a0c (pv 0)) (a0b (a5W (a0c (pv 3)) T.cl_Sheet T.mt18 G_Sheet_worth_at (hr.mono (by decide)) (a4a F) (a0b (a0c (pv 0)) (a0b (a0c (pv 1)) (a0b (a0c (pv 2)) a0i a0a) a0a) a0a) (hst:=a0a) (hpl:=(a0g a0a (a0g a0a a0j)))) a0i a0E) a0a))))
  (a0n (a0D (q_lc (N₀:=["sheet","moment","knowing","keys","worths"]) (so:=a0f a2c) (N':=["key","worth"]) (cap:=[none,none]) (pt:=(.tp [0,1])) rfl rfl rfl (by decide +kernel) rfl (a0H (a0c (pv 4))) (fun _ _ _ _=>(show QP _ _ (.tp [0,1]) from (a3x rfl (a0z (a0o (i:=0) b7G rfl (Or.inl rfl)) (a0z (a0o (i:=1) b7G rfl (Or.inl rfl)) a2k))))) (fun _ _ _ _=>(a3i (a0v a34 (a0c (pv 1)) a2o (a0s _)))) (fun _ _ _ _=>(a13 (a0b (a0c (pv 0)) (a0b (a0c (pv 1)) a0i a0a) a0a))))))))),?_⟩
 obtain⟨p,S,T',m,q,rfl,sh,ok,few,h⟩:=h;have sh':=sh;obtain⟨dx,d,kvs,sm⟩:=sh';walk_at "go";refine⟨p,dx,_,rfl,sm.ob,a4i (by decide +kernel) (by decide +kernel),?_⟩;walk_at "go";refine⟨p,S,T',q,rfl,sh,few,?_⟩;rcases h with ⟨hq,hm,fin⟩ | ⟨hq,e⟩ | ⟨hq,hm,e⟩
 ·refine .inl ⟨hq,fun t ts G1 ht kn1 sh1 gt ka hl=>?_⟩;walk_at "go";refine⟨_,rfl,True.intro,fun G2 s2=>?_⟩;rw[hm];refine ifT ?_;walk_at "go";have gt2:=s2 _ _ gt;have sh2:=sh1.keep (Sm.ks s2);refine a1E gt2 ?_;intro D hD;refine a6j (fun i ys G'=>ys=((a4p (T'.take q.toNat) m ts).take i).map kwZ/\Sm G2 G'/\G' D=some (.lst ys)) ⟨by simp,Sm.new hD,a0d⟩ (by rintro i ys G' _ ⟨_,s,_⟩;exact s _ _ gt2) ?_ ?_
  ·rintro i x ys G' hx ⟨rfl,s,gD⟩;rw[List.getElem?_map]at hx;cases hx':ts[i]? with
   | none=>rw[hx']at hx;cases hx
   | some k=>
   rw[hx']at hx;cases hx;have hi:=(List.getElem?_eq_some_iff.mp hx').1;have hk:nmOk k:=b1P (fun τ hτ=>ok τ (List.mem_of_mem_take hτ)) ((ka.is k).mp (List.mem_of_getElem? hx'));have sh3:=sh2.keep (Sm.ks s);have sh4:=sh3;obtain⟨dx3,d3,kvs3,sm3⟩:=sh4;have tk:(a4p (T'.take q.toNat) m ts).take (i+1)=(a4p (T'.take q.toNat) m ts).take i++[(k,a0R (a0U (T'.take q.toNat) k) m)]:=by
    unfold a4p;rw[List.take_add_one,List.getElem?_map,hx'];rfl
   refine⟨_,rfl,?_⟩;walk_at "go";refine⟨p,dx3,_,rfl,sm3.ob,a4i (by decide +kernel) (by decide +kernel),?_⟩;walk_at "go";refine⟨p,S,T',k,m,q,rfl,sh3,hk,hm,hq,few.1,fun G3 s3=>?_⟩;walk_at "go";refine⟨lenK rfl,s3 _ _ gD,by rw[List.length_map,List.length_take];exact a0t (by omega),?_,(s.trans s3).put hD,a0d⟩;rw[tk,List.map_append];rfl
  ·rintro ys G3 ⟨rfl,s,gD⟩;rw[List.length_map,show (a4p (T'.take q.toNat) m ts).take ts.length=a4p (T'.take q.toNat) m ts from List.take_of_length_le (by unfold a4p;rw[List.length_map];exact Nat.le_refl _)]at gD;walk_at "go";refine a1E gD ?_;intro E hE;refine a3s (g:=kwZ) (g':=kwZ) a1O (fun ys=>a0p gD hE) (by unfold a4p;rw[List.length_map];omega) ?_ ?_
   ·rintro⟨k,v⟩ hr ys K1 K2 k1 k2;unfold a1O at k1 k2;refine⟨_,rfl,?_⟩;walk_at "go";cases c:decide (v=Z.non) with
    | true=>
     rw[c]at k2;walk_at "go";exact k2 rfl
    | false=>
     rw[c]at k1;walk_at "go";exact⟨_,rfl,_,rfl,lenK rfl,k1 _ rfl⟩
   ·walk_at "go";have s13:=(s2.trans s).trans (Sm.new (o:=.lst (((a4p (T'.take q.toNat) m ts).filterMap a1O).map kwZ)) hE);have fr1:=s2.free (s.free hE);have fr:G E=none:=by
     cases e:G E with
     | none=>rfl
     | some o=>
      by_cases c:S E
      ·obtain⟨o',e'⟩:=(let ⟨_,_,_,z⟩:=sh1;z.al E c);rw[fr1]at e';cases e'
      ·have:=kn1 E o c e
       rw[fr1]at this;cases this
    exact fin E ts _ fr (kn1.trans (Sm.kn s13)) (sh1.keep (Sm.ks s13)) ka a0d
 ·exact .inr ⟨hq,e⟩
 ·refine .inl ⟨hq,fun t ts G1 ht kn1 sh1 gt ka hl=>?_⟩;walk_at "go";refine⟨_,rfl,True.intro,fun G2 s2=>?_⟩;rw[hm];exact ifF (e G2 (kn1.trans (Sm.kn s2)) (sh1.keep (Sm.ks s2)))
theorem sz10 {n:Nat}(h:n≤10000):n<sizeLine:=Nat.lt_of_le_of_lt h (by decide)
def trZ (v:Str×Rw):Z:=.tup [.str v.1,.int v.2.b,oz v.2.e]
def WhoIs (T:List Tl) (y:Str):List Str->List (Str×Rw)->Prop
 | [],vs=>vs=[]
 | k::ts,vs=>∃ L us,IsLine T k L/\WhoIs T y ts us/\vs=((a1X y L).map fun r=>(k,r))++us
theorem WhoIs.snoc {T:List Tl}{y:Str}{k:Str}{L:List Rw}(hL:IsLine T k L):∀ {ts:List Str}{vs:List (Str×Rw)},WhoIs T y ts vs->WhoIs T y (ts++[k]) (vs++(a1X y L).map fun r=>(k,r))
 | [],vs,h=>by
  rw[show vs=[] from h];exact⟨L,[],hL,rfl,by simp⟩
 | j::ts,vs,h=>by
  obtain⟨M,us,h1,h2,rfl⟩:=h;exact⟨M,_,h1,WhoIs.snoc hL h2,by rw[List.append_assoc]⟩
def a9d (a:Ad):PX3:=fun ws G R EE=>Ex5 fun (p:Addr) (S:Addr->Prop) (T:List Tl) (y:Z) (q:Int)=>ws=[.ref p,y,.int q]/\SheetV a.c_Sheet G p S T/\OkT T/\Few T/\T.length≤63/\(∀ G'',Th G'' y) /\
 ((inR T q/\∃ w,y=.str w/\nmOk w/\∀ t ts vs G',G t=none->KN S G G'->SheetV a.c_Sheet G' p S T->KeysAt (T.take q.toNat) ts->WhoIs (T.take q.toNat) w ts vs->vs.length≤126*ts.length->ts.length≤63->G' t=some (.lst (vs.map trZ))->R (.ref t) G') \/
 (¬ inR T q/\∀ G',Sm G G'->EE a.x_NoKnowing G')\/(inR T q/\a1P y=false/\∀ G',KN S G G'->SheetV a.c_Sheet G' p S T->EE a.x_NoName G'))
theorem b1Q {a:Ad}{ws:List Z}{G:Hq}{R:K3}{EE:Addr->Hq->Prop}(h:a9d a ws G R EE):ws.length=3:=by obtain⟨_,_,_,_,_,rfl,_⟩:=h;rfl
theorem b3f (F:Fns K a) (T:Txt K mg a):FnOk P w K mg base (CXx P w) 5 a.f22 a.d22 ["sheet","worth","knowing"] (a3m K (a9d a)):=by
 have G_Sheet_keys_at:=a2K (P:=P) (w:=w) (base:=base) F T;have G_p_check_name:=a06 (P:=P) (w:=w) (base:=base) F T;have G_p_when:=a7I (P:=P) (w:=w) (base:=base) F T;refine fn3x F.n22 sc_p_who (fun ws G R EE h=>(by exact b1Q h)) (fun cdv A outer s H E ws G R EE hr h ux=>?_);have hu:=a0P hr;refine⟨_,(a0k (z_set (i:=3) sc_p_who.nd rfl (Or.inl rfl) (a3n (a0Y Outs.of) ux.since (a0c (pv 0)) T.cl_Sheet T.mt17 G_Sheet_keys_at (hr.mono (by decide)) (a2E F) (a0b (a0c (pv 2)) a0i a0a) (hst:=a0a) (hpl:=a0j)))
  (a0k (a0Q (a1a (a0Y Outs.of) ux.since G_p_check_name (hr.mono (by decide)) rfl T.m4 F.n4.kp (a05 F) (a0b (a0c (pv 1)) a0i a0a) (he:=a0a) (hpl:=a0j)))
  (a0k (z_set (i:=4) sc_p_who.nd rfl (Or.inl rfl) (a2L a0i))
  (a0k (a24 (pt:=(.nm 5)) PassesOwn.leaving rfl (a0H (a0c (pv 3))) (show QP _ _ (.nm 5) from (a0o (i:=5) sc_p_who.nd rfl (Or.inl rfl)))
  (a0n (a24 (pt:=(.tp [6,7])) PassesOwn.leaving rfl (a0H (a1a (a0Y Outs.of) ux.since G_p_when (hr.mono (by decide)) rfl T.m21 F.n21.kp (a7p F) (a0b (a0c (pv 0)) (a0b (a0c (pv 5)) (a0b (a0c (pv 1)) (a0b (a0c (pv 2)) a0i a0a) a0a) a0a) a0a) (he:=a0a) (hpl:=(a0g a0a (a0g a0a (a0g a0a a0j)))))) (show QP _ _ (.tp [6,7]) from (a3x rfl (a0z (a0o (i:=6) sc_p_who.nd rfl (Or.inl rfl)) (a0z (a0o (i:=7) sc_p_who.nd rfl (Or.inl rfl)) a2k))))
  (a0n (a0Q (q_bm PySem.F.plainAttrs_list PySem.F.slot_list_append PySem.F.type_list_append a1D (a0c (pv 4)) (a0b (a13 (a0b (a0c (pv 5)) (a0b (a0c (pv 6)) (a0b (a0c (pv 7)) a0i a0a) a0a) a0a)) a0i a4M)))))))
  (a0n (a0D (a0c (pv 4)))))))),?_⟩
 obtain⟨p,S,T',y,q,rfl,sh,ok,few,hT,hy,h⟩:=h;have sh':=sh;obtain⟨dx,d,kvs,sm⟩:=sh';walk_at "go";refine⟨p,dx,_,rfl,sm.ob,a4i (by decide +kernel) (by decide +kernel),?_⟩;walk_at "go";refine⟨p,S,T',q,rfl,sh,few,?_⟩;rcases h with ⟨hq,w,rfl,hw,fin⟩ | ⟨hq,e⟩ | ⟨hq,hm,e⟩
 ·refine .inl ⟨hq,fun t ts G1 ht kn1 sh1 gt ka hl=>?_⟩;walk_at "go";refine⟨_,rfl,a4I hw,fun G2 s2=>?_⟩;rw[nm_b hw];refine ifT ?_;walk_at "go";have gt2:=s2 _ _ gt;have sh2:=sh1.keep (Sm.ks s2);refine⟨lenK rfl,fun E hE=>?_⟩;walk_at "go";have sE:Sm G2 (put G2 E (.lst [])):=Sm.new hE;refine a1E (sE _ _ gt2) ?_;refine a1k (fun i σ G'=>Ex4 fun (vs:List (Str×Rw)) (v1 v2 v3:Option Z)=>σ=[some (.ref p),some (.str w),some (.int q),some (.ref t),some (.ref E),v1,v2,v3]/\WhoIs (T'.take q.toNat) w (ts.take i) vs/\vs.length≤126*i/\Sm G2 G'/\G' E=some (.lst (vs.map trZ))) ⟨[],none,none,none,rfl,by simp[WhoIs],by simp,sE,a0d⟩ (by rintro i σ G' _ ⟨_,_,_,_,_,_,_,s,_⟩;exact s _ _ gt2) ?_ ?_
  ·rintro i x σ G' hx ⟨vs,v1,v2,v3,rfl,hv,hvl,s,gE⟩;rw[List.getElem?_map]at hx;cases hx':ts[i]? with
   | none=>rw[hx']at hx;cases hx
   | some k=>
   rw[hx']at hx;cases hx;have hi:=(List.getElem?_eq_some_iff.mp hx').1;have hk:nmOk k:=b1P (fun τ hτ=>ok τ (List.mem_of_mem_take hτ)) ((ka.is k).mp (List.mem_of_getElem? hx'));have sh3:=sh2.keep (Sm.ks s);refine⟨_,rfl,?_⟩;walk_at "go";refine⟨p,S,T',.str k,.str w,q,rfl,sh3,fun _=>a4I hk,fun _=>a4I hw,few.1,.inl ⟨hq,k,w,rfl,hk,rfl,hw,fun u L G3 hu s3 gu il=>?_⟩⟩;have hLl:(a1X w L).length≤126:=by
    have h1:=il.len;rw[List.length_take]at h1;have h2:(a1X w L).length≤L.length:=List.length_filter_le _ _;omega
   walk_at "go";refine a1E gu ?_;refine a1k (fun j σ G'=>∃ (v2 v3:Option Z),σ=[some (.ref p),some (.str w),some (.int q),some (.ref t),some (.ref E),some (.str k),v2,v3]/\Sm G2 G'/\(∀ z o,z≠E->G3 z=some o->G' z=some o)/\G' E=some (.lst ((vs++((a1X w L).take j).map fun r=>(k,r)).map trZ))) ⟨v2,v3,rfl,s.trans s3,fun _ _ _ e=>e,by simpa using s3 _ _ gE⟩ (by rintro j σ G' _ ⟨_,_,_,_,s4,_⟩;exact s4 _ _ (fun z=>by rw[z]at hu;rw[gE]at hu;cases hu) gu) ?_ ?_
   ·rintro j x σ G4 hx ⟨v2,v3,rfl,s4,k4,gE4⟩;rw[List.getElem?_map]at hx;cases hr:(a1X w L)[j]? with
    | none=>rw[hr]at hx;cases hx
    | some r=>
    rw[hr]at hx;cases hx;have hj:=(List.getElem?_eq_some_iff.mp hr).1;refine⟨_,rfl,?_⟩;walk_at "go";refine a2T gE4 ?_;walk_at "go";refine⟨lenK rfl,?_⟩;walk_at "go";refine a1t gE4 (sz10 ?_) ?_
    ·rw[List.length_map,List.length_append,List.length_map,List.length_take];omega
    walk_at "go";refine⟨_,_,rfl,s4.put hE,fun z o hz e=>by rw[a0I hz];exact k4 z o hz e,?_⟩;rw[a0d,List.take_add_one,hr];simp[trZ]
   ·rintro σ G4 ⟨v2,v3,rfl,s4,k4,gE4⟩;rw[List.length_map,List.take_length]at gE4;walk_at "go";refine⟨_,_,_,_,rfl,?_,?_,s4,gE4⟩
    ·rw[List.take_add_one,hx'];exact hv.snoc il
    ·rw[List.length_append,List.length_map];omega
  ·rintro σ G3 ⟨vs,v1,v2,v3,rfl,hv,hvl,s,gE⟩;rw[List.length_map]at hv hvl;rw[List.take_length]at hv;walk_at "go";have fr1:=s2.free hE;have fr:G E=none:=by
    cases e:G E with
    | none=>rfl
    | some o=>
     by_cases c:S E
     ·obtain⟨o',e'⟩:=(let ⟨_,_,_,z⟩:=sh1;z.al E c);rw[fr1]at e';cases e'
     ·have:=kn1 E o c e
      rw[fr1]at this;cases this
   have s13:=s2.trans s;exact fin E ts vs _ fr (kn1.trans (Sm.kn s13)) (sh1.keep (Sm.ks s13)) ka hv hvl hl gE
 ·exact .inr ⟨hq,e⟩
 ·refine .inl ⟨hq,fun t ts G1 ht kn1 sh1 gt ka hl=>?_⟩;walk_at "go";refine⟨_,rfl,hy _,fun G2 s2=>?_⟩;rw[hm];exact ifF (e G2 (kn1.trans (Sm.kn s2)) (sh1.keep (Sm.ks s2)))
def wAt (T:List Tl) (k:Str) (m:Int) (n:Nat):Z:=a0R (a0U (T.take n) k) m
theorem b3g {T:List Tl}{τ:Tl}{k:Str}{m:Int}{i:Nat}(h:T[i]?=some τ):wAt T k m (i+1)=if τ.key=k/\τ.rw.has m=true then τ.v else wAt T k m i:=by
 unfold wAt;have ht1:T.take (i+1)=T.take i++[τ]:=by rw[List.take_add_one,h];rfl
 rw[ht1,a4f]
 by_cases c:τ.key=k
 ·rw[if_pos c,a5o]
  show (if τ.rw.has m=true then τ.v else _)=_
  simp only[c,true_and]
 ·rw[if_neg c,List.append_nil,if_neg fun z=>c z.1]
def b3Z:P3:=fun ws G R=>∃ (τ:Tl) (m:Int),ws=[τ.z,.int m]/\R (.bl (τ.rw.has m)) G
theorem b5p {ws:List Z}{G:Hq}{R:K3}(h:b3Z ws G R):ws.length=2:=by obtain⟨_,_,rfl,_⟩:=h;rfl
theorem at_b {τ:Tl}:∃ ws,τ.z=.tup ws/\atI ws (-2)=some (.int τ.b)/\atI ws (-1)=some (oz τ.e):=by
 obtain⟨k,w,b,e⟩:=τ;cases w<;>exact⟨_,rfl,rfl,rfl⟩
theorem b73 (F:Fns K a) (T:Txt K mg a):FnOk P w K mg base CX0 1 a.f31 a.d31 ["telling","moment"] (lowP K b3Z):=by
 refine fn3 F.n31 b7F (fun ws G R h=>(by exact b5p h)) (fun cdv A outer s H E ws G R hr h=>?_);have hu:=a0P hr;refine⟨_,(a0n (a0D (b0L (a7R o_le (q_ix x_ix (a0c (pv 0)) (q_un a2M a0h) (fun _ _=>rfl)) (a0c (pv 1)) (a0s _)) (b2C (b8C (a7R o_is (q_ix x_ix (a0c (pv 0)) (q_un a2M a0h) (fun _ _=>rfl)) a2o (a0s _)) (b2C (a7R o_lt (a0c (pv 1)) (q_ix x_ix (a0c (pv 0)) (q_un a2M a0h) (fun _ _=>rfl)) (a0s _)))))))),?_⟩;obtain⟨τ,m,rfl,q⟩:=h;obtain⟨ws,ez,e1,e2⟩:=@at_b τ;have eh:τ.rw.has m=(decide (τ.b≤m)&&bef m τ.e):=rfl;rw[eh]at q;rw[ez];walk_at "go";refine a1I e1 ?_;walk_at "go";refine ifD (fun c=>?_) fun c=>?_
 ·rw[decide_eq_true c,Bool.true_and]at q;walk_at "go";refine a1I e2 ?_;cases he:τ.e with
  | none=>
   rw[he]at q;walk_at "go";exact q
  | some e=>
   rw[he]at q;walk_at "go";refine a1I e2 ?_;rw[he];walk_at "go";exact q
 ·rw[decide_eq_false c]at q;exact q
def inT (x:Int):Prop:=0≤x/\x≤T12
theorem b3h {τ:Tl}:∃ ws x y,τ.z=.tup ws/\atI ws 2=some x/\atI ws 0=some (.str y)/\atI [.non,x] (if decide (y=Str.ofString "put")=true then 1 else 0)=some τ.v:=by
 obtain⟨k,w,b,e⟩:=τ;cases w with
 | none=>exact⟨_,_,_,rfl,rfl,rfl,by rw[if_neg (by rw[decide_eq_true_eq];exact b7Y)];rfl⟩
 | some w=>exact⟨_,_,_,rfl,rfl,rfl,by rw[if_pos (by rw[decide_eq_true_eq])];rfl⟩
theorem b30 {xs:List Int}{k:Int}(h0:0≤k) (h1:k<xs.length):∃ x,atI (xs.map Z.int) k=some (.int x)/\x∈xs:=by
 obtain⟨j,rfl⟩:=Int.eq_ofNat_of_zero_le h0;have hj:j<xs.length:=by omega
 exact⟨xs[j],a1y (by rw[List.getElem?_map,List.getElem?_eq_getElem hj];rfl),List.getElem_mem hj⟩
theorem b31 {m:Int}(h:inT m):momB (.int m)=true:=by
 rw[a5r,decide_eq_true h.1,decide_eq_true (show m≤1000000000000 from h.2)];rfl
def leS (a b:Str):Prop:=PySem.Spec.ltCps b.cps.toList a.cps.toList=false
theorem b1R {a b:Str}:leS a b↔¬ b.cps.toList<a.cps.toList:=by unfold leS;rw[PyProof.Rows.ltCps_eq];simp
theorem b1S {a b c:Str}(h:leS a b) (g:leS b c):leS a c:=by
 rw[b1R]at *;exact List.le_trans (α:=Nat) h g
theorem b3i {a b:Str}(h:leS a b) (g:leS b a):a=b:=by
 rw[b1R]at *;have e:a.cps.toList=b.cps.toList:=List.le_antisymm (α:=Nat) h g;cases a;cases b;simpa using e
theorem b74:∀ {l:List Str}{p:Str},PyProof.Rows.risingS p l=true->(p::l).Pairwise leS
 | [],p,_=>List.pairwise_singleton _ _
 | x::r,p,h=>by
  unfold PyProof.Rows.risingS at h;rw[Bool.and_eq_true,Bool.not_eq_true']at h;have ih:=b74 h.2;refine List.pairwise_cons.mpr ⟨fun y hy=>?_,ih⟩;rcases List.mem_cons.mp hy with rfl | hy
  ·exact h.1
  ·exact b1S h.1 (List.rel_of_pairwise_cons ih hy)
theorem b75:∀ {l:List Str},PyProof.Rows.sortedS l=true->l.Pairwise leS
 | [],_=>List.Pairwise.nil
 | _::_,h=>b74 h
theorem a7K:∀ {xs ys:List Str},xs.Pairwise leS->ys.Pairwise leS->xs.Perm ys->xs=ys
 | [],ys,_,_,h=>(List.nil_perm.mp h).symm
 | x::xs,[],_,_,h=>by have:=h.length_eq;simp at this
 | x::xs,y::ys,h1,h2,h=>by
  have e:x=y:=by
   have m1:=h.mem_iff.mp (List.mem_cons_self (a:=x) (l:=xs));have m2:=h.mem_iff.mpr (List.mem_cons_self (a:=y) (l:=ys));rcases List.mem_cons.mp m1 with e | m1
   ·exact e
   ·rcases List.mem_cons.mp m2 with e | m2
    ·exact e.symm
    ·exact b3i (List.rel_of_pairwise_cons h1 m2) (List.rel_of_pairwise_cons h2 m1)
  subst e;rw[a7K (List.pairwise_cons.mp h1).2 (List.pairwise_cons.mp h2).2 h.cons_inv]
def fW (T:List Tl) (k y:Str) (t:Int):Option (List Z):=if a0R (a0U T k) t=.str y then some [.str y] else none
theorem b3j {T:List Tl}{k y:Str}{L:List Rw}(il:IsLine T k L):Can (a1X y L):=⟨fun r hr=>il.can.1 r (List.mem_filter.mp hr).1,il.can.2.sublist List.filter_sublist⟩
theorem a9e {y:Str}{t:Int}:∀ {L:List Rw},Rise L->val (a1X y L) t=(val L t).filter fun w=>decide (w=[Z.str y])
 | [],_=>rfl
 | r::L,h=>by
  have ih:=a9e (y:=y) (t:=t) h.tail;unfold a1X at ih ⊢;rw[List.filter_cons,a0y]
  by_cases c:r.w=[Z.str y]
  ·rw[if_pos (decide_eq_true c),a0y,ih];cases r.has t
   ·rfl
   ·simp[c,Option.filter]
  ·rw[if_neg (by simpa using c),ih];cases e:r.has t with
   | false=>rfl
   | true=>
    rw[a3L fun s hs=>((List.pairwise_cons.mp h.2).1 s hs).has e];simp[Option.filter,c]
theorem b5q {T:List Tl}{k y:Str}{L:List Rw}(il:IsLine T k L) (t:Int):val (a1X y L) t=fW T k y t:=by
 rw[a9e il.can.rise,il.v];unfold optW fW
 by_cases c:a0R (a0U T k) t=.non
 ·rw[if_pos c,c];rfl
 ·rw[if_neg c]
  by_cases d:a0R (a0U T k) t=.str y
  ·rw[if_pos d,d];simp[Option.filter]
  ·rw[if_neg d];simp[Option.filter,d]
structure Pts (T:List Tl) (ms:List Int):Prop where
 so:ms.Pairwise (·<·)
 z:0∈ms
 b:∀ τ∈T,τ.b∈ms
 e:∀ τ∈T,∀ e,τ.e=some e->e∈ms
theorem a9f {T:List Tl}{k:Str}{r:Rw}(h:r∈a0U T k):∃ τ∈T,r.b=τ.b/\r.e=τ.e:=by
 unfold a0U at h;obtain⟨τ,h1,rfl⟩:=List.mem_map.mp h;exact⟨τ,(List.mem_filter.mp h1).1,rfl,rfl⟩
theorem a91 {T:List Tl}{ms:List Int}(P:Pts T ms) (k:Str) {t b:Int}(hbt:b≤t) (hm:∀ c∈ms,c≤t->c≤b):a0R (a0U T k) t=a0R (a0U T k) b:=by
 unfold a0R;rw[a52 fun r hr=>?_];obtain⟨τ,h1,h2,h3⟩:=a9f (k:=k) (by simpa using hr);exact b21 hbt (fun h=>by rw[h2]at h ⊢;exact hm _ (P.b τ h1) h) fun e he h=>hm _ (P.e τ h1 e (by rw[<- h3];exact he)) h
theorem a92 {T:List Tl}(ok:OkT T) (k:Str) {t:Int}(h:t<0):a0R (a0U T k) t=.non:=by
 unfold a0R
 have:(a0U T k).reverse.find? (·.has t)=none:=by
  rw[List.find?_eq_none];intro r hr;obtain⟨τ,h1,h2,h3⟩:=a9f (k:=k) (by simpa using hr)
  have:=(ok τ h1).st.1
  rw[a7r (by omega)]
  decide
 rw[this]
theorem a8m {T:List Tl}{ms:List Int}{k y:Str}{L:List Rw}(P:Pts T ms) (ok:OkT T) (il:IsLine T k L):join (pcs (fW T k y) ms)=a1X y L:=by
 have j:=b1y (a80 (fW T k y) P.so);refine b1w j.1 (b3j il) fun t=>?_;rw[j.2.1,b5q il,b1C P.so fun t b _ h1 h2=>by unfold fW;rw[a91 P k h1 h2]]
 split
 ·rfl
 ·next c=>
  unfold fW;rw[a92 ok k (by
   by_cases h:0≤t
   ·exact absurd (List.any_eq_true.mpr ⟨0,P.z,decide_eq_true h⟩) c
   ·omega)]
  rfl
theorem b76 {f:Int->Option (List Z)}{ms:List Int}{i:Nat}{m:Int}(h:ms[i]?=some m):pcs f (ms.drop i)=(match f m with | some w=>[(⟨m,ms[i+1]?,w⟩:Rw)] | none=>[])++pcs f (ms.drop (i+1)):=by
 rw[drop_get h]
 conv=>lhs;unfold pcs
 rw[List.head?_drop]
def sW (T:List Tl) (m:Int) (k:Str):Option (Str×Z):=a1O (k,a0R (a0U T k) m)
theorem b5r {T:List Tl}{k:Str}(h:IsLine T k []) (m:Int):a0R (a0U T k) m=.non:=by
 have:=h.v m
 unfold optW at this
 split at this
 ·assumption
 ·cases this
theorem b32 {α:Type}{f:Str->List α}{p:Str->Bool}:∀ {ts:List Str},(∀ k∈ts,p k=false->f k=[])->ts.flatMap f=(ts.filter p).flatMap f
 | [],_=>rfl
 | k::ts,h=>by
  rw[List.flatMap_cons,List.filter_cons,b32 fun j hj=>h j (.tail _ hj)]
  by_cases c:p k=true
  ·rw[if_pos c,List.flatMap_cons]
  ·rw[if_neg c,h k (.head _) (by simpa using c)];rfl
theorem a9g {T:List Tl}{kn sk ts:List Str}(hk:∀ τ∈T,τ.key∈kn) (nd:kn.Nodup) (hp:sk.Perm kn) (hs:PyProof.Rows.sortedS sk=true) (ka:KeysAt T ts):ts=sk.filter fun k=>decide (k∈ts):=by
 have nd2:sk.Nodup:=hp.nodup_iff.mpr nd;refine a7K (b75 ka.so) ((b75 hs).sublist List.filter_sublist) ((List.perm_ext_iff_of_nodup ka.nd (nd2.sublist List.filter_sublist)).mpr fun s=>?_);rw[List.mem_filter,decide_eq_true_eq];refine⟨fun h=>⟨hp.mem_iff.mpr ?_,h⟩,fun h=>h.2⟩;obtain⟨L,l1,l2⟩:=(ka.is s).mp h
 by_cases c:∃ τ∈T,τ.key=s
 ·obtain⟨τ,h1,h2⟩:=c;rw[<- h2];exact hk τ h1
 ·have:a0U T s=[]:=by
   unfold a0U;rw[List.map_eq_nil_iff,List.filter_eq_nil_iff];intro τ hτ;simpa using fun z=>c ⟨τ,hτ,z⟩
  exact absurd (l1.uniq (IsLine.nil this)) l2
theorem b1T (k:Str):∀ {n:Nat}{T:List Tl},T.length=n->OkT T->∃ L,IsLine T k L
 | 0,T,h,_=>⟨[],by rw[List.length_eq_zero_iff.mp h];exact IsLine.nil rfl⟩
 | n+1,T,h,ok=>by
  obtain⟨U,τ,rfl⟩:∃ U τ,T=U++[τ]:=⟨T.dropLast,T.getLast (fun z=>by rw[z]at h;cases h),(List.dropLast_concat_getLast _).symm⟩;obtain⟨L,il⟩:=b1T k (n:=n) (T:=U) (by simpa using h) fun σ hσ=>ok σ (List.mem_append_left _ hσ)
  by_cases c:τ.key=k
  ·subst c;exact⟨_,il.snoc (ok τ (by simp))⟩
  ·refine⟨L,il.can,il.pl,by have:=il.len;simp;omega,fun t=>?_⟩;rw[a4f,if_neg c,List.append_nil];exact il.v t
theorem a9h {T:List Tl}{ts:List Str}{k:Str}(ok:OkT T) (ka:KeysAt T ts) (h:k∉ts):IsLine T k []:=by
 obtain⟨L,il⟩:=b1T k rfl ok
 by_cases c:L=[]
 ·rw[c]at il;exact il
 ·exact absurd ((ka.is k).mpr ⟨L,il,c⟩) h
theorem b33 {T:List Tl}{kn sk ts:List Str}{m:Int}(ok:OkT T) (hk:∀ τ∈T,τ.key∈kn) (nd:kn.Nodup) (hp:sk.Perm kn) (hs:PyProof.Rows.sortedS sk=true) (ka:KeysAt T ts):(a4p T m ts).filterMap a1O=sk.filterMap (sW T m):=by
 have e:∀ l:List Str,(a4p T m l).filterMap a1O=l.filterMap (sW T m):=fun l=>by
  unfold a4p;rw[List.filterMap_map];rfl
 rw[e]
 conv=>lhs;rw[a9g hk nd hp hs ka]
 have key:∀ l:List Str,(l.filter fun k=>decide (k∈ts)).filterMap (sW T m)=l.filterMap (sW T m):=fun l=>by
  induction l with
  | nil=>rfl
  | cons k l ih=>
   rw[List.filter_cons]
   by_cases c:k∈ts
   ·rw[if_pos (decide_eq_true c),List.filterMap_cons,List.filterMap_cons,ih]
   ·have e0:sW T m k=none:=by unfold sW a1O;rw[b5r (a9h ok ka c)];rfl
    rw[if_neg (by simpa using c),List.filterMap_cons,e0,ih]
 exact key sk
def whoF (T:List Tl) (y:Str) (ms:List Int) (k:Str):List (Str×Rw):=(join (pcs (fW T k y) ms)).map fun r=>(k,r)
theorem b34 {T:List Tl}{y:Str}{ms:List Int}(P:Pts T ms) (ok:OkT T):∀ {ts:List Str}{vs:List (Str×Rw)},WhoIs T y ts vs->vs=ts.flatMap (whoF T y ms)
 | [],vs,h=>h
 | k::ts,vs,h=>by
  obtain⟨L,us,h1,h2,rfl⟩:=h;rw[b34 P ok h2,List.flatMap_cons];unfold whoF;rw[a8m P ok h1]
theorem b35 {T:List Tl}{kn sk ts:List Str}{y:Str}{ms:List Int}{vs:List (Str×Rw)}(P:Pts T ms) (ok:OkT T) (hk:∀ τ∈T,τ.key∈kn) (nd:kn.Nodup) (hp:sk.Perm kn) (hs:PyProof.Rows.sortedS sk=true) (ka:KeysAt T ts) (h:WhoIs T y ts vs):vs=sk.flatMap (whoF T y ms):=by
 rw[b34 P ok h,b32 (p:=fun k=>decide (k∈ts)) (f:=whoF T y ms) (ts:=sk) fun k _ hn=>?_]
 ·conv=>lhs;rw[a9g hk nd hp hs ka]
 ·unfold whoF;rw[a8m P ok (a9h ok ka (by simpa using hn))];rfl
local macro_rules | `(tactic| walk_at "go1")=>`(tactic| first | refine i_I (show (0:Int)<_ by decide) ?_ | refine a1n (by assumption) (by with_unfolding_all rfl) ?_ | (refine i_I ⟨by decide,by decide,by decide⟩ ?_;rw[a4l]))
def a9i:P3:=fun ws G R=>Ex4 fun (p:Addr) (T:List Tl) (k:Str) (m:Int)=>ws=[.ref p,.str k,.int m]/\G p=some (.lst (T.map Tl.z))/\∀ G',Sm G G'->R (a0R (a0U T k) m) G'
theorem b1U {ws:List Z}{G:Hq}{R:K3}(h:a9i ws G R):ws.length=3:=by obtain⟨_,_,_,_,rfl,_⟩:=h;rfl
theorem a9j (F:Fns K a) (T:Txt K mg a):FnOk P w K mg base CX0 2 a.f32 a.d32 ["tellings","key","moment"] (lowP K a9i):=by
 have G_has:=b73 (P:=P) (w:=w) (base:=base) F T;refine fn3 F.n32 sc_worth (fun ws G R h=>(by exact b1U h)) (fun cdv A outer s H E ws G R hr h=>?_);have hu:=a0P hr;refine⟨_,(a0k (z_set (i:=3) sc_worth.nd rfl (Or.inl rfl) a2o)
  (a0k (a24 (pt:=(.nm 4)) PassesOwn.never rfl (a0H (a0c (pv 0))) (show QP _ _ (.nm 4) from (a0o (i:=4) sc_worth.nd rfl (Or.inl rfl)))
  (a0n (z_if (QW.qt (a7S (a0v (o_eq hu) (q_ix x_ix (a0c (pv 4)) a0h (fun _ _=>rfl)) (a0c (pv 1)) (a0s _)) (a5N (a23 (a0u G_has (hr.mono (by decide)) rfl T.m31 F.n31.kp (b7M F) (a0b (a0c (pv 4)) (a0b (a0c (pv 2)) a0i a0a) a0a) (he:=a0a) (hpl:=(a0g a0a a0j)))))))
  (a0n (z_set (i:=3) sc_worth.nd rfl (Or.inl rfl) (q_ix x_ix (a2L (a0b a2o (a0b (q_ix x_ix (a0c (pv 4)) a0h (fun _ _=>rfl)) a0i a0l) a0e)) (b2D b7D rfl T.b_int rfl (a0b (a7R (o_eq hu) (q_ix x_ix (a0c (pv 4)) a0h (fun _ _=>rfl)) a3z (a0s _)) a0i a5O) (he:=a5O) (hpl:=a0j)) (fun _ _=>rfl))))
  a08)))
  (a0n (a0D (a0c (pv 3)))))),?_⟩
 obtain⟨p,T',k,m,rfl,gp,q⟩:=h;walk_at "go";refine a1E gp ?_;refine a1k (fun i σ G'=>∃ v:Option Z,Sm G G'/\σ=[some (.ref p),some (.str k),some (.int m),some (wAt T' k m i),v]) ⟨_,Sm.refl _,rfl⟩ (by rintro i σ G' _ ⟨_,s,_⟩;exact s _ _ gp) ?_ ?_
 ·rintro i u σ G' hu ⟨v,s,rfl⟩;rw[List.getElem?_map]at hu;cases hu':T'[i]? with
  | none=>rw[hu']at hu;cases hu
  | some τ=>
  rw[hu']at hu;cases hu;have hw:=@b3g T' τ k m i hu';obtain⟨ws,ez,ek⟩:=@b3W τ;refine⟨_,rfl,?_⟩;walk_at "go";rw[ez];refine a1I ek ?_;walk_at "go";refine ifD (fun c1=>?_) fun c1=>?_
  rotate_left
  ·walk_at "go";rw[if_neg (fun z=>c1 z.1)]at hw;exact⟨_,s,by rw[hw];rfl⟩
  walk_at "go";rw[<- ez];refine⟨τ,m,rfl,?_⟩;walk_at "go";refine ifB (fun c2=>?_) fun c2=>?_
  rotate_left
  ·walk_at "go";rw[if_neg (fun z=>by rw[c2]at z;exact absurd z.2 (by decide))]at hw;exact⟨_,s,by rw[hw];rfl⟩
  rw[if_pos ⟨c1,c2⟩]at hw;obtain⟨ws2,fx,fy,ez2,e2,e0,ef⟩:=@b3h τ;rw[ez2];walk_at "go";refine a1I e2 ?_;walk_at "go";refine⟨lenK rfl,fun l hl=>?_⟩;walk_at "go";refine a1I e0 ?_;walk_at "go";refine a1n a0d ef ?_;walk_at "go";exact⟨_,s.trans (Sm.new hl),by rw[hw];rfl⟩
 ·rintro σ G' ⟨v,s,rfl⟩;walk_at "go"
  have:=q G' s
  unfold wAt;rw[List.length_map,List.take_length];exact this
def a7L:P3:=fun ws G R=>∃ (p:Addr) (T:List Tl),ws=[.ref p]/\G p=some (.lst (T.map Tl.z))/\OkT T/\T.length≤100/\∀ (t:Addr) (ms:List Int) (G':Hq),G t=none->Sm G G'->G' t=some (.lst (ms.map Z.int))->Pts T ms->(∀ x∈ms,inT x)->ms.length≤1+2*T.length->R (.ref t) G'
theorem a93 {ws:List Z}{G:Hq}{R:K3}(h:a7L ws G R):ws.length=1:=by obtain⟨_,_,rfl,_⟩:=h;rfl
theorem b1V (F:Fns K a) (T:Txt K mg a):FnOk P w K mg base CX0 1 a.f33 a.d33 ["tellings"] (lowP K a7L):=by
 refine fn3 F.n33 sc_points (fun ws G R h=>(by exact a93 h)) (fun cdv A outer s H E ws G R hr h=>?_);have hu:=a0P hr;refine⟨_,(a0k (z_set (i:=1) sc_points.nd rfl (Or.inl rfl) (a2L (a0b a0h a0i a0e)))
  (a0k (a24 (pt:=(.nm 2)) PassesOwn.never rfl (a0H (a0c (pv 0))) (show QP _ _ (.nm 2) from (a0o (i:=2) sc_points.nd rfl (Or.inl rfl)))
  (a0k (a0Q (q_bm PySem.F.plainAttrs_list PySem.F.slot_list_append PySem.F.type_list_append a1D (a0c (pv 1)) (a0b (q_ix x_ix (a0c (pv 2)) (q_un a2M a0h) (fun _ _=>rfl)) a0i a0l)))
  (a0n (z_if (a0v a34 (q_ix x_ix (a0c (pv 2)) (q_un a2M a0h) (fun _ _=>rfl)) a2o (a0s _))
  (a0n (a0Q (q_bm PySem.F.plainAttrs_list PySem.F.slot_list_append PySem.F.type_list_append a1D (a0c (pv 1)) (a0b (q_ix x_ix (a0c (pv 2)) (q_un a2M a0h) (fun _ _=>rfl)) a0i a0l))))
  a08))))
  (a0n (a0D (q_ss rfl rfl T.b_sorted rfl rfl T.b_set rfl (a0b (a0c (pv 1)) a0i a0a) (he:=a0a) (hpl:=a0j)))))),?_⟩
 obtain⟨p,T',rfl,gp,ok,hT,q⟩:=h;walk_at "go";refine⟨lenK rfl,fun f hf=>?_⟩;walk_at "go";refine a1E (a0p gp hf) ?_;refine a1k (fun i σ G'=>∃ (ns:List Int) (v:Option Z),0∈ns/\(∀ x∈ns,inT x)/\ns.length≤1+2*i/\(∀ τ∈T'.take i,τ.b∈ns/\∀ e,τ.e=some e->e∈ns)/\Sm G G'/\G' f=some (.lst (ns.map Z.int))/\σ=[some (.ref p),some (.ref f),v]) ⟨[0],_,by simp,fun x hx=>by rw[List.mem_singleton.mp hx];exact⟨by decide,by decide⟩,by simp,(fun τ h=>by simp at h),Sm.new hf,a0d,rfl⟩ (by rintro i σ G' _ ⟨_,_,_,_,_,_,s,_⟩;exact s _ _ gp) ?_ ?_
 ·rintro i u σ G' hu ⟨ns,v,h0,hn,hl,hb,s,gf,rfl⟩;rw[List.getElem?_map]at hu;cases hu':T'[i]? with
  | none=>rw[hu']at hu;cases hu
  | some τ=>
  rw[hu']at hu;cases hu;have hi:=(List.getElem?_eq_some_iff.mp hu').1;have okτ:=ok τ (List.mem_of_getElem? hu');obtain⟨b0,b1,be⟩:=okτ.st;obtain⟨ws,ez,e1,e2⟩:=@at_b τ;have mem1:∀ {ns:List Int}{x:Int},(∀ x∈ns,inT x)->inT x->∀ y∈ns++[x],inT y:=fun {ns x} h hx y hy=>by
   rcases List.mem_append.mp hy with hy | hy
   ·exact h y hy
   ·rw[List.mem_singleton.mp hy];exact hx
  have old:∀ {ms:List Int},(∀ x∈ns,x∈ms)->τ.b∈ms->(∀ e,τ.e=some e->e∈ms)->∀ σ∈T'.take (i+1),σ.b∈ms/\∀ e,σ.e=some e->e∈ms:=fun h1 h2 h3 σ hσ=>by
   rw[take_snoc hu']at hσ;rcases List.mem_append.mp hσ with hσ | hσ
   ·exact⟨h1 _ (hb σ hσ).1,fun e he=>h1 _ ((hb σ hσ).2 e he)⟩
   ·rw[List.mem_singleton.mp hσ];exact⟨h2,h3⟩
  rw[ez];refine⟨_,rfl,?_⟩;walk_at "go";refine a2T gf ?_;walk_at "go";refine a1I e1 ?_;walk_at "go";refine a1t gf (by rw[List.length_map];exact a0t (by omega)) ?_;have gf2:put G' f (.lst (ns.map Z.int++[.int τ.b])) f=some (.lst ((ns++[τ.b]).map Z.int)):=by rw[a0d,List.map_append];rfl
  have s2:Sm G (put G' f (.lst (ns.map Z.int++[.int τ.b]))):=s.put hf;generalize put G' f (.lst (ns.map Z.int++[.int τ.b]))=G2 at gf2 s2 ⊢;walk_at "go";refine a1I e2 ?_;cases he:τ.e with
  | none=>
   walk_at "go";exact⟨_,_,List.mem_append_left _ h0,mem1 hn ⟨b0,b1⟩,by rw[List.length_append];simp;omega,old (fun x h=>List.mem_append_left _ h) (by simp) (fun e h=>by rw[he]at h;cases h),s2,gf2,rfl⟩
  | some e=>
   obtain⟨l1,l2⟩:=be e he;walk_at "go";refine a2T gf2 ?_;walk_at "go";refine a1I e2 ?_;rw[he];walk_at "go";refine a1t gf2 (by rw[List.length_map,List.length_append];exact a0t (by simp;omega)) ?_;refine⟨ns++[τ.b]++[e],_,List.mem_append_left _ (List.mem_append_left _ h0),mem1 (mem1 hn ⟨b0,b1⟩) ⟨by omega,l2⟩,by rw[List.length_append,List.length_append];simp;omega,old (fun x h=>List.mem_append_left _ (List.mem_append_left _ h)) (by simp) (fun e' h=>by rw[he]at h;cases h;simp),s2.put hf,?_,rfl⟩;rw[a0d,List.map_append (l₂:=[e])];rfl
 ·rintro σ G' ⟨ns,v,h0,hn,hl,hb,s,gf,rfl⟩;rw[List.length_map]at hl hb;rw[List.take_length]at hb;walk_at "go";refine⟨f,ns,rfl,gf,by omega,fun t ks ht hs hm hle=>?_⟩;exact q t ks _ (s.free ht) (s.trans (Sm.new ht)) a0d ⟨hs,(hm 0).mpr h0,fun τ h=>(hm _).mpr (hb τ h).1,fun τ h e he=>(hm _).mpr ((hb τ h).2 e he)⟩ (fun x hx=>hn x ((hm x).mp hx)) (by omega)
theorem b77 {ms:List Int}{i:Nat}(h:i<ms.length):atI (ms.map Z.int++[.non]) ((i:Int)+1)=some (oz ms[i+1]?):=by
 refine a1y (j:=i+1) ?_
 by_cases c:i+1<ms.length
 ·rw[List.getElem?_append_left (by rw[List.length_map];exact c),List.getElem?_map,List.getElem?_eq_getElem c];rfl
 ·rw[List.getElem?_append_right (by rw[List.length_map];omega),List.length_map,show i+1 - ms.length=0 by omega,show ms[i+1]?=none from List.getElem?_eq_none (by omega)];rfl
theorem b1W {ps:List Rw}{x:Rw}:join (ps++[x])=jn (join ps) x:=by unfold join;rw[List.foldl_append];rfl
theorem b78 {w:List Z}{ps:List Rw}(h:∀ r∈ps,r.w=w):∀ r∈join ps,r.w=w:=by
 have key:∀ (ps told:List Rw),(∀ r∈told,r.w=w)->(∀ r∈ps,r.w=w)->∀ r∈ps.foldl jn told,r.w=w:=by
  intro ps
  induction ps with
  | nil=>exact fun _ h _=>h
  | cons p ps ih=>
   intro told ht hps;refine ih (jn told p) (fun r hr=>?_) fun r hr=>hps r (.tail _ hr)
   have:=hps p (.head _)
   unfold jn at hr
   split at hr
   ·split at hr
    ·rcases List.mem_append.mp hr with hr | hr
     ·exact ht r (List.dropLast_subset _ hr)
     ·rw[List.mem_singleton.mp hr];exact this
    ·rcases List.mem_append.mp hr with hr | hr
     ·exact ht r hr
     ·rw[List.mem_singleton.mp hr];exact this
   ·rcases List.mem_append.mp hr with hr | hr
    ·exact ht r hr
    ·rw[List.mem_singleton.mp hr];exact this
 exact key ps [] (fun r hr=>by simp at hr) h
theorem a6J (ps:List Rw):(join ps).length≤ps.length:=by
 have:=a6E ps []
 unfold join;simpa using this
theorem b1X {L:List Rw}:(L.map a2C).all (flat 8)=true:=by
 rw[List.all_eq_true];intro z hz;obtain⟨r,hr,rfl⟩:=List.mem_map.mp hz;unfold a2C
 show ([.int r.b,oz r.e].all (flat 7))=true
 cases r.e<;>rfl
def b1Y:P3:=fun ws G R=>Ex6 fun (t p:Addr) (T:List Tl) (k y:Str) (ms:List Int)=>ws=[.ref t,.ref p,.str y]/\G t=some (.lst (ms.map fun m=>a0R (a0U T k) m))/\G p=some (.lst (ms.map Z.int))/\OkT T/\nmOk y/\ms.length≤500/\∀ u G',G u=none->Sm G G'->G' u=some (.lst ((join (pcs (fW T k y) ms)).map a2C))->R (.ref u) G'
theorem b3k {ws:List Z}{G:Hq}{R:K3}(h:b1Y ws G R):ws.length=3:=by obtain⟨_,_,_,_,_,_,rfl,_⟩:=h;rfl
theorem b5s (F:Fns K a) (T:Txt K mg a):FnOk P w K mg base CX0 1 a.f34 a.d34 ["there","points","worth"] (lowP K b1Y):=by
 refine fn3 F.n34 sc_when (fun ws G R h=>(by exact b3k h)) (fun cdv A outer s H E ws G R hr h=>?_);have hu:=a0P hr;refine⟨_,(a0k (z_set (i:=3) sc_when.nd rfl (Or.inl rfl) (a2L a0i))
  (a0k (a24 (pt:=(.nm 4)) PassesOwn.never rfl (a2Z rfl T.b_range (a0b (a0G b_len rfl T.b_len PySem.boot_len (a0b (a0c (pv 1)) a0i a0a) (he:=a0a) (hpl:=a0j)) a0i a0E)) (show QP _ _ (.nm 4) from (a0o (i:=4) sc_when.nd rfl (Or.inl rfl)))
  (a0n (z_if (a0v (o_eq hu) (q_ix x_ix (a0c (pv 0)) (a0c (pv 4)) (fun _ _=>rfl)) (a0c (pv 2)) (a0s _))
  (a0k (z_set (i:=5) sc_when.nd rfl (Or.inl rfl) (q_ix x_ix (q_op a1c (a0c (pv 1)) (a2L (a0b a2o a0i a0e))) (q_op a1c (a0c (pv 4)) a0h) (fun _ _=>rfl)))
  (a0n (z_if (QW.qt (a7S (a0v (o_ne hu) (a0c (pv 3)) (a2L a0i) (a0s _)) (a5N (a0v (o_eq hu) (q_ix x_ix (q_ix x_ix (a0c (pv 3)) (q_un a2M a0h) (fun _ _=>rfl)) a0h (fun _ _=>rfl)) (q_ix x_ix (a0c (pv 1)) (a0c (pv 4)) (fun _ _=>rfl)) (a0s _)))))
  (a0n (b0P (a13 (a0b (q_ix x_ix (q_ix x_ix (a0c (pv 3)) (q_un a2M a0h) (fun _ _=>rfl)) a0h (fun _ _=>rfl)) (a0b (a0c (pv 5)) a0i a0a) a0l)) (a0c (pv 3)) (q_un a2M a0h) b6I))
  (a0n (a0Q (q_bm PySem.F.plainAttrs_list PySem.F.slot_list_append PySem.F.type_list_append a1D (a0c (pv 3)) (a0b (a13 (a0b (q_ix x_ix (a0c (pv 1)) (a0c (pv 4)) (fun _ _=>rfl)) (a0b (a0c (pv 5)) a0i a0a) a0l)) a0i a4M)))))))
  a08)))
  (a0n (a0D (a0c (pv 3)))))),?_⟩
 obtain⟨t,p,T',k,y,ms,rfl,gt,gp,ok,hy,hml,q⟩:=h;walk_at "go";refine⟨lenK rfl,fun f hf=>?_⟩;walk_at "go";refine a5S (a0p gp hf) ?_;walk_at "go";rw[List.length_map];refine⟨by omega,by omega,?_⟩;rw[show ((ms.length:Int)).toNat=ms.length by omega];refine a1k (fun i σ G'=>∃ (ps:List Rw) (v1 v2:Option Z),ps++pcs (fW T' k y) (ms.drop i)=pcs (fW T' k y) ms/\(∀ r∈ps,r.w=[Z.str y])/\ps.length≤i/\Sm G G'/\G' f=some (.lst ((join ps).map a2C))/\σ=[some (.ref t),some (.ref p),some (.str y),some (.ref f),v1,v2]) ⟨[],_,_,rfl,(fun r h=>by simp at h),by simp,Sm.new hf,a0d,rfl⟩ (fun _ _ _ _ _=>True.intro) ?_ ?_
 ·rintro i u σ G' hu ⟨ps,v1,v2,hps,hpw,hpl,s,gf,rfl⟩;obtain⟨hi,rfl⟩:=a31 hu;rw[Int.zero_add];have hm:ms[i]?=some ms[i]:=List.getElem?_eq_getElem hi;generalize ms[i]=m at hm;have hjl:=a6J ps;have pa:=b76 (f:=fW T' k y) hm;have am:atI (ms.map Z.int) (i:Int)=some (.int m):=a1y (by rw[List.getElem?_map,hm];rfl);refine⟨_,rfl,?_⟩;walk_at "go";refine a1n (s _ _ gt) (a1y (by rw[List.getElem?_map,hm];rfl)) ?_;walk_at "go";refine b1L (a2e (by decide) (a4u (a53 ok) _)) (a5u hy) ?_;walk_at "go";refine ifD (fun c=>?_) fun c=>?_
  rotate_left
  ·walk_at "go";rw[show fW T' k y m=none by unfold fW;rw[if_neg c]]at pa;exact⟨ps,_,_,by rw[<- hps,pa];rfl,hpw,by omega,s,gf,rfl⟩
  rw[show fW T' k y m=some [.str y] by unfold fW;rw[if_pos c]]at pa;walk_at "go";refine⟨lenK rfl,fun n0 hn0=>?_⟩;have s1:Sm G (put G' n0 (.lst [.non])):=s.trans (Sm.new hn0);have gf1:=a0p (o:=.lst [.non]) gf hn0;refine b3J (s1 _ _ gp) a0d (a2F (by simp;omega)) fun n1 hn1=>?_;have s2:=s1.trans (Sm.new (o:=.lst (ms.map Z.int++[.non])) hn1);have gf2:=a0p (o:=.lst (ms.map Z.int++[.non])) gf1 hn1;have gn:put (put G' n0 (.lst [.non])) n1 (.lst (ms.map Z.int++[.non])) n1=some (.lst (ms.map Z.int++[.non])):=a0d;generalize put (put G' n0 (.lst [.non])) n1 (.lst (ms.map Z.int++[.non]))=G2 at s2 gf2 gn ⊢;walk_at "go";refine a1n gn (b77 hi) ?_;clear gn gf1 s1;walk_at "go";refine⟨lenK rfl,fun n2 hn2=>?_⟩;have s3:=s2.trans (Sm.new (o:=.lst []) hn2);have gf3:=a0p (o:=.lst []) gf2 hn2;have gn:put G2 n2 (.lst []) n2=some (.lst []):=a0d;generalize put G2 n2 (.lst [])=G3 at s3 gf3 gn ⊢;refine b04 gf3 gn b1X rfl ?_;have fin:∀ (L:List Rw) (G4:Hq),jn (join ps) ⟨m,ms[i+1]?,[.str y]⟩=L->Sm G G4->G4 f=some (.lst (L.map a2C))->∃ (ps:List Rw) (v1 v2:Option Z),ps++pcs (fW T' k y) (ms.drop (i+1))=pcs (fW T' k y) ms/\(∀ r∈ps,r.w=[Z.str y])/\ps.length≤i+1/\Sm G G4/\G4 f=some (.lst ((join ps).map a2C))/\[some (Z.ref t),some (.ref p),some (.str y),some (.ref f),some (.int (i:Int)),some (oz ms[i+1]?)]=[some (.ref t),some (.ref p),some (.str y),some (.ref f),v1,v2]:=fun L G4 e s4 g4=>by
   refine⟨ps++[⟨m,ms[i+1]?,[.str y]⟩],_,_,?_,fun r hr=>?_,by rw[List.length_append];simp;omega,s4,by rw[b1W,e];exact g4,rfl⟩
   ·rw[<- hps,pa,List.append_assoc]
   ·rcases List.mem_append.mp hr with hr | hr
    ·exact hpw r hr
    ·rw[List.mem_singleton.mp hr]
  cases hL:(join ps).getLast? with
  | none=>
   have ejn:jn (join ps) ⟨m,ms[i+1]?,[.str y]⟩=join ps++[⟨m,ms[i+1]?,[.str y]⟩]:=by unfold jn;rw[hL]
   rw[show decide ((join ps).map a2C=[])=true from decide_eq_true (by rw[List.getLast?_eq_none_iff.mp hL];rfl)];walk_at "go";refine ifF ?_;walk_at "go";refine a2T gf3 ?_;walk_at "go";refine a1n (s3 _ _ gp) am ?_;walk_at "go";refine⟨lenK rfl,?_⟩;walk_at "go";refine a1t gf3 (by rw[List.length_map];exact a0t (by omega)) ?_;exact fin _ _ ejn (s3.put hf) (by rw[a0d,List.map_append];rfl)
  | some r=>
   have hne:join ps≠[]:=fun z=>by rw[z]at hL;cases hL
   have hrw:r.w=[.str y]:=b78 hpw r (List.mem_of_getLast? hL);rw[show decide ((join ps).map a2C=[])=false from decide_eq_false (by simpa using hne)];have al:atI ((join ps).map a2C) (-1)=some (a2C r):=a6D (by rw[List.getLast?_map,hL];rfl);walk_at "go";refine ifT ?_;walk_at "go";refine a1n gf3 al ?_;unfold a2C;walk_at "go";refine a1n (s3 _ _ gp) am ?_;walk_at "go";refine b3U ?_;walk_at "go";refine ifD (fun ce=>?_) fun ce=>?_
   ·have ejn:jn (join ps) ⟨m,ms[i+1]?,[.str y]⟩=(join ps).dropLast++[⟨r.b,ms[i+1]?,[.str y]⟩]:=by unfold jn;rw[hL];simp[ce,hrw]
    walk_at "go";refine a1n gf3 al ?_;unfold a2C;walk_at "go";refine⟨lenK rfl,?_⟩;walk_at "go";refine b62 gf3 (a8d (by rw[List.length_map];exact List.length_pos_iff.mpr hne)) ?_;refine fin _ _ ejn (s3.put hf) ?_;rw[a0d,a81 (x:=a2C r) (by rw[List.getLast?_map,hL];rfl),List.map_append,<- List.map_dropLast];rfl
   ·have ejn:jn (join ps) ⟨m,ms[i+1]?,[.str y]⟩=join ps++[⟨m,ms[i+1]?,[.str y]⟩]:=by unfold jn;rw[hL];simp[ce]
    walk_at "go";refine a2T gf3 ?_;walk_at "go";refine a1n (s3 _ _ gp) am ?_;walk_at "go";refine⟨lenK rfl,?_⟩;walk_at "go";refine a1t gf3 (by rw[List.length_map];exact a0t (by omega)) ?_;exact fin _ _ ejn (s3.put hf) (by rw[a0d,List.map_append];rfl)
 ·rintro σ G' ⟨ps,v1,v2,hps,hpw,hpl,s,gf,rfl⟩;rw[a2b,List.drop_length,show pcs (fW T' k y) []=[] from rfl,List.append_nil]at hps;walk_at "go";rw[hps]at gf;exact q f G' hf s gf
def a4w (z:Z):Prop:=flat 0 z=true
theorem b1Z {z:Z}(h:a4w z) (n:Nat):flat n z=true:=a2e (Nat.zero_le _) h
def b10:P3:=fun ws G R=>∃ (f d:Addr) (us:List (List Z)),ws=[.ref f,.ref d]/\G f=some (.lst (us.map Z.tup))/\G d=some (.lst (us.map Z.tup))/\(∀ u∈us,u.length≤9/\∀ z∈u,a4w z)/\∀ G',Kq f G G'->R (.bl true) G'
theorem b3l {ws:List Z}{G:Hq}{R:K3}(h:b10 ws G R):ws.length=2:=by obtain⟨_,_,_,rfl,_⟩:=h;rfl
theorem a2j {us:List (List Z)}(h:∀ u∈us,u.length≤9/\∀ z∈u,a4w z):(us.map Z.tup).all (flat 8)=true:=by
 rw[List.all_eq_true];intro z hz;obtain⟨u,hu,rfl⟩:=List.mem_map.mp hz
 show u.all (flat 7)=true
 rw[List.all_eq_true];exact fun x hx=>b1Z ((h u hu).2 x hx) 7
theorem b5t (F:Fns K a) (T:Txt K mg a):FnOk P w K mg base CX0 1 a.f35 a.d35 ["found","due"] (lowP K b10):=by
 refine fn3 F.n35 sc_told (fun ws G R h=>(by exact b3l h)) (fun cdv A outer s H E ws G R hr h=>?_);have hu:=a0P hr;refine⟨_,(a0k (z_if (QW.qt (q_or (a2D (a23 (a0G a9C rfl T.b_isinstance rfl (a0b (a0c (pv 0)) (a0b (q_ty (a3Y (v:=.ty "list") rfl T.b_list rfl rfl)) a0i a0a) a0a) (he:=a0a) (hpl:=(a0g a0a a0j))))) (a44 (a0v (o_ne hu) (a0c (pv 0)) (a0c (pv 1)) (a0s _)))))
  (a0n (a0D q_bl))
  a08)
  (a0k (a24 (pt:=(.nm 2)) PassesOwn.never rfl (a0H (a0c (pv 0))) (show QP _ _ (.nm 2) from (a0o (i:=2) sc_told.nd rfl (Or.inl rfl)))
  (a0n (z_if (QW.qt (q_or (a2D (a23 (a0G a9C rfl T.b_isinstance rfl (a0b (a0c (pv 2)) (a0b (q_ty (a3Y (v:=.ty "tuple") rfl T.b_tuple rfl rfl)) a0i a0a) a0a) (he:=a0a) (hpl:=(a0g a0a a0j))))) (a44 (a0v (o_ne hu) (q_lc (N₀:=["found","due","row"]) (so:=a0f a8T) (N':=["part"]) (cap:=[none]) (pt:=(.nm 0)) rfl rfl rfl (by decide +kernel) rfl (b3B (a0c (pv 2))) (fun _ _ _ _=>(show QP _ _ (.nm 0) from (a0o (i:=0) b9r rfl (Or.inl rfl)))) (fun _ _ _ _=>(a3i (a23 (a0G a9C rfl T.b_isinstance rfl (a0b (a0c (pv 0)) (a0b (q_ty (a3Y (v:=.ty "bool") rfl T.b_bool rfl rfl)) a0i a0a) a0a) (he:=a0a) (hpl:=(a0g a0a a0j)))))) (fun _ _ _ _=>(a0c (pv 0)))) (a2L a0i) (a0s _)))))
  (a0n (a0D q_bl))
  a08)))
  (a0k (a0Q (b8E PySem.F.plainAttrs_list PySem.F.slot_list_clear PySem.F.type_list_clear b4E (a0c (pv 0))))
  (a0n (a0D q_bl))))),?_⟩
 obtain⟨f,d,us,rfl,gf,gd,hp,q⟩:=h;have fl:=a2j hp;walk_at "go";refine b4H (n:="list") (b:=true) (by simp[tyN,gf]) (by decide +kernel) ?_;walk_at "go";refine ifF ?_;walk_at "go";refine b04 gf gd fl fl ?_;walk_at "go";refine ifN (fun z=>absurd rfl z) fun _=>?_;walk_at "go";refine a1E gf ?_;refine a1k (fun i σ G'=>∃ v:Option Z,Sm G G'/\σ=[some (.ref f),some (.ref d),v]) ⟨_,Sm.refl _,rfl⟩ (by rintro i σ G' _ ⟨_,s,_⟩;exact s _ _ gf) ?_ ?_
 ·rintro i x σ G' hx ⟨v,s,rfl⟩;rw[List.getElem?_map]at hx;cases hx':us[i]? with
  | none=>rw[hx']at hx;cases hx
  | some u=>
  rw[hx']at hx;cases hx;obtain⟨hul,hup⟩:=hp u (List.mem_of_getElem? hx');refine⟨_,rfl,?_⟩;walk_at "go";refine b4H (n:="tuple") (b:=true) rfl (by decide +kernel) ?_;walk_at "go";refine ifF ?_;walk_at "go";intro D hD;refine b0U (fun _=>none) (fun _=>True.intro) (by omega) ?_ ?_
  ·intro x hm ys K1 K2 k1 k2
   have:=hup x hm
   refine⟨_,rfl,?_⟩;walk_at "go";obtain⟨n,en,kb⟩:∃ n,tyN (put G' D (.lst ys)) x=some n/\kit0 n "bool"=some false:=by
    cases x<;>first | exact⟨_,rfl,by decide +kernel⟩ | (simp[a4w,flat]at this;done)
   refine b4H en kb ?_;walk_at "go";exact k2 rfl
  ·have e:u.filterMap (fun _=>(none:Option Z))=[]:=by induction u with | nil=>rfl | cons _ _ _=>simp
   rw[e];walk_at "go";refine⟨lenK rfl,fun E hE=>?_⟩;refine b04 (a0p a0d hE) a0d rfl rfl ?_;walk_at "go";exact⟨_,(s.trans (Sm.new hD)).trans (Sm.new hE),rfl⟩
 ·rintro σ G' ⟨v,s,rfl⟩;walk_at "go";refine a2T (s _ _ gf) ?_;refine⟨_,s _ _ gf,?_⟩;walk_at "go";exact q _ fun b o e nb=>by rw[a0I nb];exact s _ _ e
def rowW (T:List Tl) (m:Int) (k:Str):Str×Z:=(k,a0R (a0U T k) m)
def b36:P3:=fun ws G R=>Ex5 fun (p ks:Addr) (T:List Tl) (kn:List Str) (m:Int)=>ws=[.ref p,.ref ks,.int m]/\G p=some (.lst (T.map Tl.z))/\G ks=some (.lst (kn.map Z.str))/\kn.length≤20/\∀ t sk G',G t=none->Sm G G'->sk.Perm kn->PyProof.Rows.sortedS sk=true->G' t=some (.lst ((sk.filterMap (sW T m)).map kwZ))->R (.ref t) G'
theorem b5u {ws:List Z}{G:Hq}{R:K3}(h:b36 ws G R):ws.length=3:=by obtain⟨_,_,_,_,_,rfl,_⟩:=h;rfl
theorem b79 (F:Fns K a) (T:Txt K mg a):FnOk P w K mg base CX0 3 a.f36 a.d36 ["tellings","keys","moment"] (lowP K b36):=by
 have G_worth:=a9j (P:=P) (w:=w) (base:=base) F T;refine fn3 F.n36 sc_all (fun ws G R h=>(by exact b5u h)) (fun cdv A outer s H E ws G R hr h=>?_);have hu:=a0P hr;refine⟨_,(a0k (a7V (i:=3) sc_all.nd rfl rfl (N₀:=["tellings","keys","moment","rows"]) (so:=a0f b1s) (N':=["key","tellings","moment"]) (cap:=[none,some 0,some 2]) (pt:=(.nm 0)) rfl rfl rfl (by decide +kernel) rfl (a0H (a0G a5d rfl T.b_sorted rfl (a0b (a0c (pv 1)) a0i a0a) (he:=a0a) (hpl:=a0j))) (fun _ _ _ _=>(show QP _ _ (.nm 0) from (a0o (i:=0) b9s rfl (Or.inl rfl)))) (fun _ _ _ _=>a14) (fun _ _ _ _=>(a13 (a0b (a0c (pv 0)) (a0b (a0u G_worth (hr.mono (by decide)) rfl T.m32 F.n32.kp (a8W F) (a0b (a0c (pv 1)) (a0b (a0c (pv 0)) (a0b (a0c (pv 2)) a0i a0a) a0a) a0a) (he:=a0a) (hpl:=(a0g a0a (a0g a0a a0j)))) a0i a0E) a0a))))
  (a0n (a0D (q_lc (N₀:=["tellings","keys","moment","rows"]) (so:=a0f b1s) (N':=["row"]) (cap:=[none]) (pt:=(.nm 0)) rfl rfl rfl (by decide +kernel) rfl (a0H (a0c (pv 3))) (fun _ _ _ _=>(show QP _ _ (.nm 0) from (a0o (i:=0) b7H rfl (Or.inl rfl)))) (fun _ _ _ _=>(a3i (a0v a34 (q_ix x_ix (a0c (pv 0)) a0h (fun _ _=>rfl)) a2o (a0s _)))) (fun _ _ _ _=>(a0c (pv 0))))))),?_⟩
 obtain⟨p,ks,T',kn,m,rfl,gp,gks,hkl,q⟩:=h;walk_at "go";refine a5e gks (by omega) fun S1 sk hS1 hperm hsort=>?_;have hsl:=hperm.length_eq;have g1:put G S1 (.lst (sk.map Z.str)) S1=some (.lst (sk.map Z.str)):=a0d;have s1:Sm G (put G S1 (.lst (sk.map Z.str))):=Sm.new hS1;generalize put G S1 (.lst (sk.map Z.str))=G1 at g1 s1 ⊢;walk_at "go";refine a1E g1 ?_;intro D hD;refine a6j (fun i ys G'=>ys=((sk.take i).map (rowW T' m)).map kwZ/\Sm G1 G'/\G' D=some (.lst ys)) ⟨by simp,Sm.new hD,a0d⟩ (by rintro i ys G' _ ⟨_,s,_⟩;exact s _ _ g1) ?_ ?_
 ·rintro i x ys G' hx ⟨rfl,s,gD⟩;rw[List.getElem?_map]at hx;cases hx':sk[i]? with
  | none=>rw[hx']at hx;cases hx
  | some k=>
  rw[hx']at hx;cases hx;have hi:=(List.getElem?_eq_some_iff.mp hx').1;refine⟨_,rfl,?_⟩;walk_at "go";refine⟨p,T',k,m,rfl,s _ _ (s1 _ _ gp),fun G2 s2=>?_⟩;walk_at "go";refine⟨lenK rfl,s2 _ _ gD,by rw[List.length_map,List.length_map,List.length_take];exact a0t (by omega),?_,(s.trans s2).put hD,a0d⟩;rw[take_snoc hx',List.map_append,List.map_append];rfl
 ·rintro ys G2 ⟨rfl,s,gD⟩;rw[List.length_map,List.take_length]at gD;walk_at "go";refine a1E gD ?_;intro E hE;refine a3s (l:=sk.map (rowW T' m)) (g:=kwZ) (g':=kwZ) a1O (fun ys=>a0p gD hE) (by rw[List.length_map];omega) ?_ ?_
  ·rintro⟨k,v⟩ hr ys K1 K2 k1 k2;unfold a1O at k1 k2;refine⟨_,rfl,?_⟩;unfold kwZ;walk_at "go";cases c:decide (v=Z.non) with
   | true=>
    rw[c]at k2;walk_at "go";exact k2 rfl
   | false=>
    rw[c]at k1;refine ifT ?_;walk_at "go";exact k1 _ rfl
  ·rw[List.filterMap_map];walk_at "go";exact q E sk _ (s1.free (s.free hE)) ((s1.trans s).trans (Sm.new hE)) hperm hsort a0d
structure RIn (a:Ad) (G:Hq) (p:Addr) (S:Addr->Prop) (T:List Tl) (q:Int) (tl ks wsA xA:Addr) (kn wn:List Str) (xs:List Int):Prop where
 sh:SheetV a.c_Sheet G p S T
 ok:OkT T
 few:Few T
 len:T.length≤63
 hq:inR T q
 gt:G tl=some (.lst ((T.take q.toNat).map Tl.z))
 gk:G ks=some (.lst (kn.map Z.str))
 gw:G wsA=some (.lst (wn.map Z.str))
 gx:G xA=some (.lst (xs.map Z.int))
 nt:¬ S tl
 nk:¬ S ks
 nw:¬ S wsA
 nx:¬ S xA
 kl:kn.length=4
 wl:wn.length=4
 hk:∀ s∈kn,nmOk s
 hw:∀ s∈wn,nmOk s
 nd:kn.Nodup
 km:∀ τ∈T,τ.key∈kn
 xl:xs.length=12
 xb:∀ x∈xs,0≤x/\x<1000000007
theorem RIn.keep {a:Ad}{G G':Hq}{p:Addr}{S:Addr->Prop}{T:List Tl}{q:Int}{tl ks wsA xA:Addr}{kn wn:List Str}{xs:List Int}(I:RIn a G p S T q tl ks wsA xA kn wn xs) (k:KN S G G') (sh:SheetV a.c_Sheet G' p S T):RIn a G' p S T q tl ks wsA xA kn wn xs:=
 ⟨sh,I.ok,I.few,I.len,I.hq,k _ _ I.nt I.gt,k _ _ I.nk I.gk,k _ _ I.nw I.gw,k _ _ I.nx I.gx,I.nt,I.nk,I.nw,I.nx,I.kl,I.wl,I.hk,I.hw,I.nd,I.km,I.xl,I.xb⟩
theorem RIn.sm {a:Ad}{G G':Hq}{p:Addr}{S:Addr->Prop}{T:List Tl}{q:Int}{tl ks wsA xA:Addr}{kn wn:List Str}{xs:List Int}(I:RIn a G p S T q tl ks wsA xA kn wn xs) (s:Sm G G'):RIn a G' p S T q tl ks wsA xA kn wn xs:=I.keep (Sm.kn s) (I.sh.keep (Sm.ks s))
theorem SheetV.out {C:Addr}{G:Hq}{p t:Addr}{S:Addr->Prop}{T:List Tl}(h:SheetV C G p S T) (e:G t=none):¬ S t:=fun z=>by
 obtain⟨_,_,_,m⟩:=h;obtain⟨o,e'⟩:=m.al t z;rw[e]at e';cases e'
theorem askd {C:Addr}{G G5 G6:Hq}{p f:Addr}{S:Addr->Prop}{T:List Tl}(sh:SheetV C G p S T) (hf:G f=none) (kn:KN S G G5) (sh5:SheetV C G5 p S T) (k:Kq f G5 G6):KN S G G6/\SheetV C G6 p S T:=
 ⟨fun b o nb e=>k b o (kn b o nb e) (a07 e hf),sh5.keep fun b o hb e=>k b o e fun z=>sh.out hf (by rw[<- z];exact hb)⟩
def a9k (a:Ad):P3:=fun ws G R=>Ex11 fun (p:Addr) (S:Addr->Prop) (T:List Tl) (q:Int) (tl ks wsA xA:Addr) (kn wn:List Str) (xs:List Int)=>ws=[.ref p,.ref tl,.ref ks,.ref wsA,.int q,.ref xA]/\RIn a G p S T q tl ks wsA xA kn wn xs/\∀ G',KN S G G'->SheetV a.c_Sheet G' p S T->R (.bl true) G'
theorem b11 {a:Ad}{ws:List Z}{G:Hq}{R:K3}(h:a9k a ws G R):ws.length=6:=by obtain⟨_,_,_,_,_,_,_,_,_,_,_,rfl,_⟩:=h;rfl
def kwU (v:Str×Z):List Z:=[.str v.1,v.2]
def trU (v:Str×Rw):List Z:=[.str v.1,.int v.2.b,oz v.2.e]
def pairU (r:Rw):List Z:=[.int r.b,oz r.e]
theorem b12 (l:List (Str×Z)):l.map kwZ=(l.map kwU).map Z.tup:=by rw[List.map_map];rfl
theorem b13 (l:List (Str×Rw)):l.map trZ=(l.map trU).map Z.tup:=by rw[List.map_map];rfl
theorem a9l (l:List Rw):l.map a2C=(l.map pairU).map Z.tup:=by rw[List.map_map];rfl
theorem b14 {e:Option Int}:a4w (oz e):=by cases e<;>rfl
theorem b3m {T:List Tl}{m:Int}{sk kn:List Str}(ok:OkT T) (hp:sk.Perm kn) (hk:∀ s∈kn,nmOk s):∀ u∈(sk.filterMap (sW T m)).map kwU,u.length≤9/\∀ z∈u,a4w z:=fun u hu=>by
 obtain⟨v,hv,rfl⟩:=List.mem_map.mp hu;obtain⟨k,h1,h2⟩:=List.mem_filterMap.mp hv;unfold sW a1O at h2
 split at h2
 ·cases h2
 ·cases h2;refine⟨Nat.le_of_ble_eq_true rfl,fun z hz=>?_⟩;unfold kwU at hz;simp only[List.mem_cons,List.not_mem_nil,or_false]at hz;rcases hz with rfl | rfl
  ·exact a5u (hk k (hp.mem_iff.mp h1))
  ·exact a4u (a53 ok) _
theorem a94 {L:List Rw}:∀ u∈L.map pairU,u.length≤9/\∀ z∈u,a4w z:=fun u hu=>by
 obtain⟨v,hv,rfl⟩:=List.mem_map.mp hu;refine⟨Nat.le_of_ble_eq_true rfl,fun z hz=>?_⟩;unfold pairU at hz;simp only[List.mem_cons,List.not_mem_nil,or_false]at hz;rcases hz with rfl | rfl
 ·rfl
 ·exact b14
theorem b3n {T:List Tl}{y:Str}{ms:List Int}{sk kn:List Str}(hp:sk.Perm kn) (hk:∀ s∈kn,nmOk s):∀ u∈(sk.flatMap (whoF T y ms)).map trU,u.length≤9/\∀ z∈u,a4w z:=fun u hu=>by
 obtain⟨v,hv,rfl⟩:=List.mem_map.mp hu;obtain⟨k,h1,h2⟩:=List.mem_flatMap.mp hv;unfold whoF at h2;obtain⟨r,h3,rfl⟩:=List.mem_map.mp h2;refine⟨Nat.le_of_ble_eq_true rfl,fun z hz=>?_⟩;unfold trU at hz;simp only[List.mem_cons,List.not_mem_nil,or_false]at hz;rcases hz with rfl | rfl | rfl
 ·exact a5u (hk k (hp.mem_iff.mp h1))
 ·rfl
 ·exact b14
theorem b15 {T:List Tl}{y:Str}{ms:List Int}{k:Str}:(whoF T y ms k).length≤ms.length:=by
 unfold whoF;rw[List.length_map];exact Nat.le_trans (a6J _) (a4d _ _)
theorem a9m {T:List Tl}{y:Str}{ms:List Int}:∀ {sk:List Str},(sk.flatMap (whoF T y ms)).length≤sk.length*ms.length
 | []=>by simp
 | k::sk=>by
  have:=a9m (T:=T) (y:=y) (ms:=ms) (sk:=sk)
  have:=b15 (T:=T) (y:=y) (ms:=ms) (k:=k)
  rw[List.flatMap_cons,List.length_append,List.length_cons,Nat.add_mul];omega
def b5v (G:Hq) (S:Addr->Prop) (d:Addr) (T:List Tl) (ms:List Int) (ks:List Str) (kvs:List (Key×Z)):Prop:=∀ k∈ks,∃ l,valZ kvs (.inr k)=some (.ref l)/\l≠d/\¬ S l/\G l=some (.lst (ms.map fun t=>a0R (a0U T k) t))
theorem b3o (F:Fns K a) (T:Txt K mg a):FnOk P w K mg base CX0 6 a.f37 a.d37 ["sheet","tellings","keys","worths","knowing","xs"] (lowP K (a9k a)):=by
 have G_points:=b1V (P:=P) (w:=w) (base:=base) F T;have G_all:=b79 (P:=P) (w:=w) (base:=base) F T;have G_worth:=a9j (P:=P) (w:=w) (base:=base) F T;have G_when:=b5s (P:=P) (w:=w) (base:=base) F T;have G_told:=b5t (P:=P) (w:=w) (base:=base) F T;have G_p_all_at:=a8l (P:=P) (w:=w) (base:=base) F T;have G_p_who:=b3f (P:=P) (w:=w) (base:=base) F T;have G_p_when:=a7I (P:=P) (w:=w) (base:=base) F T;refine fn3 F.n37 sc_right (fun ws G R h=>(by exact b11 h)) (fun cdv A outer s H E ws G R hr h=>?_);have hu:=a0P hr;refine⟨_,(a0k (z_set (i:=6) sc_right.nd rfl (Or.inl rfl) (a0u G_points (hr.mono (by decide)) rfl T.m33 F.n33.kp (b1t F) (a0b (a0c (pv 1)) a0i a0a) (he:=a0a) (hpl:=a0j)))
  (a0k (a24 (pt:=(.nm 7)) PassesOwn.never rfl (a2Z rfl T.b_range (a0b a0h a0i a0e)) (show QP _ _ (.nm 7) from (a0o (i:=7) sc_right.nd rfl (Or.inl rfl)))
  (a0k (z_set (i:=8) sc_right.nd rfl (Or.inl rfl) (q_ix x_ix (a0c (pv 6)) (q_op a09 (q_ix x_ix (a0c (pv 5)) (a0c (pv 7)) (fun _ _=>rfl)) (a0G b_len rfl T.b_len PySem.boot_len (a0b (a0c (pv 6)) a0i a0a) (he:=a0a) (hpl:=a0j))) (fun _ _=>rfl)))
  (a6Y (z_if (a0v o_gt (a0c (pv 7)) a0h (a0s _))
  (a0n (z_set (i:=8) sc_right.nd rfl (Or.inl rfl) (q_ix x_ix (a2L (a0b (a0G (b_max rfl) rfl T.b_max rfl (a0b a0h (a0b (q_op a9B (a0c (pv 8)) a0h) a0i a0N) a0e) (he:=a0e) (hpl:=(a0g a0N a0j))) (a0b (q_op a09 (q_op a7W (q_ix x_ix (a0c (pv 5)) (a0c (pv 7)) (fun _ _=>rfl)) a0h) (q_op a1c (q_op a33 a0h a0h) a0h)) a0i a0N) a0E)) (q_op a9B (a0c (pv 7)) a0h) (fun _ _=>rfl))))
  a08)
  (a0k (z_set (i:=9) sc_right.nd rfl (Or.inl rfl) (a0u G_all (hr.mono (by decide)) rfl T.m36 F.n36.kp (b7N F) (a0b (a0c (pv 1)) (a0b (a0c (pv 2)) (a0b (a0c (pv 8)) a0i a0a) a0a) a0a) (he:=a0a) (hpl:=(a0g a0a (a0g a0a a0j)))))
  (a0n (z_if (QW.qt (q_or (a2D (a23 (a0u G_told (hr.mono (by decide)) rfl T.m35 F.n35.kp (a8b F) (a0b (a1a a1g up0 G_p_all_at (hr.mono (by decide)) rfl T.m19 F.n19.kp (a5n F) (a0b (a0c (pv 0)) (a0b (a0c (pv 8)) (a0b (a0c (pv 4)) a0i a0a) a0a) a0a) (he:=a0a) (hpl:=(a0g a0a (a0g a0a a0j)))) (a0b (a0c (pv 9)) a0i a0a) a0E) (he:=a0E) (hpl:=(a0g a0a a0j))))) (a44 (a0v (o_ne hu) (a1a a1g up0 G_p_all_at (hr.mono (by decide)) rfl T.m19 F.n19.kp (a5n F) (a0b (a0c (pv 0)) (a0b (a0c (pv 8)) (a0b (a0c (pv 4)) a0i a0a) a0a) a0a) (he:=a0a) (hpl:=(a0g a0a (a0g a0a a0j)))) (a0c (pv 9)) (a0s _)))))
  (a0n (a0D q_bl))
  a08))))))
  (a0k (z_set (i:=10) sc_right.nd rfl (Or.inl rfl) b3H)
  (a0k (a24 (pt:=(.nm 11)) PassesOwn.never rfl (a0H (a0c (pv 2))) (show QP _ _ (.nm 11) from (a0o (i:=11) sc_right.nd rfl (Or.inr rfl)))
  (a0n (b0P (q_lc (N₀:=["sheet","tellings","keys","worths","knowing","xs","points","k","moment","due","there","key","worth","rows"]) (so:=a0f a5j) (N':=["point","tellings","key"]) (cap:=[none,some 1,some 11]) (pt:=(.nm 0)) rfl rfl rfl (by decide +kernel) rfl (a0H (a0c (pv 6))) (fun _ _ _ _=>(show QP _ _ (.nm 0) from (a0o (i:=0) b7I rfl (Or.inl rfl)))) (fun _ _ _ _=>a14) (fun _ _ _ _=>(a0u G_worth (hr.mono (by decide)) rfl T.m32 F.n32.kp (a8W F) (a0b (a0c (pv 1)) (a0b (a0c (pv 2)) (a0b (a0c (pv 0)) a0i a0a) a0a) a0a) (he:=a0a) (hpl:=(a0g a0a (a0g a0a a0j)))))) (a0c (pv 10)) (a0c (pv 11)) (b7l hu))))
  (a0k (a24 (pt:=(.nm 12)) PassesOwn.never rfl (a0H (a0c (pv 3))) (show QP _ _ (.nm 12) from (a0o (i:=12) sc_right.nd rfl (Or.inl rfl)))
  (a0k (z_set (i:=13) sc_right.nd rfl (Or.inl rfl) (a2L a0i))
  (a0k (a24 (pt:=(.nm 11)) PassesOwn.never rfl (a0H (a0G a5d rfl T.b_sorted rfl (a0b (a0c (pv 2)) a0i a0a) (he:=a0a) (hpl:=a0j))) (show QP _ _ (.nm 11) from (a0o (i:=11) sc_right.nd rfl (Or.inr rfl)))
  (a0k (z_set (i:=9) sc_right.nd rfl (Or.inl rfl) (a0u G_when (hr.mono (by decide)) rfl T.m34 F.n34.kp (b46 F) (a0b (q_ix b9g (a0c (pv 10)) (a0c (pv 11)) (fun _ _=>rfl)) (a0b (a0c (pv 6)) (a0b (a0c (pv 12)) a0i a0a) a0a) a0l) (he:=a0l) (hpl:=(a0g a0a (a0g a0a a0j)))))
  (a0k (a0Q (q_bm PySem.F.plainAttrs_list PySem.F.slot_list_extend PySem.F.type_list_extend a8A (a0c (pv 13)) (a0b (q_lc (N₀:=["sheet","tellings","keys","worths","knowing","xs","points","k","moment","due","there","key","worth","rows"]) (so:=a0f a5j) (N':=["begin","end","key"]) (cap:=[none,none,some 11]) (pt:=(.tp [0,1])) rfl rfl rfl (by decide +kernel) rfl (a0H (a0c (pv 9))) (fun _ _ _ _=>(show QP _ _ (.tp [0,1]) from (a3x rfl (a0z (a0o (i:=0) b3T rfl (Or.inl rfl)) (a0z (a0o (i:=1) b3T rfl (Or.inl rfl)) a2k))))) (fun _ _ _ _=>a14) (fun _ _ _ _=>(a13 (a0b (a0c (pv 2)) (a0b (a0c (pv 0)) (a0b (a0c (pv 1)) a0i a0a) a0a) a0a)))) a0i a1m)))
  (a0n (z_if (a2D (a23 (a0u G_told (hr.mono (by decide)) rfl T.m35 F.n35.kp (a8b F) (a0b (a1a a1g up0 G_p_when (hr.mono (by decide)) rfl T.m21 F.n21.kp (a7p F) (a0b (a0c (pv 0)) (a0b (a0c (pv 11)) (a0b (a0c (pv 12)) (a0b (a0c (pv 4)) a0i a0a) a0a) a0a) a0a) (he:=a0a) (hpl:=(a0g a0a (a0g a0a (a0g a0a a0j))))) (a0b (a0c (pv 9)) a0i a0a) a0E) (he:=a0E) (hpl:=(a0g a0a a0j)))))
  (a0n (a0D q_bl))
  a08)))))
  (a0n (z_if (QW.qt (q_or (a2D (a23 (a0u G_told (hr.mono (by decide)) rfl T.m35 F.n35.kp (a8b F) (a0b (a1a a1g up0 G_p_who (hr.mono (by decide)) rfl T.m22 F.n22.kp (a8U F) (a0b (a0c (pv 0)) (a0b (a0c (pv 12)) (a0b (a0c (pv 4)) a0i a0a) a0a) a0a) (he:=a0a) (hpl:=(a0g a0a (a0g a0a a0j)))) (a0b (a0c (pv 13)) a0i a0a) a0E) (he:=a0E) (hpl:=(a0g a0a a0j))))) (a44 (a0v (o_ne hu) (a1a a1g up0 G_p_who (hr.mono (by decide)) rfl T.m22 F.n22.kp (a8U F) (a0b (a0c (pv 0)) (a0b (a0c (pv 12)) (a0b (a0c (pv 4)) a0i a0a) a0a) a0a) (he:=a0a) (hpl:=(a0g a0a (a0g a0a a0j)))) (a0c (pv 13)) (a0s _)))))
  (a0n (a0D q_bl))
  a08)))))
  (a0n (a0D q_bl))))))),?_⟩
 obtain⟨p,S,T',q,tl,ks,wsA,xA,kn,wn,xs,rfl,I,fin⟩:=h;have okq:OkT (T'.take q.toNat):=fun τ h=>I.ok τ (List.mem_of_mem_take h);have kmq:∀ τ∈T'.take q.toNat,τ.key∈kn:=fun τ h=>I.km τ (List.mem_of_mem_take h);have lq:(T'.take q.toNat).length≤63:=by rw[List.length_take];have:=I.len;omega
 have hkl:=I.kl;walk_at "go";refine⟨tl,T'.take q.toNat,rfl,I.gt,okq,by omega,fun pt ms G1 hpt s1 gpt P hin hml=>?_⟩;have npt:¬ S pt:=I.sh.out hpt;have I1:=I.sm s1;have hm0:0<ms.length:=List.length_pos_of_mem P.z;have fin1:∀ G',KN S G1 G'->SheetV a.c_Sheet G' p S T'->R (.bl true) G':=fun G' k=>fin G' ((Sm.kn s1).trans k);clear fin I s1;walk_at "go";refine⟨by decide,by decide,?_⟩;refine a1k (fun i σ G'=>∃ (v1 v2 v3:Option Z),KN S G1 G'/\SheetV a.c_Sheet G' p S T'/\σ=[some (.ref p),some (.ref tl),some (.ref ks),some (.ref wsA),some (.int q),some (.ref xA),some (.ref pt),v1,v2,v3,none,none,none,none]) ⟨_,_,_,fun _ _ _ e=>e,I1.sh,rfl⟩ (fun _ _ _ _ _=>True.intro) ?_ ?_
 ·rintro i u σ G2 hu ⟨v1,v2,v3,kn2,sh2,rfl⟩;obtain⟨hi,rfl⟩:=a31 hu;have hi:i<6:=hi;rw[Int.zero_add];have I2:=I1.keep kn2 sh2;have gpt2:=kn2 _ _ npt gpt;have xl:=I2.xl;obtain⟨x,ex,hx⟩:=b30 (xs:=xs) (k:=(i:Int)) (by omega) (by omega);obtain⟨x0,x1⟩:=I2.xb x hx;have hlp:(0:Int)<((ms.map Z.int).length:Int):=by rw[List.length_map];omega
  obtain⟨m0,em0,hm0'⟩:=b30 (xs:=ms) (k:=x % ((ms.map Z.int).length:Int)) (Int.emod_nonneg _ (by omega)) (by have:=Int.emod_lt_of_pos x hlp;rw[List.length_map]at this ⊢;exact this);refine⟨_,rfl,?_⟩;walk_at "go";refine a1n I2.gx ex ?_;walk_at "go";refine a5S gpt2 ?_;walk_at "go";refine i_I hlp ?_;walk_at "go";refine a1n gpt2 em0 ?_;have im0:=hin m0 hm0';walk_at "go";refine a61 (fun σ' G''=>∃ m:Int,inT m/\Sm G2 G''/\σ'=[some (.ref p),some (.ref tl),some (.ref ks),some (.ref wsA),some (.int q),some (.ref xA),some (.ref pt),some (.int (i:Int)),some (.int m),v3,none,none,none,none]) ?_ ?_
  ·walk_at "go";refine ifD (fun c=>?_) fun c=>?_
   ·walk_at "go";refine a1n I2.gx ex ?_;walk_at "go";refine i_I (.inl ⟨by omega,by omega⟩) ?_;walk_at "go";refine⟨lenK rfl,fun A hA=>?_⟩;walk_at "go";have h45:i=4\/i=5:=by omega
    have b0:inT (if m0 - 1 > 0 then m0 - 1 else 0):=by
     obtain⟨h1,h2⟩:=im0;unfold T12 at h2;unfold inT T12
     split<;>omega
    have b1:inT (x*1000 % (1000000000000+1)):=⟨Int.emod_nonneg _ (by decide),by have:=Int.emod_lt_of_pos (x*1000) (show (0:Int)<1000000000000+1 by decide);unfold T12;omega⟩;rcases h45 with rfl | rfl
    ·refine a1n a0d rfl ?_;walk_at "go";exact⟨_,b0,Sm.new hA,rfl⟩
    ·refine a1n a0d rfl ?_;walk_at "go";exact⟨_,b1,Sm.new hA,rfl⟩
   ·walk_at "go";exact⟨m0,im0,Sm.refl _,rfl⟩
  ·rintro σ' G3 ⟨m,hm,s3,rfl⟩;have I3:=I2.sm s3;walk_at "go";refine⟨tl,ks,T'.take q.toNat,kn,m,rfl,I3.gt,I3.gk,by omega,fun d sk G4 hd s4 hperm hsort gd=>?_⟩;have I4:=I3.sm s4;have nd':¬ S d:=I3.sh.out hd;have prt:=b3m (m:=m) okq hperm I4.hk;rw[b12]at gd;walk_at "go";refine⟨p,S,T',m,q,rfl,I4.sh,I4.ok,I4.few,.inl ⟨I4.hq,b31 hm,fun f ts G5 hf kn5 sh5 ka gf=>?_⟩⟩;rw[b33 okq kmq I4.nd hperm hsort ka,b12]at gf;walk_at "go";refine⟨f,d,_,rfl,gf,kn5 _ _ nd' gd,prt,fun G6 k6=>?_⟩;obtain⟨kn6,sh6⟩:=askd I4.sh hf kn5 sh5 k6;walk_at "go";refine ifF ?_;walk_at "go";refine⟨p,S,T',m,q,rfl,sh6,I4.ok,I4.few,.inl ⟨I4.hq,b31 hm,fun f2 ts2 G7 hf2 kn7 sh7 ka2 gf2=>?_⟩⟩;rw[b33 okq kmq I4.nd hperm hsort ka2,b12]at gf2;walk_at "go";refine b04 gf2 (kn7 _ _ nd' (kn6 _ _ nd' gd)) (a2j prt) (a2j prt) ?_;walk_at "go";refine ifN (fun z=>absurd rfl z) fun _=>?_;walk_at "go";exact⟨_,_,_,kn2.trans ((Sm.kn (s3.trans s4)).trans (kn6.trans kn7)),sh7,rfl⟩
 ·rintro σ G2 ⟨v1,v2,v3,kn2,sh2,rfl⟩;have I2:=I1.keep kn2 sh2;have gpt2:=kn2 _ _ npt gpt;have fin2:∀ G',KN S G2 G'->SheetV a.c_Sheet G' p S T'->R (.bl true) G':=fun G' k=>fin1 G' (kn2.trans k);clear fin1 kn2 I1 gpt sh2;walk_at "go";intro d hd;have nd':¬ S d:=I2.sh.out hd;have gd:put G2 d (.dK []) d=some (.dK []):=a0d;have sd:Sm G2 (put G2 d (.dK [])):=Sm.new hd;generalize put G2 d (.dK [])=G3 at gd sd ⊢;walk_at "go";refine a1E (sd _ _ I2.gk) ?_;refine a1k (fun i σ G'=>∃ (v4:Option Z) (kvs:List (Key×Z)),KN S G2 G'/\SheetV a.c_Sheet G' p S T'/\G' d=some (.dK kvs)/\kvs.length≤i/\b5v G' S d (T'.take q.toNat) ms (kn.take i) kvs/\σ=[some (.ref p),some (.ref tl),some (.ref ks),some (.ref wsA),some (.int q),some (.ref xA),some (.ref pt),v1,v2,v3,some (.ref d),v4,none,none]) ⟨_,[],Sm.kn sd,I2.sh.keep (Sm.ks sd),gd,Nat.le_refl _,(fun k h=>by simp at h),rfl⟩ (by rintro i σ G' _ ⟨_,_,k,_⟩;exact k _ _ I2.nk I2.gk) ?_ ?_
  ·rintro i u σ G4 hu ⟨v4,kvs,kn4,sh4,gd4,hkv,th,rfl⟩;rw[List.getElem?_map]at hu;cases hu':kn[i]? with
   | none=>rw[hu']at hu;cases hu
   | some k=>
   rw[hu']at hu;cases hu;have hi:=(List.getElem?_eq_some_iff.mp hu').1;have I4:=I2.keep kn4 sh4;have gpt4:=kn4 _ _ npt gpt2;refine⟨_,rfl,?_⟩;walk_at "go";refine a1E gpt4 ?_;intro D hD;refine a6j (fun j ys G'=>ys=(ms.take j).map (fun t=>a0R (a0U (T'.take q.toNat) k) t)/\Sm G4 G'/\G' D=some (.lst ys)) ⟨by simp,Sm.new hD,a0d⟩ (by rintro i ys G' _ ⟨_,s,_⟩;exact s _ _ gpt4) ?_ ?_
   ·rintro j x ys G5 hx ⟨rfl,s5,gD⟩;rw[List.getElem?_map]at hx;cases hx':ms[j]? with
    | none=>rw[hx']at hx;cases hx
    | some m=>
    rw[hx']at hx;cases hx;have hj:=(List.getElem?_eq_some_iff.mp hx').1;refine⟨_,rfl,?_⟩;walk_at "go";refine⟨tl,T'.take q.toNat,k,m,rfl,s5 _ _ I4.gt,fun G6 s6=>?_⟩;refine⟨s6 _ _ gD,by rw[List.length_map,List.length_take];exact a0t (by omega),?_,(s5.trans s6).put hD,a0d⟩;rw[take_snoc hx',List.map_append];rfl
   ·rintro ys G5 ⟨rfl,s5,gD⟩;rw[List.length_map,List.take_length]at gD;have gd5:=s5 _ _ gd4;have nD:¬ S D:=sh4.out hD;have neD:D≠d:=fun z=>by rw[z,gd4]at hD;cases hD
    walk_at "go";refine b7m gd5 rfl (a0t (by omega)) ?_;walk_at "go";have kq:∀ b o,b≠d->G4 b=some o->put G5 d (.dK (putZ kvs (.inr k) (.ref D))) b=some o:=fun b o nb e=>by rw[a0I nb];exact s5 _ _ e
    refine⟨_,putZ kvs (.inr k) (.ref D),fun b o nb e=>kq b o (fun z=>by rw[z,hd]at e;cases e) (kn4 b o nb e),sh4.keep fun b o hb e=>kq b o (fun z=>nd' (by rw[<- z];exact hb)) e,a0d,by have:=a88 (kvs:=kvs) (k:=.inr k) (v:=.ref D);omega,fun k' hk'=>?_,rfl⟩;rw[take_snoc hu']at hk';rw[a4W]
    by_cases c:k'=k
    ·subst c;exact⟨D,if_pos rfl,neD,nD,by rw[a0I neD];exact gD⟩
    ·rw[if_neg (fun z=>c (by injection z))];rcases List.mem_append.mp hk' with h | h
     ·obtain⟨l,h1,h2,h3,h4⟩:=th k' h;exact⟨l,h1,h2,h3,kq _ _ h2 h4⟩
     ·exact absurd (List.mem_singleton.mp h) c
  ·rintro σ G4 ⟨v4,kvs,kn4,sh4,gd4,hkv,th,rfl⟩;rw[List.length_map,List.take_length]at th;have I4:=I2.keep kn4 sh4;have gpt4:=kn4 _ _ npt gpt2;have fin4:∀ G',KN S G4 G'->SheetV a.c_Sheet G' p S T'->R (.bl true) G':=fun G' k=>fin2 G' (kn4.trans k);clear fin2 kn4 I2 gpt2 sh4 gd sd hd;walk_at "go";refine a1E I4.gw ?_;refine a1k (fun i σ G'=>Ex4 fun (v3 v4 v5 v6:Option Z)=>KN S G4 G'/\SheetV a.c_Sheet G' p S T'/\σ=[some (.ref p),some (.ref tl),some (.ref ks),some (.ref wsA),some (.int q),some (.ref xA),some (.ref pt),v1,v2,v3,some (.ref d),v4,v5,v6]) ⟨_,_,_,_,fun _ _ _ e=>e,I4.sh,rfl⟩ (by rintro i σ G' _ ⟨_,_,_,_,k,_⟩;exact k _ _ I4.nw I4.gw) ?_ ?_
   ·rintro i u σ G5 hu ⟨v3,v4,v5,v6,kn5,sh5,rfl⟩;rw[List.getElem?_map]at hu;cases hu':wn[i]? with
    | none=>rw[hu']at hu;cases hu
    | some y=>
    rw[hu']at hu;cases hu;have hy:=I4.hw y (List.mem_of_getElem? hu');have I5:=I4.keep kn5 sh5;refine⟨_,rfl,?_⟩;walk_at "go";refine⟨lenK rfl,fun W hW=>?_⟩;have nW:¬ S W:=sh5.out hW;have gW:put G5 W (.lst []) W=some (.lst []):=a0d;have sW':Sm G5 (put G5 W (.lst [])):=Sm.new hW;generalize put G5 W (.lst [])=G6 at gW sW' ⊢;walk_at "go";refine a5e (sW' _ _ I5.gk) (by omega) fun Q sk hQ hperm hsort=>?_;have hsl:=hperm.length_eq;have gQ:put G6 Q (.lst (sk.map Z.str)) Q=some (.lst (sk.map Z.str)):=a0d;have gW7:=a0p (o:=.lst (sk.map Z.str)) gW hQ;have nQW:Q≠W:=Ne.symm (a07 gW hQ);have s7:Sm G5 (put G6 Q (.lst (sk.map Z.str))):=sW'.trans (Sm.new hQ);generalize put G6 Q (.lst (sk.map Z.str))=G7 at gQ gW7 s7 ⊢;have nQ:¬ S Q:=sh5.out (sW'.free hQ);walk_at "go";refine a1E gQ ?_;refine a1k (fun j σ G'=>∃ (v3 v4:Option Z),(∀ b o,¬ S b->b≠W->G7 b=some o->G' b=some o)/\SheetV a.c_Sheet G' p S T'/\G' W=some (.lst (((sk.take j).flatMap (whoF (T'.take q.toNat) y ms)).map trZ))/\σ=[some (.ref p),some (.ref tl),some (.ref ks),some (.ref wsA),some (.int q),some (.ref xA),some (.ref pt),v1,v2,v3,some (.ref d),v4,some (.str y),some (.ref W)]) ⟨_,_,fun _ _ _ _ e=>e,sh5.keep (Sm.ks s7),gW7,rfl⟩ (by rintro i σ G' _ ⟨_,_,k,_⟩;exact k _ _ nQ nQW gQ) ?_ ?_
    ·rintro j u σ G8 hu ⟨v3,v4,k8,sh8,gW8,rfl⟩;rw[List.getElem?_map]at hu;cases hu':sk[j]? with
     | none=>rw[hu']at hu;cases hu
     | some k=>
     rw[hu']at hu;cases hu;have hj:=(List.getElem?_eq_some_iff.mp hu').1;have hkn:k∈kn:=hperm.mem_iff.mp (List.mem_of_getElem? hu');have hk:=I4.hk k hkn;have kn8:KN S G5 G8:=fun b o nb e=>k8 b o nb (fun z=>by rw[z,hW]at e;cases e) (s7 _ _ e);have I8:=I5.keep kn8 sh8;have kn48:=kn5.trans kn8;obtain⟨l,hv,hld,hlS,gl⟩:=th k hkn;have wl:=a9m (T:=T'.take q.toNat) (y:=y) (ms:=ms) (sk:=sk.take j);have wl1:=b15 (T:=T'.take q.toNat) (y:=y) (ms:=ms) (k:=k);have wl2:(sk.take j).length≤4:=by rw[List.length_take];omega
     have wl3:=Nat.mul_le_mul wl2 (Nat.le_refl ms.length);refine⟨_,rfl,?_⟩;walk_at "go";refine b9h (kn48 _ _ nd' gd4) rfl hv ?_;walk_at "go";refine⟨l,pt,T'.take q.toNat,k,y,ms,rfl,kn48 _ _ hlS gl,kn48 _ _ npt gpt4,okq,hy,by omega,fun u G9 hu s9 gu=>?_⟩;have gW9:=s9 _ _ gW8;have nu:¬ S u:=sh8.out hu;have nuW:u≠W:=fun z=>by rw[z,gW8]at hu;cases hu
     walk_at "go";refine a2T gW9 ?_;walk_at "go";refine a1E gu ?_;intro D hD;have nDW:D≠W:=Ne.symm (a07 gW9 hD);refine a3s (g:=a2C) (g':=trZ) (fun r=>some (k,r)) (fun ys=>a0p gu hD) (by have:=a6J (pcs (fW (T'.take q.toNat) k y) ms);have:=a4d (fW (T'.take q.toNat) k y) ms;omega) ?_ ?_
     ·rintro r hr ys K1 K2 k1 k2;unfold a2C;refine⟨_,rfl,?_⟩;walk_at "go";exact⟨lenK rfl,k1 _ rfl⟩
     ·have ef:(join (pcs (fW (T'.take q.toNat) k y) ms)).filterMap (fun r=>some (k,r))=whoF (T'.take q.toNat) y ms k:=by unfold whoF;rw[<- List.filterMap_eq_map];rfl
      rw[ef];walk_at "go";refine a8C (a0p gW9 hD) a0d (Nat.le_of_lt (sz10 ?_)) ?_
      ·rw[List.length_map,List.length_map];omega
      have gW10:put (put G9 D (.lst ((whoF (T'.take q.toNat) y ms k).map trZ))) W (.lst (((sk.take j).flatMap (whoF (T'.take q.toNat) y ms)).map trZ++(whoF (T'.take q.toNat) y ms k).map trZ)) W=some (.lst (((sk.take (j+1)).flatMap (whoF (T'.take q.toNat) y ms)).map trZ)):=by
       rw[a0d,take_snoc hu',List.flatMap_append,List.map_append];simp
      have k10:∀ b o,b≠W->G8 b=some o->put (put G9 D (.lst ((whoF (T'.take q.toNat) y ms k).map trZ))) W (.lst (((sk.take j).flatMap (whoF (T'.take q.toNat) y ms)).map trZ++(whoF (T'.take q.toNat) y ms k).map trZ)) b=some o:=fun b o nb e=>by rw[a0I nb];exact a0p (s9 _ _ e) hD
      have gu10:put (put G9 D (.lst ((whoF (T'.take q.toNat) y ms k).map trZ))) W (.lst (((sk.take j).flatMap (whoF (T'.take q.toNat) y ms)).map trZ++(whoF (T'.take q.toNat) y ms k).map trZ)) u=some (.lst ((join (pcs (fW (T'.take q.toNat) k y) ms)).map a2C)):=by rw[a0I nuW];exact a0p gu hD
      generalize put (put G9 D (.lst ((whoF (T'.take q.toNat) y ms k).map trZ))) W (.lst (((sk.take j).flatMap (whoF (T'.take q.toNat) y ms)).map trZ++(whoF (T'.take q.toNat) y ms k).map trZ))=G10 at gW10 k10 gu10 ⊢;have sh10:=sh8.keep fun b o hb e=>k10 b o (fun z=>nW (by rw[<- z];exact hb)) e;walk_at "go";refine⟨p,S,T',.str k,.str y,q,rfl,sh10,(fun _=>a4I hk),(fun _=>a4I hy),I4.few.1,.inl ⟨I4.hq,k,y,rfl,hk,rfl,hy,fun f L G11 hf s11 gf il=>?_⟩⟩;rw[<- a8m P okq il,a9l]at gf;have gu11:=s11 _ _ gu10;rw[a9l]at gu11;walk_at "go";refine⟨f,u,_,rfl,gf,gu11,a94,fun G12 k12=>?_⟩;obtain⟨kn12,sh12⟩:=askd sh10 hf (Sm.kn s11) (sh10.keep (Sm.ks s11)) k12;walk_at "go";refine⟨_,_,fun b o nb nbW e=>kn12 b o nb (k10 b o nbW (k8 b o nb nbW e)),sh12,kn12 _ _ nW gW10,rfl⟩
    ·rintro σ G8 ⟨v3,v4,k8,sh8,gW8,rfl⟩;rw[List.length_map,List.take_length]at gW8;have kn8:KN S G5 G8:=fun b o nb e=>k8 b o nb (fun z=>by rw[z,hW]at e;cases e) (s7 _ _ e);have prt:=b3n (T:=T'.take q.toNat) (y:=y) (ms:=ms) hperm I4.hk;rw[b13]at gW8;walk_at "go";refine⟨p,S,T',.str y,q,rfl,sh8,I4.ok,I4.few,I4.len,(fun _=>a4I hy),.inl ⟨I4.hq,y,rfl,hy,fun f ts vs G9 hf kn9 sh9 ka wi _ _ gf=>?_⟩⟩;rw[b35 P okq kmq I4.nd hperm hsort ka wi,b13]at gf;walk_at "go";refine⟨f,W,_,rfl,gf,kn9 _ _ nW gW8,prt,fun G10 k10=>?_⟩;obtain⟨kn10,sh10⟩:=askd sh8 hf kn9 sh9 k10;walk_at "go";refine ifF ?_;walk_at "go";refine⟨p,S,T',.str y,q,rfl,sh10,I4.ok,I4.few,I4.len,(fun _=>a4I hy),.inl ⟨I4.hq,y,rfl,hy,fun f2 ts2 vs2 G11 hf2 kn11 sh11 ka2 wi2 _ _ gf2=>?_⟩⟩;rw[b35 P okq kmq I4.nd hperm hsort ka2 wi2,b13]at gf2;walk_at "go";refine b04 gf2 (kn11 _ _ nW (kn10 _ _ nW gW8)) (a2j prt) (a2j prt) ?_;walk_at "go";refine ifN (fun z=>absurd rfl z) fun _=>?_;walk_at "go";exact⟨_,_,_,_,kn5.trans (kn8.trans (kn10.trans kn11)),sh11,rfl⟩
   ·rintro σ G5 ⟨v3,v4,v5,v6,kn5,sh5,rfl⟩;walk_at "go";exact fin4 G5 kn5 sh5
theorem b5w {ws:List Z}{G:Hq}{R:K3}(h:a50 ws G R):ws.length=1:=by obtain⟨_,_,rfl,_⟩:=h;rfl
theorem b3p {α:Type}{xs:List α}{q:Int}(h0:0≤q) (h1:q≤xs.length):cutZ xs none (some q)=xs.take q.toNat:=by
 obtain⟨j,rfl⟩:=Int.eq_ofNat_of_zero_le h0;have hj:j≤xs.length:=by omega
 unfold cutZ;rw[HT.sIx_none,HT.sIx_nat];simp[Nat.min_eq_left hj]
theorem b8a (F:Fns K a) (T:Txt K mg a):FnOk P w K mg base CX0 7 a.f41 a.d41 ["script"] (lowP K a50):=by
 have G_words:=b3e (P:=P) (w:=w) (base:=base) F T;have G_Sheet___init__:=a4k (P:=P) (w:=w) (base:=base) F T;have G_cell_at:=a9T (P:=P) (w:=w) (base:=base) F T;have G_telling:=a9Z (P:=P) (w:=w) (base:=base) F T;have G_Sheet_tell:=a6H (P:=P) (w:=w) (base:=base) F T;have G_tumbled:=a22 (P:=P) (w:=w) (base:=base) F T;have G_right:=b3o (P:=P) (w:=w) (base:=base) F T;refine fn3 F.n41 sc_law (fun ws G R h=>(by exact b5w h)) (fun cdv A outer s H E ws G R hr h=>?_);have hu:=a0P hr;refine⟨_,(a0k (z_set (i:=1) sc_law.nd rfl (Or.inr rfl) (a0u G_words (hr.mono (by decide)) rfl T.m27 F.n27.kp (a8V F) (a0b (a0u G_cell_at (hr.mono (by decide)) rfl T.m25 F.n25.kp (a4b F) (a0b (a0c (pv 0)) (a0b a0h a0i a0e) a0a) (he:=a0a) (hpl:=(a0g a0e a0j))) a0i a0E) (he:=a0E) (hpl:=a0j)))
  (a0k (z_set (i:=2) sc_law.nd rfl (Or.inr rfl) (a0u G_words (hr.mono (by decide)) rfl T.m27 F.n27.kp (a8V F) (a0b (a0u G_cell_at (hr.mono (by decide)) rfl T.m25 F.n25.kp (a4b F) (a0b (a0c (pv 0)) (a0b a0h a0i a0e) a0a) (he:=a0a) (hpl:=(a0g a0e a0j))) a0i a0E) (he:=a0E) (hpl:=a0j)))
  (a0k (z_set (i:=3) sc_law.nd rfl (Or.inr rfl) (q_lc (N₀:=["script","keys","worths","tellings","sheet","telling","xs","knowing"]) (so:=a0f a4A) (N':=["cell","keys","worths"]) (cap:=[none,some 1,some 2]) (pt:=(.nm 0)) rfl rfl rfl (by decide +kernel) rfl (a0H (a2r x_sl (a0c (pv 0)) (a2S a0h) (a2S a0h))) (fun _ _ _ _=>(show QP _ _ (.nm 0) from (a0o (i:=0) b7J rfl (Or.inl rfl)))) (fun _ _ _ _=>a14) (fun _ _ _ _=>(a0u G_telling (hr.mono (by decide)) rfl T.m30 F.n30.kp (a9S F) (a0b (a0c (pv 0)) (a0b (a0c (pv 1)) (a0b (a0c (pv 2)) a0i a0a) a0a) a0a) (he:=a0a) (hpl:=(a0g a0a (a0g a0a a0j)))))))
  (a0k (z_set (i:=4) sc_law.nd rfl (Or.inl rfl) (b4T T.mk_Sheet G_Sheet___init__ (hr.mono (by decide)) rfl T.mg_Sheet (a4c F)))
  (a0k (a24 (pt:=(.nm 5)) PassesOwn.never rfl (a0H (a0c (pv 3))) (show QP _ _ (.nm 5) from (a0o (i:=5) sc_law.nd rfl (Or.inl rfl)))
  (a0n (a0Q (a3n a1g up0 (a0c (pv 4)) T.cl_Sheet T.mt40 G_Sheet_tell (hr.mono (by decide)) (a6x F) (a0b (a0c (pv 5)) a0i a0a) (hst:=a0a) (hpl:=a0j)))))
  (a0k (a7V (i:=6) sc_law.nd rfl rfl (N₀:=["script","keys","worths","tellings","sheet","telling","xs","knowing"]) (so:=a0f a4A) (N':=["k","script"]) (cap:=[none,some 0]) (pt:=(.nm 0)) rfl rfl rfl (by decide +kernel) rfl (a2Z rfl T.b_range (a0b a0h a0i a0e)) (fun _ _ _ _=>(show QP _ _ (.nm 0) from (a0o (i:=0) b7K rfl (Or.inl rfl)))) (fun _ _ _ _=>a14) (fun _ _ _ _=>(a0u G_tumbled (hr.mono (by decide)) rfl T.m26 F.n26.kp (a0x F) (a0b (a0u G_cell_at (hr.mono (by decide)) rfl T.m25 F.n25.kp (a4b F) (a0b (a0c (pv 1)) (a0b a0h a0i a0e) a0a) (he:=a0a) (hpl:=(a0g a0e a0j))) (a0b (a0c (pv 0)) a0i a0a) a0E) (he:=a0E) (hpl:=(a0g a0a a0j)))))
  (a0k (a24 (pt:=(.nm 7)) PassesOwn.never rfl (a0H (q_op a1c (a2L (a0b (a0G b_len rfl T.b_len PySem.boot_len (a0b (a0c (pv 3)) a0i a0a) (he:=a0a) (hpl:=a0j)) a0i a0E)) (q_lc (N₀:=["script","keys","worths","tellings","sheet","telling","xs","knowing"]) (so:=a0f a4A) (N':=["x","tellings"]) (cap:=[none,some 3]) (pt:=(.nm 0)) rfl rfl rfl (by decide +kernel) rfl (a0H (a2r x_sl (a0c (pv 6)) (a2S a0h) a2q)) (fun _ _ _ _=>(show QP _ _ (.nm 0) from (a0o (i:=0) b7L rfl (Or.inl rfl)))) (fun _ _ _ _=>a14) (fun _ _ _ _=>(q_op a09 (a0c (pv 0)) (q_op a1c (a0G b_len rfl T.b_len PySem.boot_len (a0b (a0c (pv 1)) a0i a0a) (he:=a0a) (hpl:=a0j)) a0h)))))) (show QP _ _ (.nm 7) from (a0o (i:=7) sc_law.nd rfl (Or.inl rfl)))
  (a0n (z_if (a2D (a23 (a0u G_right (hr.mono (by decide)) rfl T.m37 F.n37.kp (b2X F) (a0b (a0c (pv 4)) (a0b (a2r x_sl (a0c (pv 3)) a2q (a2S (a0c (pv 7)))) (a0b (a0c (pv 1)) (a0b (a0c (pv 2)) (a0b (a0c (pv 7)) (a0b (a0c (pv 6)) a0i a0a) a0a) a0a) a0a) a0l) a0a) (he:=a0a) (hpl:=(a0g a0l (a0g a0a (a0g a0a (a0g a0a (a0g a0a a0j)))))))))
  (a0n (a0D q_bl))
  a08)))
  (a0n (a0D q_bl))))))))),?_⟩
 obtain⟨sa,ns,rfl,hl,q⟩:=h;walk_at "go";refine⟨sa,ns,0,rfl,by decide,fun c0=>?_⟩;walk_at "go";refine⟨c0,rfl,fun ks kn G1 hks s1 gks lk hk nd=>?_⟩;walk_at "go";refine⟨sa,ns,1,rfl,by decide,fun c1=>?_⟩;walk_at "go";refine⟨c1,rfl,fun wsA wn G2 hws s2 gws lw hw _=>?_⟩;have gks2:=s2 _ _ gks;walk_at "go";refine b81 fun c hc=>?_;have hcl:(cutZ ns (some 3) (some 123)).length≤63:=Nat.le_trans (a7X ..) hl;generalize cutZ ns (some 3) (some 123)=cs at hcl ⊢;have gc:put G2 c (.lst (cs.map Z.int)) c=some (.lst (cs.map Z.int)):=a0d;have gk3:=a0p (o:=.lst (cs.map Z.int)) gks2 hc;have gw3:=a0p (o:=.lst (cs.map Z.int)) gws hc;generalize put G2 c (.lst (cs.map Z.int))=G3 at gc gk3 gw3 ⊢;walk_at "go";refine a1E gc ?_;intro D hD;refine a6j (fun i ys G'=>∃ T:List Tl,ys=T.map Tl.z/\T.length=i/\OkT T/\(∀ τ∈T,τ.key∈kn)/\Sm G3 G'/\G' D=some (.lst ys)) ⟨[],rfl,rfl,(fun τ h=>by simp at h),(fun τ h=>by simp at h),Sm.new hD,a0d⟩ (by rintro i ys G' _ ⟨_,_,_,_,_,s,_⟩;exact s _ _ gc) ?_ ?_
 ·rintro i x ys G' hx ⟨T1,rfl,hTl,ok,km,s,gD⟩;rw[List.getElem?_map]at hx;cases hx':cs[i]? with
  | none=>rw[hx']at hx;cases hx
  | some cl=>
  rw[hx']at hx;cases hx;have hi:=(List.getElem?_eq_some_iff.mp hx').1;refine⟨_,rfl,?_⟩;walk_at "go";refine⟨_,ks,wsA,kn,wn,rfl,s _ _ gk3,s _ _ gw3,lk,lw,hk,hw,fun τ Ga sA okτ mk=>?_⟩;refine⟨sA _ _ gD,by rw[List.length_map];exact a0t (by omega),T1++[τ],by rw[List.map_append];rfl,by rw[List.length_append];simp;exact hTl,fun u hu=>?_,fun u hu=>?_,(s.trans sA).put hD,a0d⟩
  ·rcases List.mem_append.mp hu with hu | hu
   ·exact ok u hu
   ·rw[List.mem_singleton.mp hu];exact okτ
  ·rcases List.mem_append.mp hu with hu | hu
   ·exact km u hu
   ·rw[List.mem_singleton.mp hu];exact mk
 ·rintro ys G4 ⟨T',rfl,hTl,ok,km,s4,gD⟩;rw[List.length_map]at hTl;have hT:T'.length≤63:=by omega
  have gk4:=s4 _ _ gk3;have gw4:=s4 _ _ gw3;clear s4 gc hws gws s2 s1 gw3 gk3;walk_at "go";intro p dx hp;refine⟨p,dx,rfl,a0d,fun d G5 hd k5 sh5=>⟨rfl,?_⟩⟩;have fr:∀ x,(x=p\/x=d)->G4 x=none:=fun x hx=>by
   rcases hx with rfl | rfl
   ·exact hp
   ·exact (Sm.new hp).free hd
  have kp5:∀ x o,G4 x=some o->G5 x=some o:=fun x o e=>k5 x o (a0p e hp) (a07 e hp);have gD5:=kp5 _ _ gD;have gk5:=kp5 _ _ gk4;have gw5:=kp5 _ _ gw4;have nD:¬ (D=p\/D=d):=fun z=>by have:=fr _ z;rw[gD]at this;cases this
  have nK:¬ (ks=p\/ks=d):=fun z=>by have:=fr _ z;rw[gk4]at this;cases this
  have nW:¬ (wsA=p\/wsA=d):=fun z=>by have:=fr _ z;rw[gw4]at this;cases this
  clear k5 kp5;walk_at "go";refine a1E gD5 ?_;refine a1k (fun i σ G'=>∃ (S:Addr->Prop) (v:Option Z),Sheet a.c_Sheet G' p S (T'.take i)/\(∀ x,S x->(x=p\/x=d)\/G5 x=none)/\(∀ x o,G5 x=some o->¬ (x=p\/x=d)->G' x=some o)/\σ=[some (.scr sa ns),some (.ref ks),some (.ref wsA),some (.ref D),some (.ref p),v,none,none]) ⟨_,_,sh5,fun x hx=>.inl hx,fun x o e _=>e,rfl⟩ (by rintro i σ G' _ ⟨_,_,_,_,k,_⟩;exact k _ _ gD5 nD) ?_ ?_
  ·rintro i x σ G' hx ⟨S,v,sh,hS,kp,rfl⟩;rw[List.getElem?_map]at hx;cases hx':T'[i]? with
   | none=>rw[hx']at hx;cases hx
   | some τ=>
   rw[hx']at hx;cases hx;have hi:=(List.getElem?_eq_some_iff.mp hx').1;have okτ:=ok τ (List.mem_of_getElem? hx');have ht1:T'.take (i+1)=T'.take i++[τ]:=by rw[List.take_add_one,hx'];rfl
   have sh':=sh;obtain⟨dx',d',kvs',m⟩:=sh';refine⟨_,rfl,?_⟩;walk_at "go";refine⟨p,dx',_,rfl,m.ob,a4i (by decide +kernel) (by decide +kernel),?_⟩;walk_at "go";refine⟨p,S,T'.take i,sh,.inl ⟨τ,rfl,okτ,by rw[List.length_take];omega,fun S' Gb i1 i2 knb shB=>?_⟩⟩;walk_at "go";refine⟨S',_,by rw[ht1];exact shB,fun x hx=>?_,fun x o e n=>knb _ _ (fun z=>?_) (kp x o e n),rfl⟩
   ·rcases i2 x hx with w | w
    ·exact hS x w
    ·by_cases n:x=p\/x=d
     ·exact .inl n
     ·right
      cases e:G5 x with
      | none=>rfl
      | some o=>rw[kp x o e n]at w;cases w
   ·rcases hS x z with w | w
    ·exact n w
    ·rw[w]at e;cases e
  ·rintro σ G6 ⟨S,v,sh,hS,kp,rfl⟩;rw[List.length_map,List.take_length]at sh;have gD6:=kp _ _ gD5 nD;have gk6:=kp _ _ gk5 nK;have gw6:=kp _ _ gw5 nW;have nS:∀ x o,G5 x=some o->¬ (x=p\/x=d)->¬ S x:=fun x o e n z=>by
    rcases hS x z with w | w
    ·exact n w
    ·rw[w]at e;cases e
   have nDs:=nS _ _ gD5 nD;have nKs:=nS _ _ gk5 nK;have nWs:=nS _ _ gw5 nW;have shv:=sh.v;clear kp hS sh5 nS sh gD5 gk5 gw5;walk_at "go";refine⟨by decide,by decide,?_⟩;intro X hX;refine a6j (fun i ys G'=>∃ xs:List Int,ys=xs.map Z.int/\xs.length=i/\(∀ x∈xs,0≤x/\x<1000000007)/\G'=put G6 X (.lst ys)) ⟨[],rfl,rfl,(fun x h=>by simp at h),rfl⟩ (by rintro _ _ _ _ _;exact True.intro) ?_ ?_
   ·rintro i x ys G' hx ⟨xs,rfl,hxl,hxs,rfl⟩;obtain⟨hi,rfl⟩:=a31 hx;have hi:i<12:=hi;refine⟨_,rfl,?_⟩;walk_at "go";refine⟨sa,ns,2,rfl,by decide,fun c2=>?_⟩;walk_at "go";refine⟨c2,_,rfl,by omega,by omega,fun r r0 r1=>?_⟩;refine⟨a0d,by rw[List.length_map];exact a0t (by omega),xs++[r],by rw[List.map_append];rfl,by rw[List.length_append];simp;exact hxl,fun y hy=>?_,by rw[a2n]⟩;rcases List.mem_append.mp hy with hy | hy
    ·exact hxs y hy
    ·rw[List.mem_singleton.mp hy];exact⟨r0,r1⟩
   ·rintro ys G7 ⟨xs,rfl,hxl,hxs,rfl⟩;rw[a2b]at hxl;have hxl:xs.length=12:=hxl;have gX:put G6 X (.lst (xs.map Z.int)) X=some (.lst (xs.map Z.int)):=a0d;have s7:Sm G6 (put G6 X (.lst (xs.map Z.int))):=Sm.new hX;have nXs:¬ S X:=shv.out hX;generalize put G6 X (.lst (xs.map Z.int))=G7 at gX s7 ⊢;have gD7:=s7 _ _ gD6;walk_at "go";refine a5S gD7 ?_;rw[List.length_map];walk_at "go";refine⟨lenK rfl,fun A hA=>?_⟩;have gA:put G7 A (.lst [.int T'.length]) A=some (.lst [.int T'.length]):=a0d;have sA:Sm G7 (put G7 A (.lst [.int T'.length])):=Sm.new hA;generalize put G7 A (.lst [.int T'.length])=G8 at gA sA ⊢;walk_at "go";refine b61 (sA _ _ gX) fun B hB=>?_;have gB:put G8 B (.lst (cutZ (xs.map Z.int) (some 9) none)) B=some (.lst ((xs.drop 9).map Z.int)):=by
     rw[a0d,a8y];unfold cutZ;rw[show HT.sIx xs.length 0 (some 9)=9 by rw[hxl];rfl,HT.sIx_none,List.take_of_length_le (by rw[List.length_drop];omega)]
    have sB:Sm G8 (put G8 B (.lst (cutZ (xs.map Z.int) (some 9) none))):=Sm.new hB;generalize put G8 B (.lst (cutZ (xs.map Z.int) (some 9) none))=G9 at gB sB ⊢;have hdl:(xs.drop 9).length=3:=by rw[List.length_drop];omega
    generalize xs.drop 9=ds at gB hdl;have s79:=sA.trans sB;walk_at "go";refine a1E gB ?_;intro E hE;refine a6j (fun j ys G'=>ys=((ds.take j).map fun x=>x % ((T'.length:Int)+1)).map Z.int/\G'=put G9 E (.lst ys)) ⟨by simp,by simp⟩ (by rintro _ _ _ _ ⟨_,rfl⟩;exact a0p gB hE) ?_ ?_
    ·rintro j x ys G' hx ⟨rfl,rfl⟩;rw[List.getElem?_map]at hx;cases hx':ds[j]? with
     | none=>rw[hx']at hx;cases hx
     | some x=>
     rw[hx']at hx;cases hx;have hj:=(List.getElem?_eq_some_iff.mp hx').1;refine⟨_,rfl,?_⟩;walk_at "go";refine a5S (a0p (s79 _ _ gD7) hE) ?_;rw[List.length_map];walk_at "go";refine i_I (show (0:Int)<(T'.length:Int)+1 by omega) ?_;refine⟨a0d,by rw[List.length_map,List.length_map,List.length_take];exact a0t (by omega),?_,by rw[a2n]⟩;rw[take_snoc hx',List.map_append,List.map_append];rfl
    ·rintro ys G10 ⟨rfl,rfl⟩;rw[List.length_map,List.take_length];have gE:put G9 E (.lst ((ds.map fun x=>x % ((T'.length:Int)+1)).map Z.int)) E=some (.lst ((ds.map fun x=>x % ((T'.length:Int)+1)).map Z.int)):=a0d;have sE:Sm G9 (put G9 E (.lst ((ds.map fun x=>x % ((T'.length:Int)+1)).map Z.int))):=Sm.new hE;generalize put G9 E (.lst ((ds.map fun x=>x % ((T'.length:Int)+1)).map Z.int))=G10 at gE sE ⊢;walk_at "go";refine b3J (sE _ _ (sB _ _ gA)) gE (a2F (by simp;omega)) fun F hF=>?_;have gF:put G10 F (.lst ([.int T'.length]++(ds.map fun x=>x % ((T'.length:Int)+1)).map Z.int)) F=some (.lst (((T'.length:Int)::ds.map fun x=>x % ((T'.length:Int)+1)).map Z.int)):=a0d;have sF:Sm G10 (put G10 F (.lst ([.int T'.length]++(ds.map fun x=>x % ((T'.length:Int)+1)).map Z.int))):=Sm.new hF;generalize put G10 F (.lst ([.int T'.length]++(ds.map fun x=>x % ((T'.length:Int)+1)).map Z.int))=G11 at gF sF ⊢;have hq:∀ z∈(T'.length:Int)::ds.map fun x=>x % ((T'.length:Int)+1),inR T' z:=fun z hz=>by
      rcases List.mem_cons.mp hz with rfl | hz
      ·exact⟨by omega,Int.le_refl _⟩
      ·obtain⟨x,_,rfl⟩:=List.mem_map.mp hz;exact⟨Int.emod_nonneg _ (by omega),by have:=Int.emod_lt_of_pos x (show (0:Int)<(T'.length:Int)+1 by omega);omega⟩
     generalize (T'.length:Int)::ds.map (fun x=>x % ((T'.length:Int)+1))=qs at gF hq;have s11:=(s79.trans sE).trans sF;have few:Few T':=⟨by omega,kn,by omega,km⟩;have nF:¬ S F:=shv.out (s7.free (s79.free (sE.free hF)));have s611:=s7.trans s11;have sh11:=shv.keep (Sm.ks s611);have gD11:=s611 _ _ gD6;have gk11:=s611 _ _ gk6;have gw11:=s611 _ _ gw6;have gX11:=s11 _ _ gX;clear sF sE sB sA s79 s7 gA gB gE gD6 gD7 gk6 gw6 gX s11 s611 shv;walk_at "go";refine a1E gF ?_;refine a1k (fun i σ G'=>∃ v7:Option Z,KN S G11 G'/\SheetV a.c_Sheet G' p S T'/\σ=[some (.scr sa ns),some (.ref ks),some (.ref wsA),some (.ref D),some (.ref p),v,some (.ref X),v7]) ⟨_,fun _ _ _ e=>e,sh11,rfl⟩ (by rintro i σ G' _ ⟨_,k,_⟩;exact k _ _ nF gF) ?_ ?_
     ·rintro i x σ G12 hx ⟨v7,kn12,sh12,rfl⟩;rw[List.getElem?_map]at hx;cases hx':qs[i]? with
      | none=>rw[hx']at hx;cases hx
      | some kq=>
      rw[hx']at hx;cases hx;have hkq:=hq kq (List.mem_of_getElem? hx');refine⟨_,rfl,?_⟩;walk_at "go";refine b61 (kn12 _ _ nDs gD11) fun t ht=>?_;have gt:put G12 t (.lst (cutZ (T'.map Tl.z) none (some kq))) t=some (.lst ((T'.take kq.toNat).map Tl.z)):=by rw[a0d,b3p hkq.1 (by rw[List.length_map];exact hkq.2),List.map_take]
      have st:Sm G12 (put G12 t (.lst (cutZ (T'.map Tl.z) none (some kq)))):=Sm.new ht;generalize put G12 t (.lst (cutZ (T'.map Tl.z) none (some kq)))=G13 at gt st ⊢;have k13:=kn12.trans (Sm.kn st);walk_at "go";refine⟨p,S,T',kq,t,ks,wsA,X,kn,wn,xs,rfl,⟨sh12.keep (Sm.ks st),ok,few,hT,hkq,gt,k13 _ _ nKs gk11,k13 _ _ nWs gw11,k13 _ _ nXs gX11,sh12.out ht,nKs,nWs,nXs,lk,lw,hk,hw,nd,km,hxl,hxs⟩,fun G14 kn14 sh14=>?_⟩;walk_at "go";exact⟨_,k13.trans kn14,sh14,rfl⟩
     ·rintro σ G12 ⟨v7,kn12,sh12,rfl⟩;walk_at "go";exact q _
theorem all_mk {l:PySem.W.OpenLaw}{w:World}{K:Fg}{h:Heap}{mg:Str->Option Value}{fa:Addr}(X:K.In h) (G:h.Ns mainGlobals mg) (hfa:mg "law"=some (.ref fa))
  {aV aL aH aB aI az av ar aW aM aP aQ ah aX a9 ab ad an aj ba ao bt bI aw aC be bf bJ bg aY bh ce bK bu bW bX cf bL ak af aD cg:Addr}
  {cQ cm:Option Addr}{cR:Array (Option Value)}{cS cn co cp bY cq:Value}
  {a5:Tok}
  {bd:Tok}
  {aa:Addr}
  (cx:PySem.W.nsIn K mainGlobals "Sheet"=some (some (.ref aa))) (cy:PySem.W.plainGet K aa Str.empty=true) (cz:PySem.W.hasDictIn K aa=true) (cA:PySem.W.plainOver K aa=true) (cB:PySem.W.findIn K (.ref aa) "__setattr__"=some (some (.builtin "object.__setattr__")))
  (cC:PySem.W.makesIn K aa=true) (cD:PySem.W.keepIn K (.ref aa)=true)
  (cI:PySem.W.findIn K (.ref aa) "last"=some none)
  (cJ:PySem.W.findIn K (.ref aa) "kept"=some none)
  {bv:Addr}
  {aZ:Addr}
  {a0:Addr}
  (cr:PySem.W.nsIn K mainGlobals "NoName"=some (some (.ref bv)))
  (bZ:PySem.W.nsIn K mainGlobals "NoStretch"=some (some (.ref aZ)))
  (b0:PySem.W.nsIn K mainGlobals "NoKnowing"=some (some (.ref a0)))
  (cs:PySem.W.excIn K bv veM "ValueError.__new__"=true)
  (b1:PySem.W.excIn K aZ veM "ValueError.__new__"=true)
  (b2:PySem.W.excIn K a0 veM "ValueError.__new__"=true)
  (ca:PySem.W.nsIn K mainGlobals "is_name"=some (some (.ref aV))) (a1:FE K "is_name" "is_name" a2w aV)
  (bT:PySem.W.nsIn K mainGlobals "is_moment"=some (some (.ref aL))) (aN:FE K "is_moment" "is_moment" a2x aL)
  (bM:PySem.W.nsIn K mainGlobals "is_stretch"=some (some (.ref aH))) (aJ:FE K "is_stretch" "is_stretch" a16 aH)
  (bC:PySem.W.nsIn K mainGlobals "earlier_end"=some (some (.ref aB))) (aE:FE K "earlier_end" "earlier_end" a1J aB)
  (bN:PySem.W.nsIn K mainGlobals "check_name"=some (some (.ref aI))) (aK:FE K "check_name" "check_name" a17 aI)
  (bw:PySem.W.nsIn K mainGlobals "check_moment"=some (some (.ref az))) (aA:FE K "check_moment" "check_moment" a1z az)
  (bp:PySem.W.nsIn K mainGlobals "check_stretch"=some (some (.ref av))) (ax:FE K "check_stretch" "check_stretch" a1q av)
  (bi:PySem.W.nsIn K mainGlobals "check_in_reach"=some (some (.ref ar))) (au:FE K "check_in_reach" "check_in_reach" a1h ar)
  (cb:PySem.W.nsIn K mainGlobals "is_over"=some (some (.ref aW))) (a2:FE K "is_over" "is_over" a3o aW)
  (bU:PySem.W.nsIn K mainGlobals "worths_in"=some (some (.ref aM))) (aO:FE K "worths_in" "worths_in" a2y aM)
  (b3:PySem.W.nsIn K mainGlobals "worth_in"=some (some (.ref aP))) (aR:FE K "worth_in" "worth_in" a2U aP)
  (b4:PySem.W.nsIn K mainGlobals "ahead_of"=some (some (.ref aQ))) (aS:FE K "ahead_of" "ahead_of" a1S aQ)
  (a6:PySem.W.nsIn K mainGlobals "with_alike_joined"=some (some (.ref ah))) (ai:FE K "with_alike_joined" "with_alike_joined" a03 ah)
  (cc:PySem.W.nsIn K mainGlobals "from_on"=some (some (.ref aX))) (a3:FE K "from_on" "from_on" a2z aX)
  (ch:PySem.W.nsIn K mainGlobals "put_on"=some (some (.ref a9))) (bb:FE K "put_on" "put_on" a36 a9)
  (a7:PySem.W.findIn K (.ref aa) "check_knowing"=some (some (.ref ab))) (a8:PySem.W.isFn K (.ref ab)=true) (ac:FE K "check_knowing" "Sheet.check_knowing" a04 ab)
  (bj:PySem.W.findIn K (.ref aa) "known_line"=some (some (.ref ad))) (bk:PySem.W.isFn K (.ref ad)=true) (ae:FE K "known_line" "Sheet.known_line" a0Z ad)
  (bD:PySem.W.findIn K (.ref aa) "keys_at"=some (some (.ref an))) (bE:PySem.W.isFn K (.ref an)=true) (ap:FE K "keys_at" "Sheet.keys_at" a1i an)
  (bx:PySem.W.findIn K (.ref aa) "worth_at"=some (some (.ref aj))) (bz:PySem.W.isFn K (.ref aj)=true) (al:FE K "worth_at" "Sheet.worth_at" a1A aj)
  (ci:PySem.W.nsIn K mainGlobals "all_at"=some (some (.ref ba))) (bc:FE K "all_at" "all_at" a2c ba)
  (bF:PySem.W.findIn K (.ref aa) "line_at"=some (some (.ref ao))) (bG:PySem.W.isFn K (.ref ao)=true) (aq:FE K "line_at" "Sheet.line_at" a1K ao)
  (cE:PySem.W.nsIn K mainGlobals "when"=some (some (.ref bt))) (bA:FE K "when" "when" a4T bt)
  (cK:PySem.W.nsIn K mainGlobals "who"=some (some (.ref bI))) (bO:FE K "who" "who" a78 bI)
  (bq:PySem.W.nsIn K mainGlobals "check_telling"=some (some (.ref aw))) (ay:FE K "check_telling" "check_telling" a1r aw)
  (bH:PySem.W.nsIn K mainGlobals "line_behind"=some (some (.ref aC))) (aF:FE K "line_behind" "line_behind" a1L aC)
  (ct:PySem.W.nsIn K mainGlobals "_law_cell_at"=some (some (.ref be))) (bl:FE K "_law_cell_at" "_law_cell_at" a5f be)
  (cu:PySem.W.nsIn K mainGlobals "_law_tumbled"=some (some (.ref bf))) (bm:FE K "_law_tumbled" "_law_tumbled" a5g bf)
  (cL:PySem.W.nsIn K mainGlobals "_law_words"=some (some (.ref bJ))) (bP:FE K "_law_words" "_law_words" a6r bJ)
  (cv:PySem.W.nsIn K mainGlobals "_law_stretch"=some (some (.ref bg))) (bn:FE K "_law_stretch" "_law_stretch" a5h bg)
  (cd:PySem.W.nsIn K mainGlobals "_law_by_digits"=some (some (.ref aY))) (a4:FE K "_law_by_digits" "_law_by_digits" a3p aY)
  (cw:PySem.W.nsIn K mainGlobals "_law_telling"=some (some (.ref bh))) (bo:FE K "_law_telling" "_law_telling" a5i bh)
  (cX:PySem.W.nsIn K mainGlobals "_law_has"=some (some (.ref ce))) (cj:FE K "_law_has" "_law_has" b43 ce)
  (cM:PySem.W.nsIn K mainGlobals "_law_worth"=some (some (.ref bK))) (bQ:FE K "_law_worth" "_law_worth" a79 bK)
  (cF:PySem.W.nsIn K mainGlobals "_law_points"=some (some (.ref bu))) (bB:FE K "_law_points" "_law_points" a6s bu)
  (cT:PySem.W.nsIn K mainGlobals "_law_when"=some (some (.ref bW))) (b5:FE K "_law_when" "_law_when" b1r bW)
  (cU:PySem.W.nsIn K mainGlobals "_law_told"=some (some (.ref bX))) (b6:FE K "_law_told" "_law_told" a8T bX)
  (cY:PySem.W.nsIn K mainGlobals "_law_all"=some (some (.ref cf))) (ck:FE K "_law_all" "_law_all" b1s cf)
  (cN:PySem.W.nsIn K mainGlobals "_law_right"=some (some (.ref bL))) (bR:FE K "_law_right" "_law_right" a5j bL)
  (aT:PySem.W.findIn K (.ref aa) "__init__"=some (some (.ref ak))) (aU:PySem.W.isFn K (.ref ak)=true) (am:FE K "__init__" "Sheet.__init__" a1B ak)
  (br:PySem.W.findIn K (.ref aa) "keep_line"=some (some (.ref af))) (bs:PySem.W.isFn K (.ref af)=true) (ag:FE K "keep_line" "Sheet.keep_line" a1s af)
  (b7:PySem.W.findIn K (.ref aa) "tell"=some (some (.ref aD))) (b8:PySem.W.isFn K (.ref aD)=true) (aG:FE K "tell" "Sheet.tell" a2V aD)
  (cH:PySem.W.nsIn K mainGlobals "law"=some (some (.ref cg))) (cZ:K.lookup cg=some ⟨cS,cQ,.func (PySem.W.fnOf "law" "law" (a3e a4A) (a1Y a4A) (a0f a4A) .none cn co cp cm bY cq),cR⟩) (c0:PySem.W.codeIn K bY "law"=true) (c1:PySem.W.keepIn K (.ref cg)=true)
  (c2:PySem.W.nsIn K mainGlobals "all"=some none)
  (b9:PySem.W.nsIn K mainGlobals "isinstance"=some none)
  (c3:PySem.W.nsIn K mainGlobals "str"=some none)
  (c4:PySem.W.nsIn K mainGlobals "len"=some none)
  (cV:PySem.W.nsIn K mainGlobals "bool"=some none)
  (c5:PySem.W.nsIn K mainGlobals "int"=some none)
  (c6:PySem.W.nsIn K mainGlobals "min"=some none)
  (c7:PySem.W.nsIn K mainGlobals "max"=some none)
  (cl:PySem.W.nsIn K mainGlobals "reversed"=some none)
  (cG:PySem.W.nsIn K mainGlobals "sorted"=some none)
  (cO:PySem.W.nsIn K mainGlobals "range"=some none)
  (c8:PySem.W.nsIn K mainGlobals "set"=some none)
  (cW:PySem.W.nsIn K mainGlobals "list"=some none)
  (cP:PySem.W.nsIn K mainGlobals "tuple"=some none)
  (bS:PySem.W.nsIn K mainGlobals "LONGEST_NAME"=some (some (.int 8 a5)))
  (bV:PySem.W.nsIn K mainGlobals "LAST_MOMENT"=some (some (.int 1000000000000 bd))) :
  ∃ fd:FuncData,(∀ (s:Shared) (v:Value),BindsTo s fd ⟨[v],[]⟩ [("script",v)])/\∀ base:Heap,K.In base->base.Ns mainGlobals mg->FnOk l.prog w K mg base CX0 7 fa fd ["script"] (lowP K a50):=by
 have e:=hfa.symm.trans (PySem.W.mg_of X G cH);cases e;obtain⟨d_p_is_name,a1⟩:=a1;obtain⟨d_p_is_moment,aN⟩:=aN;obtain⟨d_p_is_stretch,aJ⟩:=aJ;obtain⟨d_p_earlier_end,aE⟩:=aE;obtain⟨d_p_check_name,aK⟩:=aK;obtain⟨d_p_check_moment,aA⟩:=aA;obtain⟨d_p_check_stretch,ax⟩:=ax;obtain⟨d_p_check_in_reach,au⟩:=au;obtain⟨d_p_is_over,a2⟩:=a2;obtain⟨d_p_worths_in,aO⟩:=aO;obtain⟨d_p_worth_in,aR⟩:=aR;obtain⟨d_p_ahead_of,aS⟩:=aS;obtain⟨d_p_with_alike_joined,ai⟩:=ai;obtain⟨d_p_from_on,a3⟩:=a3;obtain⟨d_p_put_on,bb⟩:=bb;obtain⟨d_Sheet_check_knowing,ac⟩:=ac;obtain⟨d_Sheet_known_line,ae⟩:=ae;obtain⟨d_Sheet_keys_at,ap⟩:=ap;obtain⟨d_Sheet_worth_at,al⟩:=al;obtain⟨d_p_all_at,bc⟩:=bc;obtain⟨d_Sheet_line_at,aq⟩:=aq;obtain⟨d_p_when,bA⟩:=bA;obtain⟨d_p_who,bO⟩:=bO;obtain⟨d_p_check_telling,ay⟩:=ay;obtain⟨d_p_line_behind,aF⟩:=aF;obtain⟨d_cell_at,bl⟩:=bl;obtain⟨d_tumbled,bm⟩:=bm;obtain⟨d_words,bP⟩:=bP;obtain⟨d_stretch,bn⟩:=bn;obtain⟨d_by_digits,a4⟩:=a4;obtain⟨d_telling,bo⟩:=bo;obtain⟨d_has,cj⟩:=cj;obtain⟨d_worth,bQ⟩:=bQ;obtain⟨d_points,bB⟩:=bB;obtain⟨d_when,b5⟩:=b5;obtain⟨d_told,b6⟩:=b6;obtain⟨d_all,ck⟩:=ck;obtain⟨d_right,bR⟩:=bR;obtain⟨d_Sheet___init__,am⟩:=am;obtain⟨d_Sheet_keep_line,ag⟩:=ag;obtain⟨d_Sheet_tell,aG⟩:=aG
 let a:Ad:=⟨aV,d_p_is_name,aL,d_p_is_moment,aH,d_p_is_stretch,aB,d_p_earlier_end,aI,d_p_check_name,az,d_p_check_moment,av,d_p_check_stretch,ar,d_p_check_in_reach,aW,d_p_is_over,aM,d_p_worths_in,aP,d_p_worth_in,aQ,d_p_ahead_of,ah,d_p_with_alike_joined,aX,d_p_from_on,a9,d_p_put_on,ab,d_Sheet_check_knowing,ad,d_Sheet_known_line,an,d_Sheet_keys_at,aj,d_Sheet_worth_at,ba,d_p_all_at,ao,d_Sheet_line_at,bt,d_p_when,bI,d_p_who,aw,d_p_check_telling,aC,d_p_line_behind,be,d_cell_at,bf,d_tumbled,bJ,d_words,bg,d_stretch,aY,d_by_digits,bh,d_telling,ce,d_has,bK,d_worth,bu,d_points,bW,d_when,bX,d_told,cf,d_all,bL,d_right,ak,d_Sheet___init__,af,d_Sheet_keep_line,aD,d_Sheet_tell,fa,(PySem.W.fnOf "law" "law" (a3e a4A) (a1Y a4A) (a0f a4A) .none cn co cp cm bY cq),aa,bv,aZ,a0⟩
 have F:Fns K a:=⟨a1,aN,aJ,aE,aK,aA,ax,au,a2,aO,aR,aS,ai,a3,bb,ac,ae,ap,al,bc,aq,bA,bO,ay,aF,bl,bm,bP,bn,a4,bo,cj,bQ,bB,b5,b6,ck,bR,am,ag,aG,b3v (st:=a4A) cZ c0 c1⟩;have T:Txt K mg a:=⟨PySem.W.mg_of X G ca,PySem.W.mg_of X G bT,PySem.W.mg_of X G bM,PySem.W.mg_of X G bC,PySem.W.mg_of X G bN,PySem.W.mg_of X G bw,PySem.W.mg_of X G bp,PySem.W.mg_of X G bi,PySem.W.mg_of X G cb,PySem.W.mg_of X G bU,PySem.W.mg_of X G b3,PySem.W.mg_of X G b4,PySem.W.mg_of X G a6,PySem.W.mg_of X G cc,PySem.W.mg_of X G ch,⟨a7,a8,ac.kp⟩,⟨bj,bk,ae.kp⟩,⟨bD,bE,ap.kp⟩,⟨bx,bz,al.kp⟩,PySem.W.mg_of X G ci,⟨bF,bG,aq.kp⟩,PySem.W.mg_of X G cE,PySem.W.mg_of X G cK,PySem.W.mg_of X G bq,PySem.W.mg_of X G bH,PySem.W.mg_of X G ct,PySem.W.mg_of X G cu,PySem.W.mg_of X G cL,PySem.W.mg_of X G cv,PySem.W.mg_of X G cd,PySem.W.mg_of X G cw,PySem.W.mg_of X G cX,PySem.W.mg_of X G cM,PySem.W.mg_of X G cF,PySem.W.mg_of X G cT,PySem.W.mg_of X G cU,PySem.W.mg_of X G cY,PySem.W.mg_of X G cN,⟨aT,aU,am.kp⟩,⟨br,bs,ag.kp⟩,⟨b7,b8,aG.kp⟩,PySem.W.mg_of X G cH,PySem.W.mg_none_of X G c2,PySem.W.mg_none_of X G b9,PySem.W.mg_none_of X G c3,PySem.W.mg_none_of X G c4,PySem.W.mg_none_of X G cV,PySem.W.mg_none_of X G c5,PySem.W.mg_none_of X G c6,PySem.W.mg_none_of X G c7,PySem.W.mg_none_of X G cl,PySem.W.mg_none_of X G cG,PySem.W.mg_none_of X G cO,PySem.W.mg_none_of X G c8,PySem.W.mg_none_of X G cW,PySem.W.mg_none_of X G cP,⟨cy,cz,cA,cB⟩,PySem.W.mg_of X G cx,⟨cC,aT,aU,cD⟩,cI,cJ,PySem.W.mg_of X G cr,PySem.W.mg_of X G bZ,PySem.W.mg_of X G b0,cs,b1,b2,⟨a5,PySem.W.mg_of X G bS⟩,⟨bd,PySem.W.mg_of X G bV⟩⟩;exact⟨a.d41,fun s v=>.of_eq rfl,fun base _ _=>b8a F T⟩
theorem walk {l:PySem.W.OpenLaw}{q:Program}{loose:List Str}{XP:(Str->Option Value)->Heap->Prop}{YP:World->Heap->Prop}{d:DefRec}{K:Params->Fg}(hn:l.most=some 63) (hdf:d.params.defaults=[])
  (hY:∀ (w:World) (h:Heap),YP w h->(K w.params).In h)
  (F:∀ (w:World) (mg:Str->Option Value) (fa:Addr) (h:Heap),(K w.params).In h->h.Ns mainGlobals mg->mg d.name=some (.ref fa) ->
   ∃ fd:FuncData,(∀ (s:Shared) (u:Value),BindsTo s fd ⟨[u],[]⟩ [("script",u)])/\∀ base:Heap,(K w.params).In base->base.Ns mainGlobals mg->FnOk l.prog w (K w.params) mg base CX0 7 fa fd ["script"] (lowP (K w.params) a50)) :
  PySem.W.WalkO q loose XP YP l.row.toRowW d [] (fun f vs=>PySem.call f vs):=
 L2.walk_of (n:=63) (k:=7) (x:="script") (CX:=fun _=>CX0) (sp:=fun w=>lowP (K w.params) a50) hn (by decide) hdf ⟨rfl,by decide,by decide⟩ hY F (fun _ _ a ns hl hO hS=>b1u a ns hl (Fz.of hO hS)) fun _ _ _ _ _ z=>z
end Lw
open PySem PySem.W PyProof.Rows
set_option maxRecDepth 100000 in
set_option maxHeartbeats 0 in
theorem PySem.Challenge.cw_twotimes_k32_all_when_who_holds : PySem.Challenge.rw_twotimes_k32_all_when_who.Holds := by
 w_on;o_law;k_head;(case hw=>w_witness2)
 k_fill
 refine Lw.walk (l:=PySem.Challenge.rw_twotimes_k32_all_when_who) rfl rfl (fun w h Y=>PySem.W.kIn_of Y) ?F
 case F=>
  intro w mg fa h KX G hmg;refine' Lw.all_mk KX G hmg ?aa ?ab ?ac ?ad ?ae ?af ?ag ?ah ?ai ?aj ?ak ?al ?am ?an ?ao ?ap (Lw.fe_mk ?aq ?ar ?au) ?av (Lw.fe_mk ?aw ?ax ?ay) ?az (Lw.fe_mk ?aA ?aB ?aC) ?aD (Lw.fe_mk ?aE ?aF ?aG) ?aH (Lw.fe_mk ?aI ?aJ ?aK) ?aL (Lw.fe_mk ?aM ?aN ?aO) ?aP (Lw.fe_mk ?aQ ?aR ?aS) ?aT (Lw.fe_mk ?aU ?aV ?aW) ?aX (Lw.fe_mk ?aY ?aZ ?a0) ?a1 (Lw.fe_mk ?a2 ?a3 ?a4) ?a5 (Lw.fe_mk ?a6 ?a7 ?a8) ?a9 (Lw.fe_mk ?ba ?bb ?bc) ?bd (Lw.fe_mk ?be ?bf ?bg) ?bh (Lw.fe_mk ?bi ?bj ?bk) ?bl (Lw.fe_mk ?bm ?bn ?bo) ?bp ?bq (Lw.fe_mk ?br ?bs ?bt) ?bu ?bv (Lw.fe_mk ?bw ?bx ?bz) ?bA ?bB (Lw.fe_mk ?bC ?bD ?bE) ?bF ?bG (Lw.fe_mk ?bH ?bI ?bJ) ?bK (Lw.fe_mk ?bL ?bM ?bN) ?bO ?bP (Lw.fe_mk ?bQ ?bR ?bS) ?bT (Lw.fe_mk ?bU ?bV ?bW) ?bX (Lw.fe_mk ?bY ?bZ ?b0) ?b1 (Lw.fe_mk ?b2 ?b3 ?b4) ?b5 (Lw.fe_mk ?b6 ?b7 ?b8) ?b9 (Lw.fe_mk ?ca ?cb ?cc) ?cd (Lw.fe_mk ?ce ?cf ?cg) ?ch (Lw.fe_mk ?ci ?cj ?ck) ?cl (Lw.fe_mk ?cm ?cn ?co) ?cp (Lw.fe_mk ?cq ?cr ?cs) ?ct (Lw.fe_mk ?cu ?cv ?cw) ?cx (Lw.fe_mk ?cy ?cz ?cA) ?cB (Lw.fe_mk ?cC ?cD ?cE) ?cF (Lw.fe_mk ?cG ?cH ?cI) ?cJ (Lw.fe_mk ?cK ?cL ?cM) ?cN (Lw.fe_mk ?cO ?cP ?cQ) ?cR (Lw.fe_mk ?cS ?cT ?cU) ?cV (Lw.fe_mk ?cW ?cX ?cY) ?cZ ?c0 (Lw.fe_mk ?c1 ?c2 ?c3) ?c4 ?c5 (Lw.fe_mk ?c6 ?c7 ?c8) ?c9 ?da (Lw.fe_mk ?db ?dc ?dd) ?de ?df ?dg ?dh ?di ?dj ?dk ?dl ?dm ?dn ?dp ?dq ?dr ?ds ?dt ?du ?dv ?dw ?dx ?dy
  all_goals try k_is
  (case am=>k_exc)
  (case an=>k_exc)
  (case ao=>k_exc)
  all_goals try k_is
