import PyProof.Rows.All
import Wide.All
import OpenK.AllK
import Wide.FinOn
import Lean
import PyProof.EqAt
import PyProof.EqKinds
import PyProof.TupleCall
import PyProof.CompFree
import PyProof.P3In
import PyProof.RaisesMany
import PyProof.StationsW
import PyProof.ExcClass3
import PyProof.ExcBaseAll.ValueError
import PyProof.RulesTry
import PyProof.RulesAs
import PyProof.NsDelKeeps
import KE.KTryMore
import PyProof.ExcArgs
import KE.RegKIsAll
import PyProof.Rows.EqDataRows
import KE.KIntText
import KE.KDictOf
import PyProof.StrBlockH
import KE.KWords
import PyProof.CallStr
import PyProof.StrLawsTight
import PyProof.StrLawsChain
import PySem.Challenge.RW_twotimes_k33_asks_refused
set_option Elab.async false
set_option linter.all false
set_option maxRecDepth 100000
abbrev Fg:=PySem.W.Frag
namespace PySem.W.Fast
def tw14108562697623341633:=0
def tw8797528968902903210:=0
def tw3693823506876655071:=0
def tw5219528622360060237:=0
def tw15832936910564190158:=0
def tw13981763490247846619:=0
def tw16295607304417077763:=0
def tw15922004412044208430:=0
def tw4065446253844106288:=0
def tw18258945023941710684:=0
def tw1398751339793069244:=0
def tw593228754179480319:=0
def tw14808107335249989275:=0
def tw15789557771946015790:=0
def tw12500567880908380628:=0
def tw5233532215155052654:=0
def tw14892761433797949141:=0
def tw7135376771967714370:=0
def tw3528954507715939737:=0
def tw12498345089013287078:=0
def tw5420855811240255401:=0
def tw8583404966771143764:=0
def tw14388345346150165087:=0
def tw5208722725989237988:=0
def tw11026128144379641293:=0
def tw154293185183012145:=0
def tw6120801623888684536:=0
def tw9195949089993722117:=0
def tw6440748669130804024:=0
def tw6298906672654370625:=0
def tw4568831621189896778:=0
def tw7438959871887600416:=0
def tw15141338809984717260:=0
def tw7037322087794619540:=0
def tw971883757651135885:=0
end PySem.W.Fast
namespace L2
open PySem PySem.Spec PyProof.Rows
abbrev Key:=Sum Int Str
def a8M:Key->Value->Bool
 | .inl k,v=>Value.isInt k v
 | .inr x,v=>Value.isStrOf x v
def keyH (w:World):Key->Int
 | .inl k=>hashInt k
 | .inr x=>hashStr w x
theorem a1h:∀ {k:Key} {v:Value},a8M k v=true->(∃ i t,k=Sum.inl i/\v=Value.int i t)\/(∃ x t,k=Sum.inr x/\v=Value.str x t)
 | .inl i,v,h=>by
  obtain⟨t,e⟩:=Value.isInt_shape (k:=i) (v:=v) h
  exact .inl ⟨i,t,rfl,e⟩
 | .inr x,v,h=>by
  obtain⟨t,e⟩:=Value.isStrOf_shape (x:=x) (v:=v) h
  exact .inr ⟨x,t,rfl,e⟩
theorem a9m (i:Int) (t:Tok):a8M (.inl i) (.int i t)=true:=by simp [a8M,Value.isInt]
theorem a9n (x:Str) (t:Tok):a8M (.inr x) (.str x t)=true:=by simp [a8M,Value.isStrOf]
theorem b4i (a b:Int):decide ((Sum.inl a:Key)=Sum.inl b)=(a==b):=by
 by_cases e:a=b
 ·subst e;simp
 ·have h:¬ (Sum.inl a:Key)=Sum.inl b:=fun q=>e (Sum.inl.inj q)
  rw [decide_eq_false h]
  exact (beq_eq_false_iff_ne.mpr e).symm
theorem b4j (a b:Str):decide ((Sum.inr a:Key)=Sum.inr b)=decide (a=b):=by
 by_cases e:a=b
 ·subst e;simp
 ·have h:¬ (Sum.inr a:Key)=Sum.inr b:=fun q=>e (Sum.inr.inj q)
  rw [decide_eq_false h,decide_eq_false e]
theorem b4k (a:Int) (b:Str):decide ((Sum.inl a:Key)=Sum.inr b)=false:=decide_eq_false (fun q=>nomatch q)
theorem b4l (a:Str) (b:Int):decide ((Sum.inr a:Key)=Sum.inl b)=false:=decide_eq_false (fun q=>nomatch q)
def a1d (prog:Program) (w:World):PySem.KeyKind prog w Key where
 is:=a8M
 hash:=keyH w
 inj:=fun v a b ha hb=>by
  rcases a1h ha with ⟨i,t,rfl,rfl⟩ | ⟨x,t,rfl,rfl⟩
  ·rcases a1h hb with ⟨j,u,rfl,e⟩ | ⟨y,u,rfl,e⟩
   ·injection e with e1 _;rw [e1]
   ·exact nomatch e
  ·rcases a1h hb with ⟨j,u,rfl,e⟩ | ⟨y,u,rfl,e⟩
   ·exact nomatch e
   ·injection e with e1 _;rw [e1]
 byValue:=fun k v h=>by
  rcases a1h h with ⟨i,t,rfl,rfl⟩ | ⟨x,t,rfl,rfl⟩<;>rfl
 pyHash:=fun hv h=>by
  rcases a1h hv with ⟨i,t,rfl,rfl⟩ | ⟨x,t,rfl,rfl⟩
  ·exact wpAny_pyHash_int h
  ·exact wpAny_pyHash_str h
 eqBool:=fun hu hv h=>by
  rcases a1h hu with ⟨i,t,rfl,rfl⟩ | ⟨x,t,rfl,rfl⟩
  ·rcases a1h hv with ⟨j,u,rfl,rfl⟩ | ⟨y,u,rfl,rfl⟩
   ·rw [b4i] at h;exact wpAny_eqBool_int h
   ·rw [b4k] at h;exact SeqAt.EqAt.int_str i t y u _ _ _ _ h
  ·rcases a1h hv with ⟨j,u,rfl,rfl⟩ | ⟨y,u,rfl,rfl⟩
   ·rw [b4l] at h;exact SeqAt.EqAt.str_int x t j u _ _ _ _ h
   ·rw [b4j] at h;exact wpAny_eqBool_str h
 «strs»:=fun k x t v h=>by
  rcases a1h h with ⟨i,u,rfl,e⟩ | ⟨y,u,rfl,e⟩
  ·exact nomatch e
  ·injection e with e1 _
   subst e1
   cases v<;>rfl
theorem a7t (prog:Program) (w:World) (i:Int) (t:Tok):(a1d prog w).is (.inl i) (.int i t)=true:=a9m i t
theorem a7u (prog:Program) (w:World) (x:Str) (t:Tok):(a1d prog w).is (.inr x) (.str x t)=true:=a9n x t
end L2
namespace L2
open PySem PySem.Spec PyProof.Rows
inductive V where
 | non | bl (b:Bool) | int (i:Int) | str (x:Str) | byt (b:Array UInt8) | flt (b:UInt64) | ref (a:Addr) | ty (n:String)
 deriving DecidableEq
def RelV:V->Value->Prop
 | .non,u=>u=Value.none
 | .bl b,u=>u=Value.bool b
 | .int i,u=>∃ t,u=Value.int i t
 | .str x,u=>∃ t,u=Value.str x t
 | .byt b,u=>∃ t,u=Value.bytes b t
 | .flt b,u=>∃ t,u=Value.float b t
 | .ref a,u=>u=Value.ref a
 | .ty n,u=>u=Value.type n
abbrev Vals:List V->List Value->Prop:=Paired RelV
theorem Vals.length {xs:List V} {us:List Value} (r:Vals xs us):xs.length=us.length:=Paired.length r
theorem Vals.get:∀ {xs:List V} {us:List Value} {i:Nat} {x:V},Vals xs us->xs[i]?=some x->∃ u,us[i]?=some u/\RelV x u
 | _,_,_,_,.nil,e=>by simp at e
 | _,_,0,_,.cons r _,e=>by simp at e;subst e;exact⟨_,rfl,r⟩
 | _,_,i+1,x,.cons _ t,e=>by
  obtain⟨u,h1,h2⟩:=Vals.get (i:=i) (x:=x) t (by simpa using e)
  exact⟨u,by simpa using h1,h2⟩
theorem Vals.set {x:V} {u:Value} (r:RelV x u):∀ {xs:List V} {us:List Value} (i:Nat),Vals xs us->Vals (xs.set i x) (us.set i u)
 | _,_,_,.nil=>.nil
 | _,_,0,.cons _ t=>.cons r t
 | _,_,i+1,.cons q t=>.cons q (Vals.set r i t)
theorem Vals.append:∀ {xs ys:List V} {us ws:List Value},Vals xs us->Vals ys ws->Vals (xs++ys) (us++ws)
 | _,_,_,_,.nil,s=>s
 | _,_,_,_,.cons r t,s=>.cons r (Vals.append t s)
theorem Vals.take:∀ {xs:List V} {us:List Value} (n:Nat),Vals xs us->Vals (xs.take n) (us.take n)
 | _,_,0,_=>.nil
 | _,_,_+1,.nil=>.nil
 | _,_,n+1,.cons r t=>.cons r (Vals.take n t)
theorem Vals.drop:∀ {xs:List V} {us:List Value} (n:Nat),Vals xs us->Vals (xs.drop n) (us.drop n)
 | _,_,0,r=>r
 | _,_,_+1,.nil=>.nil
 | _,_,n+1,.cons _ t=>Vals.drop n t
theorem Vals.none_of:∀ {xs:List V} {us:List Value} {i:Nat},Vals xs us->xs[i]?=none->us[i]?=none:=fun {xs us i} r e=>by
 have h1:=r.length
 have h2:xs.length≤i:=List.getElem?_eq_none_iff.mp e
 exact List.getElem?_eq_none_iff.mpr (by omega)
def RelO:Option V->Option Value->Prop
 | some v,some u=>RelV v u
 | none,none=>True
 | _,_=>False
def KV {κ:Type}:List (κ×V)->List (κ×Value)->Prop:=Paired fun (p:κ×V) (q:κ×Value)=>p.1=q.1/\RelV p.2 q.2
def kV:Key->V
 | .inl i=>.int i
 | .inr x=>.str x
inductive HO where
 /-- a list -/
 | lst (xs:List V)
 /-- a tuple (never changes) -/
 | tup (xs:List V)
 /-- a dict whose keys are ints and texts;one whose keys are tuples of ints and texts (the empty one is both) -/
 | dK (kvs:List (Key×V)) | dT (kvs:List (List Key×V))
 /-- a set of ints: its members,its size -/
 | set (S:Int->Bool) (n:Nat)
 /-- an instance of the class at C,its dict at dx,its attributes -/
 | ins (C dx:Addr) (fs:List (Str×V))
 /-- the dict of the instance at x -/
 | own (x:Addr)
 /-- the dict of an exception -/
 | xd (fs:List (Str×V))
 /-- a bound method,f of x -/
 | met (f x:Addr)
 /-- a range object lo,lo+1,.. below hi -/
 | rng (lo hi:Int)
 /-- a thing that is known to the object (the script;a dict while a loop walks it): read,never written while it is so -/
 | frz (o:Obj) (u:HO)
 /-- a code object's table -/
 | tbl (ps:Array Value)
 /-- any other thing,by what is true of its one object (a def of one's own: SetO a S n:=HO.ext fun h=>..) -/
 | ext (φ:Heap->Prop)
abbrev Hp:=Addr->Option HO
def upd (H:Hp) (a:Addr) (o:HO):Hp:=fun b=>if b=a then some o else H b
theorem a1a {H:Hp} {a:Addr} {o:HO}:upd H a o a=some o:=by unfold upd;rw [if_pos rfl]
theorem a1c {H:Hp} {a b:Addr} {o:HO} (h:b≠a):upd H a o b=H b:=by unfold upd;rw [if_neg h]
theorem a2l {H:Hp} {a b:Addr} {o:HO} (h:H a=some o) (h':H b=none):a≠b:=by
 intro e;subst e;rw [h] at h';cases h'
section
variable (P:Program) (w:World)
def ObjOk (H:Hp) (h:Heap) (a:Addr):HO->Prop
 | .lst xs=>xs.length≤sizeLine/\∃ (its:List Value) (n:Nat),Vals xs its/\h.get? a=some { cls:=.type "list",data:=.seq its.toArray n }
 | .tup xs=>xs.length≤sizeLine/\∃ its:List Value,Vals xs its/\IsTup h a its.toArray
 | .dK kvs=>kvs.length≤sizeLine/\(a==sysModules)=false/\∃ vs,KV kvs vs/\h.DictOf (a1d P w) a vs
 | .dT kvs=>kvs.length≤sizeLine/\(a==sysModules)=false/\∃ xs:List (List Key×Addr×Value),
   Paired (fun (p:List Key×V) (q:List Key×Addr×Value)=>p.1=q.1/\H q.2.1=some (.tup (p.1.map kV))/\RelV p.2 q.2.2) kvs xs /\
   ∃ o es ep,h.get? a=some o/\o.ExactDict/\o.data=.dict es ep/\es.toList=xs.map (entryOfKey (tupleKind (a1d P w)))/\(xs.map (·.1)).Nodup
 | .set S n=>h.SetOf (intKind P w) a S n
 | .ins C dx fs=>H dx=some (.own a)/\fs.length≤1000/\dx≠a/\h.get? a=some (PySem.W.instObj C dx) /\
   ∃ mA,h.Ns1 dx mA/\(∀ f,RelO (fs.lookup f) (mA f))/\PySem.Within mA (fs.map (·.1))
 | .own _=>∃ o,h.get? a=some o
 | .xd fs=>∃ mA,h.Ns1 a mA/\∀ f,RelO (fs.lookup f) (mA f)
 | .rng lo hi=>∃ t u v,h.get? a=some { cls:=.type "range",data:=.fields #[.int lo t,.int hi u,.int 1 v] }
 | .frz o u=>h.get? a=some o/\ObjOk H h a u
 | .tbl ps=>h.get? a=some { cls:=.none,data:=.fields ps }
 | .met f x=>h.get? a=some (PySem.W.methodObj (.ref f) (.ref x))
 | .ext φ=>φ h/\(∃ o,h.get? a=some o)/\∀ h1 h2:Heap,φ h1->(∀ o,h1.get? a=some o->h2.get? a=some o)->φ h2
def HOk (H:Hp) (h:Heap):Prop:=∀ a o,H a=some o->ObjOk P w H h a o
end
section
variable {P:Program} {w:World} {H H':Hp} {h h':Heap} {a:Addr} {o:HO}
theorem ObjOk.lt (x:ObjOk P w H h a o):a<h.objs.size:=by
 cases o with
 | lst xs=>obtain⟨_,_,_,_,e⟩:=x;exact Heap.lt_size e
 | tup xs=>obtain⟨_,_,_,p⟩:=x;exact p.lt
 | dK kvs=>obtain⟨_,_,_,_,o,_,_,e,_⟩:=x;exact Heap.lt_size e
 | dT kvs=>obtain⟨_,_,_,_,o,_,_,e,_⟩:=x;exact Heap.lt_size e
 | set S n=>obtain⟨o,_,_,_,e,_⟩:=x;exact Heap.lt_size e
 | ins C dx fs=>obtain⟨_,_,_,e,_⟩:=x;exact Heap.lt_size e
 | own y=>obtain⟨_,e⟩:=x;exact Heap.lt_size e
 | xd fs=>obtain⟨_,⟨_,_,_,e,_⟩,_⟩:=x;exact Heap.lt_size e
 | rng lo hi=>obtain⟨_,_,_,e⟩:=x;exact Heap.lt_size e
 | frz ob u=>obtain⟨e,_⟩:=x;exact Heap.lt_size e
 | tbl ps=>exact Heap.lt_size (show h.get? a=some _ from x)
 | met f y=>exact Heap.lt_size (show h.get? a=some _ from x)
 | ext φ=>obtain⟨_,⟨_,e⟩,_⟩:=x;exact Heap.lt_size e
theorem Paired.mapP {α β:Type} {F G:α->β->Prop}:∀ {l₁:List α} {l₂:List β},Paired F l₁ l₂->(∀ a b,F a b->G a b)->Paired G l₁ l₂
 | _,_,.nil,_=>.nil
 | _,_,.cons r t,f=>.cons (f _ _ r) (Paired.mapP t f)
theorem ObjOk.stay (x:ObjOk P w H h a o) (k:∀ b u,(b=a\/H b=some (.own a))->h.get? b=some u->h'.get? b=some u)
  (ho:∀ b,H b=some (.own a)->H' b=some (.own a)) (ht:∀ b xs,H b=some (.tup xs)->H' b=some (.tup xs)):ObjOk P w H' h' a o:=by
 induction o with
 | lst xs=>obtain⟨z,its,n,r,e⟩:=x;exact⟨z,its,n,r,k _ _ (.inl rfl) e⟩
 | tup xs=>obtain⟨z,its,r,ob,e,c⟩:=x;exact⟨z,its,r,ob,k _ _ (.inl rfl) e,c⟩
 | dK kvs=>obtain⟨z,y,vs,r,ob,es,ep,e,c⟩:=x;exact⟨z,y,vs,r,ob,es,ep,k _ _ (.inl rfl) e,c⟩
 | dT kvs=>
  obtain⟨z,y,xs,r,ob,es,ep,e,c⟩:=x
  exact⟨z,y,xs,Paired.mapP r fun p q z=>⟨z.1,ht _ _ z.2.1,z.2.2⟩,ob,es,ep,k _ _ (.inl rfl) e,c⟩
 | set S n=>obtain⟨ob,es,ep,t,e,c⟩:=x;exact⟨ob,es,ep,t,k _ _ (.inl rfl) e,c⟩
 | ins C dx fs=>
  obtain⟨d,z,ne,e,mA,⟨od,es,ep,e2,c⟩,r⟩:=x
  exact⟨ho _ d,z,ne,k _ _ (.inl rfl) e,mA,⟨od,es,ep,k _ _ (.inr d) e2,c⟩,r⟩
 | own y=>obtain⟨ob,e⟩:=x;exact⟨ob,k _ _ (.inl rfl) e⟩
 | xd fs=>obtain⟨mA,⟨od,es,ep,e,c⟩,r⟩:=x;exact⟨mA,⟨od,es,ep,k _ _ (.inl rfl) e,c⟩,r⟩
 | rng lo hi=>obtain⟨t,u,v,e⟩:=x;exact⟨t,u,v,k _ _ (.inl rfl) e⟩
 | frz ob u ih=>obtain⟨e,q⟩:=x;exact⟨k _ _ (.inl rfl) e,ih q⟩
 | tbl ps=>
  have e:h.get? a=some { cls:=.none,data:=.fields ps }:=x
  show h'.get? a=some { cls:=.none,data:=.fields ps }
  exact k a _ (.inl rfl) e
 | met f y=>
  have e:h.get? a=some (PySem.W.methodObj (.ref f) (.ref y)):=x
  show h'.get? a=some (PySem.W.methodObj (.ref f) (.ref y))
  exact k a _ (.inl rfl) e
 | ext φ=>obtain⟨p,⟨o,e⟩,st⟩:=x;exact⟨st _ _ p fun o q=>k _ _ (.inl rfl) q,⟨o,k _ _ (.inl rfl) e⟩,st⟩
theorem HOk.lt (x:HOk P w H h) (e:H a=some o):a<h.objs.size:=(x a o e).lt
theorem HOk.fresh (x:HOk P w H h) (e:h.objs.size≤a):H a=none:=by
 cases q:H a with
 | none=>rfl
 | some u=>exact absurd (Nat.lt_of_lt_of_le (x.lt q) e) (Nat.lt_irrefl _)
theorem HOk.kept (x:HOk P w H h) (k:∀ b u,h.get? b=some u->h'.get? b=some u):HOk P w H h':=fun a o e=>
 (x a o e).stay (fun b u _ q=>k b u q) (fun _ q=>q) fun _ _ q=>q
theorem HOk.laid (x:HOk P w H h) (k:∀ b u,h.get? b=some u->h'.get? b=some u) (hp:h.objs.size≤a) (new:ObjOk P w (upd H a o) h' a o):HOk P w (upd H a o) h':=fun b u e=>by
 have hn:=x.fresh hp
 by_cases hb:b=a
 ·subst hb;rw [a1a] at e;cases e;exact new
 ·rw [a1c hb] at e
  exact (x b u e).stay (fun c v _ q=>k c v q) (fun c q=>by rw [a1c (a2l q hn)];exact q) fun c xs q=>by rw [a1c (a2l q hn)];exact q
end
def Rd (H:Hp) (a:Addr) (u:HO):Prop:=H a=some u\/∃ o,H a=some (.frz o u)
theorem Rd.of {H:Hp} {a:Addr} {u:HO} (h:H a=some u):Rd H a u:=.inl h
theorem Rd.ok {P:Program} {w:World} {H:Hp} {h:Heap} {a:Addr} {u:HO} (r:Rd H a u) (x:HOk P w H h):ObjOk P w H h a u:=by
 rcases r with r | ⟨o,r⟩
 ·exact x a u r
 ·obtain⟨_,q⟩:=x a _ r
  exact q
def Mut:Option HO->Prop
 | some (.lst _)=>True
 | some (.dK _)=>True
 | some (.dT _)=>True
 | some (.set _ _)=>True
 | some (.ins _ _ _)=>True
 | some (.ext _)=>True
 | _=>False
section
variable {P:Program} {w:World} {H:Hp} {h h':Heap} {x e:Addr} {o':HO}
theorem HOk.write (ok:HOk P w H h) (mu:Mut (H x)) (he:e=x\/H e=some (.own x)) (k:∀ b u,b≠e->h.get? b=some u->h'.get? b=some u) (heo:∃ u,h'.get? e=some u)
  (new:ObjOk P w (upd H x o') h' x o'):HOk P w (upd H x o') h':=fun b u q=>by
 have nown:∀ c y,H c=some (.own y)->c≠x:=fun c y r z=>by subst z;rw [r] at mu;exact mu
 have ntup:∀ c xs,H c=some (.tup xs)->c≠x:=fun c xs r z=>by subst z;rw [r] at mu;exact mu
 by_cases hb:b=x
 ·subst hb;rw [a1a] at q;cases q;exact new
 ·rw [a1c hb] at q
  by_cases hbe:b=e
  ·have q':H b=some (.own x):=by
    rcases he with z | z
    ·exact absurd (hbe.trans z) hb
    ·rw [hbe];exact z
   rw [q] at q';cases q'
   obtain⟨v,hv⟩:=heo
   exact⟨v,by rw [hbe];exact hv⟩
  ·refine (ok b u q).stay (fun c v hc r=>k c v ?_ r) (fun c r=>by rw [a1c (nown c b r)];exact r) fun c xs r=>by rw [a1c (ntup c xs r)];exact r
   rcases hc with rfl | hc
   ·exact hbe
   ·rintro rfl
    rcases he with z | z
    ·exact nown c b hc z
    ·rw [hc] at z;cases z;exact hb rfl
end
structure Un (fs ex:List Addr) (H H':Hp) (h h':Heap):Prop where
 keep:∀ b o,h.get? b=some o->H b=none->b∉fs->b∉ex->h'.get? b=some o
 slot:∀ b o,h.get? b=some o->H b=none->b∈fs->b∉ex->∃ sl,h'.get? b=some { o with slots:=sl }
 free:∀ b o,h.get? b=some o->H b=none->b∉ex->H' b=none
 there:∀ b o,h.get? b=some o->b∉ex->∃ o',h'.get? b=some o'
 tups:∀ b xs,H b=some (.tup xs)->H' b=some (.tup xs)
 frzs:∀ b o u,H b=some (.frz o u)->H' b=some (.frz o u)
 tbls:∀ b ps,H b=some (.tbl ps)->∃ more,H' b=some (.tbl (ps++more))
section
variable {fs fs' ex ex':List Addr} {H H1 H2:Hp} {h h1 h2 h':Heap} {a x e:Addr} {o:HO}
theorem Un.any (u:Un fs ex H H1 h h1) {b:Addr} {ob:Obj} (q:h.get? b=some ob) (n:H b=none) (hx:b∉ex):∃ sl,h1.get? b=some { ob with slots:=sl }:=by
 by_cases hb:b∈fs
 ·exact u.slot b ob q n hb hx
 ·exact⟨ob.slots,u.keep b ob q n hb hx⟩
theorem Un.trans (a:Un fs ex H H1 h h1) (b:Un fs ex H1 H2 h1 h2):Un fs ex H H2 h h2 where
 keep:=fun c ob q n hc hx=>b.keep c ob (a.keep c ob q n hc hx) (a.free c ob q n hx) hc hx
 slot:=fun c ob q n hc hx=>by
  obtain⟨sl,e1⟩:=a.slot c ob q n hc hx
  obtain⟨sl',e2⟩:=b.slot c _ e1 (a.free c ob q n hx) hc hx
  exact⟨sl',e2⟩
 free:=fun c ob q n hx=>by
  obtain⟨o',e1⟩:=a.there c ob q hx
  exact b.free c o' e1 (a.free c ob q n hx) hx
 there:=fun c ob q hx=>by
  obtain⟨o',e1⟩:=a.there c ob q hx
  exact b.there c o' e1 hx
 tups:=fun c xs q=>b.tups c xs (a.tups c xs q)
 frzs:=fun c ob xs q=>b.frzs c ob xs (a.frzs c ob xs q)
 tbls:=fun c ps q=>by
  obtain⟨m1,e1⟩:=a.tbls c ps q
  obtain⟨m2,e2⟩:=b.tbls c _ e1
  exact⟨m1++m2,by rw [e2,Array.append_assoc]⟩
theorem Un.kept (k:∀ b u,h.get? b=some u->h'.get? b=some u):Un fs ex H H h h':=
 ⟨fun b ob q _ _ _=>k b ob q,fun b ob q _ _ _=>⟨ob.slots,k b ob q⟩,fun _ _ _ n _=>n,fun b ob q _=>⟨ob,k b ob q⟩,fun _ _ q=>q,fun _ _ _ q=>q,fun _ ps q=>⟨#[],by rw [q];simp⟩⟩
theorem Un.refl:Un fs ex H H h h:=Un.kept fun _ _ q=>q
theorem Un.laid (k:∀ b u,h.get? b=some u->h'.get? b=some u) (hp:h.objs.size≤a) (hn:H a=none):Un fs ex H (upd H a o) h h' where
 keep:=fun b u q _ _ _=>k b u q
 slot:=fun b u q _ _ _=>⟨u.slots,k b u q⟩
 free:=fun b u q n _=>by rw [a1c (Nat.ne_of_lt (Nat.lt_of_lt_of_le (Heap.lt_size q) hp))];exact n
 there:=fun b u q _=>⟨u,k b u q⟩
 tups:=fun b xs q=>by rw [a1c (a2l q hn)];exact q
 frzs:=fun b u xs q=>by rw [a1c (a2l q hn)];exact q
 tbls:=fun b ps q=>⟨#[],by rw [a1c (a2l q hn),q];simp⟩
theorem Un.write (mu:Mut (H x)) (he:e=x\/H e=some (.own x)) (k:∀ b u,b≠e->h.get? b=some u->h'.get? b=some u) (heo:∃ u,h'.get? e=some u):Un fs ex H (upd H x o) h h':=by
 have hx:∀ b,H b=none->b≠x:=fun b n z=>by subst z;rw [n] at mu;exact mu
 have hb:∀ b,H b=none->b≠e:=fun b n z=>by
  subst z
  rcases he with r | r
  ·exact hx b n r
  ·rw [n] at r;cases r
 have hm:∀ b u,H b=some u->¬ Mut (some u)->b≠x:=fun b u q nm z=>by subst z;rw [q] at mu;exact nm mu
 refine⟨fun b u q n _ _=>k b u (hb b n) q,fun b u q n _ _=>⟨u.slots,k b u (hb b n) q⟩,fun b u q n _=>by rw [a1c (hx b n)];exact n,fun b u q _=>?_,
  fun b xs q=>by rw [a1c (hm b _ q fun z=>z)];exact q,fun b u xs q=>by rw [a1c (hm b _ q fun z=>z)];exact q,fun b ps q=>⟨#[],by rw [a1c (hm b _ q fun z=>z),q];simp⟩⟩
 by_cases hbe:b=e
 ·subst hbe;exact heo
 ·exact⟨u,k b u hbe q⟩
theorem Un.mono (u:Un fs ex H H1 h h1) (hs:∀ b∈fs,b∈fs') (hx:∀ b∈ex,b∈ex'):Un fs' ex' H H1 h h1:=
 ⟨fun b ob q n hb he=>u.keep b ob q n (fun z=>hb (hs b z)) fun z=>he (hx b z),fun _ _ q n _ he=>u.any q n fun z=>he (hx _ z),fun b ob q n he=>u.free b ob q n fun z=>he (hx b z),fun b ob q he=>u.there b ob q fun z=>he (hx b z),u.tups,u.frzs,u.tbls⟩
end
def trk (h:Heap) (H:Hp):List Addr:=(List.range h.objs.size).filter fun a=>(H a).isSome
def hidT (h:Heap) (H:Hp):Heap:=PySem.W.hideAll h (trk h H)
theorem a9o (h:Heap) (H:Hp):(hidT h H).objs.size=h.objs.size:=PySem.W.hideAll_size _ _
theorem b1e {h:Heap} {H:Hp} {b:Addr} {o:Obj} (e:h.get? b=some o) (n:H b=none):(hidT h H).get? b=some o:=
 PySem.W.hideAll_get _ e fun hm=>by
  have q:(H b).isSome=true:=(List.mem_filter.mp hm).2
  rw [n] at q;simp at q
theorem b2V {h:Heap} {H:Hp} {b:Addr} {o:Obj} (e:(hidT h H).get? b=some o):h.get? b=some o/\H b=none:=by
 have e':h.get? b=some o:=PySem.W.of_hideAll (trk h H) e
 refine⟨e',?_⟩
 cases q:H b with
 | none=>rfl
 | some x=>
  have hm:b∈trk h H:=List.mem_filter.mpr ⟨List.mem_range.mpr (Heap.lt_size e'),by simp [q]⟩
  have z:(hidT h H).get? b=none:=PySem.W.hideAll_none (trk h H) hm
  rw [z] at e;cases e
def b2W (g h:Heap) (L:Addr):List (Addr×Obj):=(List.range h.objs.size).filterMap fun a=>if a=L\/(g.get? a).isSome=true then none else (h.get? a).map fun o=>(a,o)
def rest (g h:Heap) (L d:Addr):List (Addr×Obj):=(b2W g h L).filter fun p=>decide (p.1≠d)
end L2
namespace L2
open PySem PySem.Spec PyProof.Rows
structure Mod (K:Fg) (mg:Str->Option Value) (base:Heap):Prop where
 kin:K.In base
 glob:base.Ns mainGlobals mg
 blt:∃ mb,base.Ns builtinsNs mb/\∀ x:Str,x≠"__name__"->mb x=bootBuiltins x
 nolimit:base.NoLimit
structure Cx where
 prog:Program
 w:World
 K:Fg
 mg:Str->Option Value
 base:Heap
 A:Around
 N:List Str
 s₀:Shared
 H₀:Hp
 env:Env
 outer:List Env
 stack:List Env
 ex:List Addr
 fn:Str->Bool
 calm:Bool
 pn:List (Addr×Obj)
 xe:Value->Shared->Prop
def frs (l:List Env):List Addr:=l.filterMap (·.frame)
abbrev Cx.fs (X:Cx):List Addr:=frs X.outer
def Vis (sc:Scope) (x:Str):Prop:=sc.names.lookup x=some .local\/sc.names.lookup x=some .cell\/sc.names.lookup x=some .free
def Loc (sc:Scope) (x:Str):Prop:=sc.names.lookup x=some .local\/sc.names.lookup x=some .cell
def Look (env:Env) (h:Heap) (m:Str->Option Value) (x:Str) (u:Value):Prop:=
 (env.kindOf x=some .local/\m x=some u)\/((env.kindOf x=some .cell\/env.kindOf x=some .free)/\∃ c,env.cells.lookup x=some c/\h.IsCell c (some u))
structure Cx.Ok (X:Cx):Prop where
 mod:Mod X.K X.mg X.base
 kind:X.env.scope.kind=.function
 glob:X.env.globals=mainGlobals
 blt:X.env.builtins=builtinsNs
 above:X.s₀.heap.objs.size≤X.env.locals
 inj:∀ x y c,X.env.cells.lookup x=some c->X.env.cells.lookup y=some c->x=y
 has:∀ x,(X.env.kindOf x=some .cell\/X.env.kindOf x=some .free)->∃ c,X.env.cells.lookup x=some c
 cab:∀ x c,X.fn x=true->X.env.cells.lookup x=some c->X.s₀.heap.objs.size≤c
 hd:X.calm=true->X.A.handled=none
 frames:X.A.frames=some X.stack
 stk:X.stack=X.outer\/(X.stack=X.env::X.outer/\X.env.frame=some X.env.locals)
 exf:∀ b∈X.ex,b≠X.env.locals/\∀ x c,X.env.cells.lookup x=some c->c≠b
 bs:∀ b o,X.base.get? b=some o->X.s₀.heap.get? b=some o/\X.H₀ b=none
 bsz:X.base.objs.size≤X.s₀.heap.objs.size
 noex:∀ b o,X.base.get? b=some o->b∉X.ex
 exfs:∀ b∈X.ex,b∉X.fs
 funs:X.s₀.heap.FunFrames X.base X.outer
 frf:∀ b∈X.fs,X.H₀ b=none
structure Inv (X:Cx) (pins:List (Addr×Obj)) (σ:List (Option V)) (H:Hp) (s:Shared):Prop where
 ok:X.Ok
 os:s.os=X.s₀.os
 bare:AllBare s.gens
 base:Un X.fs X.ex X.H₀ H X.s₀.heap s.heap
 loc:∃ m,s.heap.Ns X.env.locals m/\∀ (i:Nat) (x:Str) (v:V),X.N[i]?=some x->σ[i]?=some (some v)->Vis X.env.scope x->∃ u,RelV v u/\Look X.env s.heap m x u
 cell:∀ x c,X.env.cells.lookup x=some c->∃ v,s.heap.IsCell c v
 free:H X.env.locals=none
 freeC:∀ x c,X.env.cells.lookup x=some c->H c=none
 pin:∀ p∈X.pn++pins,s.heap.get? p.1=some p.2/\H p.1=none/\p.1≠X.env.locals/\p.1∉X.fs/\∀ v,p.2.data≠.cell v
 hok:HOk X.prog X.w H s.heap
 len:σ.length=X.N.length
section
variable {X:Cx} {pins:List (Addr×Obj)} {σ:List (Option V)} {H H':Hp} {s:Shared} {h':Heap}
theorem Cx.Ok.nofr (ok:X.Ok) {b:Addr} {o:Obj} (e:X.base.get? b=some o):b∉X.fs:=fun hb=>by
 have:=(ok.funs.mem hb).1
 rw [e] at this;cases this
theorem Inv.bs (I:Inv X pins σ H s):∀ b o,X.base.get? b=some o->s.heap.get? b=some o/\H b=none:=fun b o e=>
 ⟨I.base.keep b o (I.ok.bs b o e).1 (I.ok.bs b o e).2 (I.ok.nofr e) (I.ok.noex b o e),I.base.free b o (I.ok.bs b o e).1 (I.ok.bs b o e).2 (I.ok.noex b o e)⟩
theorem Inv.bk (I:Inv X pins σ H s):∀ b o,X.base.get? b=some o->s.heap.get? b=some o:=fun b o e=>(I.bs b o e).1
theorem Inv.mod (I:Inv X pins σ H s):Mod X.K X.mg X.base:=I.ok.mod
theorem Inv.kIn (I:Inv X pins σ H s):X.K.In s.heap:=I.ok.mod.kin.keeps I.bk
theorem Inv.nolimit (I:Inv X pins σ H s):s.heap.NoLimit:=I.ok.mod.nolimit.keeps I.bk
theorem Inv.fr (I:Inv X pins σ H s):∃ m,Fr X.base X.env.locals s.heap m:=
 let ⟨m,hn,_⟩:=I.loc
 ⟨m,hn,I.bk,Nat.le_trans I.ok.bsz I.ok.above⟩
theorem Inv.lt (I:Inv X pins σ H s):X.env.locals<s.heap.objs.size:=let ⟨_,hn,_⟩:=I.loc;hn.lt
theorem Inv.sz (I:Inv X pins σ H s):X.s₀.heap.objs.size≤s.heap.objs.size:=Nat.le_trans I.ok.above (Nat.le_of_lt I.lt)
theorem Inv.nofs (I:Inv X pins σ H s) {a:Addr} (h:s.heap.objs.size≤a):a∉X.fs:=fun hb=>by
 obtain⟨_,o,ho,_⟩:=I.ok.funs.mem hb
 exact absurd (Nat.lt_of_lt_of_le (Heap.lt_size ho) (Nat.le_trans I.sz h)) (Nat.lt_irrefl _)
theorem Inv.cne (I:Inv X pins σ H s):∀ x c,X.env.cells.lookup x=some c->c≠X.env.locals:=fun x c e z=>by
 obtain⟨v,o,ho,hd⟩:=I.cell x c e
 obtain⟨m,⟨o',es,ep,ho',hd',_⟩,_⟩:=I.loc
 rw [z,ho'] at ho;cases ho;rw [hd'] at hd;cases hd
theorem Inv.funs (I:Inv X pins σ H s):s.heap.FunFrames X.base X.outer:=by
 have all:∀ (l:List Env),(∀ b∈frs l,b∈X.fs)->X.s₀.heap.FunFrames X.base l->s.heap.FunFrames X.base l:=by
  intro l
  induction l with
  | nil=>intro _ _;trivial
  | cons env r ih=>
   intro hs hl
   obtain⟨hk,⟨L,o,hf,hn,ho,hd⟩,hr⟩:=hl
   have hL:L∈X.fs:=hs L (by unfold frs;rw [List.filterMap_cons,hf];exact List.mem_cons_self)
   obtain⟨sl,e⟩:=I.base.slot L o ho (I.ok.frf L hL) hL fun z=>I.ok.exfs L z hL
   exact⟨hk,⟨L,_,hf,hn,e,hd⟩,ih (fun b hb=>hs b (by unfold frs;rw [List.filterMap_cons,hf];exact List.mem_cons_of_mem _ hb)) hr⟩
 exact all X.outer (fun _ hb=>hb) I.ok.funs
theorem Inv.stack (I:Inv X pins σ H s):s.heap.FunFrames X.base X.stack:=by
 rcases I.ok.stk with e | ⟨e,hf⟩
 ·rw [e];exact I.funs
 ·rw [e]
  obtain⟨m,hn,_⟩:=I.loc
  refine .cons (by rw [I.ok.kind];decide) hf hn ?_ I.funs
  exact Heap.get?_none_of_le (Nat.le_trans I.ok.bsz I.ok.above)
theorem Inv.stkSub (I:Inv X pins σ H s):∀ b∈frs X.stack,b∈X.env.locals::X.fs:=fun b hb=>by
 rcases I.ok.stk with e | ⟨e,hf⟩
 ·rw [e] at hb;exact List.mem_cons_of_mem _ hb
 ·rw [e] at hb
  unfold frs at hb
  rw [List.filterMap_cons,hf] at hb
  exact hb
theorem Inv.stkFree (I:Inv X pins σ H s):∀ b∈frs X.stack,H b=none:=fun b hb=>by
 rcases List.mem_cons.mp (I.stkSub b hb) with e | hb
 ·rw [e];exact I.free
 ·obtain⟨_,o,ho,_⟩:=I.ok.funs.mem hb
  exact I.base.free b o ho (I.ok.frf b hb) fun z=>I.ok.exfs b z hb
theorem Inv.step {g':Array GenState} {t':Nat} {d':Drawn} {ch:List Addr} (I:Inv X pins σ H s)
  (hch:∀ b∈ch,(b∈X.ex\/X.s₀.heap.objs.size≤b)/\b≠X.env.locals/\(∀ x c,X.env.cells.lookup x=some c->c≠b)/\∀ p∈X.pn++pins,p.1≠b)
  (keep:∀ b o,b≠X.env.locals->b∉X.fs->b∉ch->s.heap.get? b=some o->H b=none->h'.get? b=some o)
  (slot:∀ b o,b≠X.env.locals->b∈X.fs->b∉ch->s.heap.get? b=some o->H b=none->∃ sl,h'.get? b=some { o with slots:=sl }) (free:∀ b o,b∉ch->s.heap.get? b=some o->H b=none->H' b=none)
  (there:∀ b o,b∉ch->s.heap.get? b=some o->∃ o',h'.get? b=some o')
  (tups:∀ b xs,H b=some (.tup xs)->H' b=some (.tup xs)) (frzs:∀ b o u,H b=some (.frz o u)->H' b=some (.frz o u)) (tbls:∀ b ps,H b=some (.tbl ps)->∃ more,H' b=some (.tbl (ps++more)))
  (ns:∀ m,s.heap.Ns X.env.locals m->h'.Ns X.env.locals m) (hok:HOk X.prog X.w H' h') (hg:AllBare g') :
  Inv X pins σ H' { s with heap:=h',gens:=g',drawn:=d',toks:=t' }:=by
 have neL:∀ b o,X.s₀.heap.get? b=some o->b≠X.env.locals:=fun b o e=>Nat.ne_of_lt (Nat.lt_of_lt_of_le (Heap.lt_size e) I.ok.above)
 have neC:∀ b o,X.s₀.heap.get? b=some o->b∉X.ex->b∉ch:=fun b o e hx hb=>by
  rcases (hch b hb).1 with z | z
  ·exact hx z
  ·exact absurd (Nat.lt_of_lt_of_le (Heap.lt_size e) z) (Nat.lt_irrefl _)
 have cellK:∀ x c,X.env.cells.lookup x=some c->∀ v,s.heap.IsCell c v->h'.IsCell c v:=fun x c e v ⟨o,ho,hd⟩=>by
  have nch:c∉ch:=fun z=>(hch c z).2.2.1 x c e rfl
  by_cases hc:c∈X.fs
  ·obtain⟨sl,q⟩:=slot c o (I.cne x c e) hc nch ho (I.freeC x c e)
   exact⟨_,q,hd⟩
  ·exact⟨o,keep c o (I.cne x c e) hc nch ho (I.freeC x c e),hd⟩
 refine⟨I.ok,I.os,hg,⟨fun b o e n hb hx=>?_,fun b o e n hb hx=>?_,fun b o e n hx=>?_,fun b o e hx=>?_,fun b xs e=>tups b xs (I.base.tups b xs e),fun b o xs e=>frzs b o xs (I.base.frzs b o xs e),fun b ps e=>?_⟩,?_,fun x c e=>?_,?_,fun x c e=>?_,fun p hp=>?_,hok,I.len⟩
 ·exact keep b o (neL b o e) hb (neC b o e hx) (I.base.keep b o e n hb hx) (I.base.free b o e n hx)
 ·obtain⟨sl,e1⟩:=I.base.slot b o e n hb hx
  obtain⟨sl',e2⟩:=slot b _ (neL b o e) hb (neC b o e hx) e1 (I.base.free b o e n hx)
  exact⟨sl',e2⟩
 ·obtain⟨o',e1⟩:=I.base.there b o e hx
  exact free b o' (neC b o e hx) e1 (I.base.free b o e n hx)
 ·obtain⟨o',e1⟩:=I.base.there b o e hx
  exact there b o' (neC b o e hx) e1
 ·obtain⟨m1,e1⟩:=I.base.tbls b ps e
  obtain⟨m2,e2⟩:=tbls b _ e1
  exact⟨m1++m2,by rw [e2,Array.append_assoc]⟩
 ·obtain⟨m,hn,hl⟩:=I.loc
  refine⟨m,ns m hn,fun i x v e1 e2 e3=>?_⟩
  obtain⟨u,r,l⟩:=hl i x v e1 e2 e3
  refine⟨u,r,?_⟩
  rcases l with l | ⟨k,c,e,z⟩
  ·exact .inl l
  ·exact .inr ⟨k,c,e,cellK x c e _ z⟩
 ·obtain⟨v,z⟩:=I.cell x c e
  exact⟨v,cellK x c e v z⟩
 ·obtain⟨m,⟨o,_,_,ho,_⟩,_⟩:=I.loc
  exact free _ o (fun z=>(hch _ z).2.1 rfl) ho I.free
 ·obtain⟨v,o,ho,hd⟩:=I.cell x c e
  exact free c o (fun z=>(hch c z).2.2.1 x c e rfl) ho (I.freeC x c e)
 ·obtain⟨e,n,ne,nf,d⟩:=I.pin p hp
  have nch:p.1∉ch:=fun z=>(hch p.1 z).2.2.2 p hp rfl
  exact⟨keep p.1 p.2 ne nf nch e n,free p.1 p.2 nch e n,ne,nf,d⟩
theorem Inv.un {t':Nat} (I:Inv X pins σ H s) (u:Un X.fs [] H H' s.heap h') (hok:HOk X.prog X.w H' h'):Inv X pins σ H' { s with heap:=h',toks:=t' }:=by
 obtain⟨m,⟨o,es,ep,ho,r⟩,_⟩:=id I.loc
 obtain⟨sl,hL⟩:=u.any ho I.free (by simp)
 exact I.step (g':=s.gens) (d':=s.drawn) (ch:=[]) (fun _ z=>nomatch z) (fun b o _ hb _ e n=>u.keep b o e n hb (by simp)) (fun b o _ hb _ e n=>u.slot b o e n hb (by simp)) (fun b o _ e n=>u.free b o e n (by simp)) (fun b o _ e=>u.there b o e (by simp)) u.tups u.frzs u.tbls (fun m' hm=>by
  obtain⟨o',es',ep',ho',r'⟩:=hm
  rw [ho] at ho';cases ho'
  exact⟨_,es',ep',hL,r'⟩) hok I.bare
theorem Inv.call {g':Array GenState} {t':Nat} {d':Drawn} {ch:List Addr} (I:Inv X pins σ H s) (u:Un (frs X.stack) ch H H' s.heap h') (hok:HOk X.prog X.w H' h') (hg:AllBare g')
  (hch:∀ b∈ch,(b∈X.ex\/X.s₀.heap.objs.size≤b)/\b≠X.env.locals/\(∀ x c,X.env.cells.lookup x=some c->c≠b)/\∀ p∈X.pn++pins,p.1≠b) :
  Inv X pins σ H' { s with heap:=h',gens:=g',drawn:=d',toks:=t' }:=by
 obtain⟨m,⟨o,es,ep,ho,r⟩,_⟩:=id I.loc
 obtain⟨sl,hL⟩:=u.any ho I.free fun z=>(hch _ z).2.1 rfl
 exact I.step (ch:=ch) hch (fun b o hL hb hc e n=>u.keep b o e n (fun z=>(List.mem_cons.mp (I.stkSub b z)).elim hL hb) hc) (fun b o _ _ hc e n=>u.any e n hc) (fun b o hc e n=>u.free b o e n hc) (fun b o hc e=>u.there b o e hc) u.tups u.frzs u.tbls (fun m' hm=>by
  obtain⟨o',es',ep',ho',r'⟩:=hm
  rw [ho] at ho';cases ho'
  exact⟨_,es',ep',hL,r'⟩) hok hg
theorem Inv.turned {t':Nat} {it:Addr} (I:Inv X pins σ H s) (k:∀ b o,b≠it->s.heap.get? b=some o->h'.get? b=some o) (hn:H it=none) (hL:it≠X.env.locals)
  (h1:it∈X.ex\/X.s₀.heap.objs.size≤it) (h2:∀ x c,X.env.cells.lookup x=some c->c≠it) (h3:∀ p∈X.pn++pins,p.1≠it):Inv X pins σ H { s with heap:=h',toks:=t' }:=by
 have nit:∀ b u,H b=some u->b≠it:=fun b u e z=>by rw [z,hn] at e;cases e
 refine I.step (g':=s.gens) (d':=s.drawn) (ch:=[it]) (fun b hb=>?_) (fun b o _ _ hc e _=>k b o (fun z=>hc (by simp [z])) e) (fun b o _ _ hc e _=>⟨o.slots,k b o (fun z=>hc (by simp [z])) e⟩) (fun _ _ _ _ n=>n)
  (fun b o hc e=>⟨o,k b o (fun z=>hc (by simp [z])) e⟩) (fun _ _ e=>e) (fun _ _ _ e=>e) (fun b ps e=>⟨#[],by rw [e];simp⟩) (fun m hm=>?_) (fun b u e=>?_) I.bare
 ·have e:b=it:=by simpa using hb
  subst e
  exact⟨h1,hL,h2,h3⟩
 ·obtain⟨o,es,ep,ho,r⟩:=hm
  exact⟨o,es,ep,k _ o (Ne.symm hL) ho,r⟩
 ·refine (I.hok b u e).stay (fun c v hc q=>k c v ?_ q) (fun _ q=>q) fun _ _ q=>q
  rcases hc with z | z
  ·rw [z];exact nit b u e
  ·exact nit c _ z
theorem Inv.tok (I:Inv X pins σ H s) (t:Nat):Inv X pins σ H { s with toks:=t }:=I.un (h':=s.heap) (t':=t) Un.refl I.hok
theorem Inv.kept {t':Nat} (I:Inv X pins σ H s) (k:∀ b u,s.heap.get? b=some u->h'.get? b=some u):Inv X pins σ H { s with heap:=h',toks:=t' }:=I.un (Un.kept k) (I.hok.kept k)
theorem Inv.laid {a:Addr} {o:HO} {t':Nat} (I:Inv X pins σ H s) (k:∀ b u,s.heap.get? b=some u->h'.get? b=some u) (hp:s.heap.objs.size≤a) (new:ObjOk X.prog X.w (upd H a o) h' a o) :
  Inv X pins σ (upd H a o) { s with heap:=h',toks:=t' }:=I.un (Un.laid k hp (I.hok.fresh hp)) (I.hok.laid k hp new)
theorem Inv.write {x e:Addr} {o:HO} {t':Nat} (I:Inv X pins σ H s) (mu:Mut (H x)) (he:e=x\/H e=some (.own x)) (k:∀ b u,b≠e->s.heap.get? b=some u->h'.get? b=some u) (heo:∃ u,h'.get? e=some u)
  (new:ObjOk X.prog X.w (upd H x o) h' x o):Inv X pins σ (upd H x o) { s with heap:=h',toks:=t' }:=I.un (Un.write mu he k heo) (I.hok.write mu he k heo new)
theorem Inv.weak {σ':List (Option V)} (I:Inv X pins σ H s) (hl:σ'.length=σ.length) (w:∀ (i:Nat) v,σ'[i]?=some (some v)->σ[i]?=some (some v)):Inv X pins σ' H s:=
 ⟨I.ok,I.os,I.bare,I.base,let ⟨m,hn,hl'⟩:=I.loc;⟨m,hn,fun i x v e1 e2 e3=>hl' i x v e1 (w i v e2) e3⟩,I.cell,I.free,I.freeC,I.pin,I.hok,hl.trans I.len⟩
theorem Inv.pins_of {pins':List (Addr×Obj)} (I:Inv X pins σ H s) (h:∀ p∈pins',s.heap.get? p.1=some p.2/\H p.1=none/\p.1≠X.env.locals/\p.1∉X.fs/\∀ v,p.2.data≠.cell v):Inv X pins' σ H s:=
 ⟨I.ok,I.os,I.bare,I.base,I.loc,I.cell,I.free,I.freeC,fun p hp=>(List.mem_append.mp hp).elim (fun z=>I.pin p (List.mem_append_left _ z)) (h p),I.hok,I.len⟩
theorem a78 {N:List Str} (hN:N.Nodup) {i j:Nat} {x:Str} (a:N[i]?=some x) (b:N[j]?=some x):i=j:=by
 obtain⟨h1,e1⟩:=List.getElem?_eq_some_iff.mp a
 obtain⟨h2,e2⟩:=List.getElem?_eq_some_iff.mp b
 exact (List.getElem_inj hN).mp (e1.trans e2.symm)
theorem a6u {M:Model} {A:Around} {E:Value->Shared->Prop} {i:Nat} {x:Str} {v:V} {u:Value} {Q:Unit->Shared->Prop} (I:Inv X pins σ H s) (hN:X.N.Nodup) (hi:X.N[i]?=some x) (hx:Loc X.env.scope x) (r:RelV v u)
  (h:∀ s',Inv X pins (σ.set i (some v)) H s'->(∃ a,Heap.SameBut a s.heap s'.heap/\(a=X.env.locals\/X.env.cells.lookup x=some a))->Q () s') (hf:X.fn x=true\/X.env.scope.names.lookup x=some .local:=by first | exact .inl rfl | exact .inr rfl | assumption):wpAny M A (storeName X.env x u) Q E s:=by
 obtain⟨m,hn,hl⟩:=id I.loc
 have hcls:(X.env.scope.kind==.class||(X.env.scope.kind==.module&&X.env.locals != X.env.globals))=false:=by rw [I.ok.kind];rfl
 have hiσ:i<σ.length:=by rw [I.len];exact (List.getElem?_eq_some_iff.mp hi).1
 have cne:=I.cne
 have tracked:∀ {a:Addr} {h':Heap},(∃ o,s.heap.get? a=some o/\H a=none)->Heap.SameBut a s.heap h'->HOk X.prog X.w H h':=fun {a h'} ha hs b ob e=>by
  obtain⟨_,_,hfree⟩:=ha
  refine (I.hok b ob e).stay (fun c w' hc q=>(hs.2 c ?_).trans q) (fun _ q=>q) fun _ _ q=>q
  rintro rfl
  rcases hc with rfl | hc
  ·rw [hfree] at e;cases e
  ·rw [hfree] at hc;cases hc
 rcases hx with hk | hk
 ·refine wpAny_storeName_local hk hn (fun h' hn' hs=>?_) hcls
  obtain⟨oL,_,_,hoL,_⟩:=id hn
  refine h _ ⟨I.ok,I.os,I.bare,⟨fun b o e n hb hx=>?_,fun b o e n hb hx=>?_,I.base.free,fun b o e hx=>?_,I.base.tups,I.base.frzs,I.base.tbls⟩,⟨_,hn',fun j y v' e1 e2 e3=>?_⟩,fun y c e=>?_,I.free,I.freeC,fun p hp=>?_,tracked ⟨oL,hoL,I.free⟩ hs,by simpa using I.len⟩ ⟨_,hs,.inl rfl⟩
  ·exact (hs.2 b (Nat.ne_of_lt (Nat.lt_of_lt_of_le (Heap.lt_size e) I.ok.above))).trans (I.base.keep b o e n hb hx)
  ·obtain⟨sl,e1⟩:=I.base.slot b o e n hb hx
   exact⟨sl,(hs.2 b (Nat.ne_of_lt (Nat.lt_of_lt_of_le (Heap.lt_size e) I.ok.above))).trans e1⟩
  ·obtain⟨o',e1⟩:=I.base.there b o e hx
   exact⟨o',(hs.2 b (Nat.ne_of_lt (Nat.lt_of_lt_of_le (Heap.lt_size e) I.ok.above))).trans e1⟩
  ·by_cases hj:j=i
   ·subst hj
    rw [hi] at e1;cases e1
    rw [List.getElem?_set_self hiσ] at e2
    cases e2
    exact⟨u,r,.inl ⟨hk,by simp⟩⟩
   ·rw [List.getElem?_set_ne (Ne.symm hj)] at e2
    obtain⟨u',r',q⟩:=hl j y v' e1 e2 e3
    refine⟨u',r',?_⟩
    rcases q with ⟨k,e⟩ | ⟨k,c,e,z⟩
    ·refine .inl ⟨k,?_⟩
     have:y≠x:=fun e=>hj (a78 hN e1 (e▸hi))
     simp [this,e]
    ·exact .inr ⟨k,c,e,z.sameBut hs (cne y c e)⟩
  ·obtain⟨w',z⟩:=I.cell y c e
   exact⟨w',z.sameBut hs (cne y c e)⟩
  ·obtain⟨e,n,ne,nf,d⟩:=I.pin p hp
   exact⟨(hs.2 p.1 ne).trans e,n,ne,nf,d⟩
 ·have hfn:X.fn x=true:=by
   rcases hf with z | z
   ·exact z
   ·rw [z] at hk;cases hk
  obtain⟨c,hc⟩:=I.ok.has x (.inl hk)
  obtain⟨w',z⟩:=I.cell x c hc
  refine wpAny_storeName_cell I.ok.kind hk hc z (fun h' hc' hs=>?_)
  obtain⟨oc,hoc,hocd⟩:=id z
  refine h { s with heap:=h' } ⟨I.ok,I.os,I.bare,⟨fun b o e n hb hx=>?_,fun b o e n hb hx=>?_,I.base.free,fun b o e hx=>?_,I.base.tups,I.base.frzs,I.base.tbls⟩,⟨m,hn.sameBut hs (Ne.symm (cne x c hc)),fun j y v' e1 e2 e3=>?_⟩,fun y c' e=>?_,I.free,I.freeC,fun p hp=>?_,tracked ⟨oc,hoc,I.freeC x c hc⟩ hs,by simpa using I.len⟩ ⟨c,hs,.inr hc⟩
  ·exact (hs.2 b (Nat.ne_of_lt (Nat.lt_of_lt_of_le (Heap.lt_size e) (I.ok.cab x c hfn hc)))).trans (I.base.keep b o e n hb hx)
  ·obtain⟨sl,e1⟩:=I.base.slot b o e n hb hx
   exact⟨sl,(hs.2 b (Nat.ne_of_lt (Nat.lt_of_lt_of_le (Heap.lt_size e) (I.ok.cab x c hfn hc)))).trans e1⟩
  ·obtain⟨o',e1⟩:=I.base.there b o e hx
   exact⟨o',(hs.2 b (Nat.ne_of_lt (Nat.lt_of_lt_of_le (Heap.lt_size e) (I.ok.cab x c hfn hc)))).trans e1⟩
  ·by_cases hj:j=i
   ·subst hj
    rw [hi] at e1;cases e1
    rw [List.getElem?_set_self hiσ] at e2
    cases e2
    exact⟨u,r,.inr ⟨.inl hk,c,hc,hc'⟩⟩
   ·rw [List.getElem?_set_ne (Ne.symm hj)] at e2
    obtain⟨u',r',q⟩:=hl j y v' e1 e2 e3
    refine⟨u',r',?_⟩
    rcases q with q | ⟨k,c',e,z'⟩
    ·exact .inl q
    ·refine .inr ⟨k,c',e,z'.sameBut hs ?_⟩
     rintro rfl
     exact hj (a78 hN e1 (I.ok.inj _ _ _ e hc▸hi))
  ·by_cases hcc:c'=c
   ·subst hcc;exact⟨_,hc'⟩
   ·obtain⟨w2,z2⟩:=I.cell y c' e
    exact⟨w2,z2.sameBut hs hcc⟩
  ·obtain⟨e,n,ne,nf,d⟩:=I.pin p hp
   refine⟨(hs.2 p.1 ?_).trans e,n,ne,nf,d⟩
   intro q
   rw [q,hoc] at e
   have q':oc=p.2:=Option.some.inj e
   exact d w' (by rw [<- q'];exact hocd)
theorem a4L {M:Model} {A:Around} {E:Value->Shared->Prop} {i:Nat} {x:Str} {v:V} {u:Value} {Q:Unit->Shared->Prop} (I:Inv X pins σ H s) (hN:X.N.Nodup) (hi:X.N[i]?=some x) (hx:Loc X.env.scope x) (r:RelV v u)
  (h:∀ s',Inv X pins (σ.set i (some v)) H s'->Q () s') (hf:X.fn x=true\/X.env.scope.names.lookup x=some .local:=by first | exact .inl rfl | exact .inr rfl | assumption):wpAny M A (storeName X.env x u) Q E s:=
 a6u I hN hi hx r (fun s' I' _=>h s' I') hf
theorem Inv.call' {s':Shared} {ch:List Addr} (I:Inv X pins σ H s) (ho:s'.os=s.os) (u:Un (frs X.stack) ch H H' s.heap s'.heap) (hok:HOk X.prog X.w H' s'.heap) (hg:AllBare s'.gens)
  (hch:∀ b∈ch,(b∈X.ex\/X.s₀.heap.objs.size≤b)/\b≠X.env.locals/\(∀ x c,X.env.cells.lookup x=some c->c≠b)/\∀ p∈X.pn++pins,p.1≠b):Inv X pins σ H' s':=by
 obtain⟨h',g',d',t',o'⟩:=s'
 have e:o'=s.os:=ho
 subst e
 exact I.call (g':=g') (t':=t') (d':=d') u hok hg hch
end
abbrev XK:=Value->Option Addr->Hp->Prop
abbrev St:=List (Option V)
abbrev VK:=V->Hp->Prop
abbrev TE:=St->Hp->VK->Prop
abbrev TT:=St->Hp->(Bool->Hp->Prop)->Prop
abbrev TA:=St->Hp->(List V->Hp->Prop)->Prop
structure Ends where
 nx:St->Hp->Prop
 rt:VK
 bk:St->Hp->Prop:=fun _ _=>False
 ct:St->Hp->Prop:=fun _ _=>False
abbrev TS:=Ends->St->Hp->Prop
def EP (X:Cx) (pins:List (Addr×Obj)) (σ:St) (Q:VK) (u:Value) (s':Shared):Prop:=∃ v H',Inv X pins σ H' s'/\RelV v u/\Q v H'
def TP (X:Cx) (pins:List (Addr×Obj)) (σ:St) (Q:Bool->Hp->Prop) (b:Bool) (s':Shared):Prop:=∃ H',Inv X pins σ H' s'/\Q b H'
def AP (X:Cx) (pins:List (Addr×Obj)) (σ:St) (Q:List V->Hp->Prop) (us:List Value) (s':Shared):Prop:=∃ vs H',Inv X pins σ H' s'/\Vals vs us/\Q vs H'
def SP (X:Cx) (pins:List (Addr×Obj)) (D:Ends) (f:Flow) (s':Shared):Prop:=
 match f with
 | .next=>∃ σ' H',Inv X pins σ' H' s'/\D.nx σ' H'
 | .brk=>∃ σ' H',Inv X pins σ' H' s'/\D.bk σ' H'
 | .cont=>∃ σ' H',Inv X pins σ' H' s'/\D.ct σ' H'
 | .ret u=>∃ v σ' H',Inv X pins σ' H' s'/\RelV v u/\D.rt v H'
def PE (X:Cx) (e:Expr) (t:TE):Prop:=
 ∀ (pins:List (Addr×Obj)) (s:Shared) (σ:St) (H:Hp) (Q:VK),Inv X pins σ H s->t σ H Q->wpAny (model X.prog X.w) X.A (eval e X.env) (EP X pins σ Q) X.xe s
def PT (X:Cx) (e:Expr) (t:TT):Prop:=
 ∀ (pins:List (Addr×Obj)) (s:Shared) (σ:St) (H:Hp) (Q:Bool->Hp->Prop),Inv X pins σ H s->t σ H Q->wpAny (model X.prog X.w) X.A (isTrue e X.env (eval e X.env)) (TP X pins σ Q) X.xe s
def PW (X:Cx) (e:Expr) (t:TT):Prop:=
 ∀ (whole:Sem Value) (pins:List (Addr×Obj)) (s:Shared) (σ:St) (H:Hp) (Q:Bool->Hp->Prop),Inv X pins σ H s->t σ H Q->wpAny (model X.prog X.w) X.A (isTrue e X.env whole) (TP X pins σ Q) X.xe s
theorem PW.pt {X:Cx} {e:Expr} {t:TT} (h:PW X e t):PT X e t:=h _
def PA (X:Cx) (es:List Expr) (t:TA):Prop:=
 ∀ (pos:Pos) (pins:List (Addr×Obj)) (s:Shared) (σ:St) (H:Hp) (Q:List V->Hp->Prop),Inv X pins σ H s->t σ H Q->wpAny (model X.prog X.w) X.A (spliced (backTo pos (starEach es X.env))) (AP X pins σ Q) X.xe s
def PS (X:Cx) (st:Stmt) (t:TS):Prop:=
 ∀ (pins:List (Addr×Obj)) (s:Shared) (σ:St) (H:Hp) (D:Ends),Inv X pins σ H s->t D σ H->wpAny (model X.prog X.w) X.A (exec st X.env) (SP X pins D) X.xe s
def PSs (X:Cx) (st:List Stmt) (t:TS):Prop:=
 ∀ (pins:List (Addr×Obj)) (s:Shared) (σ:St) (H:Hp) (D:Ends),Inv X pins σ H s->t D σ H->wpAny (model X.prog X.w) X.A (execs st X.env) (SP X pins D) X.xe s
theorem thn {α:Type} {t:Sem α} {Q Q':α->Shared->Prop} {M:Model} {A:Around} {E:Value->Shared->Prop} {s:Shared} (h:wpAny M A t Q E s) (hQ:∀ a s,Q a s->Q' a s):wpAny M A t Q' E s:=wpAny_mono h hQ fun _ _ x=>x
end L2
namespace L2
open PySem PySem.Spec PyProof.Rows
section
variable {X:Cx}
def tVar (i:Nat):TE:=fun σ H Q=>∃ v,σ[i]?=some (some v)/\Q v H
def tC (v:V):TE:=fun _ H Q=>Q v H
theorem b4m {i:Nat} {x:Str} {pos:Pos} (hN:X.N[i]?=some x) (hv:Vis X.env.scope x) (hd:(x==("__debug__":Str))=false:=by decide) (hcd:(x==("__classdict__":Str))=false:=by decide):PE X (.Name x pos) (tVar i):=by
 intro pins s σ H Q I h
 obtain⟨v,e,h⟩:=h
 obtain⟨m,hn,hl⟩:=I.loc
 obtain⟨u,r,l⟩:=hl i x v hN e hv
 have fin:EP X pins σ Q u s:=⟨v,H,I,r,h⟩
 rcases l with ⟨hk,hm⟩ | ⟨hk,c,hc,hcell⟩
 ·exact wpAny_Name (wpAny_loadName_local I.ok.kind hk hn hm fin) hd
 ·rcases hk with hk | hk
  ·exact wpAny_Name (wpAny_loadName_cell I.ok.kind hk hc hcell fin) hd
  ·exact wpAny_Name (wpAny_loadName_free I.ok.kind hk hc hcell fin hcd) hd
theorem b4n {i j pos}:PE X (.Constant (.int i) j pos) (tC (.int i)):=fun _ _ _ H _ I h=>wpAny_Constant_int ⟨.int i,H,I.tok _,⟨_,rfl⟩,h⟩
theorem b6S {b j pos}:PE X (.Constant (.bool b) j pos) (tC (.bl b)):=fun _ _ _ H _ I h=>Constant_bool ⟨.bl b,H,I,rfl,h⟩
theorem b4o {j pos}:PE X (.Constant .none j pos) (tC .non):=fun _ _ _ H _ I h=>Constant_none ⟨.non,H,I,rfl,h⟩
theorem b4p {x j pos}:PE X (.Constant (.str x) j pos) (tC (.str x)):=fun _ _ _ H _ I h=>Calls.Constant_str ⟨.str x,H,I.tok _,⟨_,rfl⟩,h⟩
def Gl (X:Cx) (x:Str):Prop:=X.env.kindOf x=some .globalImplicit
theorem a3o {E:Value->Shared->Prop} {pins:List (Addr×Obj)} {s:Shared} {σ:St} {H:Hp} {x:Str} {u:Value} {pos:Pos} {Q:Value->Shared->Prop} (I:Inv X pins σ H s) (hg:Gl X x) (hm:X.mg x=some u) (h:Q u s)
  (hd:(x==("__debug__":Str))=false:=by decide):wpAny (model X.prog X.w) X.A (eval (.Name x pos) X.env) Q E s:=
 Calls.Name_function_global I.ok.kind hg (Calls.loadGlobal_global (by rw [I.ok.glob];exact I.mod.glob.keeps I.bk) hm h) hd
theorem a6v {E:Value->Shared->Prop} {pins:List (Addr×Obj)} {s:Shared} {σ:St} {H:Hp} {x:Str} {u:Value} {pos:Pos} {Q:Value->Shared->Prop} (I:Inv X pins σ H s) (hg:Gl X x) (hm:X.mg x=none) (hv:bootBuiltins x=some u) (h:Q u s)
  (hn:x≠"__name__":=by decide) (hd:(x==("__debug__":Str))=false:=by decide):wpAny (model X.prog X.w) X.A (eval (.Name x pos) X.env) Q E s:=by
 obtain⟨mb,h1,h2⟩:=I.mod.blt
 exact Calls.Name_function_global I.ok.kind hg (Calls.loadGlobal_builtin (by rw [I.ok.glob];exact I.mod.glob.keeps I.bk) hm (by rw [I.ok.blt];exact h1.keeps I.bk) ((h2 x hn).trans hv) h) hd
theorem a9p {x:Str} {v:V} {u:Value} {pos:Pos} (hg:Gl X x) (hm:X.mg x=some u) (r:RelV v u) (hd:(x==("__debug__":Str))=false:=by decide):PE X (.Name x pos) (tC v):=
 fun _ _ _ H _ I h=>a3o I hg hm ⟨v,H,I,r,h⟩ hd
theorem a33 {x:Str} {v:V} {u:Value} {pos:Pos} (hg:Gl X x) (hm:X.mg x=none) (hv:bootBuiltins x=some u) (r:RelV v u) (hn:x≠"__name__":=by decide) (hd:(x==("__debug__":Str))=false:=by decide):PE X (.Name x pos) (tC v):=
 fun _ _ _ H _ I h=>a6v I hg hm hv ⟨v,H,I,r,h⟩ hn hd
variable {a b:Expr} {ta tb:TE} {pos:Pos}
def PC (X:Cx) (op:CmpOp) (a b:Expr) (t:TE):Prop:=
 ∀ (pins:List (Addr×Obj)) (s:Shared) (σ:St) (H:Hp) (Q:VK),Inv X pins σ H s->t σ H Q ->
  wpAny (model X.prog X.w) X.A (eval a X.env) (fun v s₁=>wpAny (model X.prog X.w) X.A (eval b X.env) (fun u s₂=>wpAny (model X.prog X.w) X.A (compareOp op v u) (EP X pins σ Q) X.xe s₂) X.xe s₁) X.xe s
def tB (t:TE):TT:=fun σ H Q=>t σ H fun x H1=>∃ c,x=.bl c/\Q c H1
theorem b4q {e:Expr} {t:TE} (h:PE X e t) (he:∀ whole,isTrue e X.env whole=(do let v <- whole;standAt e.pos;holding [v] (truthy v)):=by intro _;rfl):PT X e (tB t):=by
 intro pins s σ H Q I hw
 refine isTrue_plain (thn (h pins s σ H _ I hw) fun v s1 ⟨x,H1,I1,r1,q1⟩=>?_) (he _)
 obtain⟨d,rfl,q⟩:=q1
 cases r1
 exact wpAny_truthy_bool ⟨H1,I1,q⟩
variable {tA tB':TT} {rest:List Expr}
def tAnd (t u:TT):TT:=fun σ H Q=>t σ H fun c H1=>if c=true then u σ H1 Q else Q false H1
def tOr (t u:TT):TT:=fun σ H Q=>t σ H fun c H1=>if c=true then Q true H1 else u σ H1 Q
def tNot (t:TT):TT:=fun σ H Q=>t σ H fun c H1=>Q (!c) H1
theorem b2X (ha:PT X a tA):PW X (.BoolOp .And [a] pos) tA:=by
 intro wh pins s σ H Q I h
 refine isTrue_and (thn (ha pins s σ H Q I h) fun c s1 e=>?_)
 cases c with
 | true=>exact isTrue_and_nil e
 | false=>exact e
theorem b4r (ha:PT X a tA):PW X (.BoolOp .Or [a] pos) tA:=by
 intro wh pins s σ H Q I h
 refine isTrue_or (thn (ha pins s σ H Q I h) fun c s1 e=>?_)
 cases c with
 | false=>exact isTrue_or_nil e
 | true=>exact e
theorem b4s (ha:PT X a tA) (hb:PW X (.BoolOp .And (b::rest) pos) tB'):PW X (.BoolOp .And (a::b::rest) pos) (tAnd tA tB'):=by
 intro wh pins s σ H Q I h
 refine isTrue_and (thn (ha pins s σ H _ I h) fun c s1 ⟨H1,I1,q1⟩=>?_)
 cases c with
 | true=>exact hb wh pins s1 σ H1 Q I1 q1
 | false=>exact⟨H1,I1,q1⟩
theorem b6T (ha:PT X a tA) (hb:PW X (.BoolOp .Or (b::rest) pos) tB'):PW X (.BoolOp .Or (a::b::rest) pos) (tOr tA tB'):=by
 intro wh pins s σ H Q I h
 refine isTrue_or (thn (ha pins s σ H _ I h) fun c s1 ⟨H1,I1,q1⟩=>?_)
 cases c with
 | true=>exact⟨H1,I1,q1⟩
 | false=>exact hb wh pins s1 σ H1 Q I1 q1
theorem b4t (ha:PT X a tA):PT X (.UnaryOp .Not a pos) (tNot tA):=by
 intro pins s σ H Q I h
 exact isTrue_not (ha pins s σ H (fun c H1=>Q (!c) H1) I h)
def b6U (ta tb:TE):TE:=fun σ H Q=>ta σ H fun x H1=>∃ c,x=.bl c/\if c=true then tb σ H1 Q else Q (.bl false) H1
theorem b4u {op} {t:TE} (h:PE X a t):PE X (.BoolOp op [a] pos) t:=fun pins s σ H Q I hw=>BoolOp_one (h pins s σ H Q I hw)
theorem b4v (ha:PE X a ta) (hb:PE X (.BoolOp .And (b::rest) pos) tb):PE X (.BoolOp .And (a::b::rest) pos) (b6U ta tb):=by
 intro pins s σ H Q I h
 refine BoolOp_and (thn (ha pins s σ H _ I h) fun v s1 ⟨x,H1,I1,r1,q1⟩=>?_)
 obtain⟨c,rfl,q1⟩:=q1
 cases r1
 refine wpAny_truthy_bool ?_
 cases c with
 | true=>exact hb pins s1 σ H1 Q I1 q1
 | false=>exact⟨.bl false,H1,I1,rfl,q1⟩
def tIf (t:TT) (ta tb:TE):TE:=fun σ H Q=>t σ H fun c H1=>if c=true then ta σ H1 Q else tb σ H1 Q
theorem b1f {c:Expr} (hc:PT X c tA) (ha:PE X a ta) (hb:PE X b tb):PE X (.IfExp c a b pos) (tIf tA ta tb):=by
 intro pins s σ H Q I h
 refine wpAny_IfExp (thn (hc pins s σ H _ I h) fun d s1 ⟨H1,I1,q1⟩=>?_)
 cases d with
 | true=>exact ha pins s1 σ H1 Q I1 q1
 | false=>exact hb pins s1 σ H1 Q I1 q1
end
end L2
namespace L2
open PySem PySem.Spec PyProof.Rows
def SqL (K:Fg) (H:Hp) (a:Addr) (xs:List V):Prop:=
 Rd H a (.lst xs) \/
  ∃ (o:Obj) (its:Array Value) (n:Nat),K.lookup a=some o/\o.cls=.type "list"/\o.dict=none/\o.data=.seq its n/\its.size≤sizeLine/\Vals xs its.toList
def SqT (K:Fg) (H:Hp) (a:Addr) (xs:List V):Prop:=
 Rd H a (.tup xs) \/
  ∃ (o:Obj) (its:Array Value) (n:Nat),K.lookup a=some o/\o.cls=.type "tuple"/\o.data=.seq its n/\its.size≤sizeLine/\Vals xs its.toList
def absV:Value->Option V
 | .none=>some .non
 | .bool b=>some (.bl b)
 | .int i _=>some (.int i)
 | .str x _=>some (.str x)
 | .bytes b _=>some (.byt b)
 | .float b _=>some (.flt b)
 | .ref a=>some (.ref a)
 | .type n=>some (.ty n)
 | _=>none
theorem RelV.abs {x:V} {u:Value} (r:RelV x u):absV u=some x:=by
 cases x with
 | non=>cases r;rfl
 | bl _=>cases r;rfl
 | int _=>obtain⟨t,rfl⟩:=r;rfl
 | str _=>obtain⟨t,rfl⟩:=r;rfl
 | byt _=>obtain⟨t,rfl⟩:=r;rfl
 | flt _=>obtain⟨t,rfl⟩:=r;rfl
 | ref _=>cases r;rfl
 | ty _=>cases r;rfl
theorem RelV.inj {x y:V} {u:Value} (r:RelV x u) (q:RelV y u):x=y:=Option.some.inj (r.abs.symm.trans q.abs)
theorem Vals.inj:∀ {xs ys:List V} {us:List Value},Vals xs us->Vals ys us->xs=ys
 | _,_,_,.nil,.nil=>rfl
 | _,_,_,.cons r t,.cons r' t'=>by rw [r.inj r',Vals.inj t t']
section
variable {X:Cx} {pins:List (Addr×Obj)} {σ:St} {H:Hp} {s:Shared} {a:Addr} {xs ys:List V}
theorem SqL.of {K:Fg} (h:H a=some (.lst xs)):SqL K H a xs:=.inl (.inl h)
theorem SqT.of {K:Fg} (h:H a=some (.tup xs)):SqT K H a xs:=.inl (.inl h)
theorem Inv.list (I:Inv X pins σ H s) (h:SqL X.K H a xs):∃ its:List Value,Vals xs its/\PlainL s.heap a its.toArray/\xs.length≤sizeLine:=by
 rcases h with h | ⟨o,its,n,hk,hc,hd,hs,hz,r⟩
 ·obtain⟨z,its,n,r,e⟩:=h.ok I.hok
  exact⟨its,r,⟨_,n,e,rfl,rfl,rfl⟩,z⟩
 ·refine⟨its.toList,r,⟨o,n,I.kIn a o hk,hc,hd,by simpa using hs⟩,?_⟩
  have e:=r.length
  simp only [Array.length_toList] at e
  omega
theorem Inv.tuple (I:Inv X pins σ H s) (h:SqT X.K H a xs):∃ its:List Value,Vals xs its/\IsTup s.heap a its.toArray/\xs.length≤sizeLine:=by
 rcases h with h | ⟨o,its,n,hk,hc,hs,hz,r⟩
 ·obtain⟨z,its,r,p⟩:=h.ok I.hok
  exact⟨its,r,p,z⟩
 ·refine⟨its.toList,r,⟨o,I.kIn a o hk,hc,n,by simpa using hs⟩,?_⟩
  have e:=r.length
  simp only [Array.length_toList] at e
  omega
theorem Inv.list_inj (I:Inv X pins σ H s) (h:SqL X.K H a xs) (h':SqL X.K H a ys):xs=ys:=by
 obtain⟨its,r,⟨o,n,e,_,_,d⟩,_⟩:=I.list h
 obtain⟨its',r',⟨o',n',e',_,_,d'⟩,_⟩:=I.list h'
 rw [e] at e';cases e'
 rw [d] at d'
 injection d' with d1 _
 have:its=its':=by simpa using congrArg Array.toList d1
 subst this
 exact r.inj r'
theorem Inv.tuple_inj (I:Inv X pins σ H s) (h:SqT X.K H a xs) (h':SqT X.K H a ys):xs=ys:=by
 obtain⟨its,r,⟨o,e,_,n,d⟩,_⟩:=I.tuple h
 obtain⟨its',r',⟨o',e',_,n',d'⟩,_⟩:=I.tuple h'
 rw [e] at e';cases e'
 rw [d] at d'
 injection d' with d1 _
 have:its=its':=by simpa using congrArg Array.toList d1
 subst this
 exact r.inj r'
end
abbrev Cx.wish (X:Cx) (E:Value->Shared->Prop):Cx:={ X with xe:=E }
abbrev Cx.nox (X:Cx):Cx:=X.wish fun _ _=>False
theorem Cx.Ok.wish {X:Cx} (ok:X.Ok) (E:Value->Shared->Prop):(X.wish E).Ok:=
 ⟨ok.mod,ok.kind,ok.glob,ok.blt,ok.above,ok.inj,ok.has,ok.cab,ok.hd,ok.frames,ok.stk,ok.exf,ok.bs,ok.bsz,ok.noex,ok.exfs,ok.funs,ok.frf⟩
theorem Cx.Ok.unwish {X:Cx} {E:Value->Shared->Prop} (ok:(X.wish E).Ok):X.Ok:=
 ⟨ok.mod,ok.kind,ok.glob,ok.blt,ok.above,ok.inj,ok.has,ok.cab,ok.hd,ok.frames,ok.stk,ok.exf,ok.bs,ok.bsz,ok.noex,ok.exfs,ok.funs,ok.frf⟩
section
variable {X:Cx} {pins:List (Addr×Obj)} {σ:St} {H:Hp} {s:Shared} {E:Value->Shared->Prop}
theorem Inv.wish (I:Inv X pins σ H s) (E:Value->Shared->Prop):Inv (X.wish E) pins σ H s:=⟨I.ok.wish E,I.os,I.bare,I.base,I.loc,I.cell,I.free,I.freeC,I.pin,I.hok,I.len⟩
theorem Inv.unwish (I:Inv (X.wish E) pins σ H s):Inv X pins σ H s:=⟨I.ok.unwish,I.os,I.bare,I.base,I.loc,I.cell,I.free,I.freeC,I.pin,I.hok,I.len⟩
theorem SP.unwish {D:Ends} {f:Flow} {s':Shared} (h:SP (X.wish E) pins D f s'):SP X pins D f s':=by
 cases f with
 | next=>obtain⟨σ',H',I,q⟩:=h;exact⟨σ',H',I.unwish,q⟩
 | brk=>obtain⟨σ',H',I,q⟩:=h;exact⟨σ',H',I.unwish,q⟩
 | cont=>obtain⟨σ',H',I,q⟩:=h;exact⟨σ',H',I.unwish,q⟩
 | ret u=>obtain⟨v,σ',H',I,r,q⟩:=h;exact⟨v,σ',H',I.unwish,r,q⟩
theorem PE.nox {e:Expr} {t:TE} (h:PE X.nox e t):PE X e t:=fun pins s σ H Q I hw=>
 wpAny_mono (h pins s σ H Q (I.wish _) hw) (fun _ _ ⟨v,H',I',r,q⟩=>⟨v,H',I'.unwish,r,q⟩) fun _ _ z=>False.elim z
theorem PT.nox {e:Expr} {t:TT} (h:PT X.nox e t):PT X e t:=fun pins s σ H Q I hw=>
 wpAny_mono (h pins s σ H Q (I.wish _) hw) (fun _ _ ⟨H',I',q⟩=>⟨H',I'.unwish,q⟩) fun _ _ z=>False.elim z
theorem PSs.nox {st:List Stmt} {t:TS} (h:PSs X.nox st t):PSs X st t:=fun pins s σ H D I hw=>
 wpAny_mono (h pins s σ H D (I.wish _) hw) (fun _ _ q=>q.unwish) fun _ _ z=>False.elim z
end
section
variable {X:Cx} {st:Stmt} {rest:List Stmt} {t u:TS} {e:Expr} {te:TE} {pos:Pos}
def b6V:TS:=fun D σ H=>D.nx σ H
def tSeq (t u:TS):TS:=fun D σ H=>t { D with nx:=u D } σ H
theorem b2Y:PSs X [] b6V:=fun _ _ σ H _ I h=>wpAny_execs_nil ⟨σ,H,I,h⟩
theorem a79 (h1:PS X st t) (h2:PSs X rest u):PSs X (st::rest) (tSeq t u):=by
 intro pins s σ H D I h
 refine wpAny_execs_cons (thn (h1 pins s σ H { D with nx:=u D } I h) fun f s1 q=>?_)
 cases f with
 | next=>
  obtain⟨σ',H',I',q⟩:=q
  exact h2 pins s1 σ' H' D I' q
 | ret v=>exact q
 | brk=>exact q
 | cont=>exact q
theorem b2Z (h1:PS X st t):PSs X [st] t:=by
 intro pins s σ H D I h
 refine wpAny_execs_cons (thn (h1 pins s σ H D I h) fun f s1 q=>?_)
 cases f with
 | next=>exact wpAny_execs_nil q
 | ret v=>exact q
 | brk=>exact q
 | cont=>exact q
theorem Inv.quiet {pins:List (Addr×Obj)} {σ:St} {H:Hp} {s:Shared} (I:Inv X pins σ H s):interactive X.env=false:=by simp [interactive,I.ok.kind]
def b6W (te:TE):TS:=fun D σ H=>te σ H fun _ H1=>D.nx σ H1
theorem b20 (he:PE X e te) (hs:swapsWith e none pos.line X.env=pure false:=by rfl):PS X (.Expr e pos) (b6W te):=by
 intro pins s σ H D I h
 exact wpAny_Expr_any (thn (he pins s σ H _ I h) fun v s1 ⟨x,H1,I1,r1,q1⟩=>⟨σ,H1,I1,q1⟩) I.quiet hs
def tRet (te:TE):TS:=fun D σ H=>te σ H D.rt
theorem b4w (he:PE X e te):PS X (.Return (some e) pos) (tRet te):=by
 intro pins s σ H D I h
 exact wpAny_Return_some (thn (he pins s σ H _ I h) fun v s1 ⟨x,H1,I1,r1,q1⟩=>⟨x,σ,H1,I1,r1,q1⟩)
def tIfS (c:TT) (t u:TS):TS:=fun D σ H=>c σ H fun b H1=>if b=true then t D σ H1 else u D σ H1
theorem b6X {c:Expr} {a b:List Stmt} {tc:TT} (hc:PT X c tc) (ha:PSs X a t) (hb:PSs X b u):PS X (.If c a b pos) (tIfS tc t u):=by
 intro pins s σ H D I h
 refine wpAny_If (thn (hc pins s σ H _ I h) fun d s1 ⟨H1,I1,q1⟩=>?_)
 cases d with
 | true=>exact ha pins s1 σ H1 D I1 q1
 | false=>exact hb pins s1 σ H1 D I1 q1
end
abbrev TG:=V->St->Hp->(St->Hp->Prop)->Prop
abbrev TGs:=List V->St->Hp->(St->Hp->Prop)->Prop
def PG (X:Cx) (target:Expr) (t:TG):Prop:=
 ∀ (pins:List (Addr×Obj)) (s:Shared) (σ:St) (H:Hp) (v:V) (u:Value) (Q:St->Hp->Prop),Inv X pins σ H s->RelV v u->t v σ H Q ->
  wpAny (model X.prog X.w) X.A (assign target X.env u) (fun _ s'=>∃ σ' H',Inv X pins σ' H' s'/\Q σ' H') X.xe s
def PGs (X:Cx) (ts:List Expr) (t:TGs):Prop:=
 ∀ (pins:List (Addr×Obj)) (s:Shared) (σ:St) (H:Hp) (vs:List V) (us:List Value) (Q:St->Hp->Prop),Inv X pins σ H s->Vals vs us->t vs σ H Q ->
  wpAny (model X.prog X.w) X.A (assignInOrder ((assignEach ts X.env).map (·.2)) us) (fun _ s'=>∃ σ' H',Inv X pins σ' H' s'/\Q σ' H') X.xe s
abbrev TSet:=V->V->V->Hp->(Hp->Prop)->Prop
def PSet (X:Cx) (t:TSet):Prop:=
 ∀ (pins:List (Addr×Obj)) (s:Shared) (σ:St) (H:Hp) (o i v:V) (ov iv u:Value) (Q:Hp->Prop),Inv X pins σ H s->RelV o ov->RelV i iv->RelV v u->t o i v H Q ->
  wpAny (model X.prog X.w) X.A (setItem ov iv u) (fun _ s'=>∃ H',Inv X pins σ H' s'/\Q H') X.xe s
abbrev TIp:=V->V->Hp->VK->Prop
def PIp (X:Cx) (op:Operator) (t:TIp):Prop:=
 ∀ (pins:List (Addr×Obj)) (s:Shared) (σ:St) (H:Hp) (x y:V) (v u:Value) (Q:VK),Inv X pins σ H s->RelV x v->RelV y u->t x y H Q ->
  wpAny (model X.prog X.w) X.A (inplaceOp op v u) (EP X pins σ Q) X.xe s
section
variable {X:Cx} {pos:Pos}
def a9q (i:Nat):TG:=fun v σ H Q=>Q (σ.set i (some v)) H
theorem a0A {i:Nat} {x:Str} (hN:X.N.Nodup) (hi:X.N[i]?=some x) (hx:Loc X.env.scope x) (hf:X.fn x=true\/X.env.scope.names.lookup x=some .local:=by first | exact .inl rfl | exact .inr rfl | assumption):PG X (.Name x pos) (a9q i):=by
 intro pins s σ H v u Q I r h
 exact wpAny_assign_Name (a4L I hN hi hx r (fun s' I'=>⟨_,H,I',h⟩) hf)
def gNil:TGs:=fun vs σ H Q=>vs=[]/\Q σ H
def b4x (t:TG) (u:TGs):TGs:=fun vs σ H Q=>∃ v r,vs=v::r/\t v σ H fun σ' H'=>u r σ' H' Q
theorem a2U:PGs X [] gNil:=by
 intro pins s σ H vs us Q I r h
 obtain⟨e,h⟩:=h
 subst e
 cases r
 exact assignInOrder_nil ⟨σ,H,I,h⟩
theorem a00 {e:Expr} {es:List Expr} {t:TG} {u:TGs} (h1:PG X e t) (h2:PGs X es u)
  (hs:(assignEach (e::es) X.env).map (·.2)=assign e X.env::(assignEach es X.env).map (·.2):=by rfl):PGs X (e::es) (b4x t u):=by
 intro pins s σ H vs us Q I r h
 obtain⟨v,vr,e1,h⟩:=h
 subst e1
 cases r with
 | cons r rr=>
  rw [hs]
  refine assignInOrder_cons (thn (h1 pins s σ H _ _ _ I r h) fun _ s1 ⟨σ1,H1,I1,q1⟩=>?_)
  exact h2 pins s1 σ1 H1 _ _ Q I1 rr q1
def gTup (K:Fg) (n:Nat) (t:TGs):TG:=fun v σ H Q=>∃ a xs,v=.ref a/\SqT K H a xs/\xs.length=n/\t xs σ H Q
theorem a4s {es:List Expr} {k:Nat} {t:TGs} {n:Nat} (hc:X.calm=true) (h:PGs X es t)
  (hn:(assignEach es X.env).length=n:=by rfl) (hst:(assignEach es X.env).findIdx? (·.1)=none:=by rfl):PG X (.Tuple es k pos) (gTup X.K n t):=by
 intro pins s σ H v u Q I r hw
 obtain⟨a,xs,e1,hq,hl,hw⟩:=hw
 subst e1
 cases r
 obtain⟨its,rv,ht,hz⟩:=I.tuple hq
 refine assign_Tuple_tuple (I.ok.hd hc) ht (by simp [hn,<- hl,rv.length]) hst fun h' hx=>?_
 have I1:Inv X pins σ H { s with heap:=h' }:=I.kept (t':=s.toks) fun b o e=>hx b o (Nat.ne_of_lt (Heap.lt_size e)) e
 exact h pins _ σ H xs _ Q I1 (by simpa using rv) hw
def gSub (to ti:TE) (t:TSet):TG:=fun v σ H Q=>to σ H fun o H1=>ti σ H1 fun i H2=>t o i v H2 fun H3=>Q σ H3
theorem b4y {o i:Expr} {to ti:TE} {t:TSet} (ho:PE X o to) (hi:PE X i ti) (hs:PSet X t)
  (ha:∀ v,assign (.Subscript o i pos) X.env v=(do
   let ov <- holding [v] (eval o X.env)
   let iv <- holding [v,ov] (eval i X.env)
   standAt pos
   holding [v,ov,iv] (setItem ov iv v)
   release [v,ov,iv] []):=by intro _;rfl):PG X (.Subscript o i pos) (gSub to ti t):=by
 intro pins s σ H v u Q I r h
 rw [ha]
 refine wpAny_bind (wpAny_holding (thn (ho pins s σ H _ I h) fun ov s1 ⟨x,H1,I1,r1,q1⟩=>?_))
 refine wpAny_bind (wpAny_holding (thn (hi pins s1 σ H1 _ I1 q1) fun iv s2 ⟨y,H2,I2,r2,q2⟩=>?_))
 refine wpAny_bind (wpAny_standAt (wpAny_bind (wpAny_holding (thn (hs pins s2 σ H2 x y v ov iv u _ I2 r1 r2 r q2) fun _ s3 ⟨H3,I3,q3⟩=>?_))))
 exact wpAny_release ⟨σ,H3,I3,q3⟩
def tAsg (te:TE) (g:TG):TS:=fun D σ H=>te σ H fun x H1=>g x σ H1 D.nx
theorem b2p {tg e:Expr} {te:TE} {g:TG} (he:PE X e te) (hg:PG X tg g) (hs:swapsWithSole [tg] e pos.line X.env=pure false:=by rfl) (hw:swappedStores [tg] e X.env=pure none:=by rfl)
  (h1:(assignEach [tg] X.env).map (·.2)=[assign tg X.env]:=by rfl):PS X (.Assign [tg] e pos) (tAsg te g):=by
 intro pins s σ H D I h
 refine wpAny_Assign_stores (thn (he pins s σ H _ I h) fun v s1 ⟨x,H1,I1,r1,q1⟩=>?_) hs hw
 rw [h1]
 exact thn (hg pins s1 σ H1 x v _ I1 r1 q1) fun _ s2 q=>q
theorem b4z {i:Nat} {x:Str} {e:Expr} {te:TE} {pos':Pos} (hN:X.N.Nodup) (hi:X.N[i]?=some x) (hx:Loc X.env.scope x) (he:PE X e te) (hs:swapsWith e (some (.Name x pos')) pos.line X.env=pure false:=by rfl) (hf:X.fn x=true\/X.env.scope.names.lookup x=some .local:=by first | exact .inl rfl | exact .inr rfl | assumption) :
  PS X (.Assign [.Name x pos'] e pos) (tAsg te (a9q i)):=by
 intro pins s σ H D I h
 refine wpAny_Assign_Name (thn (he pins s σ H _ I h) fun v s1 ⟨y,H1,I1,r1,q1⟩=>?_) hs
 exact a4L I1 hN hi hx r1 (fun s2 I2=>⟨_,H1,I2,q1⟩) hf
def tAug (i:Nat) (te:TE) (ti:TIp):TS:=fun D σ H=>∃ x,σ[i]?=some (some x)/\te σ H fun y H1=>ti x y H1 fun z H2=>D.nx (σ.set i (some z)) H2
theorem b4A {i:Nat} {x:Str} {e:Expr} {te:TE} {op:Operator} {ti:TIp} {pos':Pos} (hN:X.N.Nodup) (hi:X.N[i]?=some x) (hx:Loc X.env.scope x) (he:PE X e te) (ho:PIp X op ti) (hf:X.fn x=true\/X.env.scope.names.lookup x=some .local:=by first | exact .inl rfl | exact .inr rfl | assumption) :
  PS X (.AugAssign (.Name x pos') op e pos) (tAug i te ti):=by
 intro pins s σ H D I h
 obtain⟨v,e1,h⟩:=h
 obtain⟨m,hn,hl⟩:=I.loc
 have vis:Vis X.env.scope x:=by rcases hx with k | k;exact .inl k;exact .inr (.inl k)
 obtain⟨u,r,l⟩:=hl i x v hi e1 vis
 refine wpAny_AugAssign_Name ?_
 have go:wpAny (model X.prog X.w) X.A (eval e X.env) (fun w s₂=>wpAny (model X.prog X.w) X.A (inplaceOp op u w) (fun r s₃=>wpAny (model X.prog X.w) X.A (storeName X.env x r) (fun _=>SP X pins D .next) X.xe s₃) X.xe s₂) X.xe s:=by
  refine thn (he pins s σ H _ I h) fun w s1 ⟨y,H1,I1,r1,q1⟩=>?_
  refine thn (ho pins s1 σ H1 v y u w _ I1 r r1 q1) fun z s2 ⟨zv,H2,I2,r2,q2⟩=>?_
  exact a4L I2 hN hi hx r2 (fun s3 I3=>⟨_,H2,I3,q2⟩) hf
 rcases l with ⟨hk,hm⟩ | ⟨hk,c,hc,hcell⟩
 ·exact wpAny_loadName_local I.ok.kind hk hn hm go
 ·rcases hk with hk | hk
  ·exact wpAny_loadName_cell I.ok.kind hk hc hcell go
  ·rcases hx with k | k
   ·have:X.env.scope.names.lookup x=some .free:=hk
    rw [k] at this;cases this
   ·have:X.env.scope.names.lookup x=some .free:=hk
    rw [k] at this;cases this
end
section
variable {X:Cx} {pos:Pos}
def b4B (c:TT) (tb:TS):TS:=fun D σ H=>∃ W:Nat->St->Hp->Prop,(∃ m,W m σ H)/\∀ m σ H,W m σ H ->
 c σ H fun b H1=>if b=true then ∃ N:St->Hp->Prop,(∀ σ' H',N σ' H'->∃ m',m'<m/\W m' σ' H')/\tb { D with nx:=N,ct:=N,bk:=D.nx } σ H1 else D.nx σ H1
theorem b1g {c:Expr} {body:List Stmt} {tc:TT} {tb:TS} (hp:PassesOwn (model X.prog X.w) X.A X.env X.xe) (hc:PT X c tc) (hb:PSs X body tb):PS X (.While c body [] pos) (b4B tc tb):=by
 intro pins s σ H D I h
 obtain⟨W,⟨m0,w0⟩,turn⟩:=h
 refine wpAny_While (codeAny_whileLoop (fun n s'=>∃ σ' H',Inv X pins σ' H' s'/\W n σ' H') ?_ m0 ⟨σ,H,I,w0⟩)
 rintro n s1 ⟨σ1,H1,I1,w1⟩
 refine wpAny_passesOwn hp (thn (hc pins s1 σ1 H1 _ I1 (turn n σ1 H1 w1)) fun b s2 ⟨H2,I2,q2⟩=>?_)
 cases b with
 | true=>
  obtain⟨N,hN,q2⟩:=q2
  rw [if_pos rfl]
  refine wpAny_passesOwn hp (thn (hb pins s2 σ1 H2 _ I2 q2) fun f s3 q3=>?_)
  cases f with
  | next=>
   obtain⟨σ3,H3,I3,n3⟩:=q3
   obtain⟨m',hm,w3⟩:=hN σ3 H3 n3
   exact⟨m',hm,σ3,H3,I3,w3⟩
  | cont=>
   obtain⟨σ3,H3,I3,n3⟩:=q3
   obtain⟨m',hm,w3⟩:=hN σ3 H3 n3
   exact⟨m',hm,σ3,H3,I3,w3⟩
  | brk=>exact q3
  | ret v=>exact q3
 | false=>
  rw [if_neg Bool.false_ne_true]
  exact wpAny_execs_nil ⟨σ1,H2,I2,q2⟩
end
structure It where
 go:Nat->Hp->Prop
 yld:Nat->Hp->V->Hp->Prop
 stop:Nat->Hp->Prop
def FpOk (X:Cx) (pins:List (Addr×Obj)) (H:Hp) (b:Addr):Prop:=
 H b=none/\b≠X.env.locals/\b∉X.fs/\(b∈X.ex\/X.s₀.heap.objs.size≤b)/\(∀ x c,X.env.cells.lookup x=some c->c≠b)/\∀ p∈X.pn++pins,p.1≠b
theorem Inv.fpOk {X:Cx} {pins:List (Addr×Obj)} {σ:St} {H H':Hp} {s:Shared} {b:Addr} (I:Inv X pins σ H s) (hb:s.heap.objs.size≤b) (hn:H' b=none):FpOk X pins H' b:=by
 refine⟨hn,Nat.ne_of_gt (Nat.lt_of_lt_of_le I.lt hb),I.nofs hb,.inr (Nat.le_trans I.sz hb),fun x c e z=>?_,fun p hp z=>?_⟩
 ·obtain⟨v,q⟩:=I.cell x c e
  exact absurd (Nat.lt_of_lt_of_le q.lt (by rw [z];exact hb)) (Nat.lt_irrefl _)
 ·exact absurd (Nat.lt_of_lt_of_le (Heap.lt_size (I.pin p hp).1) (by rw [z];exact hb)) (Nat.lt_irrefl _)
structure Turn (P:Program) (w:World) (K:Fg) (tg:Expr) (J:It) (fp:List Addr) (it:Addr) (tn:Nat->Heap->Prop):Prop where
 mem:it∈fp
 obj:∀ i h,tn i h->∀ b∈fp,∃ o,h.get? b=some o/\∀ v,o.data≠.cell v
 keep:∀ i h h',tn i h->(∀ b∈fp,∀ o,h.get? b=some o->h'.get? b=some o)->tn i h'
 item:∀ (X:Cx),X.prog=P->X.w=w->X.K=K->X.calm=true->∀ (i:Nat) (pins:List (Addr×Obj)) (s:Shared) (σ:St) (H:Hp) (E:Value->Shared->Prop),Inv X pins σ H s->(∀ b∈fp,FpOk X pins H b)->tn i s.heap->J.go i H ->
  wpAny (model P w) X.A (pyNext (.ref it)) (fun r s1=>∃ u,r=some u /\
   wpAny (model P w) X.A (letOwnedTupleGo tg (.ref it) u) (fun _ s2=>∃ x H',Inv X pins σ H' s2/\RelV x u/\J.yld i H x H'/\tn (i+1) s2.heap/\∀ b∈fp,H' b=none) E s1) E s
 done:∀ (X:Cx),X.prog=P->X.w=w->X.K=K->X.calm=true->∀ (i:Nat) (pins:List (Addr×Obj)) (s:Shared) (σ:St) (H:Hp) (E:Value->Shared->Prop),Inv X pins σ H s->(∀ b∈fp,FpOk X pins H b)->tn i s.heap->J.stop i H ->
  wpAny (model P w) X.A (pyNext (.ref it)) (fun r s1=>r=none/\Inv X pins σ H s1) E s
 self:∀ (A:Around) (i:Nat) (s:Shared) (Q:Value->Shared->Prop) (E:Value->Shared->Prop),tn i s.heap->Q (.ref it) s->wpAny (model P w) A (pyIter (.ref it)) Q E s
abbrev TI:=St->Hp->(It->Hp->Prop)->Prop
def PIE (X:Cx) (pins:List (Addr×Obj)) (σ:St) (tg:Expr) (R:It->Hp->Prop) (itv:Value) (s2:Shared):Prop:=
 ∃ (it:Addr) (fp:List Addr) (tn:Nat->Heap->Prop) (J:It) (H':Hp),itv=.ref it/\Inv X pins σ H' s2/\Turn X.prog X.w X.K tg J fp it tn/\tn 0 s2.heap/\(∀ b∈fp,FpOk X pins H' b)/\R J H'
def PI (X:Cx) (tg iter:Expr) (wi:TI):Prop:=
 ∀ (pins:List (Addr×Obj)) (s:Shared) (σ:St) (H:Hp) (R:It->Hp->Prop),Inv X pins σ H s->wi σ H R ->
  wpAny (model X.prog X.w) X.A (eval iter X.env) (fun v s1=>wpAny (model X.prog X.w) X.A (pyIter v) (PIE X pins σ tg R) X.xe s1) X.xe s
theorem a8N {M:Model} {A:Around} {E:Value->Shared->Prop} {s:Shared} {tg:Expr} {it:Addr} {u:Value} {o:Obj} {n:String} {vs:Array Value} {Q:Unit->Shared->Prop} (ho:s.heap.get? it=some o) (hc:o.cls=.type n) (hd:o.data=.fields vs)
    (hn:["enumerate","zip","dict_itemiterator","dict_reverseitemiterator","odict_iterator","itertools.zip_longest","itertools.pairwise"].contains n=false) (hQ:Q () s):wpAny M A (letOwnedTupleGo tg (.ref it) u) Q E s:=by
  unfold letOwnedTupleGo
  cases tg<;>first
    | exact wpAny_pure hQ
    | (cases u<;>first
        | exact wpAny_pure hQ
        | (refine wpAny_bind (wpAny_load ho ?_)
           rw [hc,hd]
           show wpAny M A (if (["enumerate","zip","dict_itemiterator","dict_reverseitemiterator","odict_iterator","itertools.zip_longest","itertools.pairwise"].contains n&&vs[0]?==some (rawInt _))=true then _ else _) Q E s
           rw [if_neg (by intro h;rw [hn,Bool.false_and] at h;cases h)]
           exact wpAny_pure hQ))
def Itl (K:Fg) (a:Addr):It:=
 ⟨fun i H=>∃ xs x,SqL K H a xs/\xs[i]?=some x,fun i H x H'=>H'=H/\∀ xs,SqL K H a xs->xs[i]?=some x,fun i H=>∃ xs,SqL K H a xs/\xs.length≤i⟩
def Itt (K:Fg) (a:Addr):It:=
 ⟨fun i H=>∃ xs x,SqT K H a xs/\xs[i]?=some x,fun i H x H'=>H'=H/\∀ xs,SqT K H a xs->xs[i]?=some x,fun i H=>∃ xs,SqT K H a xs/\xs.length≤i⟩
def Itr (lo:Int) (n:Nat):It:=⟨fun i _=>i<n,fun i H x H'=>H'=H/\x=.int (lo+i),fun i _=>n≤i⟩
theorem a9r {P:Program} {w:World} {K:Fg} {tg:Expr} (a it:Addr):Turn P w K tg (Itl K a) [it] it (fun i h=>h.IsListIter it a i) where
 mem:=by simp
 obj:=fun i h st b hb=>by
  have e:b=it:=by simpa using hb
  subst e
  obtain⟨o,e,c,d⟩:=st
  exact⟨o,e,fun v z=>by rw [d] at z;cases z⟩
 keep:=fun i h h' st k=>st.at fun o e=>k it (by simp) o e
 item:=by
  intro X hP hw hK hc i pins s σ H E I hf st hg
  subst hP hw hK
  obtain⟨xs,x,hq,hx⟩:=hg
  obtain⟨its,rv,p,hz⟩:=I.list hq
  obtain⟨u,hu,ru⟩:=rv.get hx
  obtain⟨f0,f1,f2,f3,f4,f5⟩:=hf it (by simp)
  refine wpAny_pyNext_list_item st p.isList (x:=u) (by simpa using hu) fun h' st' sb=>?_
  have I1:Inv X pins σ H { s with heap:=h' }:=I.turned (t':=s.toks) (fun b o hb e=>(sb.2 b hb).trans e) f0 f1 f3 f4 f5
  obtain⟨o,e,c,d⟩:=id st'
  exact⟨u,rfl,a8N (s:={ s with heap:=h' }) e c d (by decide) ⟨x,H,I1,ru,⟨rfl,fun ys hy=>by rw [I.list_inj hy hq];exact hx⟩,st',fun b hb=>(hf b hb).1⟩⟩
 done:=by
  intro X hP hw hK hc i pins s σ H E I hf st hg
  subst hP hw hK
  obtain⟨xs,hq,hx⟩:=hg
  obtain⟨its,rv,p,hz⟩:=I.list hq
  obtain⟨f0,f1,f2,f3,f4,f5⟩:=hf it (by simp)
  have hl:=rv.length
  exact wpAny_pyNext_list_end (I.ok.hd hc) st p.isList (by simp;omega) fun h' eb=>⟨rfl,I.turned (t':=s.toks) (fun b o hb e=>eb b o hb e) f0 f1 f3 f4 f5⟩
 self:=fun _ _ _ _ _ st h=>wpAny_pyIter_listiter st h
theorem a8O {P:Program} {w:World} {K:Fg} {tg:Expr} (a it:Addr):Turn P w K tg (Itt K a) [it] it (fun i h=>h.IsTupleIter it a i) where
 mem:=by simp
 obj:=fun i h st b hb=>by
  have e:b=it:=by simpa using hb
  subst e
  obtain⟨o,e,c,d⟩:=st
  exact⟨o,e,fun v z=>by rw [d] at z;cases z⟩
 keep:=fun i h h' st k=>st.at fun o e=>k it (by simp) o e
 item:=by
  intro X hP hw hK hc i pins s σ H E I hf st hg
  subst hP hw hK
  obtain⟨xs,x,hq,hx⟩:=hg
  obtain⟨its,rv,p,hz⟩:=I.tuple hq
  obtain⟨u,hu,ru⟩:=rv.get hx
  obtain⟨f0,f1,f2,f3,f4,f5⟩:=hf it (by simp)
  refine wpAny_pyNext_tuple_item st (show s.heap.IsTuple a its.toArray from p) (x:=u) (by simpa using hu) fun h' st' sb=>?_
  have I1:Inv X pins σ H { s with heap:=h' }:=I.turned (t':=s.toks) (fun b o hb e=>(sb.2 b hb).trans e) f0 f1 f3 f4 f5
  obtain⟨o,e,c,d⟩:=id st'
  exact⟨u,rfl,a8N (s:={ s with heap:=h' }) e c d (by decide) ⟨x,H,I1,ru,⟨rfl,fun ys hy=>by rw [I.tuple_inj hy hq];exact hx⟩,st',fun b hb=>(hf b hb).1⟩⟩
 done:=by
  intro X hP hw hK hc i pins s σ H E I hf st hg
  subst hP hw hK
  obtain⟨xs,hq,hx⟩:=hg
  obtain⟨its,rv,p,hz⟩:=I.tuple hq
  obtain⟨f0,f1,f2,f3,f4,f5⟩:=hf it (by simp)
  have hl:=rv.length
  exact wpAny_pyNext_tuple_end (I.ok.hd hc) st (show s.heap.IsTuple a its.toArray from p) (by simp;omega) fun h' eb=>⟨rfl,I.turned (t':=s.toks) (fun b o hb e=>eb b o hb e) f0 f1 f3 f4 f5⟩
 self:=fun _ _ _ _ _ st h=>wpAny_pyIter_tupleiter st h
theorem a8P {P:Program} {w:World} {K:Fg} {tg:Expr} (it:Addr) (lo:Int) (n:Nat):Turn P w K tg (Itr lo n) [it] it (fun i h=>IsRangeIter h it (lo+(i:Nat)*1) ((n:Int) - (i:Nat)) 1) where
 mem:=by simp
 obj:=fun i h st b hb=>by
  have e:b=it:=by simpa using hb
  subst e
  exact⟨_,st,fun v z=>by
   have z':Data.fields _=Data.cell v:=z
   cases z'⟩
 keep:=fun i h h' st k=>k it (by simp) _ st
 item:=by
  intro X hP hw hK hc i pins s σ H E I hf st hg
  subst hP hw hK
  obtain⟨f0,f1,f2,f3,f4,f5⟩:=hf it (by simp)
  have W:=Walks.range (prog:=X.prog) (w:=X.w) (I.ok.hd hc) it lo 1 n
  refine W.item i s _ _ hg st fun v h' tk hv st' kk=>?_
  obtain⟨t,rfl⟩:=hv
  have I1:Inv X pins σ H { s with heap:=h',toks:=tk }:=I.turned (fun b o hb e=>kk b o (by simpa using hb) e) f0 f1 f3 f4 f5
  refine⟨_,rfl,a8N (s:={ s with heap:=h',toks:=tk }) (n:="range_iterator") st' rfl rfl (by decide) ⟨.int (lo+i),H,I1,⟨t,?_⟩,⟨rfl,rfl⟩,st',fun b hb=>(hf b hb).1⟩⟩
  rw [Int.mul_one]
 done:=by
  intro X hP hw hK hc i pins s σ H E I hf st hg
  subst hP hw hK
  obtain⟨f0,f1,f2,f3,f4,f5⟩:=hf it (by simp)
  exact wpAny_pyNext_range_end (I.ok.hd hc) st (by have:n≤i:=hg;omega) fun h' eb=>⟨rfl,I.turned (t':=s.toks) (fun b o hb e=>eb b o hb e) f0 f1 f3 f4 f5⟩
 self:=fun _ _ _ _ _ st h=>wpAny_pyIter_rangeiter st h
end L2
namespace L2
open PySem PySem.Spec PyProof.Rows
section
variable {X:Cx} {tg:Expr}
def b6Y (K:Fg) (tl:TE):TI:=fun σ H R=>tl σ H fun x H1=>∃ a,x=.ref a/\(∃ xs,SqL K H1 a xs)/\R (Itl K a) H1
def iTup (K:Fg) (tl:TE):TI:=fun σ H R=>tl σ H fun x H1=>∃ a,x=.ref a/\(∃ xs,SqT K H1 a xs)/\R (Itt K a) H1
theorem b21 {l:Expr} {tl:TE} (hl:PE X l tl):PI X tg l (b6Y X.K tl):=by
 intro pins s σ H R I h
 refine thn (hl pins s σ H _ I h) fun v s1 ⟨x,H1,I1,r1,q1⟩=>?_
 obtain⟨a,e,⟨xs,hq⟩,q⟩:=q1
 subst e
 cases r1
 obtain⟨its,rv,p,hz⟩:=I1.list hq
 refine wpAny_pyIter_list p.isList ?_
 refine⟨s1.heap.objs.size,[s1.heap.objs.size],_,_,H1,rfl,I1.kept (t':=s1.toks) fun b o e=>Heap.get?_push_of_some _ e,a9r a _,⟨_,Heap.get?_push_size _ rfl,rfl,rfl⟩,fun b hb=>?_,q⟩
 have e:b=s1.heap.objs.size:=by simpa using hb
 subst e
 exact I1.fpOk (Nat.le_refl _) (I1.hok.fresh (Nat.le_refl _))
theorem b4C {l:Expr} {tl:TE} (hl:PE X l tl):PI X tg l (iTup X.K tl):=by
 intro pins s σ H R I h
 refine thn (hl pins s σ H _ I h) fun v s1 ⟨x,H1,I1,r1,q1⟩=>?_
 obtain⟨a,e,⟨xs,hq⟩,q⟩:=q1
 subst e
 cases r1
 obtain⟨its,rv,p,hz⟩:=I1.tuple hq
 refine wpAny_pyIter_tuple (show s1.heap.IsTuple a its.toArray from p) ?_
 refine⟨s1.heap.objs.size,[s1.heap.objs.size],_,_,H1,rfl,I1.kept (t':=s1.toks) fun b o e=>Heap.get?_push_of_some _ e,a8O a _,⟨_,Heap.get?_push_size _ rfl,rfl,rfl⟩,fun b hb=>?_,q⟩
 have e:b=s1.heap.objs.size:=by simpa using hb
 subst e
 exact I1.fpOk (Nat.le_refl _) (I1.hok.fresh (Nat.le_refl _))
theorem b1h {pins:List (Addr×Obj)} {σ:St} {H:Hp} {s:Shared} {R:It->Hp->Prop} {E:Value->Shared->Prop} {lo hi:Int} {t u v:Tok} {tk:Nat} (I:Inv X pins σ H s) (h1:-(2 ^ 62)≤lo) (h2:lo<2 ^ 62) (h3:-(2 ^ 62)≤hi) (h4:hi<2 ^ 62)
  (q:R (Itr lo (hi - lo).toNat) H):wpAny (model X.prog X.w) X.A (pyIter (.ref s.heap.objs.size)) (PIE X pins σ tg R) E { s with heap:=s.heap.push { cls:=.type "range",data:=.fields #[.int lo t,.int hi u,.int 1 v] },toks:=tk }:=by
 refine wpAny_pyIter_range (IsRange.new ..) (small_one h1 h2 h3 h4) ?_
 have I1:Inv X pins σ H { s with heap:=s.heap.push { cls:=.type "range",data:=.fields #[.int lo t,.int hi u,.int 1 v] },toks:=tk }:=I.kept fun b o e=>Heap.get?_push_of_some _ e
 refine⟨(s.heap.push { cls:=.type "range",data:=.fields #[.int lo t,.int hi u,.int 1 v] }).objs.size,[(s.heap.push { cls:=.type "range",data:=.fields #[.int lo t,.int hi u,.int 1 v] }).objs.size],_,_,H,rfl,
  I1.kept (t':=tk) fun b o e=>Heap.get?_push_of_some _ e,a8P _ lo (hi - lo).toNat,?_,fun b hb=>?_,q⟩
 ·have e1:lo+((0:Nat):Int)*1=lo:=by simp
  have e2:(((hi - lo).toNat:Nat):Int) - ((0:Nat):Int)=Builtin.Range.rangeSize lo hi 1:=by rw [rangeSize_one];split<;>omega
  show IsRangeIter _ _ (lo+((0:Nat):Int)*1) ((((hi - lo).toNat:Nat):Int) - ((0:Nat):Int)) 1
  rw [e1,e2]
  exact Heap.get?_push_size _ rfl
 ·have e:b=(s.heap.push { cls:=.type "range",data:=.fields #[.int lo t,.int hi u,.int 1 v] }).objs.size:=by simpa using hb
  subst e
  exact I1.fpOk (Nat.le_refl _) (I1.hok.fresh (Nat.le_refl _))
def b4D (ta:TA):TI:=fun σ H R=>ta σ H fun vs H1=>∃ j:Int,vs=[.int j]/\-(2 ^ 62)≤j/\j<2 ^ 62/\R (Itr 0 j.toNat) H1
theorem a9s {a:Expr} {ta:TA} {p pos:Pos} (hg:Gl X "range") (hm:X.mg "range"=none) (ha:PA X [a] ta) (hs:starEach [a] X.env=[(false,eval a X.env)]:=by rfl):PI X tg (.Call (.Name "range" p) [a] [] pos) (b4D ta):=by
 intro pins s σ H R I h
 refine Call_ (a6v I hg hm boot_range (PyProof.Rows.callWith_type1 (thn (ha pos pins s σ H _ I h) fun us s1 ⟨vs,H1,I1,r1,q1⟩=>?_) hs rfl))
 obtain⟨j,e,q1,q2,q⟩:=q1
 subst e
 cases r1 with
 | cons r rr=>
  cases rr
  obtain⟨t,rfl⟩:=r
  exact call_range_1 (b1h I1 (by omega) (by omega) q1 q2 (by simpa using q))
def tFor (wi:TI) (g:TG) (tb:TS):TS:=fun D σ H=>wi σ H fun J H1=>∃ W:Nat->Nat->St->Hp->Prop,(∃ m,W 0 m σ H1)/\∀ i m σ H,W i m σ H ->
 (J.stop i H/\D.nx σ H)\/(J.go i H/\∃ N:St->Hp->Prop,(∀ σ' H',N σ' H'->∃ m',m'<m/\W (i+1) m' σ' H')/\∀ x H',J.yld i H x H'->g x σ H' fun σ2 H2=>tb { D with nx:=N,ct:=N,bk:=D.nx } σ2 H2)
def a6w (fp:List Addr) (h:Heap):List (Addr×Obj):=fp.filterMap fun b=>(h.get? b).map fun o=>(b,o)
theorem a24 {fp:List Addr} {h:Heap} {b:Addr} {o:Obj} (hb:b∈fp) (e:h.get? b=some o):(b,o)∈a6w fp h:=List.mem_filterMap.mpr ⟨b,hb,by rw [e];rfl⟩
theorem a9t {fp:List Addr} {h:Heap} {p:Addr×Obj} (hp:p∈a6w fp h):p.1∈fp/\h.get? p.1=some p.2:=by
 obtain⟨b,hb,e⟩:=List.mem_filterMap.mp hp
 cases q:h.get? b with
 | none=>rw [q] at e;cases e
 | some o=>
  rw [q] at e
  have e':(b,o)=p:=Option.some.inj e
  subst e'
  exact⟨hb,q⟩
theorem Inv.pinned {pins:List (Addr×Obj)} {σ:St} {H:Hp} {s:Shared} {fp:List Addr} (I:Inv X pins σ H s) (hf:∀ b∈fp,FpOk X pins H b) (ho:∀ b∈fp,∃ o,s.heap.get? b=some o/\∀ v,o.data≠.cell v):Inv X (pins++a6w fp s.heap) σ H s:=
 I.pins_of fun p hp=>(List.mem_append.mp hp).elim (fun z=>I.pin p (List.mem_append_right _ z)) fun z=>by
  obtain⟨hb,e⟩:=a9t z
  obtain⟨f0,f1,f2,_⟩:=hf p.1 hb
  obtain⟨o,e',d⟩:=ho p.1 hb
  rw [e] at e';cases e'
  exact⟨e,f0,f1,f2,d⟩
theorem Inv.unpinned {pins pl:List (Addr×Obj)} {σ:St} {H:Hp} {s:Shared} (I:Inv X (pins++pl) σ H s):Inv X pins σ H s:=I.pins_of fun p hp=>I.pin p (List.mem_append_right _ (List.mem_append_left _ hp))
theorem b4E {iter:Expr} {body:List Stmt} {wi:TI} {g:TG} {tb:TS} {pos:Pos} (hp:PassesOwn (model X.prog X.w) X.A X.env X.xe) (hc:X.calm=true) (hi:PI X tg iter wi) (hg:PG X tg g) (hb:PSs X body tb)
  (hs:∀ x,foldedSetIterable iter X.env x=pure x:=by intro _;rfl):PS X (.For tg iter body [] pos) (tFor wi g tb):=by
 intro pins s σ H D I h
 refine wpAny_For (thn (hi pins s σ H _ I h) fun v s1 h1=>thn h1 fun itv s2 h2=>?_) hs
 obtain⟨it,fp,tn,J,H2,e,I2,T,st2,f2,W,⟨m0,w0⟩,turn⟩:=h2
 subst e
 have stat:∀ {H':Hp},(∀ b∈fp,H' b=none)->∀ b∈fp,FpOk X pins H' b:=fun hn b hb=>⟨hn b hb,(f2 b hb).2⟩
 refine codeAny_forLoop_any (fun n s'=>∃ i σ' H',Inv X pins σ' H' s'/\tn i s'.heap/\(∀ b∈fp,H' b=none)/\W i n σ' H') ?_ m0 ⟨0,σ,H2,I2,st2,fun b hb=>(f2 b hb).1,w0⟩
 rintro n s3 ⟨i,σ3,H3,I3,st3,fr3,w3⟩
 rcases turn i n σ3 H3 w3 with ⟨stop,qn⟩ | ⟨go,N,hN,step⟩
 ·refine wpAny_passesOwn hp (thn (T.done X rfl rfl rfl hc i pins s3 σ3 H3 X.xe I3 (stat fr3) st3 stop) fun r s4 ⟨hr,I4⟩=>?_)
  subst hr
  exact wpAny_execs_nil ⟨σ3,H3,I4,qn⟩
 ·refine wpAny_passesOwn hp (thn (T.item X rfl rfl rfl hc i pins s3 σ3 H3 X.xe I3 (stat fr3) st3 go) fun r s4 ⟨u,hr,h4⟩=>?_)
  subst hr
  refine wpAny_passesOwn hp (thn h4 fun _ s5 ⟨x,H5,I5,r5,y5,st5,fr5⟩=>?_)
  have I5':=I5.pinned (stat fr5) (T.obj _ _ st5)
  refine wpAny_passesOwn hp (thn (hg _ s5 σ3 H5 x u _ I5' r5 (step x H5 y5)) fun _ s6 ⟨σ6,H6,I6,q6⟩=>?_)
  refine wpAny_passesOwn hp (thn (hb _ s6 σ6 H6 _ I6 q6) fun f s7 q7=>?_)
  have again:∀ {σ7:St} {H7:Hp},Inv X (pins++a6w fp s5.heap) σ7 H7 s7->N σ7 H7->∃ m,m<n/\∃ i σ' H',Inv X pins σ' H' s7/\tn i s7.heap/\(∀ b∈fp,H' b=none)/\W i m σ' H':=fun {σ7 H7} I7 n7=>by
   obtain⟨m',hm,w7⟩:=hN σ7 H7 n7
   refine⟨m',hm,i+1,σ7,H7,I7.unpinned,T.keep _ _ _ st5 fun b hb o e=>(I7.pin (b,o) (List.mem_append_right _ (List.mem_append_right _ (a24 hb e)))).1,fun b hb=>?_,w7⟩
   obtain⟨o,e,d⟩:=T.obj _ _ st5 b hb
   exact (I7.pin (b,o) (List.mem_append_right _ (List.mem_append_right _ (a24 hb e)))).2.1
  cases f with
  | next=>obtain⟨σ7,H7,I7,n7⟩:=q7;exact again I7 n7
  | cont=>obtain⟨σ7,H7,I7,n7⟩:=q7;exact again I7 n7
  | brk=>obtain⟨σ7,H7,I7,q7⟩:=q7;exact⟨σ7,H7,I7.unpinned,q7⟩
  | ret v=>obtain⟨x7,σ7,H7,I7,r7,q7⟩:=q7;exact⟨x7,σ7,H7,I7.unpinned,r7,q7⟩
end
end L2
namespace L2
open PySem PySem.Spec PyProof.Rows
abbrev R2:=V->V->Hp->VK->Prop
def OpR (X:Cx) (f:Value->Value->Sem Value) (r:R2):Prop:=
 ∀ (pins:List (Addr×Obj)) (s:Shared) (σ:St) (H:Hp) (x y:V) (v u:Value) (Q:VK),Inv X pins σ H s->RelV x v->RelV y u->r x y H Q ->
  wpAny (model X.prog X.w) X.A (f v u) (EP X pins σ Q) X.xe s
def UnR (X:Cx) (f:Value->Sem Value) (r:V->Hp->VK->Prop):Prop:=
 ∀ (pins:List (Addr×Obj)) (s:Shared) (σ:St) (H:Hp) (x:V) (v:Value) (Q:VK),Inv X pins σ H s->RelV x v->r x H Q ->
  wpAny (model X.prog X.w) X.A (f v) (EP X pins σ Q) X.xe s
def CallR (X:Cx) (f:Value) (r:List V->Hp->VK->Prop):Prop:=
 ∀ (pins:List (Addr×Obj)) (s:Shared) (σ:St) (H:Hp) (xs:List V) (us:List Value) (Q:VK),Inv X pins σ H s->Vals xs us->r xs H Q ->
  wpAny (model X.prog X.w) X.A (call f us) (EP X pins σ Q) X.xe s
def TruR (X:Cx) (r:V->Hp->(Bool->Hp->Prop)->Prop):Prop:=
 ∀ (pins:List (Addr×Obj)) (s:Shared) (σ:St) (H:Hp) (x:V) (v:Value) (Q:Bool->Hp->Prop),Inv X pins σ H s->RelV x v->r x H Q ->
  wpAny (model X.prog X.w) X.A (truthy v) (TP X pins σ Q) X.xe s
def tOp (r:R2) (ta tb:TE):TE:=fun σ H Q=>ta σ H fun x H1=>tb σ H1 fun y H2=>r x y H2 Q
def tUn (r:V->Hp->VK->Prop) (ta:TE):TE:=fun σ H Q=>ta σ H fun x H1=>r x H1 Q
def rI (C:Int->Int->Prop) (g:Int->Int->V):R2:=fun x y H Q=>∃ i j,x=.int i/\y=.int j/\C i j/\Q (g i j) H
def rI0 (g:Int->Int->V):R2:=fun x y H Q=>∃ i j,x=.int i/\y=.int j/\Q (g i j) H
def rU (g:Int->V):V->Hp->VK->Prop:=fun x H Q=>∃ i,x=.int i/\Q (g i) H
section
variable {X:Cx} {a b c:Expr} {ta tb tc:TE} {pos:Pos}
theorem binT (ha:PE X a ta) (hb:PE X b tb) {pins:List (Addr×Obj)} {s:Shared} {σ:St} {H:Hp} {R:V->V->Hp->Prop} (I:Inv X pins σ H s)
  (h:ta σ H fun x H1=>tb σ H1 fun y H2=>R x y H2) {Q:Value->Shared->Prop} {f:Value->Value->Sem Value}
  (hf:∀ v u s2 x y H2,Inv X pins σ H2 s2->RelV x v->RelV y u->R x y H2->wpAny (model X.prog X.w) X.A (f v u) Q X.xe s2) :
  wpAny (model X.prog X.w) X.A (eval a X.env) (fun v s₁=>wpAny (model X.prog X.w) X.A (eval b X.env) (fun u s₂=>wpAny (model X.prog X.w) X.A (f v u) Q X.xe s₂) X.xe s₁) X.xe s:=by
 refine thn (ha pins s σ H _ I h) fun v s1 ⟨x,H1,I1,r1,q1⟩=>?_
 refine thn (hb pins s1 σ H1 _ I1 q1) fun u s2 ⟨y,H2,I2,r2,q2⟩=>?_
 exact hf v u s2 x y H2 I2 r1 r2 q2
theorem b6Z {op:Operator} {r:R2} (ho:OpR X (binaryOp op) r) (ha:PE X a ta) (hb:PE X b tb):PE X (.BinOp a op b pos) (tOp r ta tb):=by
 intro pins s σ H Q I h
 exact wpAny_BinOp (binT ha hb I h fun v u s2 x y H2 I2 rx ry q=>ho pins s2 σ H2 x y v u Q I2 rx ry q)
theorem b60 {op:UnaryOp} {r:V->Hp->VK->Prop} (ho:UnR X (unaryOp op) r) (ha:PE X a ta):PE X (.UnaryOp op a pos) (tUn r ta):=by
 intro pins s σ H Q I h
 exact UnaryOp_ (thn (ha pins s σ H _ I h) fun v s1 ⟨x,H1,I1,r1,q1⟩=>ho pins s1 σ H1 x v Q I1 r1 q1)
theorem opI {f:Value->Value->Sem Value} {C:Int->Int->Prop} {g:Int->Int->Int}
  (rule:∀ (i j:Int) (t u:Tok) (s:Shared) (Q:Value->Shared->Prop) (E:Value->Shared->Prop),C i j->Q (.int (g i j) s.toks) { s with toks:=s.toks+1 }->wpAny (model X.prog X.w) X.A (f (.int i t) (.int j u)) Q E s) :
  OpR X f (rI C fun i j=>.int (g i j)):=by
 intro pins s σ H x y v u Q I rx ry h
 obtain⟨i,j,rfl,rfl,hc,q⟩:=h
 obtain⟨t,rfl⟩:=rx
 obtain⟨t',rfl⟩:=ry
 exact rule i j t t' s _ _ hc ⟨.int (g i j),H,I.tok _,⟨_,rfl⟩,q⟩
theorem opI0 {f:Value->Value->Sem Value} {g:Int->Int->Int}
  (rule:∀ (i j:Int) (t u:Tok) (s:Shared) (Q:Value->Shared->Prop) (E:Value->Shared->Prop),Q (.int (g i j) s.toks) { s with toks:=s.toks+1 }->wpAny (model X.prog X.w) X.A (f (.int i t) (.int j u)) Q E s) :
  OpR X f (rI0 fun i j=>.int (g i j)):=by
 intro pins s σ H x y v u Q I rx ry h
 obtain⟨i,j,rfl,rfl,q⟩:=h
 obtain⟨t,rfl⟩:=rx
 obtain⟨t',rfl⟩:=ry
 exact rule i j t t' s _ _ ⟨.int (g i j),H,I.tok _,⟨_,rfl⟩,q⟩
theorem opB0 {f:Value->Value->Sem Value} {g:Int->Int->Bool}
  (rule:∀ (i j:Int) (t u:Tok) (s:Shared) (Q:Value->Shared->Prop) (E:Value->Shared->Prop),Q (.bool (g i j)) s->wpAny (model X.prog X.w) X.A (f (.int i t) (.int j u)) Q E s) :
  OpR X f (rI0 fun i j=>.bl (g i j)):=by
 intro pins s σ H x y v u Q I rx ry h
 obtain⟨i,j,rfl,rfl,q⟩:=h
 obtain⟨t,rfl⟩:=rx
 obtain⟨t',rfl⟩:=ry
 exact rule i j t t' s _ _ ⟨.bl (g i j),H,I,rfl,q⟩
def CPow (i j:Int):Prop:=0≤j/\j≤1000000/\i.natAbs<2 ^ 64
def CMul (i j:Int):Prop:=(-(2 ^ 64)<i/\i<2 ^ 64)\/(-(2 ^ 64)<j/\j<2 ^ 64)
theorem CMul.ok {i j:Int} (h:CMul i j):IntMulOk i j:=by
 rcases h with ⟨h1,h2⟩ | ⟨h1,h2⟩
 ·exact .of_left (intBits_le_64 h1 h2)
 ·exact .of_right (intBits_le_64 h1 h2)
theorem op_add:OpR X (binaryOp .Add) (rI0 fun i j=>.int (i+j)):=opI0 fun _ _ _ _ _ _ _ q=>add_int q
theorem b4F:OpR X (binaryOp .Sub) (rI0 fun i j=>.int (i - j)):=opI0 fun _ _ _ _ _ _ _ q=>sub_int q
theorem b4G:OpR X (binaryOp .Mult) (rI CMul fun i j=>.int (i*j)):=opI fun _ _ _ _ _ _ _ hc q=>mul_int q hc.ok
theorem b4H:OpR X (binaryOp .Mod) (rI (fun _ j=>0<j) fun i j=>.int (i % j)):=opI fun i j _ _ _ _ _ hc q=>by
 have h1:(0:Int)<j:=hc
 exact mod_int' (by omega) (by rw [Int.fmod_eq_emod_of_nonneg i (by omega)];exact q)
theorem b4I:OpR X (binaryOp .Pow) (rI CPow fun i j=>.int (i ^ j.toNat)):=opI fun _ _ _ _ _ _ _ hc q=>pow_int_small hc.1 hc.2.1 hc.2.2 q
theorem b22:OpR X (inplaceOp .Add) (rI0 fun i j=>.int (i+j)):=opI0 fun _ _ _ _ _ _ _ q=>iadd_int q
theorem unI {f:Value->Sem Value} {g:Int->Int}
  (rule:∀ (i:Int) (t:Tok) (s:Shared) (Q:Value->Shared->Prop) (E:Value->Shared->Prop),Q (.int (g i) s.toks) { s with toks:=s.toks+1 }->wpAny (model X.prog X.w) X.A (f (.int i t)) Q E s) :
  UnR X f (rU fun i=>.int (g i)):=by
 intro pins s σ H x v Q I rx h
 obtain⟨i,rfl,q⟩:=h
 obtain⟨t,rfl⟩:=rx
 exact rule i t s _ _ ⟨.int (g i),H,I.tok _,⟨_,rfl⟩,q⟩
theorem b4J:UnR X (unaryOp .USub) (rU fun i=>.int (-i)):=unI fun _ _ _ _ _ q=>neg_int q
end
def scal:V->V->Bool
 | .non,.non=>true | .non,.int _=>true | .int _,.non=>true | .non,.bl _=>true | .bl _,.non=>true | .non,.str _=>true | .str _,.non=>true
 | .int _,.int _=>true | .bl _,.bl _=>true | .str _,.str _=>true | .byt _,.byt _=>true
 | .int _,.str _=>true | .str _,.int _=>true | .bl _,.str _=>true | .str _,.bl _=>true
 | _,_=>false
def rEq:R2:=fun x y H Q=>scal x y=true/\Q (.bl (decide (x=y))) H
def rNe:R2:=fun x y H Q=>scal x y=true/\Q (.bl (!decide (x=y))) H
theorem a9u {i j:Int}:decide (V.int i=V.int j)=(i==j):=by
 rw [Bool.eq_iff_iff]
 simp
theorem a9v {i j:Bool}:decide (V.bl i=V.bl j)=(i==j):=by
 rw [Bool.eq_iff_iff]
 simp
theorem a9w {i j:Str}:decide (V.str i=V.str j)=(i==j):=by
 rw [Bool.eq_iff_iff]
 simp
theorem a9x {i j:Array UInt8}:decide (V.byt i=V.byt j)=(i.toList==j.toList):=by
 rw [Bool.eq_iff_iff]
 cases i
 cases j
 simp
section
variable {X:Cx} {a b c:Expr} {ta tb tc:TE} {pos:Pos}
theorem a0V {pins:List (Addr×Obj)} {σ:St} {H:Hp} {s:Shared} {Q:VK} {k k':Bool} (I:Inv X pins σ H s) (q:Q (.bl k) H) (e:k=k'):EP X pins σ Q (.bool k') s:=by
 subst e
 exact⟨.bl k,H,I,rfl,q⟩
theorem op_eq:OpR X (compareOp .Eq) rEq:=by
 intro pins s σ H x y v u Q I rx ry h
 obtain⟨hs,q⟩:=h
 cases x with
 | non=>
  cases rx
  cases y with
  | non=>cases ry;exact PySem.EqNone.eq_none_none (a0V I q (by simp))
  | bl j=>cases ry;exact PySem.EqNone.eq_none_bool (a0V I q (by simp))
  | int j=>obtain⟨t',rfl⟩:=ry;exact PySem.EqNone.eq_none_int (a0V I q (by simp))
  | str j=>obtain⟨t',rfl⟩:=ry;exact PySem.EqNone.eq_none_str (a0V I q (by simp))
  | _=>exact absurd (show false=true from hs) Bool.false_ne_true
 | bl i=>
  cases rx
  cases y with
  | non=>cases ry;exact PySem.EqNone.eq_bool_none (a0V I q (by simp))
  | bl j=>cases ry;exact eq_bool (a0V I q a9v)
  | str j=>obtain⟨t',rfl⟩:=ry;exact PySem.EqMixed.eq_bool_str (a0V I q (by simp))
  | _=>exact absurd (show false=true from hs) Bool.false_ne_true
 | int i=>
  obtain⟨t,rfl⟩:=rx
  cases y with
  | non=>cases ry;exact PySem.EqNone.eq_int_none (a0V I q (by simp))
  | int j=>obtain⟨t',rfl⟩:=ry;exact eq_int (a0V I q a9u)
  | str j=>obtain⟨t',rfl⟩:=ry;exact PySem.EqMixed.eq_int_str (a0V I q (by simp))
  | _=>exact absurd (show false=true from hs) Bool.false_ne_true
 | str i=>
  obtain⟨t,rfl⟩:=rx
  cases y with
  | non=>cases ry;exact PySem.EqNone.eq_str_none (a0V I q (by simp))
  | bl j=>cases ry;exact PySem.EqMixed.eq_str_bool (a0V I q (by simp))
  | int j=>obtain⟨t',rfl⟩:=ry;exact PySem.EqMixed.eq_str_int (a0V I q (by simp))
  | str j=>obtain⟨t',rfl⟩:=ry;exact eq_str (a0V I q a9w)
  | _=>exact absurd (show false=true from hs) Bool.false_ne_true
 | byt i=>
  obtain⟨t,rfl⟩:=rx
  cases y with
  | byt j=>obtain⟨t',rfl⟩:=ry;exact PySem.W.eq_bytes (a0V I q a9x)
  | _=>exact absurd (show false=true from hs) Bool.false_ne_true
 | _=>cases y<;>exact absurd (show false=true from hs) Bool.false_ne_true
theorem op_ne:OpR X (compareOp .NotEq) rNe:=by
 intro pins s σ H x y v u Q I rx ry h
 obtain⟨hs,q⟩:=h
 cases x with
 | non=>
  cases rx
  cases y with
  | non=>cases ry;exact PySem.EqNone.ne_none_none (a0V I q (by simp))
  | bl j=>cases ry;exact PySem.EqNone.ne_none_bool (a0V I q (by simp))
  | int j=>obtain⟨t',rfl⟩:=ry;exact PySem.EqNone.ne_none_int (a0V I q (by simp))
  | str j=>obtain⟨t',rfl⟩:=ry;exact PySem.EqNone.ne_none_str (a0V I q (by simp))
  | _=>exact absurd (show false=true from hs) Bool.false_ne_true
 | bl i=>
  cases rx
  cases y with
  | non=>cases ry;exact PySem.EqNone.ne_bool_none (a0V I q (by simp))
  | bl j=>cases ry;exact ne_bool (a0V I q (congrArg not a9v))
  | str j=>obtain⟨t',rfl⟩:=ry;exact PySem.EqMixed.ne_bool_str (a0V I q (by simp))
  | _=>exact absurd (show false=true from hs) Bool.false_ne_true
 | int i=>
  obtain⟨t,rfl⟩:=rx
  cases y with
  | non=>cases ry;exact PySem.EqNone.ne_int_none (a0V I q (by simp))
  | int j=>obtain⟨t',rfl⟩:=ry;exact ne_int (a0V I q (congrArg not a9u))
  | str j=>obtain⟨t',rfl⟩:=ry;exact PySem.EqMixed.ne_int_str (a0V I q (by simp))
  | _=>exact absurd (show false=true from hs) Bool.false_ne_true
 | str i=>
  obtain⟨t,rfl⟩:=rx
  cases y with
  | non=>cases ry;exact PySem.EqNone.ne_str_none (a0V I q (by simp))
  | bl j=>cases ry;exact PySem.EqMixed.ne_str_bool (a0V I q (by simp))
  | int j=>obtain⟨t',rfl⟩:=ry;exact PySem.EqMixed.ne_str_int (a0V I q (by simp))
  | str j=>obtain⟨t',rfl⟩:=ry;exact ne_str (a0V I q (congrArg not a9w))
  | _=>exact absurd (show false=true from hs) Bool.false_ne_true
 | byt i=>
  obtain⟨t,rfl⟩:=rx
  cases y with
  | byt j=>obtain⟨t',rfl⟩:=ry;exact PySem.W.ne_bytes (a0V I q (congrArg not a9x))
  | _=>exact absurd (show false=true from hs) Bool.false_ne_true
 | _=>cases y<;>exact absurd (show false=true from hs) Bool.false_ne_true
theorem b61:OpR X (compareOp .Lt) (rI0 fun i j=>.bl (decide (i<j))):=opB0 fun _ _ _ _ _ _ _ q=>lt_int q
theorem b62:OpR X (compareOp .LtE) (rI0 fun i j=>.bl (decide (i≤j))):=opB0 fun _ _ _ _ _ _ _ q=>le_int q
theorem b63:OpR X (compareOp .Gt) (rI0 fun i j=>.bl (decide (j<i))):=opB0 fun _ _ _ _ _ _ _ q=>gt_int q
theorem a9y:OpR X (compareOp .Lt) (fun x y H Q=>∃ i j,x=.str i/\y=.str j/\Q (.bl (decide (i.cps.toList<j.cps.toList))) H):=by
 intro pins s σ H x y v u Q I rx ry h
 obtain⟨i,j,rfl,rfl,q⟩:=h
 obtain⟨t,rfl⟩:=rx
 obtain⟨t',rfl⟩:=ry
 exact lt_str (a0V I q rfl)
theorem op_isN:OpR X (compareOp .Is) (fun x y H Q=>y=.non/\Q (.bl (decide (x=.non))) H):=by
 intro pins s σ H x y v u Q I rx ry h
 obtain⟨rfl,q⟩:=h
 cases ry
 refine is_none_gen (a0V I q ?_)
 cases x<;>first
  | (cases rx;rfl)
  | (obtain⟨t,rfl⟩:=rx;rfl)
theorem b23:OpR X (compareOp .IsNot) (fun x y H Q=>y=.non/\Q (.bl (!decide (x=.non))) H):=by
 intro pins s σ H x y v u Q I rx ry h
 obtain⟨rfl,q⟩:=h
 cases ry
 refine isnot_none_gen (a0V I q ?_)
 cases x<;>first
  | (cases rx;rfl)
  | (obtain⟨t,rfl⟩:=rx;rfl)
theorem OpR.or {f:Value->Value->Sem Value} {r r':R2} (h:OpR X f r) (h':OpR X f r'):OpR X f (fun x y H Q=>r x y H Q\/r' x y H Q):=by
 intro pins s σ H x y v u Q I rx ry q
 rcases q with q | q
 ·exact h pins s σ H x y v u Q I rx ry q
 ·exact h' pins s σ H x y v u Q I rx ry q
theorem a0z (b:Expr) {op:CmpOp} (h:op≠.In:=by decide) (h2:op≠.NotIn:=by decide):behindInMarks op b=false:=by
 have e1:(op==CmpOp.In)=false:=by cases op<;>first | rfl | exact absurd rfl h
 have e2:(op==CmpOp.NotIn)=false:=by cases op<;>first | rfl | exact absurd rfl h2
 cases b<;>simp [behindInMarks,e1,e2]
theorem b24 {op:CmpOp} {r:R2} (ho:OpR X (compareOp op) r) (ha:PE X a ta) (hb:PE X b tb) (hm:behindInMarks op b=false):PE X (.Compare a [op] [b] pos) (tOp r ta tb):=by
 intro pins s σ H Q I h
 exact wpAny_Compare1 (binT ha hb I h fun v u s2 x y H2 I2 rx ry q=>ho pins s2 σ H2 x y v u Q I2 rx ry q) hm
def b64 (t:TE):TT:=fun σ H Q=>t σ H fun x H'=>∃ k,x=.bl k/\Q k H'
theorem b25 {op:CmpOp} {r:R2} (ho:OpR X (compareOp op) r) (ha:PE X a ta) (hb:PE X b tb) (hm:behindInMarks op b=false):PT X (.Compare a [op] [b] pos) (b64 (tOp r ta tb)):=by
 intro pins s σ H Q I h
 refine wpAny_isTrue_Compare1 (thn (ha pins s σ H _ I h) fun v s1 ⟨x,H1,I1,r1,q1⟩=>thn (hb pins s1 σ H1 _ I1 q1) fun u s2 ⟨y,H2,I2,r2,q2⟩=>
  thn (ho pins s2 σ H2 x y v u _ I2 r1 r2 q2) fun c s3 ⟨z,H3,I3,r3,k,e,q3⟩=>?_) hm
 subst e
 cases r3
 exact wpAny_truthy_bool ⟨H3,I3,q3⟩
def b2q (r r':R2) (ta tb tc:TE):TE:=fun σ H Q=>ta σ H fun x H1=>tb σ H1 fun y H2=>r x y H2 fun z H3=>∃ k,z=.bl k /\
 (if k=true then tc σ H3 fun w' H4=>r' y w' H4 Q else Q (.bl false) H3)
theorem b1i {op op':CmpOp} {r r':R2} (ho:OpR X (compareOp op) r) (ho':OpR X (compareOp op') r') (ha:PE X a ta) (hb:PE X b tb) (hc:PE X c tc)
  (hm:lastMarks [op,op'] [b,c]=false:=by with_unfolding_all rfl):PE X (.Compare a [op,op'] [b,c] pos) (b2q r r' ta tb tc):=by
 intro pins s σ H Q I h
 refine Compare_chain (thn (ha pins s σ H _ I h) fun v s1 ⟨x,H1,I1,r1,q1⟩=>chain_link (thn (hb pins s1 σ H1 _ I1 q1) fun u s2 ⟨y,H2,I2,r2,q2⟩=>
  thn (ho pins s2 σ H2 x y v u _ I2 r1 r2 q2) fun d s3 ⟨z,H3,I3,r3,k,e,q3⟩=>?_)) hm
 subst e
 cases r3
 refine wpAny_truthy_bool ?_
 cases k with
 | false=>exact ite_ff ⟨.bl false,H3,I3,rfl,q3⟩
 | true=>exact ite_tt (chain_last (thn (hc pins s3 σ H3 _ I3 q3) fun w' s4 ⟨z',H4,I4,r4,q4⟩=>ho' pins s4 σ H4 y z' u w' Q I4 r2 r4 q4))
def TruV (K:Fg) (x:V) (H:Hp) (k:Bool):Prop:=
 match x with
 | .non=>k=false
 | .bl b=>k=b
 | .int i=>k=(i != 0)
 | .str y=>y.length≤sizeLine/\k=((y.length:Int) != 0)
 | .byt y=>y.size≤sizeLine/\k=((y.size:Int) != 0)
 | .ref p=>(∃ xs,SqL K H p xs/\k=!xs.isEmpty)\/(∃ xs,SqT K H p xs/\k=!xs.isEmpty)\/∃ kvs,H p=some (.dK kvs)/\k=!kvs.isEmpty
 | _=>False
theorem a8Q {κ:Type} {kvs:List (κ×V)} {vs:List (κ×Value)} (r:KV kvs vs):(!vs.isEmpty)=!kvs.isEmpty:=by
 cases r<;>rfl
theorem a5x {xs:List V} {its:List Value} (r:Vals xs its):(!its.toArray.isEmpty)=!xs.isEmpty:=by
 cases r<;>simp
theorem a5y:(sizeLine:Nat)<2 ^ 63:=by rw [sizeLine_eq];decide
theorem b4K:TruR X (fun x H Q=>∃ k,TruV X.K x H k/\Q k H):=by
 intro pins s σ H x v Q I rx h
 obtain⟨k,e,q⟩:=h
 have hl:=a5y
 have hs:sizeLine=16777216:=sizeLine_eq
 cases x with
 | non=>
  cases rx
  have e':k=false:=e
  subst e'
  exact truthy_none ⟨H,I,q⟩
 | bl b=>
  cases rx
  have e':k=b:=e
  subst e'
  exact wpAny_truthy_bool ⟨H,I,q⟩
 | int i=>
  obtain⟨t,rfl⟩:=rx
  have e':k=(i != 0):=e
  subst e'
  exact PySem.P.truthy_int ⟨H,I,q⟩
 | str y=>
  obtain⟨t,rfl⟩:=rx
  obtain⟨hy,e'⟩:y.length≤sizeLine/\k=((y.length:Int) != 0):=e
  subst e'
  exact PySem.P.truthy_str (by omega) ⟨H,I.tok _,q⟩
 | byt y=>
  obtain⟨t,rfl⟩:=rx
  obtain⟨hy,e'⟩:y.size≤sizeLine/\k=((y.size:Int) != 0):=e
  subst e'
  exact PySem.W.truthy_bytes (by omega) ⟨H,I.tok _,q⟩
 | ref p=>
  cases rx
  have e':(∃ xs,SqL X.K H p xs/\k=!xs.isEmpty)\/(∃ xs,SqT X.K H p xs/\k=!xs.isEmpty)\/∃ kvs,H p=some (.dK kvs)/\k=!kvs.isEmpty:=e
  rcases e' with ⟨xs,hx,e'⟩ | ⟨xs,hx,e'⟩ | ⟨kvs,hx,e'⟩
  ·subst e'
   obtain⟨its,r,pl,hz⟩:=I.list hx
   have hlen:=r.length
   exact wpAny_truthy_list pl.isList (by simp only [List.size_toArray];omega) ⟨H,I.tok _,by rw [a5x r];exact q⟩
  ·subst e'
   obtain⟨its,r,pl,hz⟩:=I.tuple hx
   have hlen:=r.length
   exact truthy_tuple pl (by simp only [List.size_toArray];omega) ⟨H,I.tok _,by rw [a5x r];exact q⟩
  ·subst e'
   obtain⟨hz,hS,vs,r,m⟩:kvs.length≤sizeLine/\(p==sysModules)=false/\∃ vs,KV kvs vs/\s.heap.DictOf (a1d X.prog X.w) p vs:=I.hok p _ hx
   have hlen:kvs.length=vs.length:=Paired.length r
   exact wpAny_truthy_dict hS m (by omega) ⟨H,I.tok _,by rw [a8Q r];exact q⟩
 | _=>exact (show False from e).elim
theorem b1j (ha:PE X a ta) (he:∀ whole,isTrue a X.env whole=(do let v <- whole;standAt a.pos;holding [v] (truthy v))) :
  PT X a (fun σ H Q=>ta σ H fun x H'=>∃ k,TruV X.K x H' k/\Q k H'):=by
 intro pins s σ H Q I h
 exact isTrue_plain (thn (ha pins s σ H _ I h) fun v s1 ⟨x,H1,I1,r1,q1⟩=>b4K pins s1 σ H1 x v Q I1 r1 q1) (he _)
theorem op_add_str:OpR X (binaryOp .Add) (fun x y H Q=>∃ i j,x=.str i/\y=.str j/\i.length+j.length≤sizeLine/\Q (.str (i++j)) H):=by
 intro pins s σ H x y v u Q I rx ry h
 obtain⟨i,j,rfl,rfl,hz,q⟩:=h
 obtain⟨t,rfl⟩:=rx
 obtain⟨t',rfl⟩:=ry
 exact add_str (fun t' tk=>⟨.str (i++j),H,I.tok _,⟨_,rfl⟩,q⟩) hz
theorem a4U {x:V} {us:List Value} (r:Vals [x] us):∃ u,us=[u]/\RelV x u:=by
 cases r with
 | cons r1 r2=>cases r2;exact⟨_,rfl,r1⟩
theorem a8R {x y:V} {us:List Value} (r:Vals [x,y] us):∃ u w',us=[u,w']/\RelV x u/\RelV y w':=by
 cases r with
 | cons r1 r2=>
  cases r2 with
  | cons r3 r4=>cases r4;exact⟨_,_,rfl,r1,r3⟩
theorem a9z (hc:X.calm=true):CallR X (.builtin "max") (fun xs H Q=>∃ i j,xs=[.int i,.int j]/\Q (.int (if j > i then j else i)) H):=by
 intro pins s σ H xs us Q I r h
 obtain⟨i,j,rfl,q⟩:=h
 obtain⟨u,w',rfl,⟨t,rfl⟩,⟨t',rfl⟩⟩:=a8R r
 refine max_two_ints (I.ok.hd hc) fun h' tk k=>⟨_,H,I.kept k,?_,q⟩
 by_cases hj:j > i
 ·rw [if_pos hj,if_pos hj];exact⟨_,rfl⟩
 ·rw [if_neg hj,if_neg hj];exact⟨_,rfl⟩
theorem a9A (hc:X.calm=true):CallR X (.builtin "min") (fun xs H Q=>∃ i j,xs=[.int i,.int j]/\Q (.int (if j<i then j else i)) H):=by
 intro pins s σ H xs us Q I r h
 obtain⟨i,j,rfl,q⟩:=h
 obtain⟨u,w',rfl,⟨t,rfl⟩,⟨t',rfl⟩⟩:=a8R r
 refine min_two_ints (I.ok.hd hc) fun h' tk k=>⟨_,H,I.kept k,?_,q⟩
 by_cases hj:j<i
 ·rw [if_pos hj,if_pos hj];exact⟨_,rfl⟩
 ·rw [if_neg hj,if_neg hj];exact⟨_,rfl⟩
def LenV (K:Fg) (x:V) (H:Hp) (n:Nat):Prop:=
 match x with
 | .str y=>y.length≤sizeLine/\n=y.length
 | .byt y=>y.size≤sizeLine/\n=y.size
 | .ref p=>(∃ xs,SqL K H p xs/\n=xs.length)\/∃ xs,SqT K H p xs/\n=xs.length
 | _=>False
theorem b1k:CallR X (.builtin "len") (fun xs H Q=>∃ x n,xs=[x]/\LenV X.K x H n/\Q (.int n) H):=by
 intro pins s σ H xs us Q I r h
 obtain⟨x,n,rfl,e,q⟩:=h
 obtain⟨u,rfl,rx⟩:=a4U r
 have hl:=a5y
 have hs:sizeLine=16777216:=sizeLine_eq
 cases x with
 | str y=>
  obtain⟨t,rfl⟩:=rx
  obtain⟨hy,e'⟩:y.length≤sizeLine/\n=y.length:=e
  subst e'
  exact len_str (by omega) ⟨.int _,H,I.tok _,⟨_,rfl⟩,q⟩
 | byt y=>
  obtain⟨t,rfl⟩:=rx
  obtain⟨hy,e'⟩:y.size≤sizeLine/\n=y.size:=e
  subst e'
  exact PySem.W.len_bytes (by omega) ⟨.int _,H,I.tok _,⟨_,rfl⟩,q⟩
 | ref p=>
  cases rx
  have e':(∃ xs,SqL X.K H p xs/\n=xs.length)\/∃ xs,SqT X.K H p xs/\n=xs.length:=e
  rcases e' with ⟨xs,hx,e'⟩ | ⟨xs,hx,e'⟩
  ·subst e'
   obtain⟨its,r',pl,hz⟩:=I.list hx
   have hlen:=r'.length
   exact Calls.call_len_list pl.isList (by simp only [List.size_toArray];omega) ⟨.int xs.length,H,I.tok _,⟨_,by simp only [List.size_toArray];rw [hlen]⟩,q⟩
  ·subst e'
   obtain⟨its,r',pl,hz⟩:=I.tuple hx
   have hlen:=r'.length
   exact len_tuple pl (by simp only [List.size_toArray];omega) ⟨.int xs.length,H,I.tok _,⟨_,by simp only [List.size_toArray];rw [hlen]⟩,q⟩
 | _=>exact (show False from e).elim
end
end L2
namespace L2
open PySem PySem.Spec PyProof.Rows
structure ObjM (h:Heap) (x dx C:Addr) (mA:Str->Option Value):Prop where
 obj:h.get? x=some (PySem.W.instObj C dx)
 ns:h.Ns1 dx mA
 ne:dx≠x
theorem a9B {h:Heap} {dx:Addr} {mA:Str->Option Value} (n:h.Ns1 dx mA):∃ od,h.get? dx=some od/\∀ name,PySem.W.lookIn name od=some (mA name):=by
 obtain⟨o,es,ep,ho,hd,hk,_,hm⟩:=n
 refine⟨o,ho,fun name=>?_⟩
 have e:=hm name
 unfold nsFind findBy at e
 rw [<- Array.find?_toList] at e
 unfold PySem.W.lookIn
 rw [hd]
 dsimp only
 split
 ·rename_i y q
  rw [q] at e
  exact congrArg some e
 ·rename_i q
  rw [q] at e
  have a:es.toList.any (·.refKey)=false:=by
   rw [List.any_eq_false]
   intro y hy
   obtain⟨z,t,hkey⟩:=hk y (Array.mem_toList_iff.mp hy)
   simp [DictEntry.refKey,hkey]
  have a':¬ es.toList.any (·.refKey)=true:=by rw [a];exact Bool.false_ne_true
  rw [if_neg a']
  exact congrArg some e
theorem ObjM.look {h:Heap} {x dx C:Addr} {mA:Str->Option Value} (I:ObjM h x dx C mA):∃ od,PySem.W.InstAt h x (PySem.W.instObj C dx) C (some od)/\∀ name,PySem.W.lookIn name od=some (mA name):=
 let ⟨od,ho,hl⟩:=a9B I.ns
 ⟨od,⟨I.obj,rfl,rfl,ho⟩,hl⟩
section
variable {prog:Program} {w:World} {A:Around} {E:Value->Shared->Prop} {s:Shared} {K:Fg} {x dx C f:Addr} {mA:Str->Option Value} {name:Str} {v:Value}
theorem b26 {expr:Bool} {Q:Value->Shared->Prop} (X:K.In s.heap) (I:ObjM s.heap x dx C mA) (hg:PySem.W.plainGet K C name=true) (hh:PySem.W.hasDictIn K C=true)
  (ha:PySem.W.findIn K (.ref C) name=some none) (hv:mA name=some v) (hv':PySem.W.handedIn v=true) (h:Q v { s with toks:=s.toks+1 }) :
  wpAny (model prog w) A (getAttr (.ref x) name expr) Q E s:=by
 obtain⟨od,J,hl⟩:=I.look
 exact PySem.W.get_value X J (PySem.W.plainGet_of hg).1 (PySem.W.findObj_own hh ha rfl (by rw [hl,hv])) hv' h
theorem b1l {pl:Sem Bool} {Q:Value×List Value->Shared->Prop} (X:K.In s.heap) (I:ObjM s.heap x dx C mA) (hg:PySem.W.plainGet K C name=true)
  (hf:PySem.W.findIn K (.ref C) name=some (some (.ref f))) (ht:PySem.W.isFn K (.ref f)=true) (hv:mA name=none) (h:Q (.ref f,[.ref x]) s) :
  wpAny (model prog w) A (getMethod (.ref x) name pl) Q E s:=by
 obtain⟨od,J,hl⟩:=I.look
 exact PySem.W.method_fn X J (PySem.W.plainGet_of hg).1 (PySem.W.plainGet_of hg).2 hf (beq_iff_eq.mp ht) (by show (PySem.W.lookIn name od).map (·.isSome)=some false;rw [hl,hv];rfl) h
theorem b27 {ns:List Str} {Q:Unit->Shared->Prop} (X:K.In s.heap) (I:ObjM s.heap x dx C mA)
  (hs:PySem.W.findIn K (.ref C) "__setattr__"=some (some (.builtin "object.__setattr__"))) (hp:PySem.W.plainOver K C=true) (ht:PySem.W.takerIn K C name=some none) (hh:PySem.W.hasDictIn K C=true)
  (hw:PySem.Within mA ns) (hsz:ns.length≤sizeLine)
  (h:∀ h',ObjM h' x dx C (fun y=>if y=name then some v else mA y)->Heap.SameBut dx s.heap h'->Q () { s with heap:=h',toks:=s.toks+2 }) :
  wpAny (model prog w) A (setAttr (.ref x) name v) Q E s:=by
 obtain⟨od,J,hl⟩:=I.look
 refine PySem.W.set_plain X J hs (PySem.W.osa_open (s:={ s with toks:=s.toks+1 }) (r:=none) X J hp ht fun b=>?_)
 obtain⟨cd,hc,hd'⟩:=PySem.W.any_some hh
 have hx:s.heap.get? x=some ⟨.ref C,some dx,.plain,#[]⟩:=I.obj
 refine wpAny_bind (wpAny_pure (wpAny_bind (wpAny_bind (wpAny_loadPart hx (wpAny_bind (PySem.W.Looks.here (s:={ s with toks:=s.toks+1 }) (PySem.W.looks_clsIn X hc) ?_))))))
 rw [hd']
 refine wpAny_pure (a:=some dx) (wpAny_bind (wpAny_pure (wpAny_bind ?_)))
 refine wpAny_nsSet1 (s:={ s with toks:=s.toks+1 }) I.ns fun h' hn2 hs2=>?_
 obtain⟨oD,esD,epD,hoD,hdD,hcD⟩:=hn2.count (PySem.Within.cons name v hw)
 refine wpAny_bind (wpAny_lookBehind hoD (by rw [hdD];exact pastItsLine_dict (Nat.le_trans hcD (by rw [List.length_cons];omega))) ?_)
 exact wpAny_pure (h _ ⟨(hs2.2 _ (Ne.symm I.ne)).trans I.obj,hn2,I.ne⟩ hs2)
theorem b1m {R:Result->Shared->Prop} {vs:List Value} {kw:List (Str×Value)} (X:K.In s.heap) (hm:PySem.W.makesIn K C=true)
  (hi:PySem.W.findIn K (.ref C) "__init__"=some (some (.ref f))) (hf:PySem.W.typeIn K (.ref f)=some (.type "function"))
  (h:codeAny (model prog w) (A.under (.builtin "type.__call__" ⟨.ref C::vs,kw⟩)) (.call (.ref f) ⟨.ref (s.heap.objs.size+1)::vs,kw⟩) (PySem.W.InitBack (s.heap.objs.size+1) R)
   { s with heap:=(s.heap.push PySem.W.emptyDict).push (PySem.W.instObj C s.heap.objs.size) }) :
  codeAny (model prog w) A (.call (.ref C) ⟨vs,kw⟩) R s:=by
 obtain⟨hh,g,d,t,os⟩:=s
 exact PySem.W.make_core (PySem.W.makes_of X hm) (PySem.W.looks_findIn X hi) (fun self=>PySem.W.bind_fn X self hf) (.inl rfl) h
end
def putF (f:Str) (v:V):List (Str×V)->List (Str×V)
 | []=>[(f,v)]
 | (g,x)::r=>if g=f then (g,v)::r else (g,x)::putF f v r
theorem a4V (f g:Str) (v:V):∀ fs:List (Str×V),(putF f v fs).lookup g=if g=f then some v else fs.lookup g
 | []=>by
  show List.lookup g [(f,v)]=_
  by_cases h:g=f
  ·have hb:(g==f)=true:=beq_iff_eq.mpr h
   simp only [List.lookup,hb,if_pos h]
  ·have hb:(g==f)=false:=beq_eq_false_iff_ne.mpr h
   simp only [List.lookup,hb,if_neg h]
 | (k,x)::r=>by
  have ih:=a4V f g v r
  rw [show putF f v ((k,x)::r)=(if k=f then (k,v)::r else (k,x)::putF f v r) from rfl]
  by_cases hk:k=f
  ·rw [if_pos hk]
   by_cases h:g=k
   ·have hb:(g==k)=true:=beq_iff_eq.mpr h
    simp only [List.lookup,hb,if_pos (h.trans hk)]
   ·have hb:(g==k)=false:=beq_eq_false_iff_ne.mpr h
    simp only [List.lookup,hb,if_neg (fun e:g=f=>h (e.trans hk.symm))]
  ·rw [if_neg hk]
   by_cases h:g=k
   ·have hb:(g==k)=true:=beq_iff_eq.mpr h
    simp only [List.lookup,hb,if_neg (fun e:g=f=>hk (h.symm.trans e))]
   ·have hb:(g==k)=false:=beq_eq_false_iff_ne.mpr h
    simp only [List.lookup,hb]
    exact ih
theorem a4W (f:Str) (v:V):∀ fs:List (Str×V),f∈(putF f v fs).map (·.1)/\∀ g,g∈fs.map (·.1)->g∈(putF f v fs).map (·.1)
 | []=>⟨by simp [putF],fun g h=>by simp at h⟩
 | (k,x)::r=>by
  obtain⟨i1,i2⟩:=a4W f v r
  rw [show putF f v ((k,x)::r)=(if k=f then (k,v)::r else (k,x)::putF f v r) from rfl]
  by_cases hk:k=f
  ·rw [if_pos hk]
   subst hk
   exact⟨by simp,fun g h=>by simpa using h⟩
  ·rw [if_neg hk]
   refine⟨?_,fun g h=>?_⟩
   ·rw [List.map_cons]
    exact List.mem_cons_of_mem _ i1
   ·rw [List.map_cons] at h ⊢
    rcases List.mem_cons.mp h with e | e
    ·exact List.mem_cons.mpr (.inl e)
    ·exact List.mem_cons_of_mem _ (i2 g e)
theorem a4X (f:Str) (v:V):∀ fs:List (Str×V),(putF f v fs).length≤fs.length+1
 | []=>by simp [putF]
 | (k,x)::r=>by
  have ih:=a4X f v r
  rw [show putF f v ((k,x)::r)=(if k=f then (k,v)::r else (k,x)::putF f v r) from rfl]
  by_cases hk:k=f
  ·rw [if_pos hk,List.length_cons,List.length_cons];omega
  ·rw [if_neg hk,List.length_cons,List.length_cons];omega
theorem RelO.some_of {v:V} {o:Option Value} (r:RelO (some v) o):∃ u,o=some u/\RelV v u:=by
 cases o with
 | none=>exact (show False from r).elim
 | some u=>exact⟨u,rfl,r⟩
theorem RelO.none_of {o:Option Value} (r:RelO none o):o=none:=by
 cases o with
 | none=>rfl
 | some u=>exact (show False from r).elim
theorem a9C {v:V} {u:Value} (r:RelV v u):PySem.W.handedIn u=true:=by
 cases v with
 | non=>cases (show u=Value.none from r);rfl
 | bl b=>cases (show u=Value.bool b from r);rfl
 | int i=>obtain⟨t,e⟩:=(show ∃ t,u=Value.int i t from r);cases e;rfl
 | str x=>obtain⟨t,e⟩:=(show ∃ t,u=Value.str x t from r);cases e;rfl
 | byt b=>obtain⟨t,e⟩:=(show ∃ t,u=Value.bytes b t from r);cases e;rfl
 | flt b=>obtain⟨t,e⟩:=(show ∃ t,u=Value.float b t from r);cases e;rfl
 | ref a=>cases (show u=Value.ref a from r);rfl
 | ty n=>cases (show u=Value.type n from r);rfl
section
variable {P:Program} {w:World} {H H':Hp} {h h':Heap} {a C dx:Addr} {fs fs':List (Str×V)}
theorem a5W (hok:HOk P w H h) (e:H a=some (.ins C dx fs)):∃ mA,ObjM h a dx C mA/\(∀ f,RelO (fs.lookup f) (mA f))/\PySem.Within mA (fs.map (·.1))/\fs.length≤1000/\H dx=some (.own a):=by
 obtain⟨d,z,ne,ob,mA,n,r,q⟩:=(show ObjOk P w H h a (.ins C dx fs) from hok a _ e)
 exact⟨mA,⟨ob,n,ne⟩,r,q,z,d⟩
end
structure Cls (K:Fg) (C:Addr):Prop where
 pg:PySem.W.plainGet K C Str.empty=true
 hd:PySem.W.hasDictIn K C=true
 po:PySem.W.plainOver K C=true
 sa:PySem.W.findIn K (.ref C) "__setattr__"=some (some (.builtin "object.__setattr__"))
theorem Cls.get {K:Fg} {C:Addr} (c:Cls K C) (f:Str):PySem.W.plainGet K C f=true:=c.pg
def NoAttr (K:Fg) (C:Addr) (f:Str):Prop:=PySem.W.findIn K (.ref C) f=some none
theorem NoAttr.taker {K:Fg} {C:Addr} {f:Str} (n:NoAttr K C f):PySem.W.takerIn K C f=some none:=by
 unfold PySem.W.takerIn
 rw [show PySem.W.findIn K (.ref C) f=some none from n]
 rfl
structure Meth (K:Fg) (C:Addr) (m:Str) (f:Addr):Prop where
 at_:PySem.W.findIn K (.ref C) m=some (some (.ref f))
 fn:PySem.W.isFn K (.ref f)=true
 kp:PySem.W.keepIn K (.ref f)=true
section
variable {X:Cx} {pins:List (Addr×Obj)} {σ:St} {H:Hp} {s:Shared} {a C dx:Addr} {fs:List (Str×V)} {f:Str} {v:V} {A:Around} {E:Value->Shared->Prop}
theorem a5z {b:Bool} {Q:Value->Shared->Prop} (I:Inv X pins σ H s) (e:H a=some (.ins C dx fs)) (c:Cls X.K C) (n:NoAttr X.K C f) (l:fs.lookup f=some v)
  (h:∀ u s',Inv X pins σ H s'->RelV v u->Q u s'):wpAny (model X.prog X.w) A (getAttr (.ref a) f b) Q E s:=by
 obtain⟨mA,O,r,_,_,_⟩:=a5W I.hok e
 obtain⟨u,hu,ru⟩:=RelO.some_of (v:=v) (o:=mA f) (by rw [<- l];exact r f)
 exact b26 I.kIn O (c.get f) c.hd n hu (a9C ru) (h u _ (I.tok _) ru)
theorem a5A {m:Str} {g:Addr} {pl:Sem Bool} {Q:Value×List Value->Shared->Prop} (I:Inv X pins σ H s) (e:H a=some (.ins C dx fs)) (c:Cls X.K C) (k:Meth X.K C m g) (l:fs.lookup m=none)
  (h:Q (.ref g,[.ref a]) s):wpAny (model X.prog X.w) A (getMethod (.ref a) m pl) Q E s:=by
 obtain⟨mA,O,r,_,_,_⟩:=a5W I.hok e
 have hn:mA m=none:=RelO.none_of (by rw [<- l];exact r m)
 exact b1l I.kIn O (c.get m) k.at_ k.fn hn h
theorem a5B {y:V} {u:Value} {Q:Unit->Shared->Prop} (I:Inv X pins σ H s) (e:H a=some (.ins C dx fs)) (c:Cls X.K C) (n:NoAttr X.K C f) (hl:fs.length<1000) (ry:RelV y u)
  (h:∀ s',Inv X pins σ (upd H a (.ins C dx (putF f y fs))) s'->Q () s'):wpAny (model X.prog X.w) A (setAttr (.ref a) f u) Q E s:=by
 obtain⟨mA,O,r,wi,_,ho⟩:=a5W I.hok e
 have hz:(fs.map (·.1)).length≤sizeLine:=by rw [List.length_map,sizeLine_eq];omega
 refine b27 I.kIn O c.sa c.po n.taker c.hd wi hz fun h' O' sb=>h _ ?_
 have hd:∃ o,h'.get? dx=some o:=let ⟨o,_,_,e',_⟩:=O'.ns;⟨o,e'⟩
 refine I.write (x:=a) (e:=dx) (by rw [e];exact True.intro) (.inr ho) (fun b q hb z=>(sb.2 b hb).trans z) hd ?_
 refine⟨by rw [a1c O.ne];exact ho,?_,O.ne,O'.obj,_,O'.ns,fun g=>?_,fun g hg=>?_⟩
 ·have:=a4X f y fs;omega
 ·show RelO ((putF f y fs).lookup g) (if g=f then some u else mA g)
  rw [a4V]
  by_cases q:g=f
  ·rw [if_pos q,if_pos q];exact ry
  ·rw [if_neg q,if_neg q];exact r g
 ·by_cases q:g=f
  ·rw [q];exact (a4W f y fs).1
  ·refine (a4W f y fs).2 g (wi g fun z=>hg ?_)
   show (if g=f then some u else mA g)=none
   rw [if_neg q];exact z
theorem Inv.made (I:Inv X pins σ H s):Inv X pins σ (upd (upd H s.heap.objs.size (.own (s.heap.objs.size+1))) (s.heap.objs.size+1) (.ins C s.heap.objs.size []))
  { s with heap:=(s.heap.push PySem.W.emptyDict).push (PySem.W.instObj C s.heap.objs.size) }:=by
 have e1:(s.heap.push PySem.W.emptyDict).get? s.heap.objs.size=some PySem.W.emptyDict:=Heap.get?_push_size s.heap rfl
 have e2:((s.heap.push PySem.W.emptyDict).push (PySem.W.instObj C s.heap.objs.size)).get? (s.heap.objs.size+1)=some (PySem.W.instObj C s.heap.objs.size):=by
  have:=Heap.get?_push_size (s.heap.push PySem.W.emptyDict) (o:=PySem.W.instObj C s.heap.objs.size) rfl
  rwa [Heap.size_push] at this
 have e3:(s.heap.push PySem.W.emptyDict).Ns s.heap.objs.size (fun _=>none):=⟨PySem.W.emptyDict,#[],_,e1,rfl,(fun e he=>absurd he (by simp)),fun _=>rfl⟩
 have I1:=I.laid (a:=s.heap.objs.size) (o:=.own (s.heap.objs.size+1)) (h':=s.heap.push PySem.W.emptyDict) (t':=s.toks) (fun b u q=>Heap.get?_push_of_some _ q) (Nat.le_refl _) ⟨_,e1⟩
 refine I1.laid (a:=s.heap.objs.size+1) (o:=.ins C s.heap.objs.size []) (t':=s.toks) (fun b u q=>Heap.get?_push_of_some _ q) (Nat.le_of_eq (Heap.size_push _ _)) ?_
 have ne:s.heap.objs.size≠s.heap.objs.size+1:=Nat.ne_of_lt (Nat.lt_succ_self _)
 refine⟨by rw [a1c ne,a1a],Nat.zero_le _,ne,e2,fun _=>none,(Heap.Ns1.of_empty e3).at fun o q=>Heap.get?_push_of_some _ q,fun _=>True.intro,fun y hy=>absurd rfl hy⟩
theorem b28 {prog:Program} {w:World} {env:Env} {e:Expr} {f:Str} {pos:Pos} {s:Shared} {Q:Value->Shared->Prop} (hb:attributeBase e f env (eval e env)=eval e env)
  (h:wpAny (model prog w) A (eval e env) (fun o s₁=>wpAny (model prog w) A (getAttr o f true) Q E s₁) E s):wpAny (model prog w) A (eval (.Attribute e f pos) env) Q E s:=
 Attribute_any_ h (by rw [arm_eval_Attribute,hb])
end
def tFld (K:Fg) (ta:TE) (f:Str):TE:=fun σ H Q=>ta σ H fun x H1=>∃ a C dx fs v,x=.ref a/\H1 a=some (.ins C dx fs)/\Cls K C/\NoAttr K C f/\fs.lookup f=some v/\Q v H1
def sFld (K:Fg) (ta tv:TE) (f:Str):TS:=fun D σ H=>tv σ H fun y H1=>ta σ H1 fun x H2=>∃ a C dx fs,x=.ref a/\H2 a=some (.ins C dx fs)/\Cls K C/\NoAttr K C f/\fs.length<1000 /\
 D.nx σ (upd H2 a (.ins C dx (putF f y fs)))
def InOp (X:Cx) (op:Operator) (rd:V->V->Hp->VK->Prop):Prop:=
 ∀ (pins:List (Addr×Obj)) (s:Shared) (σ:St) (H:Hp) (x y:V) (u v:Value) (Q:VK),Inv X pins σ H s->RelV x u->RelV y v->rd x y H Q->wpAny (model X.prog X.w) X.A (inplaceOp op u v) (EP X pins σ Q) X.xe s
def b29 (K:Fg) (ta tv:TE) (rd:V->V->Hp->VK->Prop) (f:Str):TS:=fun D σ H=>ta σ H fun x H1=>∃ a C dx fs v,x=.ref a/\H1 a=some (.ins C dx fs)/\Cls K C/\NoAttr K C f/\fs.lookup f=some v /\
 tv σ H1 fun y H2=>rd v y H2 fun z H3=>∃ dx' fs',H3 a=some (.ins C dx' fs')/\fs'.length<1000/\D.nx σ (upd H3 a (.ins C dx' (putF f z fs')))
section
variable {X:Cx} {o e value:Expr} {f:Str} {pos pos' tpos:Pos} {ta tv:TE}
theorem b4L (he:PE X e ta) (hb:attributeBase e f X.env (eval e X.env)=eval e X.env):PE X (.Attribute e f pos) (tFld X.K ta f):=by
 intro pins s σ H Q I h
 refine b28 hb (thn (he pins s σ H _ I h) fun u s1 ⟨x,H1,I1,rx,a,C,dx,fs,v,ex,ea,c,n,l,q⟩=>?_)
 subst ex
 obtain rfl:u=Value.ref a:=rx
 exact a5z I1 ea c n l fun u' s2 I2 ru=>⟨v,H1,I2,ru,q⟩
theorem b4M (ha:PE X o ta) (hv:PE X value tv) (hs:swapsWith value (some (.Attribute o f pos')) pos.line X.env=pure false):PS X (.Assign [.Attribute o f pos'] value pos) (sFld X.K ta tv f):=by
 intro pins s σ H D I h
 refine plainObj_wpAny_Assign_Attribute (thn (hv pins s σ H _ I h) fun u s1 ⟨y,H1,I1,ry,q⟩=>thn (ha pins s1 σ H1 _ I1 q) fun ov s2 ⟨x,H2,I2,rx,a,C,dx,fs,ex,ea,c,n,l,q2⟩=>?_) hs
 subst ex
 obtain rfl:ov=Value.ref a:=rx
 exact a5B I2 ea c n l ry fun s3 I3=>⟨σ,_,I3,q2⟩
theorem a9D {op:Operator} {rd:V->V->Hp->VK->Prop} (ha:PE X o ta) (hv:PE X value tv) (hop:InOp X op rd):PS X (.AugAssign (.Attribute o f tpos) op value pos) (b29 X.K ta tv rd f):=by
 intro pins s σ H D I h
 refine wpAny_AugAssign_AttributeAny (thn (ha pins s σ H _ I h) fun ov s1 ⟨x,H1,I1,rx,a,C,dx,fs,v,ex,ea,c,n,l,q⟩=>?_)
 subst ex
 obtain rfl:ov=Value.ref a:=rx
 refine a5z I1 ea c n l fun u s2 I2 ru=>thn (hv pins s2 σ H1 _ I2 q) fun w3 s3 ⟨y,H2,I3,ry,q3⟩=>thn (hop pins s3 σ H2 v y u w3 _ I3 ru ry q3) fun w4 s4 ⟨z,H3,I4,rz,dx',fs',ea',l',q4⟩=>?_
 exact a5B I4 ea' c n l' rz fun s5 I5=>⟨σ,_,I5,q4⟩
end
section
variable {X:Cx} {pins:List (Addr×Obj)} {σ:St} {H:Hp} {s:Shared} {A:Around} {E:Value->Shared->Prop} {Q:Value->Shared->Prop} {c:Value} {b:Bool}
inductive TyOf (K:Fg) (H:Hp):V->Value->Prop where
 | non:TyOf K H .non (.type "NoneType")
 | bl (x:Bool):TyOf K H (.bl x) (.type "bool")
 | int (i:Int):TyOf K H (.int i) (.type "int")
 | str (x:Str):TyOf K H (.str x) (.type "str")
 | flt (x:UInt64):TyOf K H (.flt x) (.type "float")
 | lst {a:Addr} {xs:List V} (e:H a=some (.lst xs)):TyOf K H (.ref a) (.type "list")
 | frz {a:Addr} {o:Obj} {xs:List V} (e:H a=some (.frz o (.lst xs))):TyOf K H (.ref a) (.type "list")
 | tup {a:Addr} {xs:List V} (e:H a=some (.tup xs)):TyOf K H (.ref a) (.type "tuple")
 | dK {a:Addr} {kvs:List (Key×V)} (e:H a=some (.dK kvs)):TyOf K H (.ref a) (.type "dict")
 | dT {a:Addr} {kvs:List (List Key×V)} (e:H a=some (.dT kvs)):TyOf K H (.ref a) (.type "dict")
 | ins {a C dx:Addr} {fs:List (Str×V)} (e:H a=some (.ins C dx fs)) (cl:Cls K C) (ha:PySem.W.findIn K (.ref C) "__class__"=some (some (.builtin "object.__class__")))
   (hn:PySem.W.specialIn K (.builtin "object.__class__") "__get__"=some (some (.builtin "getset_descriptor.__get__"))) (htk:PySem.W.takesIn K (.builtin "object.__class__")=some true)
   (hm:PySem.W.mroIn K C (.type "object")=some true):TyOf K H (.ref a) (.ref C)
theorem a9E {x:V} {u t:Value} (I:Inv X pins σ H s) (rx:RelV x u) (ty:TyOf X.K H x t) (e:PySem.W.kitOne X.K t c=some b) (h:∀ tk,Q (.bool b) { s with toks:=tk }) :
  wpAny (model X.prog X.w) A (call (.builtin "isinstance") [u,c]) Q E s:=by
 cases ty with
 | non=>cases (show u=Value.none from rx);exact PySem.W.kia_one PySem.W.kitx_none I.kIn True.intro e (fun z=>nomatch z) h
 | bl y=>cases (show u=Value.bool y from rx);exact PySem.W.kia_one PySem.W.kitx_bool I.kIn True.intro e (fun z=>nomatch z) h
 | int i=>obtain⟨t,q⟩:=(show ∃ t,u=Value.int i t from rx);cases q;exact PySem.W.kia_one PySem.W.kitx_int I.kIn True.intro e (fun z=>nomatch z) h
 | str y=>obtain⟨t,q⟩:=(show ∃ t,u=Value.str y t from rx);cases q;exact PySem.W.kia_one PySem.W.kitx_str I.kIn True.intro e (fun z=>nomatch z) h
 | flt y=>obtain⟨t,q⟩:=(show ∃ t,u=Value.float y t from rx);cases q;exact PySem.W.kia_one PySem.W.kitx_float I.kIn True.intro e (fun z=>nomatch z) h
 | @lst a xs ea=>
  cases (show u=Value.ref a from rx)
  obtain⟨_,_,n,_,h1⟩:=(show ObjOk X.prog X.w H s.heap a (.lst xs) from I.hok a _ ea)
  exact PySem.W.kia_one PySem.W.kitx_list I.kIn ⟨_,h1,rfl⟩ e (fun z=>nomatch z) h
 | @frz a ob xs ea=>
  cases (show u=Value.ref a from rx)
  obtain⟨_,_,_,n,_,h1⟩:=(show ObjOk X.prog X.w H s.heap a (.frz ob (.lst xs)) from I.hok a _ ea)
  exact PySem.W.kia_one PySem.W.kitx_list I.kIn ⟨_,h1,rfl⟩ e (fun z=>nomatch z) h
 | @tup a xs ea=>
  cases (show u=Value.ref a from rx)
  obtain⟨_,_,_,p⟩:=(show ObjOk X.prog X.w H s.heap a (.tup xs) from I.hok a _ ea)
  obtain⟨o,h1,h2,_⟩:=p
  exact PySem.W.kia_one PySem.W.kitx_tuple I.kIn ⟨o,h1,h2⟩ e (fun z=>nomatch z) h
 | @dK a kvs ea=>
  cases (show u=Value.ref a from rx)
  obtain⟨_,_,vs,_,p⟩:=(show ObjOk X.prog X.w H s.heap a (.dK kvs) from I.hok a _ ea)
  obtain⟨o,es,ep,h1,h2,_⟩:=p
  exact PySem.W.kia_one PySem.W.kitx_dict I.kIn ⟨o,h1,h2.1⟩ e (fun z=>nomatch z) h
 | @dT a kvs ea=>
  cases (show u=Value.ref a from rx)
  obtain⟨_,_,xs,_,o,es,ep,h1,h2,_⟩:=(show ObjOk X.prog X.w H s.heap a (.dT kvs) from I.hok a _ ea)
  exact PySem.W.kia_one PySem.W.kitx_dict I.kIn ⟨o,h1,h2.1⟩ e (fun z=>nomatch z) h
 | @ins a C dx fs ea cl ha hn htk hm=>
  cases (show u=Value.ref a from rx)
  obtain⟨mA,O,_⟩:=a5W I.hok ea
  obtain⟨od,J,_⟩:=O.look
  exact PySem.W.kia_one (PySem.W.kitx_own (cl.get _) cl.hd ha hn htk hm) I.kIn J e (fun z=>nomatch z) h
end
end L2
namespace L2
open PySem PySem.Spec PyProof.Rows
structure Room (k:Nat) (A:Around):Prop where
 hd:A.handled=none
 dp:A.depth+3*k+5<recursionLimit
 un:A.units+16*k+200<cLine
theorem Room.mono {j k:Nat} {A:Around} (r:Room k A) (h:j≤k):Room j A:=⟨r.hd,by have:=r.dp;omega,by have:=r.un;omega⟩
theorem Room.deeper {k:Nat} {A:Around} (r:Room (k+1) A) (env:Env):Room k (A.deeper env):=
 ⟨r.hd,by have:=r.dp;show A.depth+1+3*k+5<_;omega,by have:=r.un;show A.units+3+16*k+200<_;omega⟩
theorem Room.in1 {k:Nat} {A:Around} (r:Room (k+1) A):Room k A.in1:=
 ⟨r.hd,by have:=r.dp;show A.depth+3*k+5<_;omega,by have:=r.un;show A.units+1+16*k+200<_;omega⟩
theorem a8S {A:Around} {C:Addr} {us:List Value} {kw:List (Str×Value)}:(A.under (.builtin "type.__call__" ⟨.ref C::us,kw⟩)).depth=A.depth+1:=by
 first | rfl | simp [Around.under,Code.weight,Code.isCreation,Code.isGuard,Code.isCaller,Code.frames,Code.isFrame,guardIds]
theorem a8T {A:Around} {C:Addr} {us:List Value} {kw:List (Str×Value)}:(A.under (.builtin "type.__call__" ⟨.ref C::us,kw⟩)).units=A.units+1:=by
 first | rfl | simp [Around.under,Code.cUnits,Code.frames,Code.isFrame]
theorem Room.make {k:Nat} {A:Around} (r:Room (k+1) A) (C:Addr) (us:List Value) (kw:List (Str×Value)):Room k (A.under (.builtin "type.__call__" ⟨.ref C::us,kw⟩)):=
 ⟨r.hd,by have:=r.dp;rw [a8S];omega,by have:=r.un;rw [a8T];omega⟩
theorem Room.depth {k:Nat} {A:Around} (r:Room k A):A.depth<recursionLimit:=by have:=r.dp;omega
theorem Room.units {k:Nat} {A:Around} (r:Room k A):A.units+64<cLine:=by have:=r.un;omega
def tNil:TA:=fun _ H Q=>Q [] H
def b65 (ta:TE) (tr:TA):TA:=fun σ H Q=>ta σ H fun x H1=>tr σ H1 fun xs H2=>Q (x::xs) H2
section
variable {X:Cx} {e:Expr} {es:List Expr} {te:TE} {t:TA} {pos:Pos}
theorem b4N:PA X [] tNil:=fun _ _ _ _ H Q I h=>Calls.spliced_nil ⟨[],H,I,.nil,h⟩
theorem b3a (ha:PE X e te) (hr:PA X es t) (hs:starEach (e::es) X.env=(false,eval e X.env)::starEach es X.env:=by rfl):PA X (e::es) (b65 te t):=by
 intro pos pins s σ H Q I h
 rw [hs]
 show wpAny _ _ (spliced ((false,eval e X.env)::backTo pos (starEach es X.env))) _ _ s
 refine Calls.spliced_cons (thn (ha pins s σ H _ I h) fun u s1 ⟨x,H1,I1,r1,q1⟩=>?_)
 exact thn (hr pos pins s1 σ H1 _ I1 q1) fun us s2 ⟨xs,H2,I2,r2,q2⟩=>⟨x::xs,H2,I2,.cons r1 r2,q2⟩
def tTup (t:TA):TE:=fun σ H Q=>t σ H fun xs H1=>xs.length≤sizeLine/\∀ p,H1 p=none->Q (.ref p) (upd H1 p (.tup xs))
def tLst (t:TA):TE:=fun σ H Q=>t σ H fun xs H1=>xs.length≤sizeLine/\∀ p,H1 p=none->Q (.ref p) (upd H1 p (.lst xs))
theorem b4O {x1} (h:PA X es t):PE X (.Tuple es x1 pos) (tTup t):=by
 intro pins s σ H Q I hq
 refine wpAny_Tuple_spliced (thn (h pos pins s σ H _ I hq) fun us s1 ⟨xs,H1,I1,r,z,q⟩=>⟨by rw [<- r.length];exact z,?_⟩)
 have hf:H1 s1.heap.objs.size=none:=I1.hok.fresh (Nat.le_refl _)
 refine⟨.ref s1.heap.objs.size,upd H1 s1.heap.objs.size (.tup xs),I1.laid (t':=s1.toks) (fun b u e=>Heap.get?_push_of_some _ e) (Nat.le_refl _) ?_,rfl,q _ hf⟩
 exact⟨z,us,r,⟨_,Heap.get?_push_size _ rfl,rfl,_,rfl⟩⟩
theorem b4P (h:PA X es t):PE X (.List es pos) (tLst t):=by
 intro pins s σ H Q I hq
 refine wpAny_List_spliced (thn (h pos pins s σ H _ I hq) fun us s1 ⟨xs,H1,I1,r,z,q⟩=>⟨by rw [<- r.length];exact z,?_⟩)
 have hf:H1 s1.heap.objs.size=none:=I1.hok.fresh (Nat.le_refl _)
 refine⟨.ref s1.heap.objs.size,upd H1 s1.heap.objs.size (.lst xs),I1.laid (t':=s1.toks) (fun b u e=>Heap.get?_push_of_some _ e) (Nat.le_refl _) ?_,rfl,q _ hf⟩
 exact⟨z,us,0,r,Heap.get?_push_size _ rfl⟩
end
abbrev Sp:=List V->Hp->VK->XK->Prop
abbrev CXT:=List Env->Hp->Shared->XK->Value->Shared->Prop
structure Env0 (P:Program) (w:World) (K:Fg) (mg:Str->Option Value) (base:Heap) (A:Around) (outer:List Env) (s:Shared) (H:Hp):Prop where
 frames:A.frames=some outer
 mod:Mod K mg base
 bs:∀ b o,base.get? b=some o->s.heap.get? b=some o/\H b=none
 bsz:base.objs.size≤s.heap.objs.size
 funs:s.heap.FunFrames base outer
 frf:∀ b∈frs outer,H b=none
 hok:HOk P w H s.heap
 bare:AllBare s.gens
def CE (outer:List Env) (P:Program) (w:World) (H:Hp) (s:Shared) (Q:VK) (u:Value) (s':Shared):Prop:=
 ∃ v H',s'.os=s.os/\AllBare s'.gens/\Un (frs outer) [] H H' s.heap s'.heap/\HOk P w H' s'.heap/\RelV v u/\Q v H'
def CR (CX:CXT) (outer:List Env) (P:Program) (w:World) (H:Hp) (s:Shared) (Q:VK) (E:XK) (r:Result) (s':Shared):Prop:=
 match r with
 | .ok (.ret u)=>CE outer P w H s Q u s'
 | .ok _=>False
 | .error e=>CX outer H s E e s'
structure FnOk (P:Program) (w:World) (K:Fg) (mg:Str->Option Value) (base:Heap) (CX:CXT) (k:Nat) (f:Addr) (fd:FuncData) (ps:List Str) (sp:Sp):Prop where
 len:∀ vs H Q E,sp vs H Q E->vs.length=ps.length
 run:∀ (A:Around) (outer:List Env) (s:Shared) (H:Hp) (args:Args) (us:List Value) (vs:List V) (Q:VK) (E:XK),Room k A->Env0 P w K mg base A outer s H->BindsTo s fd args (ps.zip us)->Vals vs us->sp vs H Q E ->
  codeAny (model P w) A (.call (.ref f) args) (CR CX outer P w H s Q E) s
theorem FnOk.mono {P:Program} {w:World} {K:Fg} {mg:Str->Option Value} {base:Heap} {CX:CXT} {j k:Nat} {f:Addr} {fd:FuncData} {ps:List Str} {sp:Sp} (F:FnOk P w K mg base CX j f fd ps sp) (h:j≤k) :
  FnOk P w K mg base CX k f fd ps sp:=⟨F.len,fun A outer s H args us vs Q E hr=>F.run A outer s H args us vs Q E (hr.mono h)⟩
theorem FnOk.imp {P:Program} {w:World} {K:Fg} {mg:Str->Option Value} {base:Heap} {CX:CXT} {k:Nat} {f:Addr} {fd:FuncData} {ps:List Str} {sp sp':Sp} (F:FnOk P w K mg base CX k f fd ps sp)
  (h:∀ vs H Q E,sp' vs H Q E->sp vs H Q E):FnOk P w K mg base CX k f fd ps sp':=
 ⟨fun vs H Q E q=>F.len vs H Q E (h _ _ _ _ q),fun A outer s H args us vs Q E hr he hb hv hs=>F.run A outer s H args us vs Q E hr he hb hv (h _ _ _ _ hs)⟩
theorem Env0.make {P:Program} {w:World} {K:Fg} {mg:Str->Option Value} {base:Heap} {A:Around} {outer:List Env} {s:Shared} {H:Hp} (e:Env0 P w K mg base A outer s H) (C:Addr) (us:List Value) (kw:List (Str×Value)) :
  Env0 P w K mg base (A.under (.builtin "type.__call__" ⟨.ref C::us,kw⟩)) outer s H:=⟨by first | exact e.frames | (simpa [Around.under,Code.envs,Code.isFrame,pushEnvs] using e.frames),e.mod,e.bs,e.bsz,e.funs,e.frf,e.hok,e.bare⟩
theorem Env0.in1 {P:Program} {w:World} {K:Fg} {mg:Str->Option Value} {base:Heap} {A:Around} {outer:List Env} {s:Shared} {H:Hp} (e:Env0 P w K mg base A outer s H) :
  Env0 P w K mg base A.in1 outer s H:=⟨e.frames,e.mod,e.bs,e.bsz,e.funs,e.frf,e.hok,e.bare⟩
section
variable {X:Cx} {pins:List (Addr×Obj)} {σ:St} {H:Hp} {s s':Shared}
theorem Inv.env0 (I:Inv X pins σ H s):Env0 X.prog X.w X.K X.mg X.base X.A X.stack s H:=
 ⟨I.ok.frames,I.ok.mod,I.bs,Nat.le_trans I.ok.bsz I.sz,I.stack,I.stkFree,I.hok,I.bare⟩
theorem Inv.after {Q:VK} {u:Value} (I:Inv X pins σ H s) (h:CE X.stack X.prog X.w H s Q u s'):EP X pins σ Q u s':=by
 obtain⟨v,H',os,bare,un,hok,r,q⟩:=h
 obtain⟨hh,g,d,t,os'⟩:=s'
 obtain rfl:os'=s.os:=os
 exact⟨v,H',I.call (h':=hh) (g':=g) (d':=d) (t':=t) (ch:=[]) un hok bare (fun b z=>absurd z (by simp)),r,q⟩
end
def b4Q (sp:Sp) (dvs:List V) (E:XK) (t:TA):TE:=fun σ H Q=>t σ H fun vs H1=>sp (vs++dvs) H1 Q E
def b3b (C:Addr) (m:Str) (sp:Sp) (dvs:List V) (E:XK) (ta:TE) (t:TA):TE:=fun σ H Q=>ta σ H fun x H1=>∃ a dx fs,x=.ref a/\H1 a=some (.ins C dx fs)/\fs.lookup m=none /\
 t σ H1 fun vs H2=>sp (x::(vs++dvs)) H2 Q E
def b66 (C:Addr) (sp:Sp) (dvs:List V) (E:XK) (t:TA):TE:=fun σ H Q=>t σ H fun vs H1=>∀ x dx,H1 x=none->H1 dx=none->dx≠x ->
 sp (.ref x::(vs++dvs)) (upd (upd H1 dx (.own x)) x (.ins C dx [])) (fun v H2=>v=.non/\Q (.ref x) H2) E
def Binds (K:Fg) (fd:FuncData) (ps:List Str) (ds:List Value):Prop:=
 ∀ (s:Shared) (us:List Value),K.In s.heap->(us++ds).length=ps.length->BindsTo s fd ⟨us,[]⟩ (ps.zip (us++ds))
theorem Binds.all {K:Fg} {fd:FuncData} {ps:List Str} (h:∀ us:List Value,us.length=ps.length->bindArgs fd ⟨us,[]⟩=pure (ps.zip us)):Binds K fd ps []:=fun s us _ hl=>by
 rw [List.append_nil] at hl ⊢
 exact .of_eq (h us hl)
def a2V (CX:CXT) (X:Cx) (E:XK):Prop:=∀ (pins:List (Addr×Obj)) (σ:St) (H:Hp) (s:Shared) (e:Value) (s':Shared),Inv X pins σ H s->CX X.stack H s E e s'->X.xe e s'
section
variable {X:Cx} {CX:CXT} {k:Nat} {f C:Addr} {fd:FuncData} {ps:List Str} {sp:Sp} {dvs:List V} {ds:List Value} {E:XK} {x m:Str} {p pos apos:Pos} {e o:Expr} {es:List Expr} {ta:TE} {t:TA}
theorem a9F {pins:List (Addr×Obj)} {σ:St} {H:Hp} {s:Shared} {Q:VK} {us:List Value} {vs:List V} (F:FnOk X.prog X.w X.K X.mg X.base CX k f fd ps sp) (hr:Room k X.A) (hb:Binds X.K fd ps ds) (hd:Vals dvs ds) (hx:a2V CX X E)
  (I:Inv X pins σ H s) (r:Vals vs us) (h:sp (vs++dvs) H Q E):wpAny (model X.prog X.w) X.A (call (.ref f) us) (EP X pins σ Q) X.xe s:=by
 have r2:Vals (vs++dvs) (us++ds):=r.append hd
 have hl:(us++ds).length=ps.length:=by rw [<- r2.length];exact F.len _ _ _ _ h
 refine wpAny_call (codeAny_mono (F.run X.A X.stack s H ⟨us,[]⟩ (us++ds) (vs++dvs) Q E hr I.env0 (hb s us I.kIn hl) r2 h) fun r s' hq=>?_)
 cases r with
 | error e=>exact hx pins σ H s e s' I hq
 | ok fl=>
  cases fl with
  | ret u=>exact I.after hq
  | next=>exact False.elim hq
  | brk=>exact False.elim hq
  | cont=>exact False.elim hq
theorem a9G (F:FnOk X.prog X.w X.K X.mg X.base CX k f fd ps sp) (hr:Room k X.A) (hg:Gl X x) (hm:X.mg x=some (.ref f)) (hk:PySem.W.keepIn X.K (.ref f)=true) (hb:Binds X.K fd ps ds) (hd:Vals dvs ds) (hx:a2V CX X E)
  (ha:PA X (e::es) t) (hdb:(x==("__debug__":Str))=false:=by decide) (he:starEach (e::es) X.env=(false,eval e X.env)::starEach es X.env:=by rfl) (hpl:(backTo pos (starEach es X.env)).any (·.1)=false:=by rfl) :
  PE X (.Call (.Name x p) (e::es) [] pos) (b4Q sp dvs E t):=by
 intro pins s σ H Q I h
 refine wpAny_Call_Name_kw (a3o I hg hm ?_ hdb)
 refine PySem.W.callWith_K (h₀:=X.base) I.ok.mod.kin hk (thn (ha pos pins s σ H _ I h) fun us s1 ⟨vs,H1,I1,r,q⟩=>⟨I1.kIn,?_⟩) he hpl
 exact a9F F hr hb hd hx I1 r q
theorem a9H {pl:Sem Bool} (he:PE X o ta) (c:Cls X.K C) (hm:Meth X.K C m f) (F:FnOk X.prog X.w X.K X.mg X.base CX k f fd ps sp) (hr:Room k X.A) (hb:Binds X.K fd ps ds) (hd:Vals dvs ds) (hx:a2V CX X E) (ha:PA X (e::es) t)
  (hst:starEach (e::es) X.env=(false,eval e X.env)::starEach es X.env:=by rfl) (hpl:(backTo pos (starEach es X.env)).any (·.1)=false:=by rfl)
  (ht:eval (.Call (.Attribute o m apos) (e::es) [] pos) X.env=(do
   let ov <- eval o X.env
   standAt apos.atName
   let (f,first) <- holding [ov] (getMethod ov m pl)
   callWith pos f first (backTo pos (starEach (e::es) X.env)) (backToKw pos (keywordEach [] X.env))):=by rfl) :
  PE X (.Call (.Attribute o m apos) (e::es) [] pos) (b3b C m sp dvs E ta t):=by
 intro pins s σ H Q I h
 refine PySem.W.methodCall_KW (pl:=pl) (thn (he pins s σ H _ I h) fun u s1 ⟨x,H1,I1,rx,a,dx,fs,ex,ea,l,q⟩=>?_) ht
 subst ex
 obtain rfl:u=Value.ref a:=rx
 refine a5A I1 ea c hm l ?_
 refine PySem.W.callWith_K (first:=[.ref a]) (h₀:=X.base) I.ok.mod.kin hm.kp (thn (ha pos pins s1 σ H1 _ I1 q) fun us s2 ⟨vs,H2,I2,r,q2⟩=>⟨I2.kIn,?_⟩) hst hpl
 exact a9F (us:=.ref a::us) (vs:=.ref a::vs) F hr hb hd hx I2 (.cons rfl r) q2
theorem b1n {pl:Sem Bool} (he:PE X o ta) (c:Cls X.K C) (hm:Meth X.K C m f) (F:FnOk X.prog X.w X.K X.mg X.base CX k f fd ps sp) (hr:Room k X.A) (hb:Binds X.K fd ps ds) (hd:Vals dvs ds) (hx:a2V CX X E)
  (ht:eval (.Call (.Attribute o m apos) [] [] pos) X.env=(do
   let ov <- eval o X.env
   standAt apos.atName
   let (f,first) <- holding [ov] (getMethod ov m pl)
   callWith pos f first (backTo pos (starEach [] X.env)) (backToKw pos (keywordEach [] X.env))):=by rfl) :
  PE X (.Call (.Attribute o m apos) [] [] pos) (b3b C m sp dvs E ta tNil):=by
 intro pins s σ H Q I h
 refine PySem.W.methodCall_KW (pl:=pl) (thn (he pins s σ H _ I h) fun u s1 ⟨x,H1,I1,rx,a,dx,fs,ex,ea,l,q⟩=>?_) ht
 subst ex
 obtain rfl:u=Value.ref a:=rx
 refine a5A I1 ea c hm l ?_
 exact PySem.W.callWith_K0 (first:=[.ref a]) I1.kIn hm.kp (a9F (us:=[.ref a]) (vs:=[.ref a]) F hr hb hd hx I1 (.cons rfl .nil) q)
structure Mk (K:Fg) (C f:Addr):Prop where
 makes:PySem.W.makesIn K C=true
 init:PySem.W.findIn K (.ref C) "__init__"=some (some (.ref f))
 fn:PySem.W.isFn K (.ref f)=true
 kp:PySem.W.keepIn K (.ref C)=true
theorem b1o {pins:List (Addr×Obj)} {σ:St} {H:Hp} {s:Shared} {Q:VK} {us:List Value} {vs:List V} (M:Mk X.K C f) (F:FnOk X.prog X.w X.K X.mg X.base CX k f fd ps sp) (hr:Room (k+1) X.A) (hb:Binds X.K fd ps ds) (hd:Vals dvs ds)
  (hx:a2V CX X E) (I:Inv X pins σ H s) (r:Vals vs us)
  (h:∀ x dx,H x=none->H dx=none->dx≠x->sp (.ref x::(vs++dvs)) (upd (upd H dx (.own x)) x (.ins C dx [])) (fun v H2=>v=.non/\Q (.ref x) H2) E) :
  wpAny (model X.prog X.w) X.A (call (.ref C) us) (EP X pins σ Q) X.xe s:=by
 have hq:=h (s.heap.objs.size+1) s.heap.objs.size (I.hok.fresh (Nat.le_succ _)) (I.hok.fresh (Nat.le_refl _)) (Nat.ne_of_lt (Nat.lt_succ_self _))
 have I2:=Inv.made (C:=C) I
 have r2:Vals (V.ref (s.heap.objs.size+1)::(vs++dvs)) (Value.ref (s.heap.objs.size+1)::(us++ds)):=.cons rfl (r.append hd)
 have hl:(Value.ref (s.heap.objs.size+1)::us++ds).length=ps.length:=by
  have e:=r2.length
  rw [F.len _ _ _ _ hq] at e
  exact e.symm
 refine wpAny_call (b1m (f:=f) I.kIn M.makes M.init (beq_iff_eq.mp M.fn) (codeAny_mono (F.run _ X.stack _ _ ⟨Value.ref (s.heap.objs.size+1)::us,[]⟩ (Value.ref (s.heap.objs.size+1)::(us++ds)) _ _ E (hr.make C us [])
  (I2.env0.make C us []) (hb _ (Value.ref (s.heap.objs.size+1)::us) I2.kIn hl) r2 hq) fun r s' hq'=>?_))
 cases r with
 | error e=>exact hx pins σ _ _ e s' I2 hq'
 | ok fl=>
  cases fl with
  | ret u=>
   obtain⟨v,H',I3,rv,ev,q3⟩:=I2.after hq'
   subst ev
   exact⟨rv,⟨V.ref (s.heap.objs.size+1),H',I3,rfl,q3⟩⟩
  | next=>exact False.elim hq'
  | brk=>exact False.elim hq'
  | cont=>exact False.elim hq'
theorem b1p (M:Mk X.K C f) (F:FnOk X.prog X.w X.K X.mg X.base CX k f fd ps sp) (hr:Room (k+1) X.A) (hg:Gl X x) (hm:X.mg x=some (.ref C)) (hb:Binds X.K fd ps ds) (hd:Vals dvs ds) (hx:a2V CX X E)
  (hdb:(x==("__debug__":Str))=false:=by decide):PE X (.Call (.Name x p) [] [] pos) (b66 C sp dvs E tNil):=by
 intro pins s σ H Q I h
 refine wpAny_Call_Name_kw (a3o I hg hm ?_ hdb)
 exact PySem.W.callWith_K0 I.kIn M.kp (b1o (us:=[]) M F hr hb hd hx I .nil h)
end
section
variable {X:Cx} {CX:CXT} {k:Nat} {f C:Addr} {fd:FuncData} {ps ks:List Str} {sp:Sp} {E:XK} {x m:Str} {p pos apos kpos:Pos} {e o:Expr} {es:List Expr} {kws:List Keyword} {te ta:TE} {t tk:TA} {nm:Option Str}
variable {g:List Value->List Value->List Value} {gV:List V->List V->List V}
end
structure FnScope (N P:List Str) (sc:Scope):Prop where
 kind:sc.kind=.function
 co:sc.isCoroutine=false
 gen:sc.isGenerator=false
 nd:N.Nodup
 pre:N.take P.length=P
 par:∀ x∈P,sc.names.lookup x=some .local\/sc.names.lookup x=some .cell
 nofree:∀ y∈sc.names,y.2≠.free
theorem a6x {kindOf:Str->Option NameKind} {x:Str}:∀ {binds:List (Str×Value)} {m:Str->Option Value},(∀ v,(x,v)∉binds)->bindL kindOf binds m x=m x
 | [],_,_=>rfl
 | (n,v)::r,m,h=>by
  unfold bindL
  rw [a6x fun w hw=>h w (List.mem_cons_of_mem _ hw)]
  split
  ·have:x≠n:=by rintro rfl;exact h v List.mem_cons_self
   simp [this]
  ·rfl
theorem a6y {kindOf:Str->Option NameKind} {x:Str}:∀ {binds:List (Str×Value)} {m:Str->Option Value},(∀ v,(x,v)∉binds)->bindC kindOf binds m x=m x
 | [],_,_=>rfl
 | (n,v)::r,m,h=>by
  unfold bindC
  rw [a6y fun w hw=>h w (List.mem_cons_of_mem _ hw)]
  split
  ·rfl
  ·have:x≠n:=by rintro rfl;exact h v List.mem_cons_self
   simp [this]
theorem a6z {kindOf:Str->Option NameKind} {x:Str} {v:Value}:∀ {P:List Str} {vs:List Value} {i:Nat} {m:Str->Option Value},P.Nodup->P[i]?=some x->vs[i]?=some v->kindOf x=some .local ->
  bindL kindOf (P.zip vs) m x=some v
 | [],_,_,_,_,h,_,_=>by simp at h
 | _::_,[],_,_,_,_,h,_=>by simp at h
 | p::P,w::vs,0,m,nd,h1,h2,hk=>by
  simp at h1 h2;subst h1;subst h2
  show bindL kindOf ((p,w)::P.zip vs) m p=_
  unfold bindL
  rw [a6x fun v hv=>(List.nodup_cons.mp nd).1 (List.of_mem_zip hv).1,if_pos hk]
  simp
 | p::P,w::vs,i+1,m,nd,h1,h2,hk=>by
  show bindL kindOf ((p,w)::P.zip vs) m x=_
  unfold bindL
  exact a6z (i:=i) (List.nodup_cons.mp nd).2 (by simpa using h1) (by simpa using h2) hk
theorem a6A {kindOf:Str->Option NameKind} {x:Str} {v:Value}:∀ {P:List Str} {vs:List Value} {i:Nat} {m:Str->Option Value},P.Nodup->P[i]?=some x->vs[i]?=some v->kindOf x≠some .local ->
  bindC kindOf (P.zip vs) m x=some v
 | [],_,_,_,_,h,_,_=>by simp at h
 | _::_,[],_,_,_,_,h,_=>by simp at h
 | p::P,w::vs,0,m,nd,h1,h2,hk=>by
  simp at h1 h2;subst h1;subst h2
  show bindC kindOf ((p,w)::P.zip vs) m p=_
  unfold bindC
  rw [a6y fun v hv=>(List.nodup_cons.mp nd).1 (List.of_mem_zip hv).1,if_neg hk]
  simp
 | p::P,w::vs,i+1,m,nd,h1,h2,hk=>by
  show bindC kindOf ((p,w)::P.zip vs) m x=_
  unfold bindC
  exact a6A (i:=i) (List.nodup_cons.mp nd).2 (by simpa using h1) (by simpa using h2) hk
def start (N:List Str) (vs:List V):St:=vs.map some++List.replicate (N.length - vs.length) none
def cxOf (CX:CXT) (P:Program) (w:World) (K:Fg) (mg:Str->Option Value) (base:Heap) (N:List Str) (qual:Str) (scope:Scope) (f:Addr) (cd:Value) (A:Around) (outer:List Env) (s:Shared) (H:Hp) (E:XK):Cx where
 prog:=P
 w:=w
 K:=K
 mg:=mg
 base:=base
 A:=A.deeper (envOfC qual scope s.heap.objs.size f cd)
 N:=N
 s₀:=s
 H₀:=H
 env:=envOfC qual scope s.heap.objs.size f cd
 outer:=outer
 stack:=envOfC qual scope s.heap.objs.size f cd::outer
 ex:=[]
 calm:=true
 fn:=fun _=>true
 pn:=[]
 xe:=fun e s'=>wpAny (model P w) (A.deeper (envOfC qual scope s.heap.objs.size f cd)) (leaving (envOfC qual scope s.heap.objs.size f cd) e) (fun _ s''=>CX outer H s E e s'') (fun e' s''=>CX outer H s E e' s'') s'
theorem a8a {sc:Scope} {n:Nat} {x:Str} (h:sc.names.lookup x=some .cell):∃ c,(cellsFrom n sc.names []).lookup x=some c:=by
 have q:=PySem.W.cellsFrom_some sc.names n [] (.inl h)
 exact Option.isSome_iff_exists.mp q
theorem a9I {CX:CXT} {P:Program} {w:World} {K:Fg} {mg:Str->Option Value} {base:Heap} {N ps:List Str} {qual:Str} {scope:Scope} {f:Addr} {cd:Value} {A:Around} {outer:List Env} {s s1:Shared} {H:Hp} {E:XK} {us:List Value} {vs:List V}
  (S:FnScope N ps scope) (hd:A.handled=none) (e0:Env0 P w K mg base A outer s H) (hl:vs.length=ps.length) (r:Vals vs us)
  (x:InCallC s s.heap.objs.size (bindL (envOfC qual scope s.heap.objs.size f cd).kindOf (ps.zip us) fun _=>none) (cellsFrom (s.heap.objs.size+1) scope.names []) (bindC (envOfC qual scope s.heap.objs.size f cd).kindOf (ps.zip us) fun _=>none) s1) :
  Inv (cxOf CX P w K mg base N qual scope f cd A outer s H E) [] (start N vs) H s1:=by
 have hpl:ps.length≤N.length:=by have:=congrArg List.length S.pre;rw [List.length_take] at this;omega
 obtain⟨h1,tk,rfl,hk⟩:=x.done
 have noA:∀ b:Addr,b∉(cxOf CX P w K mg base N qual scope f cd A outer s H E).ex:=fun b z=>absurd (show b∈([]:List Addr) from z) (by simp)
 refine⟨⟨e0.mod,S.kind,rfl,rfl,Nat.le_refl _,fun y z c h1 h2=>?_,fun y hy=>?_,fun y c _ h=>?_,fun _=>hd,Around.frames_deeper e0.frames,.inr ⟨rfl,rfl⟩,fun b z=>absurd z (noA b),e0.bs,e0.bsz,fun b _ _=>noA b,fun b z=>absurd z (noA b),e0.funs,e0.frf⟩,
  rfl,e0.bare,Un.kept hk,⟨_,x.toInCall.ns,fun i y v h1 h2 h3=>?_⟩,fun y c h=>⟨_,x.cell y c h⟩,e0.hok.fresh (Nat.le_refl _),fun y c h=>?_,fun p hp=>absurd (show p∈([]:List (Addr×Obj)) from hp) (by simp),e0.hok.kept hk,?_⟩
 ·exact name_of_addr x.apart (PySem.mem_of_lookup h1) (PySem.mem_of_lookup h2)
 ·have hy:scope.names.lookup y=some .cell\/scope.names.lookup y=some .free:=hy
  rcases hy with hy | hy
  ·exact a8a hy
  ·exact absurd rfl (S.nofree _ (PySem.mem_of_lookup hy))
 ·exact Nat.le_of_lt (x.above y c (PySem.mem_of_lookup h))
 ·have hi:i<vs.length:=by
   unfold start at h2
   by_cases hi:i<vs.length
   ·exact hi
   ·rw [List.getElem?_append_right (by simpa using hi)] at h2
    rw [List.getElem?_replicate] at h2
    split at h2<;>cases h2
  have ha:vs[i]?=some v:=by
   unfold start at h2
   rw [List.getElem?_append_left (by simpa using hi),List.getElem?_map] at h2
   cases e:vs[i]? with
   | none=>rw [e] at h2;cases h2
   | some a=>rw [e] at h2;cases h2;rfl
  obtain⟨u,hu,rv⟩:=r.get ha
  have hp:ps[i]?=some y:=by
   rw [<- S.pre,List.getElem?_take_of_lt (by omega)];exact h1
  have ndP:ps.Nodup:=by rw [<- S.pre];exact S.nd.sublist (List.take_sublist _ _)
  refine⟨u,rv,?_⟩
  rcases S.par y (List.mem_of_getElem? hp) with k | k
  ·exact .inl ⟨k,a6z ndP hp hu k⟩
  ·obtain⟨c,e⟩:=a8a (n:=s.heap.objs.size+1) k
   refine .inr ⟨.inl k,c,e,?_⟩
   have q:=x.cell y c e
   rw [a6A ndP hp hu (by show scope.names.lookup y≠_;rw [k];decide)] at q
   exact q
 ·exact e0.hok.fresh (Nat.le_of_lt (x.above y c (PySem.mem_of_lookup h)))
 ·unfold start
  show _=N.length
  rw [List.length_append,List.length_map,List.length_replicate]
  omega
theorem b4R {CX:CXT} {P:Program} {w:World} {K:Fg} {mg:Str->Option Value} {base:Heap} {k:Nat} {f:Addr} {name qual:Str} {params:Arguments} {body:List Stmt} {scope:Scope} {dV kV doc pm cdv ct oc:Value} {an od:Option Addr}
  {osl:Array (Option Value)} {N ps:List Str} {sp:Sp} (lk:K.lookup f=some ⟨oc,od,.func (PySem.W.fnOf name qual params body scope dV kV doc pm an cdv ct),osl⟩) (hcd:PySem.W.codeIn K cdv qual=true) (S:FnScope N ps scope)
  (len:∀ vs H Q E,sp vs H Q E->vs.length=ps.length)
  (hbody:∀ (A:Around) (outer:List Env) (s:Shared) (H:Hp) (vs:List V) (Q:VK) (E:XK),Room k (A.deeper (envOfC qual scope s.heap.objs.size f cdv))->sp vs H Q E ->
   ∃ t,PSs (cxOf CX P w K mg base N qual scope f cdv A outer s H E) body t/\t { nx:=fun _ H'=>Q .non H',rt:=Q } (start N vs) H) :
  FnOk P w K mg base CX (k+1) f (PySem.W.fnOf name qual params body scope dV kV doc pm an cdv ct) ps sp:=by
 refine⟨len,fun A outer s H args us vs Q E hr e0 hb r hsp=>?_⟩
 have hl:=len _ _ _ _ hsp
 have KX:K.In s.heap:=e0.mod.kin.keeps fun b o e=>(e0.bs b o e).1
 have lim:s.heap.NoLimit:=e0.mod.nolimit.keeps fun b o e=>(e0.bs b o e).1
 have hkind:∀ y∈ps.zip us,scope.names.lookup y.1=some .local\/(scope.names.lookup y.1=some .cell/\((cellsFrom (s.heap.objs.size+1) scope.names []).lookup y.1).isSome=true):=fun ⟨n,v⟩ hy=>by
  rcases S.par n (List.of_mem_zip hy).1 with q | q
  ·exact .inl q
  ·exact .inr ⟨q,PySem.W.cellsFrom_some _ _ _ (.inl q)⟩
 refine codeAny_call_function hr.depth (KX _ _ lk) rfl S.co S.gen rfl (PySem.W.codeRec_of KX hcd) (hb _ _ _ _ ?_)
 refine wpAny_newFunctionEnv_cells S.kind hkind fun env he s1 x=>?_
 subst he
 refine⟨lim.keeps x.toInCall.keep,codeAny_func ?_⟩
 obtain⟨t,ht,hq⟩:=hbody A outer s H vs Q E (hr.deeper _) hsp
 have I:Inv (cxOf CX P w K mg base N qual scope f cdv A outer s H E) [] (start N vs) H s1:=a9I S hr.hd e0 hl r x
 refine wpAny_mono (ht [] s1 (start N vs) H _ I hq) (fun fl s' hs=>?_) fun e s' hs=>hs
 have fin:∀ {σ':St} {H':Hp} {v:V} {u:Value},Inv (cxOf CX P w K mg base N qual scope f cdv A outer s H E) [] σ' H' s'->RelV v u->Q v H'->CE outer P w H s Q u s':=
  fun {σ' H' v u} J rv q=>⟨v,H',J.os,J.bare,J.base,J.hok,rv,q⟩
 cases fl with
 | ret u=>
  obtain⟨v,σ',H',J,rv,q⟩:=hs
  exact fin J rv q
 | next=>
  obtain⟨σ',H',J,q⟩:=hs
  exact fin (v:=V.non) (u:=Value.none) J rfl q
 | brk=>
  obtain⟨_,_,_,q⟩:=hs
  exact False.elim q
 | cont=>
  obtain⟨_,_,_,q⟩:=hs
  exact False.elim q
end L2
namespace L2
open PySem PySem.Spec PyProof.Rows
section
variable {X:Cx} {x:Str} {p pos:Pos} {e:Expr} {es:List Expr} {t:TA} {id T:String} {r:List V->Hp->VK->Prop}
def tCB (r:List V->Hp->VK->Prop) (t:TA):TE:=fun σ H Q=>t σ H fun vs H1=>r vs H1 Q
theorem b1q (hc:CallR X (.builtin id) r) (hg:Gl X x) (hm:X.mg x=none) (hv:bootBuiltins x=some (.builtin id)) (ha:PA X (e::es) t) (hn:x≠"__name__":=by decide) (hdb:(x==("__debug__":Str))=false:=by decide)
  (he:starEach (e::es) X.env=(false,eval e X.env)::starEach es X.env:=by rfl) (hpl:(backTo pos (starEach es X.env)).any (·.1)=false:=by rfl):PE X (.Call (.Name x p) (e::es) [] pos) (tCB r t):=by
 intro pins s σ H Q I h
 refine wpAny_Call_Name_kw (a6v I hg hm hv ?_ hn hdb)
 exact PyProof.Rows.callWith_builtin1 (thn (ha pos pins s σ H _ I h) fun us s1 ⟨vs,H1,I1,r1,q1⟩=>hc pins s1 σ H1 vs us Q I1 r1 q1) he hpl
theorem a9J (hc:CallR X (.type T) r) (hg:Gl X x) (hm:X.mg x=none) (hv:bootBuiltins x=some (.type T)) (ha:PA X (e::es) t) (hn:x≠"__name__":=by decide) (hdb:(x==("__debug__":Str))=false:=by decide)
  (he:starEach (e::es) X.env=(false,eval e X.env)::starEach es X.env:=by rfl) (hpl:(backTo pos (starEach es X.env)).any (·.1)=false:=by rfl):PE X (.Call (.Name x p) (e::es) [] pos) (tCB r t):=by
 intro pins s σ H Q I h
 refine wpAny_Call_Name_kw (a6v I hg hm hv ?_ hn hdb)
 exact PyProof.Rows.callWith_type1 (thn (ha pos pins s σ H _ I h) fun us s1 ⟨vs,H1,I1,r1,q1⟩=>hc pins s1 σ H1 vs us Q I1 r1 q1) he hpl
end
end L2
namespace HT
open PySem PyProof.Rows
section
open PySem.SeqAt
open PySem.AutoSeq1 (wpAny_loadPart')
open PySem.MeetsSeq PySem.MeetsSeq2 PySem.MeetsSeq3
end
section
variable {prog:Program} {w:World} {A:Around} {E:Value->Shared->Prop} {s:Shared}
theorem cat_tup {t b:Addr} {vs ws:List Value} {Q:Value->Shared->Prop} (ht:IsTup s.heap t vs.toArray) (hb:IsTup s.heap b ws.toArray) (hv:vs≠[])
  (h1:ws=[]->Q (.ref t) s) (h2:ws≠[]->Q (.ref s.heap.objs.size) { s with heap:=s.heap.push { cls:=.type "tuple",data:=.seq (vs++ws).toArray } })
  (hsz:vs.length+ws.length≤sizeLine):wpAny (model prog w) A (binaryOp .Add (.ref t) (.ref b)) Q E s:=by
 obtain⟨⟨cls,dd,data,sl⟩,ho,hc,n,hd⟩:=id ht
 obtain⟨⟨cls2,dd2,data2,sl2⟩,ho2,hc2,n2,hd2⟩:=id hb
 simp only at hc hd hc2 hd2
 subst hc hd hc2 hd2
 have e:vs.toArray++ws.toArray=(vs++ws).toArray:=by simp
 by_cases hw:ws=[]
 ·exact concat_meets ⟨_,ho,rfl⟩ ⟨_,ho2,rfl⟩ noFill_tuple_add seq_tuple_add PySem.F.slot_tuple_add PySem.F.entry_tuple_add (PySem.F.args_tuple_add_2 _ _)
   (tuple_addW1 t b vs.toArray ws.toArray n n2 dd dd2 sl sl2 (by simpa using hv) (by simp [hw])) ⟨ho,ho2,h1 hw⟩
 ·refine concat_meets ⟨_,ho,rfl⟩ ⟨_,ho2,rfl⟩ noFill_tuple_add seq_tuple_add PySem.F.slot_tuple_add PySem.F.entry_tuple_add (PySem.F.args_tuple_add_2 _ _)
   (tuple_addW2 t b vs.toArray ws.toArray n n2 dd dd2 sl sl2 (by simpa using hv) (by simpa using hw) (by rw [List.size_toArray,List.size_toArray];exact hsz)) ⟨ho,ho2,?_⟩
  rw [e]
  exact h2 hw
def sIx (n d:Nat):Option Int->Nat
 | none=>d
 | some v=>if v<0 then (v+(n:Int)).toNat else min v.toNat n
theorem sIx_none (n d:Nat):sIx n d none=d:=rfl
theorem sIx_nat (n d k:Nat):sIx n d (some (k:Int))=min k n:=by
 show (if (k:Int)<0 then ((k:Int)+(n:Int)).toNat else min (k:Int).toNat n)=min k n
 rw [if_neg (by omega),Int.toNat_natCast]
theorem b4S (n d:Nat) (hd:d≤n) (o:Option Int):sIx n d o≤n:=by
 cases o with
 | none=>exact hd
 | some v=>
  show (if v<0 then (v+(n:Int)).toNat else min v.toNat n)≤n
  by_cases hv:v<0
  ·rw [if_pos hv];omega
  ·rw [if_neg hv];exact Nat.min_le_right _ _
theorem a9K (v:Int) (n d:Nat):(if v<0 then max (v+(n:Int)) 0 else min v (n:Int))=((sIx n d (some v):Nat):Int):=by
 show (if v<0 then max (v+(n:Int)) 0 else min v (n:Int))=(((if v<0 then (v+(n:Int)).toNat else min v.toNat n):Nat):Int)
 by_cases hv:v<0
 ·simp only [if_pos hv];omega
 ·simp only [if_neg hv];omega
theorem a8U (lo hi:Option Int) (n:Nat):Builtin.Slice.sliceAdjust lo hi 1 (n:Int)=(((sIx n 0 lo:Nat):Int),((sIx n n hi:Nat):Int)):=by
 have h1:¬ ((1:Int)<0):=by omega
 unfold Builtin.Slice.sliceAdjust
 simp only [h1,if_false]
 refine Prod.ext ?_ ?_
 ·cases lo with
  | none=>rfl
  | some v=>exact a9K v n 0
 ·cases hi with
  | none=>rfl
  | some v=>exact a9K v n n
theorem a8V (i j:Nat):Builtin.Slice.slicePlaces (i:Int) (j:Int) 1=j - i:=by
 unfold Builtin.Slice.slicePlaces
 have h1:(1:Int) > 0:=by omega
 simp only [h1,if_true,Int.ediv_one]
 split<;>omega
theorem a5C {v:Value} {o:Option Int} {Q:Option Int->Shared->Prop} (p:IsPart v o) (h:Q o s):wpAny (model prog w) A (Builtin.Slice.slicePartIndex v) Q E s:=by
 cases p with
 | none=>exact slicePart_none h
 | int i t=>exact slicePart_int h
theorem a4A {sl:Addr} {vl vu:Value} {lo hi:Option Int} {n:Nat} {Q:Int×Int×Nat->Shared->Prop} (hs:s.heap.IsSliceOf sl vl vu .none) (pl:IsPart vl lo) (pu:IsPart vu hi)
  (h:Q (((sIx n 0 lo:Nat):Int),1,sIx n n hi - sIx n 0 lo) s):wpAny (model prog w) A (Builtin.Slice.sliceApplied (.ref sl) (pure (n:Int))) Q E s:=by
 obtain⟨os,hos,hcs,hds⟩:=id hs
 unfold Builtin.Slice.sliceApplied Builtin.Slice.sliceFields
 refine wpAny_bind (wpAny_bind (wpAny_field hos hds (x:=vl) rfl (wpAny_bind (wpAny_field hos hds (x:=vu) rfl (wpAny_bind (wpAny_field hos hds (x:=.none) rfl (wpAny_pure ?_)))))))
 refine wpAny_bind (slicePart_none ?_)
 show wpAny _ _ (if ((1:Int)==0)=true then _ else _) _ _ s
 rw [if_neg (by decide)]
 refine wpAny_bind (a5C pl (wpAny_bind (a5C pu (wpAny_bind (wpAny_pure ?_)))))
 show wpAny _ _ (match Builtin.Slice.sliceAdjust lo hi 1 (n:Int) with | (lo,hi)=>pure (lo,(1:Int),Builtin.Slice.slicePlaces lo hi 1)) _ _ s
 rw [a8U lo hi n]
 show wpAny _ _ (pure (((sIx n 0 lo:Nat):Int),(1:Int),Builtin.Slice.slicePlaces ((sIx n 0 lo:Nat):Int) ((sIx n n hi:Nat):Int) 1)) _ _ s
 rw [a8V]
 exact wpAny_pure h
theorem b1r (xs:Array Value) (i k:Nat):((List.range k).filterMap fun (m:Nat)=>xs[((i:Int)+(m:Int)*1).toNat]?).toArray=((xs.toList.drop i).take k).toArray:=by
 have e:(fun (m:Nat)=>xs[((i:Int)+(m:Int)*1).toNat]?)=fun m=>xs[i+m]?:=by
  funext m
  have:((i:Int)+(m:Int)*1).toNat=i+m:=by omega
  rw [this]
 rw [e]
 have:=pick_run xs i k
 rw [List.filterMap_map] at this
 have e2:((fun x=>xs[x]?)∘fun x=>i+x)=fun m=>xs[i+m]?:=rfl
 rw [e2] at this
 rw [this]
theorem getItem_tuple_cut {t sl:Addr} {items:Array Value} {vl vu:Value} {lo hi:Option Int} {Q:Value->Shared->Prop} (ht:IsTup s.heap t items) (hs:s.heap.IsSliceOf sl vl vu .none) (pl:IsPart vl lo) (pu:IsPart vu hi)
  (hw:¬ (sIx items.size 0 lo=0/\sIx items.size items.size hi=items.size))
  (h:Q (.ref s.heap.objs.size) { s with heap:=s.heap.push { cls:=.type "tuple",data:=.seq ((items.toList.drop (sIx items.size 0 lo)).take (sIx items.size items.size hi - sIx items.size 0 lo)).toArray } })
  (hsz:items.size≤sizeLine):wpAny (model prog w) A (getItem (.ref t) (.ref sl)) Q E s:=by
 have htake:sizeOk (.seq ((items.toList.drop (sIx items.size 0 lo)).take (sIx items.size items.size hi - sIx items.size 0 lo)).toArray):=by
  show ((items.toList.drop (sIx items.size 0 lo)).take (sIx items.size items.size hi - sIx items.size 0 lo)).toArray.size≤sizeLine
  rw [List.size_toArray,List.length_take,List.length_drop,Array.length_toList]
  omega
 have hj:sIx items.size items.size hi≤items.size:=b4S _ _ (Nat.le_refl _) hi
 obtain⟨os,hos,hcs,hds⟩:=id hs
 have hTs:s.TypeIs (.ref sl) "slice":=⟨os,hos,hcs⟩
 unfold getItem
 try with_reducible refine wpAny_holding ?_
 first | refine wpAny_bind (wpAny_pure ?_) | skip
 refine wpAny_bind (wpAny_sequenceKey ht.typeIs (by decide) ?_)
 refine wpAny_bind (wpAny_callSpecial?_slot (name:=Str.ofString "__getitem__") ht.typeIs PyProof.Rows.slot_tuple_getitem
  (wpAny_call_entry PyProof.Rows.slot_tuple_getitem ht.typeIs entry_tuple_getitem ?_ (args_tuple_getitem _ _)))
 show wpAny _ _ (Builtin.Tuple.tupleItemsOf (.ref t) >>= _) _ _ s
 refine wpAny_bind (tupleItemsOf_ ht ?_)
 refine wpAny_bind (wpAny_typeOf hTs ?_)
 rw [if_pos (by decide)]
 refine wpAny_bind (a4A hs pl pu ?_)
 have hno:¬ ((((sIx items.size 0 lo:Nat):Int)==0&&(1:Int)==1&&(sIx items.size items.size hi - sIx items.size 0 lo)==items.size)=true):=by
  intro q
  rw [Bool.and_eq_true,Bool.and_eq_true] at q
  have q1:((sIx items.size 0 lo:Nat):Int)=0:=eq_of_beq q.1.1
  have q2:sIx items.size items.size hi - sIx items.size 0 lo=items.size:=eq_of_beq q.2
  exact hw ⟨by omega,by omega⟩
 show wpAny _ _ (if (((sIx items.size 0 lo:Nat):Int)==0&&(1:Int)==1&&(sIx items.size items.size hi - sIx items.size 0 lo)==items.size)=true then _ else _) _ _ s
 rw [if_neg hno,b1r]
 first
  | exact wpAny_bind (m:=Builtin.Tuple.tupleExact _) (wpAny_newObj_type (wpAny_pure ⟨_,rfl,wpAny_pure h⟩) htake)
  | exact wpAny_bind (m:=Builtin.Tuple.tupleExact _) (wpAny_newObj_type (wpAny_bind (wpAny_pure (wpAny_pure ⟨_,rfl,wpAny_pure h⟩))) htake)
  | exact wpAny_bind (wpAny_bind (m:=Builtin.Tuple.tupleExact _) (wpAny_newObj_type (wpAny_pure (wpAny_pure ⟨_,rfl,wpAny_pure h⟩)) htake))
  | exact wpAny_bind (wpAny_bind (m:=Builtin.Tuple.tupleExact _) (wpAny_newObj_type (wpAny_pure ⟨_,rfl,wpAny_pure h⟩) htake))
end
end HT
namespace L2
open PySem PySem.Spec PyProof.Rows
abbrev TO:=St->Hp->(Option Int->Hp->Prop)->Prop
def PO (X:Cx) (e:Option Expr) (t:TO):Prop:=
 ∀ (pins:List (Addr×Obj)) (s:Shared) (σ:St) (H:Hp) (Q:Option Int->Hp->Prop),Inv X pins σ H s->t σ H Q ->
  wpAny (model X.prog X.w) X.A (evalPart e X.env) (fun u s'=>∃ o H',Inv X pins σ H' s'/\IsPart u o/\Q o H') X.xe s
def b3c:TO:=fun _ H Q=>Q none H
def b67 (t:TE):TO:=fun σ H Q=>t σ H fun x H1=>∃ i,x=.int i/\Q (some i) H1
theorem a8W {ns:List Int}:∀ {us:List Value},Vals (ns.map V.int) us->IntsAre us ns:=by
 induction ns with
 | nil=>intro us r;rw [List.map_nil] at r;cases r;exact .nil
 | cons n ns ih=>
  intro us r
  rw [List.map_cons] at r
  cases r with
  | cons r1 r2=>
   obtain⟨t,e⟩:=r1
   subst e
   exact .cons n t (ih r2)
section
variable {X:Cx} {e:Expr} {te:TE} {lo hi:Option Expr} {tl th:TO} {pos p2:Pos}
theorem b3d:PO X none b3c:=by
 intro pins s σ H Q I h
 rw [evalPart_none]
 exact wpAny_pure ⟨none,H,I,.none,h⟩
theorem b3e (h:PE X e te):PO X (some e) (b67 te):=by
 intro pins s σ H Q I hw
 rw [evalPart_some]
 refine thn (h pins s σ H _ I hw) fun u s1 ⟨x,H1,I1,r1,q1⟩=>?_
 obtain⟨i,rfl,q⟩:=q1
 obtain⟨t,rfl⟩:=r1
 exact⟨some i,H1,I1,.int i t,q⟩
def SlR (X:Cx) (r:V->Option Int->Option Int->Hp->VK->Prop):Prop:=
 ∀ (pins:List (Addr×Obj)) (s:Shared) (σ:St) (H:Hp) (x:V) (v vl vu:Value) (lo hi:Option Int) (sl:Addr) (Q:VK),Inv X pins σ H s->RelV x v->s.heap.IsSliceOf sl vl vu .none->IsPart vl lo->IsPart vu hi->r x lo hi H Q ->
  ∃ T id,typeLookup (.type T) "__getitem__"=pure (some (.builtin id))/\s.TypeIs v T/\wpAny (model X.prog X.w) X.A (getItem v (.ref sl)) (EP X pins σ Q) X.xe s
theorem SlR.or {r r':V->Option Int->Option Int->Hp->VK->Prop} (h:SlR X r) (h':SlR X r'):SlR X (fun x lo hi H Q=>r x lo hi H Q\/r' x lo hi H Q):=by
 intro pins s σ H x v vl vu lo hi sl Q I rx hs pl pu q
 rcases q with q | q
 ·exact h pins s σ H x v vl vu lo hi sl Q I rx hs pl pu q
 ·exact h' pins s σ H x v vl vu lo hi sl Q I rx hs pl pu q
def tSl (r:V->Option Int->Option Int->Hp->VK->Prop) (te:TE) (tl th:TO):TE:=fun σ H Q=>te σ H fun x H1=>tl σ H1 fun l H2=>th σ H2 fun u H3=>r x l u H3 Q
theorem b1s {r:V->Option Int->Option Int->Hp->VK->Prop} (hr:SlR X r) (he:PE X e te) (hl:PO X lo tl) (hu:PO X hi th):PE X (.Subscript e (.Slice lo hi none p2) pos) (tSl r te tl th):=by
 intro pins s σ H Q I h
 refine Subscript_ (thn (he pins s σ H _ I h) fun v s1 ⟨x,H1,I1,r1,q1⟩=>?_)
 refine wpAny_Slice (thn (hl pins s1 σ H1 _ I1 q1) fun vl s2 ⟨l,H2,I2,pl,q2⟩=>thn (hu pins s2 σ H2 _ I2 q2) fun vu s3 ⟨u,H3,I3,pu,q3⟩=>?_)
 rw [evalPart_none]
 refine wpAny_pure ?_
 have I4:Inv X pins σ H3 { s3 with heap:=s3.heap.push { cls:=.type "slice",data:=.fields #[vl,vu,.none] } }:=I3.kept (t':=s3.toks) fun b ob q=>Heap.get?_push_of_some _ q
 obtain⟨T,id,hT,ht,hg⟩:=hr pins { s3 with heap:=s3.heap.push { cls:=.type "slice",data:=.fields #[vl,vu,.none] } } σ H3 x v vl vu l u s3.heap.objs.size Q I4 r1 (Heap.IsSliceOf.new ..) pl pu q3
 show wpAny (model X.prog X.w) X.A (subscriptTail e (.Slice lo hi none p2) v (.ref s3.heap.objs.size)) (EP X pins σ Q) X.xe { s3 with heap:=s3.heap.push { cls:=.type "slice",data:=.fields #[vl,vu,.none] } }
 exact tail_any (ops:=[.ref s3.heap.objs.size,v]) ht hT hg (by with_unfolding_all rfl)
def cutV (xs:List V) (lo hi:Option Int):List V:=(xs.drop (HT.sIx xs.length 0 lo)).take (HT.sIx xs.length xs.length hi - HT.sIx xs.length 0 lo)
theorem a4Y (xs:List V) (lo hi:Option Int):(cutV xs lo hi).length≤xs.length:=by
 unfold cutV
 rw [List.length_take,List.length_drop]
 omega
def rSlT (K:Fg):V->Option Int->Option Int->Hp->VK->Prop:=fun x lo hi H Q=>∃ a xs,x=.ref a/\SqT K H a xs /\
 ¬ (HT.sIx xs.length 0 lo=0/\HT.sIx xs.length xs.length hi=xs.length)/\∀ p,H p=none->Q (.ref p) (upd H p (.tup (cutV xs lo hi)))
theorem sl_tup:SlR X (rSlT X.K):=by
 intro pins s σ H x v vl vu lo hi sl Q I rx hs pl pu h
 obtain⟨a,xs,rfl,hx,hw,q⟩:=h
 cases rx
 obtain⟨its,r,ht,hz⟩:=I.tuple hx
 have hlen:its.toArray.size=xs.length:=by rw [List.size_toArray];exact r.length.symm
 refine⟨"tuple",_,PyProof.Rows.slot_tuple_getitem.lookup,ht.typeIs,?_⟩
 refine HT.getItem_tuple_cut ht hs pl pu (by rw [hlen];exact hw) ?_ (by rw [hlen];exact hz)
 rw [hlen]
 refine⟨.ref s.heap.objs.size,_,I.laid (t':=s.toks) (o:=.tup (cutV xs lo hi)) (fun b ob q=>Heap.get?_push_of_some _ q) (Nat.le_refl _) ?_,rfl,q _ (I.hok.fresh (Nat.le_refl _))⟩
 exact⟨Nat.le_trans (a4Y xs lo hi) hz,_,(r.drop (HT.sIx xs.length 0 lo)).take (HT.sIx xs.length xs.length hi - HT.sIx xs.length 0 lo),IsTup.new _ _⟩
def b68 (K:Fg):R2:=fun x y H Q=>∃ a b xs ys,x=.ref a/\y=.ref b/\SqT K H a xs/\SqT K H b ys/\xs≠[]/\xs.length+ys.length≤sizeLine /\
 (ys=[]->Q (.ref a) H)/\(ys≠[]->∀ p,H p=none->Q (.ref p) (upd H p (.tup (xs++ys))))
theorem Vals.nil_iff {xs:List V} {us:List Value} (r:Vals xs us):us=[]↔xs=[]:=by
 cases r with
 | nil=>simp
 | cons _ _=>simp
theorem op_catT:OpR X (binaryOp .Add) (b68 X.K):=by
 intro pins s σ H x y v u Q I rx ry h
 obtain⟨a,b,xs,ys,rfl,rfl,ha,hb,hx,hz,q1,q2⟩:=h
 cases rx
 cases ry
 obtain⟨its,r1,p1,_⟩:=I.tuple ha
 obtain⟨its2,r2,p2,_⟩:=I.tuple hb
 refine HT.cat_tup p1 p2 (fun z=>hx (r1.nil_iff.mp z)) (fun z=>⟨.ref a,H,I,rfl,q1 (r2.nil_iff.mp z)⟩) (fun z=>?_) (by rw [<- r1.length,<- r2.length];exact hz)
 refine⟨.ref s.heap.objs.size,_,I.laid (t':=s.toks) (o:=.tup (xs++ys)) (fun b ob q=>Heap.get?_push_of_some _ q) (Nat.le_refl _) ?_,rfl,q2 (fun w=>z (r2.nil_iff.mpr w)) _ (I.hok.fresh (Nat.le_refl _))⟩
 exact⟨by rw [List.length_append];exact hz,_,r1.append r2,IsTup.new _ _⟩
end
end L2
namespace L2
open PySem PySem.Spec PyProof.Rows
def ixN (n:Nat) (i:Int):Option Nat:=if 0≤i then (if i<n then some i.toNat else none) else if -(n:Int)≤i then some (i+n).toNat else none
def atI {α:Type} (xs:List α) (i:Int):Option α:=(ixN xs.length i).bind fun j=>xs[j]?
theorem a9L {n:Nat} {i:Int} {j:Nat} (h:ixN n i=some j):seqIndex? i n=some j/\j<n/\-(n:Int)≤i/\i<n:=by
 unfold ixN at h
 by_cases h0:0≤i
 ·rw [if_pos h0] at h
  by_cases h1:i<n
  ·rw [if_pos h1] at h
   have e:i.toNat=j:=Option.some.inj h
   exact⟨by rw [seqIndex_of h0 h1,e],by omega,by omega,h1⟩
  ·rw [if_neg h1] at h;cases h
 ·rw [if_neg h0] at h
  by_cases h1:-(n:Int)≤i
  ·rw [if_pos h1] at h
   have e:(i+n).toNat=j:=Option.some.inj h
   exact⟨by rw [seqIndex_neg (by omega) h1,e],by omega,h1,by omega⟩
  ·rw [if_neg h1] at h;cases h
theorem a7v {α:Type} {xs:List α} {i:Int} {v:α} (h:atI xs i=some v):∃ j,seqIndex? i xs.length=some j/\xs[j]?=some v/\j<xs.length/\-(xs.length:Int)≤i/\i<xs.length:=by
 unfold atI at h
 cases e:ixN xs.length i with
 | none=>rw [e] at h;cases h
 | some j=>
  rw [e] at h
  obtain⟨h1,h2,h3,h4⟩:=a9L e
  exact⟨j,h1,h,h2,h3,h4⟩
theorem a1P {α:Type} {xs:List α} {j:Nat} {v:α} (h:xs[j]?=some v):atI xs (j:Int)=some v:=by
 have hj:j<xs.length:=(List.getElem?_eq_some_iff.mp h).1
 have e:ixN xs.length (j:Int)=some j:=by
  unfold ixN
  rw [if_pos (by omega),if_pos (by omega)];simp
 unfold atI;rw [e];exact h
def a9M (b:Expr):Prop:=∀ o i,subscripted b false o i=operate [o,i] (getItem o i)
def IxR (X:Cx) (r:R2):Prop:=
 ∀ (value slice:Expr) (pins:List (Addr×Obj)) (s:Shared) (σ:St) (H:Hp) (x y:V) (v u:Value) (Q:VK),Inv X pins σ H s->RelV x v->RelV y u->r x y H Q ->
  subscripted slice false v u=operate [v,u] (getItem v u)->wpAny (model X.prog X.w) X.A (subscriptTail value slice v u) (EP X pins σ Q) X.xe s
def MtR (X:Cx) (id:String) (r:V->List V->Hp->VK->Prop):Prop:=
 ∀ (pins:List (Addr×Obj)) (s:Shared) (σ:St) (H:Hp) (x:V) (xs:List V) (v:Value) (us:List Value) (Q:VK),Inv X pins σ H s->RelV x v->Vals xs us->r x xs H Q ->
  wpAny (model X.prog X.w) X.A (call (.builtin id) (v::us)) (EP X pins σ Q) X.xe s
section
variable {X:Cx} {a b:Expr} {ta tb:TE} {pos:Pos}
theorem IxR.or {r r':R2} (h:IxR X r) (h':IxR X r'):IxR X (fun x y H Q=>r x y H Q\/r' x y H Q):=by
 intro value slice pins s σ H x y v u Q I rx ry q hs
 rcases q with q | q
 ·exact h value slice pins s σ H x y v u Q I rx ry q hs
 ·exact h' value slice pins s σ H x y v u Q I rx ry q hs
theorem MtR.or {id:String} {r r':V->List V->Hp->VK->Prop} (h:MtR X id r) (h':MtR X id r'):MtR X id (fun x xs H Q=>r x xs H Q\/r' x xs H Q):=by
 intro pins s σ H x xs v us Q I rx rs q
 rcases q with q | q
 ·exact h pins s σ H x xs v us Q I rx rs q
 ·exact h' pins s σ H x xs v us Q I rx rs q
theorem b69 {r:R2} (hr:IxR X r) (ha:PE X a ta) (hb:PE X b tb) (hs:a9M b):PE X (.Subscript a b pos) (tOp r ta tb):=by
 intro pins s σ H Q I h
 exact Subscript_ (binT ha hb I h fun v u s2 x y H2 I2 rx ry q=>hr a b pins s2 σ H2 x y v u Q I2 rx ry q (hs _ _))
def rIxL (K:Fg):R2:=fun x y H Q=>∃ p xs i v,x=.ref p/\y=.int i/\SqL K H p xs/\atI xs i=some v/\Q v H
def rIxT (K:Fg):R2:=fun x y H Q=>∃ p xs i v,x=.ref p/\y=.int i/\SqT K H p xs/\atI xs i=some v/\Q v H
def rIxS:R2:=fun x y H Q=>∃ z i c,x=.str z/\y=.int i/\z.length≤sizeLine/\atI z.cps.toList i=some c/\Q (.str ⟨#[c]⟩) H
theorem ix_list:IxR X (rIxL X.K):=by
 intro value slice pins s σ H x y v u Q I rx ry h hs
 obtain⟨p,xs,i,z,rfl,rfl,hq,he,q⟩:=h
 cases rx
 obtain⟨t,rfl⟩:=ry
 obtain⟨its,r,pl,hz⟩:=I.list hq
 obtain⟨j,h1,h2,h3,h4,h5⟩:=a7v he
 obtain⟨w,ew,rw'⟩:=r.get h2
 have hl:=r.length
 have hn:=a5y
 have fin:EP X pins σ Q w s:=⟨z,H,I,rw',q⟩
 by_cases h0:0≤i
 ·have hj:i.toNat=j:=by
   rw [seqIndex_of h0 h5] at h1
   exact Option.some.inj h1
  exact item_listR pl.isList h0 (by omega) (by rw [hj];simpa using ew) fin hs
 ·have hj:(i+(its.toArray.size:Int)).toNat=j:=by
   rw [seqIndex_neg (by omega) h4] at h1
   rw [List.size_toArray,<- hl]
   exact Option.some.inj h1
  exact subscriptTail_builtinR (x:=w) pl.isList.typeIs slot_list_getitem.lookup
   (wpAny_getItem_list_neg (Q:=fun r s'=>r=w/\EP X pins σ Q r s') pl.isList (by omega) (by rw [List.size_toArray]<;>omega) (by omega) (by rw [hj];simpa using ew) ⟨rfl,fin⟩) hs
theorem ix_tup:IxR X (rIxT X.K):=by
 intro value slice pins s σ H x y v u Q I rx ry h hs
 obtain⟨p,xs,i,z,rfl,rfl,hq,he,q⟩:=h
 cases rx
 obtain⟨t,rfl⟩:=ry
 obtain⟨its,r,pl,hz⟩:=I.tuple hq
 obtain⟨j,h1,h2,h3,h4,h5⟩:=a7v he
 obtain⟨w,ew,rw'⟩:=r.get h2
 have hl:=r.length
 have hn:=a5y
 have fin:EP X pins σ Q w s:=⟨z,H,I,rw',q⟩
 exact subscriptTail_builtinR (x:=w) pl.typeIs slot_tuple_getitem.lookup
  (getItem_tuple (j:=j) (Q:=fun r s'=>r=w/\EP X pins σ Q r s') pl (by omega) (by omega) (by rw [List.size_toArray,<- hl];exact h1) (by simpa using ew) ⟨rfl,fin⟩) hs
theorem b4T:IxR X rIxS:=by
 intro value slice pins s σ H x y v u Q I rx ry h hs
 obtain⟨z,i,c,rfl,rfl,hz,he,q⟩:=h
 obtain⟨t,rfl⟩:=rx
 obtain⟨t',rfl⟩:=ry
 obtain⟨j,h1,h2,h3,h4,h5⟩:=a7v he
 have hl:z.cps.toList.length=z.length:=by simp [Str.length]
 rw [hl] at h1 h4 h5
 have hn:=a5y
 exact tail_any (typeIs_str s z t) slot_str_getitem.lookup (getItem_str (c:=c) (by
  have e1:decide (i < -(2 ^ 63:Int))=false:=decide_eq_false (by omega)
  have e2:decide (i≥2 ^ 63)=false:=decide_eq_false (by omega)
  rw [e1,e2,Bool.or_false]) (by rw [h1];simpa using h2) ⟨.str ⟨#[c]⟩,H,I.tok _,⟨_,rfl⟩,q⟩) hs
def rIx (K:Fg):R2:=fun x y H Q=>rIxL K x y H Q\/rIxT K x y H Q\/rIxS x y H Q
theorem b4U:IxR X (rIx X.K):=ix_list.or (ix_tup.or b4T)
theorem a8X (its:List Value) (n j:Nat) (u:Value):Obj.mapSeq (·.setIfInBounds j u) { cls:=.type "list",data:=.seq its.toArray n }={ cls:=.type "list",data:=.seq (its.set j u).toArray n }:=by
 simp [Obj.mapSeq]
theorem Inv.lst {pins:List (Addr×Obj)} {σ:St} {H:Hp} {s:Shared} {p:Addr} {xs:List V} (I:Inv X pins σ H s) (h:H p=some (.lst xs)) :
  ∃ (its:List Value) (n:Nat),Vals xs its/\s.heap.get? p=some { cls:=.type "list",data:=.seq its.toArray n }/\xs.length≤sizeLine:=by
 obtain⟨z,its,n,r,e⟩:=I.hok p _ h
 exact⟨its,n,r,e,z⟩
theorem Inv.lstUpd {pins:List (Addr×Obj)} {σ:St} {H:Hp} {s:Shared} {p:Addr} {xs ys:List V} {its its':List Value} {n n':Nat} {f:Obj->Obj} (I:Inv X pins σ H s) (h:H p=some (.lst xs))
  (ho:s.heap.get? p=some { cls:=.type "list",data:=.seq its.toArray n }) (hf:f { cls:=.type "list",data:=.seq its.toArray n }={ cls:=.type "list",data:=.seq its'.toArray n' }) (r:Vals ys its') (hz:ys.length≤sizeLine) (t:Nat) :
  Inv X pins σ (upd H p (.lst ys)) { s with heap:=s.heap.update p f,toks:=t }:=by
 have e:(s.heap.update p f).get? p=some { cls:=.type "list",data:=.seq its'.toArray n' }:=by
  rw [Heap.get?_update_self f ho (by rw [hf]<;>rfl),hf]
 refine I.write (x:=p) (e:=p) (by rw [h];trivial) (.inl rfl) (fun b u hb q=>(Heap.get?_update_other _ _ (Ne.symm hb)).trans q) ⟨_,e⟩ ?_
 exact⟨hz,its',n',r,e⟩
def b7a:V->V->V->Hp->(Hp->Prop)->Prop:=fun o i v H Q=>∃ p xs k j,o=.ref p/\i=.int k/\H p=some (.lst xs)/\ixN xs.length k=some j/\Q (upd H p (.lst (xs.set j v)))
theorem b1t:PSet X b7a:=by
 intro pins s σ H o i v ov iv u Q I ro ri rv h
 obtain⟨p,xs,k,j,rfl,rfl,hp,hj,q⟩:=h
 cases ro
 obtain⟨t,rfl⟩:=ri
 obtain⟨its,n,r,ho,hz⟩:=I.lst hp
 obtain⟨h1,h2,h3,h4⟩:=a9L hj
 have hl:=r.length
 have hn:=a5y
 have I':Inv X pins σ (upd H p (.lst (xs.set j v))) { s with heap:=s.heap.update p (Obj.mapSeq (·.setIfInBounds j u)) }:=
  I.lstUpd hp ho (a8X its n j u) (r.set rv j) (by rw [List.length_set];exact hz) s.toks
 by_cases h0:0≤k
 ·have hk:k.toNat=j:=by
   rw [seqIndex_of h0 h4] at h1
   exact Option.some.inj h1
  exact PySem.W.ki_setAt ho h0 (by omega) (by rw [List.size_toArray,<- hl];exact h4) (by rw [hk];exact⟨_,I',q⟩)
 ·have hk:(k+(its.toArray.size:Int)).toNat=j:=by
   rw [seqIndex_neg (by omega) h3] at h1
   rw [List.size_toArray,<- hl]
   exact Option.some.inj h1
  exact PySem.W.ki_setBack ho (by omega) (by rw [List.size_toArray,<- hl];exact h3) (by omega) (by rw [hk];exact⟨_,I',q⟩)
theorem a6B (lo hi:Option Int) (n:Nat):(sliceBounds lo hi none n).1=((HT.sIx n 0 lo:Nat):Int)/\(sliceBounds lo hi none n).2.1=((HT.sIx n n hi:Nat):Int)/\(sliceBounds lo hi none n).2.2=1:=by
 refine⟨?_,?_,rfl⟩
 ·cases lo with
  | none=>simp [sliceBounds,HT.sIx]
  | some i=>
   simp only [sliceBounds,HT.sIx,Option.getD_none,show (1:Int) > 0 by decide,if_true]
   by_cases h:i<0
   ·simp only [h,if_true]<;>omega
   ·simp only [h,if_false]<;>omega
 ·cases hi with
  | none=>simp [sliceBounds,HT.sIx]
  | some i=>
   simp only [sliceBounds,HT.sIx,Option.getD_none,show (1:Int) > 0 by decide,if_true]
   by_cases h:i<0
   ·simp only [h,if_true]<;>omega
   ·simp only [h,if_false]<;>omega
theorem a5X (its:List Value) (lo hi:Option Int):slicePick its.toArray lo hi none=((its.drop (HT.sIx its.length 0 lo)).take (HT.sIx its.length its.length hi - HT.sIx its.length 0 lo)).toArray:=by
 obtain⟨h1,h2,h3⟩:=a6B lo hi its.toArray.size
 unfold slicePick
 rw [h1,h2,h3]
 simp only [sliceRange_one,pick_run,List.size_toArray]<;>rfl
def rSlL (K:Fg):V->Option Int->Option Int->Hp->VK->Prop:=fun x lo hi H Q=>∃ a xs,x=.ref a/\SqL K H a xs/\∀ p,H p=none->Q (.ref p) (upd H p (.lst (cutV xs lo hi)))
theorem sl_list:SlR X (rSlL X.K):=by
 intro pins s σ H x v vl vu lo hi sl Q I rx hs pl pu h
 obtain⟨a,xs,rfl,hx,q⟩:=h
 cases rx
 obtain⟨its,r,ht,hz⟩:=I.list hx
 have hlen:=r.length
 refine⟨"list",_,slot_list_getitem.lookup,ht.isList.typeIs,?_⟩
 refine wpAny_getItem_list_slice ht.isList hs pl pu .none (by simp) ?_ (by rw [List.size_toArray]<;>omega)
 rw [a5X,<- hlen]
 refine⟨.ref s.heap.objs.size,_,I.laid (t':=s.toks) (o:=.lst (cutV xs lo hi)) (fun b ob q=>Heap.get?_push_of_some _ q) (Nat.le_refl _) ?_,rfl,q _ (I.hok.fresh (Nat.le_refl _))⟩
 exact⟨Nat.le_trans (a4Y xs lo hi) hz,_,0,(r.drop (HT.sIx xs.length 0 lo)).take (HT.sIx xs.length xs.length hi - HT.sIx xs.length 0 lo),Heap.get?_push_size _ rfl⟩
theorem CallR.or {f:Value} {r r':List V->Hp->VK->Prop} (h:CallR X f r) (h':CallR X f r'):CallR X f (fun xs H Q=>r xs H Q\/r' xs H Q):=by
 intro pins s σ H xs us Q I rs q
 rcases q with q | q
 ·exact h pins s σ H xs us Q I rs q
 ·exact h' pins s σ H xs us Q I rs q
def tyV (K:Fg) (T:String) (x:V) (H:Hp):Prop:=match x with
 | .str _=>T="str"
 | .int _=>T="int"
 | .ref p=>(T="list"/\∃ xs,SqL K H p xs)\/(T="tuple"/\∃ o,K.lookup p=some o/\o.cls=.type "tuple"/\o.dict=none) \/
   (T="dict"/\((∃ kvs,H p=some (.dK kvs))\/(∃ kvs,H p=some (.dT kvs))\/∃ ob kvs,H p=some (.frz ob (.dK kvs))))\/(T="set"/\∃ S n,H p=some (.set S n))
 | _=>False
theorem b4V {pins:List (Addr×Obj)} {σ:St} {H:Hp} {s:Shared} {T:String} {x:V} {v:Value} (I:Inv X pins σ H s) (r:RelV x v) (ty:tyV X.K T x H) :
  s.TypeIs v T/\∀ a,v=.ref a->∃ ob,s.heap.get? a=some ob/\ob.dict=none:=by
 cases x with
 | str z=>
  obtain⟨t,rfl⟩:=r
  cases (show T="str" from ty)
  exact⟨typeIs_str s z t,fun _ e=>nomatch e⟩
 | int i=>
  obtain⟨t,rfl⟩:=r
  cases (show T="int" from ty)
  exact⟨typeIs_int s i t,fun _ e=>nomatch e⟩
 | ref p=>
  cases r
  rcases ty with ⟨rfl,xs,hq⟩ | ⟨rfl,o,hk,hc,hd⟩ | ⟨rfl,hk⟩ | ⟨rfl,S,n,hk⟩
  ·obtain⟨its,_,pl,_⟩:=I.list hq
   refine⟨pl.isList.typeIs,fun a e=>?_⟩
   cases e
   obtain⟨o,n,e,c,hd,_⟩:=pl
   exact⟨o,e,hd⟩
  ·refine⟨⟨o,I.kIn p o hk,hc⟩,fun a e=>?_⟩
   cases e
   exact⟨o,I.kIn _ o hk,hd⟩
  ·have z:∃ o,s.heap.get? p=some o/\o.ExactDict:=by
    rcases hk with ⟨kvs,hk⟩ | ⟨kvs,hk⟩ | ⟨ob,kvs,hk⟩
    ·obtain⟨_,_,_,_,o,_,_,e,ex,_⟩:=I.hok p _ hk
     exact⟨o,e,ex⟩
    ·obtain⟨_,_,_,_,o,_,_,e,ex,_⟩:=I.hok p _ hk
     exact⟨o,e,ex⟩
    ·obtain⟨_,_,_,_,_,o,_,_,e,ex,_⟩:=I.hok p _ hk
     exact⟨o,e,ex⟩
   obtain⟨o,e,ex⟩:=z
   refine⟨⟨o,e,ex.1⟩,fun a e2=>?_⟩
   cases e2
   exact⟨o,e,ex.2.1⟩
  ·obtain⟨o,_,_,_,e,ex,_⟩:=I.hok p _ hk
   refine⟨⟨o,e,ex.1⟩,fun a e2=>?_⟩
   cases e2
   exact⟨o,e,ex.2.1⟩
 | _=>exact False.elim ty
def tBM (K:Fg) (T:String) (r:V->List V->Hp->VK->Prop) (to:TE) (t:TA):TE:=fun σ H Q=>to σ H fun x H1=>tyV K T x H1/\t σ H1 fun xs H2=>r x xs H2 Q
variable {o e:Expr} {es:List Expr} {to:TE} {t:TA} {name:Str} {apos cpos:Pos} {T id:String} {r:V->List V->Hp->VK->Prop}
theorem b7b (pa:PlainAttrs T) (slot:Slot T name id) (hty:typeOf (.builtin id)=pure (.type "method_descriptor")) (hm:MtR X id r) (ho:PE X o to) (ha:PA X (e::es) t)
  (hbase:attributeBase o name X.env (eval o X.env)=eval o X.env:=by rfl)
  (hfew:((backTo cpos (starEach (e::es) X.env)).all (fun x=>!x.1)&&(backToKw cpos (keywordEach [] X.env)).all (fun x=>x.1.isSome)
   && decide ((e::es).length+([]:List Keyword).length+(if ([]:List Keyword).isEmpty then 0 else 1)<30))=true:=by rfl)
  (hline:(apos.endLine==cpos.line)=true:=by rfl) (hs:starEach (e::es) X.env=(false,eval e X.env)::starEach es X.env:=by rfl) (hplain:(backTo cpos (starEach es X.env)).any (·.1)=false:=by rfl) :
  PE X (.Call (.Attribute o name apos) (e::es) [] cpos) (tBM X.K T r to t):=by
 intro pins s σ H Q I h
 refine wpAny_Call_method_late hbase hfew hline rfl (thn (ho pins s σ H _ I h) fun v s1 ⟨x,H1,I1,r1,ty,q1⟩=>?_)
 obtain⟨h1,h2⟩:=b4V I1 r1 ty
 refine⟨T,id,pa,slot,hty,h1,h2,?_⟩
 have hA:=ha cpos pins s1 σ H1 _ I1 q1
 rw [hs] at hA ⊢
 refine Calls.callWith_builtin (by show (false||(backTo cpos (starEach es X.env)).any (·.1))=false;rw [hplain]<;>rfl) (Calls.evalArgs_plain ?_)
 exact thn hA fun us s2 ⟨vs,H2,I2,r2,q2⟩=>hm pins s2 σ H2 x vs v us Q I2 r1 r2 q2
end
end L2
namespace L2
open PySem PySem.Spec PyProof.Rows
def MtM (X:Cx) (id:String) (r:V->List V->Hp->VK->Prop):Prop:=
 ∀ (pins:List (Addr×Obj)) (s:Shared) (σ:St) (H:Hp) (x:V) (xs:List V) (v:Value) (us:List Value) (Q:VK),Inv X pins σ H s->RelV x v->Vals xs us->r x xs H Q ->
  wpAny (model X.prog X.w) X.A (call (.builtin id) (v::us)) (EP X pins σ Q) X.xe s
theorem Vals.one:∀ {x:V} {us:List Value},Vals [x] us->∃ u,us=[u]/\RelV x u
 | _,_,.cons r .nil=>⟨_,rfl,r⟩
theorem Vals.two:∀ {x y:V} {us:List Value},Vals [x,y] us->∃ u v,us=[u,v]/\RelV x u/\RelV y v:=by
 intro x y us h
 cases h with
 | cons r h=>cases h with
  | cons q h=>cases h;exact⟨_,_,rfl,r,q⟩
theorem Vals.zero:∀ {us:List Value},Vals [] us->us=[]
 | _,.nil=>rfl
theorem Vals.dropLast {xs:List V} {us:List Value} (h:Vals xs us):Vals xs.dropLast us.dropLast:=by
 induction h with
 | nil=>exact .nil
 | cons r t ih=>
  cases t with
  | nil=>exact .nil
  | cons q t'=>exact .cons r ih
theorem Vals.eraseIdx:∀ {xs:List V} {us:List Value} (i:Nat),Vals xs us->Vals (xs.eraseIdx i) (us.eraseIdx i)
 | _,_,_,.nil=>.nil
 | _,_,0,.cons _ t=>t
 | _,_,i+1,.cons r t=>.cons r (Vals.eraseIdx i t)
theorem Vals.reverse {xs:List V} {us:List Value} (h:Vals xs us):Vals xs.reverse us.reverse:=by
 induction h with
 | nil=>exact .nil
 | cons r t ih=>rw [List.reverse_cons,List.reverse_cons];exact Vals.append ih (.cons r .nil)
section
variable {X:Cx} {pins:List (Addr×Obj)} {σ:St} {H:Hp} {s:Shared} {l b:Addr} {xs ys zs:List V}
theorem Inv.lset {its its':List Value} {n:Nat} {f:Array Value->Array Value} {t':Nat} (I:Inv X pins σ H s) (hH:H l=some (.lst xs))
  (e:s.heap.get? l=some { cls:=.type "list",data:=.seq its.toArray n }) (hf:f its.toArray=its'.toArray) (hv:Vals ys its') (hz:ys.length≤sizeLine) :
  Inv X pins σ (upd H l (.lst ys)) { s with heap:=s.heap.update l (Obj.mapSeq f),toks:=t' }:=by
 have q:=PySem.IsL.update e f
 rw [hf] at q
 refine I.write (x:=l) (e:=l) (by rw [hH];exact trivial) (.inl rfl) (fun b' u hb hu=>(Heap.get?_update_other s.heap (Obj.mapSeq f) (Ne.symm hb)).trans hu) ⟨_,q⟩ ?_
 exact⟨hz,its',_,hv,q⟩
theorem Inv.lnew {its:List Value} {t':Nat} (I:Inv X pins σ H s) (hv:Vals ys its) (hz:ys.length≤sizeLine) :
  Inv X pins σ (upd H s.heap.objs.size (.lst ys)) { s with heap:=s.heap.push { cls:=.type "list",data:=.seq its.toArray },toks:=t' }:=
 I.laid (fun _ _ q=>Heap.get?_push_of_some _ q) (Nat.le_refl _) ⟨hz,its,0,hv,Heap.get?_push_size _ rfl⟩
theorem Inv.fresh (I:Inv X pins σ H s):H s.heap.objs.size=none:=I.hok.fresh (Nat.le_refl _)
theorem Inv.lstM (I:Inv X pins σ H s) (hH:H l=some (.lst xs)):xs.length≤sizeLine/\∃ (its:List Value) (n:Nat),Vals xs its/\xs.length=its.length/\s.heap.get? l=some { cls:=.type "list",data:=.seq its.toArray n }:=by
 obtain⟨z,its,n,r,e⟩:=I.hok l _ hH
 exact⟨z,its,n,r,r.length,e⟩
theorem b1u {n:Nat} (h:n≤sizeLine):Builtin.List.listTooLong n=false:=by
 unfold Builtin.List.listTooLong
 exact decide_eq_false (by omega)
end
section
variable {X:Cx}
def b3f:V->List V->Hp->VK->Prop:=fun x vs H Q=>∃ l xs y,x=.ref l/\vs=[y]/\H l=some (.lst xs)/\xs.length<sizeLine/\Q .non (upd H l (.lst (xs++[y])))
theorem a6C:MtM X "list.append" b3f:=by
 intro pins s σ H x vs v us Q I rx rv h
 obtain⟨l,xs,y,rfl,rfl,hH,hz,q⟩:=h
 cases rx
 obtain⟨u,rfl,ru⟩:=rv.one
 obtain⟨z,its,n,r,hl,e⟩:=I.lstM hH
 refine call_meets F.slot_list_append ⟨_,e,rfl⟩ F.entry_list_append (F.args_list_append_2 _ _) (PySem.list_append l its.toArray n u (by rw [List.size_toArray];omega)) ⟨e,?_⟩
 refine⟨.non,_,I.lset (its':=its++[u]) hH e (by simp) (r.append (.cons ru .nil)) ?_,rfl,q⟩
 rw [List.length_append,List.length_singleton]
 omega
def b3g:V->List V->Hp->VK->Prop:=fun x vs H Q=>∃ l b xs zs,x=.ref l/\vs=[.ref b]/\H l=some (.lst xs)/\H b=some (.lst zs)/\xs.length+zs.length≤sizeLine/\Q .non (upd H l (.lst (xs++zs)))
theorem a9N:MtM X "list.extend" b3g:=by
 intro pins s σ H x vs v us Q I rx rv h
 obtain⟨l,b,xs,zs,rfl,rfl,hH,hB,hz,q⟩:=h
 cases rx
 obtain⟨u,rfl,ru⟩:=rv.one
 cases ru
 obtain⟨z,its,n,r,hl,e⟩:=I.lstM hH
 obtain⟨z2,its2,n2,r2,hl2,e2⟩:=I.lstM hB
 have hsz:its.toArray.size+its2.toArray.size≤sizeLine:=by rw [List.size_toArray,List.size_toArray];omega
 have hlong:¬ (!its.toArray.isEmpty&&Builtin.List.listTooLong (its.toArray.size+its2.toArray.size))=true:=by
  rw [b1u hsz,Bool.and_false]
  exact Bool.false_ne_true
 refine call_meets F.slot_list_extend ⟨_,e,rfl⟩ F.entry_list_extend (F.args_list_extend_2 _ _)
  (AutoSeq1.list_extend_list_list_0 l its.toArray n b its2.toArray n2 hlong (by rw [List.size_toArray];omega) (by omega)) ⟨e,e2,?_⟩
 refine⟨.non,_,I.lset (its':=its++its2) hH e (by simp) (r.append r2) ?_,rfl,q⟩
 rw [List.length_append]
 omega
def rCat:R2:=fun x y H Q=>∃ l b xs zs,x=.ref l/\y=.ref b/\H l=some (.lst xs)/\H b=some (.lst zs)/\xs.length+zs.length≤sizeLine/\∀ p,H p=none->Q (.ref p) (upd H p (.lst (xs++zs)))
theorem b4W:OpR X (binaryOp .Add) rCat:=by
 intro pins s σ H x y v u Q I rx ry h
 obtain⟨l,b,xs,zs,rfl,rfl,hH,hB,hz,q⟩:=h
 cases rx
 cases ry
 obtain⟨z,its,n,r,hl,e⟩:=I.lstM hH
 obtain⟨z2,its2,n2,r2,hl2,e2⟩:=I.lstM hB
 refine PySem.P.add_list e e2 ?_ (by rw [List.size_toArray,List.size_toArray];omega)
 have ea:its.toArray++its2.toArray=(its++its2).toArray:=by simp
 rw [ea]
 exact⟨.ref _,_,I.lnew (t':=s.toks) (r.append r2) (by rw [List.length_append];omega),rfl,q _ I.fresh⟩
end
section
variable {prog:Program} {w:World} {A:Around} {E:Value->Shared->Prop} {s:Shared}
end
section
variable {X:Cx}
end
end L2
namespace Att
open PySem PySem.W PySem.Calls PyProof.Rows
theorem a4Z {P:Params} {h:Heap}:∀ (ns:List Int) (vs:List Value),WellAll P h vs (ns.map WData.int)->IntsAre vs ns:=by
 intro ns
 induction ns with
 | nil=>
  intro vs w
  rw [List.map_nil] at w
  cases w
  exact .nil
 | cons n ns ih=>
  intro vs w
  rw [List.map_cons] at w
  cases w with
  | cons a b=>
   cases a
   exact .cons _ _ (ih _ b)
theorem a9O {l:OpenLaw} {n:Nat} (hn:l.most=some n) {P:Params} {h:Heap} {args:List WData} {vals:List Value}
  (hpre:l.row.toRowW.claim.pre args=true) (hwl:WellAll P h vals args) :
  ∃ a vs ns,vals=[Value.ref a]/\args=[WData.list (ns.map WData.int)]/\h.get? a=some { cls:=.type "list",data:=.seq vs.toArray }/\IntsAre vs ns/\ns.length≤n:=by
 have hsh:WShape.hasAll [] args [.list .int]=true:=(pre_splitW hpre).1
 have hc:l.pre.holds [] { args:=args }=true:=(pre_splitW hpre).2
 obtain⟨d,r,rfl,h1,h2⟩:=hasAllW_cons hsh
 obtain rfl:=hasAllW_nil h2
 obtain⟨xs,rfl,h3⟩:=hasW_list h1
 obtain⟨ns,rfl⟩:=items_int h3
 have hlen:ns.length≤n:=by
  unfold OpenLaw.pre at hc
  have h4:(WTm.not (.lt (.lit (.int (n:Int))) (.len (.arg 0)))).holds [] { args:=[.list (ns.map .int)] }=true:=by
   have h4:=(holds_andW hc).1
   rw [hn] at h4
   exact h4
  have h5:=condW_of h4 (w_not (w_lt w_lit (w_len_list (w_arg rfl))))
  rw [List.length_map] at h5
  refine Nat.le_of_not_lt fun q=>?_
  have q':(n:Int)<((ns.length:Nat):Int):=by omega
  first
   | (rw [decide_eq_true q'] at h5;exact absurd h5 (by decide))
   | (simp at h5;omega)
 cases hwl with
 | cons w1 w2=>
  cases w2
  cases w1 with
  | list ho hall=>exact⟨_,_,ns,rfl,rfl,ho,a4Z ns _ hall,hlen⟩
theorem a9P (l:OpenLaw) (args:List WData):l.row.toRowW.claim.post args (.bool true) args=true:=
 postW_of (r:=l.row.toRowW) (X:=(true==true))
  (show WShape.has [] (.bool true) .bool=true by first | rfl | decide | simp [WShape.has,WShape.arms,WShape.armsAll])
  (show (WTm.eq .res (.lit (.bool true))).value [] { args:=args,res:=some (.bool true),after:=args }=some (.bool (true==true)) from w_eq_bool (w_res rfl) w_lit) rfl
theorem attach_call {l:OpenLaw} {n:Nat} {q:Program} {loose:List Str} {XP:(Str->Option Value)->Heap->Prop} {YP:World->Heap->Prop} {d:DefRec}
  (hn:l.most=some n) (hdf:d.params.defaults=[])
  (call:∀ (w:World) (s₀ s₁:Shared) (mg mb:Str->Option Value) (fa:Addr) (o:Obj) (pm cd doc:Value) (a:Addr) (vs:List Value) (ns:List Int),
   Ground q loose [] XP w s₀ mg mb s₁.heap->YP w s₁.heap ->
   s₁.heap.get? fa=some o->o.data=.func (docDef d.name d.params d.body d.scope pm cd doc)->s₁.heap.CodeRec cd d.name->mg d.name=some (.ref fa) ->
   s₁.heap.get? a=some { cls:=.type "list",data:=.seq vs.toArray }->IntsAre vs ns->ns.length≤n->s₁.gens=#[] ->
   codeAny (model l.prog w) callerA (.call (.ref fa) ⟨[.ref a],[]⟩) (fun r s'=>r=.ok (.ret (.bool true))/\OldK s₁.heap s'.heap/\s'.os=s₁.os/\AllBare s'.gens) s₁) :
  WalkO q loose XP YP l.row.toRowW d [] (fun f vs=>PySem.call f vs):=by
 intro w s₀ s₁ mg mb G Y fa o pm cd doc dV kV ho hd hcd hD hmg hg args vals as hpre hlay hrd hwl hlo
 obtain rfl:dV=.none:=Dflts.none hD hdf
 obtain rfl:kV=.none:=Dflts.noKw hD
 obtain⟨a,vs,ns,rfl,rfl,hobj,hints,hlen⟩:=a9O hn hpre hwl
 refine enter_call (codeAny_mono (call w s₀ s₁ mg mb fa o pm cd doc a vs ns G Y ho (fd_plain hd) hcd hmg hobj hints hlen hg) fun r s' hq=>?_)
 obtain⟨rfl,h2,h3,h4⟩:=hq
 exact⟨.inl ⟨.bool true,.bool true,[],rfl,fun _=>rfl,.bool true,a9P l _,fun _=>⟨List.Pairwise.nil,fun _ hm=>(nomatch hm)⟩⟩,h2,h3,h4⟩
section
variable {prog:Program} {w:World} {A:Around} {E:Value->Shared->Prop} {s:Shared} {K:Frag}
end
end Att
namespace L2
open PySem PySem.Spec PyProof.Rows
theorem a6D:∀ {vs:List Value} {ns:List Int},IntsAre vs ns->Vals (ns.map V.int) vs
 | _,_,.nil=>.nil
 | _,_,.cons n t h=>.cons ⟨t,rfl⟩ (a6D h)
def Only (H:Hp):Prop:=∀ b,H b=none\/∃ o xs,H b=some (.frz o (.lst xs))
theorem b1v {P:Program} {w:World} {K:Fg} {mg mb:Str->Option Value} {CX:CXT} {k:Nat} {fa a:Addr} {fd:FuncData} {x:Str} {sp:Sp} {s₁:Shared} {vs:List Value} {ns:List Int}
  (KX:K.In s₁.heap) (hns:s₁.heap.Ns mainGlobals mg) (hb:s₁.heap.Ns builtinsNs mb) (hbb:∀ x:Str,x≠"__name__"->mb x=bootBuiltins x) (hlim:s₁.heap.NoLimit) (hg:s₁.gens=#[])
  (ha:s₁.heap.get? a=some { cls:=.type "list",data:=.seq vs.toArray }) (hi:IntsAre vs ns) (hl:ns.length≤sizeLine) (hr:Room k callerA)
  (F:∀ base:Heap,K.In base->base.Ns mainGlobals mg->FnOk P w K mg base CX k fa fd [x] sp) (hbind:∀ (s:Shared) (u:Value),BindsTo s fd ⟨[u],[]⟩ [(x,u)])
  (hsp:∀ H:Hp,Only H->SqL K H a (ns.map V.int)->sp [.ref a] H (fun v _=>v=.bl true) fun _ _ _=>False)
  (hCX:∀ H e s',CX [] H s₁ (fun _ _ _=>False) e s'->False) :
  codeAny (model P w) callerA (.call (.ref fa) ⟨[.ref a],[]⟩) (fun r s'=>r=.ok (.ret (.bool true))/\OldK s₁.heap s'.heap/\s'.os=s₁.os/\AllBare s'.gens) s₁:=by
 have rv:=a6D hi
 have lenV:=hi.length
 have core:∀ H:Hp,Only H->SqL K H a (ns.map V.int)->HOk P w H s₁.heap->(∀ b,H b≠none->b=a)->(H a≠none->K.lookup a=none) ->
   codeAny (model P w) callerA (.call (.ref fa) ⟨[.ref a],[]⟩) (fun r s'=>r=.ok (.ret (.bool true))/\OldK s₁.heap s'.heap/\s'.os=s₁.os/\AllBare s'.gens) s₁:=by
  intro H hO hS hok hA hK
  have base_of:∀ {b:Addr} {o:Obj},s₁.heap.get? b=some o->H b=none->(hidT s₁.heap H).get? b=some o:=fun e n=>b1e e n
  have noA:∀ {b:Addr} {o:Obj} {es:Array DictEntry} {ep:Nat},s₁.heap.get? b=some o->o.data=.dict es ep->H b=none:=fun {b o es ep} e d=>by
   cases q:H b with
   | none=>rfl
   | some u=>
    have e':b=a:=hA b (by rw [q];simp)
    subst e'
    rw [ha] at e;cases e
    have d':Data.seq vs.toArray _=Data.dict es ep:=d
    cases d'
  have nsK:∀ {b:Addr} {m:Str->Option Value},s₁.heap.Ns b m->(hidT s₁.heap H).Ns b m:=fun {b m} ⟨o,es,ep,e,d,r⟩=>⟨o,es,ep,base_of e (noA e d),d,r⟩
  have hKb:K.In (hidT s₁.heap H):=fun b o e=>base_of (KX b o e) (by
   cases q:H b with
   | none=>rfl
   | some u=>
    have e':b=a:=hA b (by rw [q];simp)
    subst e'
    rw [hK (by rw [q];simp)] at e;cases e)
  have hM:Mod K mg (hidT s₁.heap H):=⟨hKb,nsK hns,⟨mb,nsK hb,hbb⟩,let ⟨mc,h1,h2⟩:=hlim;⟨mc,nsK h1,h2⟩⟩
  have e0:Env0 P w K mg (hidT s₁.heap H) callerA [] s₁ H:=⟨rfl,hM,fun b o e=>b2V e,Nat.le_of_eq (a9o _ _),trivial,fun b hb=>absurd (show b∈([]:List Addr) from hb) (by simp),hok,.of_eq hg⟩
  refine codeAny_mono ((F _ hKb (nsK hns)).run callerA [] s₁ H ⟨[.ref a],[]⟩ [.ref a] [.ref a] _ _ hr e0 (hbind s₁ (.ref a)) (.cons rfl .nil) (hsp H hO hS)) fun r s' h=>?_
  cases r with
  | error e=>exact (hCX H e s' h).elim
  | ok fl=>
   cases fl with
   | next=>exact False.elim h
   | brk=>exact False.elim h
   | cont=>exact False.elim h
   | ret u=>
    obtain⟨v,H',os,bare,un,hok',r',q⟩:=h
    have q':v=.bl true:=q
    subst q'
    obtain rfl:u=Value.bool true:=r'
    refine⟨rfl,OldK.of_keep fun b o e=>?_,os,bare⟩
    cases q:H b with
    | none=>exact un.keep b o e q (by intro z;exact absurd (show b∈([]:List Addr) from z) (by simp)) (by simp)
    | some u=>
     rcases hO b with z | ⟨ob,xs,z⟩
     ·rw [q] at z;cases z
     ·have z2:=un.frzs b ob _ z
      obtain⟨e1,_⟩:=hok b _ z
      obtain⟨e2,_⟩:=hok' b _ z2
      rw [e] at e1;cases e1
      exact e2
 cases hk:K.lookup a with
 | some o=>
  have e:=KX a o hk
  rw [ha] at e
  cases e
  refine core (fun _=>none) (fun _=>.inl rfl) (.inr ⟨_,vs.toArray,_,hk,rfl,rfl,rfl,by rw [List.size_toArray,lenV];exact hl,by simpa using rv⟩) (fun b u z=>by have z':(none:Option HO)=some u:=z;cases z') (fun b z=>absurd rfl z) fun z=>absurd rfl z
 | none=>
  refine core (fun b=>if b=a then some (.frz { cls:=.type "list",data:=.seq vs.toArray } (.lst (ns.map V.int))) else none) (fun b=>?_) (.inl (.inr ⟨{ cls:=.type "list",data:=.seq vs.toArray },if_pos rfl⟩)) (fun b u z=>?_) (fun b z=>?_) fun _=>hk
  ·by_cases hb:b=a
   ·exact .inr ⟨_,_,if_pos hb⟩
   ·exact .inl (if_neg hb)
  ·by_cases hb:b=a
   ·have z':=(if_pos hb).symm.trans z
    cases z'
    subst hb
    exact⟨ha,by rw [List.length_map];exact hl,vs,_,rv,ha⟩
   ·have z':=(if_neg hb).symm.trans z
    cases z'
  ·by_cases hb:b=a
   ·exact hb
   ·exact absurd (if_neg hb) z
end L2
namespace L2
open PySem PySem.Spec PyProof.Rows
theorem walk_of {l:PySem.W.OpenLaw} {n k:Nat} {q:Program} {loose:List Str} {XP:(Str->Option Value)->Heap->Prop} {YP:World->Heap->Prop} {d:DefRec} {K:Params->Fg} {CX:World->CXT} {sp:World->Sp} {x:Str}
  (hn:l.most=some n) (hn2:n≤sizeLine) (hdf:d.params.defaults=[]) (hr:Room k callerA)
  (hY:∀ (w:World) (h:Heap),YP w h->(K w.params).In h)
  (F:∀ (w:World) (mg:Str->Option Value) (fa:Addr) (h:Heap),(K w.params).In h->h.Ns mainGlobals mg->mg d.name=some (.ref fa) ->
   ∃ fd:FuncData,(∀ (s:Shared) (u:Value),BindsTo s fd ⟨[u],[]⟩ [(x,u)]) /\
    ∀ base:Heap,(K w.params).In base->base.Ns mainGlobals mg->FnOk l.prog w (K w.params) mg base (CX w) k fa fd [x] (sp w))
  (hsp:∀ (w:World) (H:Hp) (a:Addr) (ns:List Int),ns.length≤n->Only H->SqL (K w.params) H a (ns.map V.int)->sp w [.ref a] H (fun v _=>v=.bl true) fun _ _ _=>False)
  (hCX:∀ (w:World) (H:Hp) (s:Shared) (e:Value) (s':Shared),CX w [] H s (fun _ _ _=>False) e s'->False) :
  PySem.W.WalkO q loose XP YP l.row.toRowW d [] (fun f vs=>PySem.call f vs):=by
 refine Att.attach_call hn hdf fun w s₀ s₁ mg mb fa o pm cd doc a vs ns G Y ho hd hcd hmg hobj hints hlen hg=>?_
 have KX:=hY w _ Y
 obtain⟨fd,hb,hF⟩:=F w mg fa _ KX G.T.g hmg
 exact b1v KX G.T.g G.T.b G.T.builtins G.T.nolimit hg hobj hints (Nat.le_trans hlen hn2) hr hF hb (fun H hO hS=>hsp w H a ns hlen hO hS) fun H e s'=>hCX w H s₁ e s'
end L2
namespace L2
open PySem PySem.Spec PyProof.Rows
def a2u (s:Stmt) (j:Nat):Stmt:=match s with
 | .ClassDef _ _ _ body _ _ _ _ _ _ _=>body.getD j (.Pass ⟨0,0,0,0⟩)
 | _=>.Pass ⟨0,0,0,0⟩
def a0j (s:Stmt):Arguments:=match s with
 | .FunctionDef _ a _ _ _ _ _ _ _ _=>a
 | _=>{ posonlyargs:=[],args:=[],vararg:=none,kwonlyargs:=[],kw_defaults:=[],kwarg:=none,defaults:=[] }
def a0h (s:Stmt):List Stmt:=match s with
 | .FunctionDef _ _ b _ _ _ _ _ _ _=>b
 | _=>[]
def a0c (s:Stmt):Scope:=match s with
 | .FunctionDef _ _ _ _ _ _ sc _ _ _=>sc
 | _=>{ kind:=.function,names:=[],isGenerator:=false,isCoroutine:=false }
abbrev CX0:CXT:=fun _ _ _ _ _ _=>False
abbrev E0:XK:=fun _ _ _=>False
theorem b1w {X:Cx}:a2V CX0 X E0:=fun _ _ _ _ _ _ _ h=>h.elim
structure Fun (K:Fg) (x qual:Str) (st:Stmt) (f:Addr) (fd:FuncData):Prop where
 ex:∃ (oc:Value) (od:Option Addr) (kV doc pm:Value) (an:Option Addr) (cdv ct:Value) (osl:Array (Option Value)),
  fd=PySem.W.fnOf x qual (a0j st) (a0h st) (a0c st) .none kV doc pm an cdv ct/\K.lookup f=some ⟨oc,od,.func fd,osl⟩/\PySem.W.codeIn K cdv qual=true
 kp:PySem.W.keepIn K (.ref f)=true
section
variable {P:Program} {w:World} {K:Fg} {mg:Str->Option Value} {base:Heap}
theorem Fun.ok {x qual:Str} {st:Stmt} {f:Addr} {fd:FuncData} {N ps:List Str} {k:Nat} {sp:Sp} (F:Fun K x qual st f fd) (S:FnScope N ps (a0c st)) (len:∀ vs H Q E,sp vs H Q E->vs.length=ps.length)
  (hbody:∀ (cdv:Value) (A:Around) (outer:List Env) (s:Shared) (H:Hp) (vs:List V) (Q:VK) (E:XK),Room k (A.deeper (envOfC qual (a0c st) s.heap.objs.size f cdv))->sp vs H Q E ->
   ∃ t,PSs (cxOf CX0 P w K mg base N qual (a0c st) f cdv A outer s H E).nox (a0h st) t/\t { nx:=fun _ H'=>Q .non H',rt:=Q } (start N vs) H):FnOk P w K mg base CX0 (k+1) f fd ps sp:=by
 obtain⟨oc,od,kV,doc,pm,an,cdv,ct,osl,rfl,lk,hcd⟩:=F.ex
 refine b4R lk hcd S len fun A outer s H vs Q E hr hsp=>?_
 obtain⟨t,h,q⟩:=hbody cdv A outer s H vs Q E hr hsp
 exact⟨t,h.nox,q⟩
theorem Fun.binds {x qual:Str} {st:Stmt} {f:Addr} {fd:FuncData} {ps:List Str} (F:Fun K x qual st f fd)
  (h:∀ (kV doc pm:Value) (an:Option Addr) (cdv ct:Value) (us:List Value),us.length=ps.length->bindArgs (PySem.W.fnOf x qual (a0j st) (a0h st) (a0c st) .none kV doc pm an cdv ct) ⟨us,[]⟩=pure (ps.zip us)):Binds K fd ps []:=by
 obtain⟨oc,od,kV,doc,pm,an,cdv,ct,osl,rfl,lk,hcd⟩:=F.ex
 exact .all (h kV doc pm an cdv ct)
theorem a0T {x qual:Str} {st:Stmt} {f:Addr} {oc:Value} {od an:Option Addr} {osl:Array (Option Value)} {kV doc pm cdv ct:Value} (l:K.lookup f=some ⟨oc,od,.func (PySem.W.fnOf x qual (a0j st) (a0h st) (a0c st) .none kV doc pm an cdv ct),osl⟩)
  (c:PySem.W.codeIn K cdv qual=true) (k:PySem.W.keepIn K (.ref f)=true):Fun K x qual st f (PySem.W.fnOf x qual (a0j st) (a0h st) (a0c st) .none kV doc pm an cdv ct):=⟨⟨oc,od,kV,doc,pm,an,cdv,ct,osl,rfl,l,c⟩,k⟩
end
theorem a0P {n:Nat} (h:n≤1000):n<sizeLine:=Nat.lt_of_le_of_lt h (by decide)
section
variable {X:Cx}
theorem pv (i:Nat) {x:Str} {pos:Pos} (hN:X.N[i]?=some x:=by rfl) (hv:Vis X.env.scope x:=by first | exact Or.inl rfl | exact Or.inr (Or.inl rfl) | exact Or.inr (Or.inr rfl)) (hd:(x==("__debug__":Str))=false:=by decide)
  (hcd:(x==("__classdict__":Str))=false:=by decide):PE X (.Name x pos) (tVar i):=b4m hN hv hd hcd
end
def Same (H H':Hp):Prop:=∀ b o,H b=some o->H' b=some o
theorem Same.refl (H:Hp):Same H H:=fun _ _ h=>h
theorem Same.trans {H H1 H2:Hp} (a:Same H H1) (b:Same H1 H2):Same H H2:=fun c o h=>b c o (a c o h)
theorem Same.free {H H':Hp} (e:Same H H') {l:Addr} (h:H' l=Option.none):H l=Option.none:=by
 cases q:H l with
 | none=>rfl
 | some o=>
  rw [e l o q] at h
  cases h
theorem Same.seq {K:Fg} {H H':Hp} {a:Addr} {xs:List V} (e:Same H H') (h:SqL K H a xs):SqL K H' a xs:=by
 rcases h with (h | ⟨o,h⟩) | h
 ·exact .inl (.inl (e _ _ h))
 ·exact .inl (.inr ⟨o,e _ _ h⟩)
 ·exact .inr h
end L2
namespace L2
open PySem PySem.Spec PyProof.Rows
section
variable {κ:Type} [DecidableEq κ]
def valV (kvs:List (κ×V)) (k:κ):Option V:=(kvs.find? fun kv=>decide (kv.1=k)).map (·.2)
def putK (kvs:List (κ×V)) (k:κ) (v:V):List (κ×V):=
 if (kvs.any fun kv=>decide (kv.1=k))=true then kvs.map (fun kv=>if kv.1=k then (kv.1,v) else kv) else kvs++[(k,v)]
def b4X (kvs:List (κ×V)) (k:κ):List (κ×V):=kvs.filter fun kv=>decide (kv.1≠k)
theorem a5Y {p:κ×V} {r:List (κ×V)} {k:κ} (e:p.1=k):valV (p::r) k=some p.2:=by simp [valV,List.find?_cons,e]
theorem a5Z {p:κ×V} {r:List (κ×V)} {k:κ} (e:¬ p.1=k):valV (p::r) k=valV r k:=by simp [valV,List.find?_cons,e]
theorem a8b (k:κ):∀ kvs:List (κ×V),(kvs.any fun kv=>decide (kv.1=k))=(valV kvs k).isSome
 | []=>rfl
 | p::r=>by
  rw [List.any_cons]
  by_cases e:p.1=k
  ·simp only [a5Y e,decide_eq_true e,Bool.true_or,Option.isSome_some]
  ·rw [a5Z e,decide_eq_false e,Bool.false_or];exact a8b k r
theorem a7w (kvs:List (κ×V)) (k:κ) (v:V):(putK kvs k v).length≤kvs.length+1:=by
 unfold putK
 split
 ·rw [List.length_map];omega
 ·rw [List.length_append,List.length_cons,List.length_nil];omega
theorem RelO.isSome_eq {o:Option V} {u:Option Value} (r:RelO o u):o.isSome=u.isSome:=by
 cases o with
 | none=>cases u with
  | none=>rfl
  | some _=>exact (show False from r).elim
 | some _=>cases u with
  | none=>exact (show False from r).elim
  | some _=>rfl
theorem RelO.getD {o:Option V} {u:Option Value} {d:V} {d':Value} (r:RelO o u) (rd:RelV d d'):RelV (o.getD d) (u.getD d'):=by
 cases o with
 | none=>cases u with
  | none=>exact rd
  | some _=>exact (show False from r).elim
 | some _=>cases u with
  | none=>exact (show False from r).elim
  | some _=>exact r
theorem KV.val {kvs:List (κ×V)} {vs:List (κ×Value)} (r:KV kvs vs) (k:κ):RelO (valV kvs k) (valueAt vs k):=by
 unfold KV at r
 induction r with
 | nil=>exact True.intro
 | @cons p q ps qs h t ih=>
  obtain⟨h1,h2⟩:=h
  by_cases e:p.1=k
  ·have e':q.1=k:=h1.symm.trans e
   have b:valueAt (q::qs) k=some q.2:=by simp [valueAt,List.find?_cons,e']
   rw [a5Y e,b];exact h2
  ·have e':¬ q.1=k:=fun z=>e (h1.trans z)
   have b:valueAt (q::qs) k=valueAt qs k:=by simp [valueAt,List.find?_cons,e']
   rw [a5Z e,b];exact ih
theorem KV.any {kvs:List (κ×V)} {vs:List (κ×Value)} (r:KV kvs vs) (k:κ):(kvs.any fun kv=>decide (kv.1=k))=vs.any fun kv=>decide (kv.1=k):=by
 unfold KV at r
 induction r with
 | nil=>rfl
 | cons h t ih=>rw [List.any_cons,List.any_cons,ih,h.1]
theorem KV.repl {kvs:List (κ×V)} {vs:List (κ×Value)} (r:KV kvs vs) (k:κ) {y:V} {u:Value} (ry:RelV y u) :
  KV (kvs.map fun kv=>if kv.1=k then (kv.1,y) else kv) (vs.map fun kv=>if kv.1=k then (kv.1,u) else kv):=by
 unfold KV at r ⊢
 induction r with
 | nil=>exact .nil
 | @cons p q ps qs h t ih=>
  rw [List.map_cons,List.map_cons]
  refine .cons ?_ ih
  obtain⟨h1,h2⟩:=h
  by_cases e:p.1=k
  ·rw [if_pos e,if_pos (h1.symm.trans e)];exact⟨h1,ry⟩
  ·rw [if_neg e,if_neg (fun z=>e (h1.trans z))];exact⟨h1,h2⟩
theorem KV.put {kvs:List (κ×V)} {vs:List (κ×Value)} (r:KV kvs vs) (k:κ) {y:V} {u:Value} (ry:RelV y u):KV (putK kvs k y) (stored vs k u):=by
 unfold putK stored
 rw [r.any k]
 by_cases e:(vs.any fun kv=>decide (kv.1=k))=true
 ·rw [if_pos e,if_pos e];exact r.repl k ry
 ·rw [if_neg e,if_neg e];exact Paired.snoc r ⟨rfl,ry⟩
theorem KV.drop {kvs:List (κ×V)} {vs:List (κ×Value)} (r:KV kvs vs) (k:κ):KV (b4X kvs k) (without vs k):=by
 unfold KV at r ⊢
 unfold b4X without
 induction r with
 | nil=>exact .nil
 | @cons p q ps qs h t ih=>
  obtain⟨h1,h2⟩:=h
  rw [List.filter_cons,List.filter_cons]
  by_cases e:p.1=k
  ·have a:¬ decide (p.1≠k)=true:=by simp [e]
   have b:¬ decide (q.1≠k)=true:=by simp [h1.symm.trans e]
   rw [if_neg a,if_neg b];exact ih
  ·have e':¬ q.1=k:=fun z=>e (h1.trans z)
   have a:decide (p.1≠k)=true:=by simp [e]
   have b:decide (q.1≠k)=true:=by simp [e']
   rw [if_pos a,if_pos b];exact .cons ⟨h1,h2⟩ ih
theorem KV.keys {kvs:List (κ×V)} {vs:List (κ×Value)} (r:KV kvs vs):kvs.map (·.1)=vs.map (·.1):=by
 unfold KV at r
 induction r with
 | nil=>rfl
 | cons h t ih=>rw [List.map_cons,List.map_cons,ih,h.1]
theorem KV.length {kvs:List (κ×V)} {vs:List (κ×Value)} (r:KV kvs vs):kvs.length=vs.length:=Paired.length r
end
theorem b3h {P:Program} {w:World} {k:Key} {u:Value} (r:RelV (kV k) u):(a1d P w).is k u=true:=by
 cases k with
 | inl i=>obtain⟨t,e⟩:=(show ∃ t,u=Value.int i t from r);subst e;exact a7t P w i t
 | inr x=>obtain⟨t,e⟩:=(show ∃ t,u=Value.str x t from r);subst e;exact a7u P w x t
theorem a6E {P:Program} {w:World}:∀ {ks:List Key} {us:List Value},Vals (ks.map kV) us->ItemsAre (a1d P w) ks us
 | [],_,r=>by rw [List.map_nil] at r;cases r;exact .nil
 | k::ks,_,r=>by
  rw [List.map_cons] at r
  cases r with
  | cons h t=>exact .cons (b3h h) (a6E t)
abbrev KT (H:Hp):List (List Key×V)->List (List Key×Addr×Value)->Prop:=Paired fun p q=>p.1=q.1/\H q.2.1=some (.tup (p.1.map kV))/\RelV p.2 q.2.2
theorem KT.val {H:Hp} {kvs:List (List Key×V)} {xs:List (List Key×Addr×Value)} (r:KT H kvs xs) (k:List Key):RelO (valV kvs k) ((atKey xs k).map (·.2)):=by
 induction r with
 | nil=>exact True.intro
 | @cons p q ps qs h t ih=>
  obtain⟨h1,_,h2⟩:=h
  by_cases e:p.1=k
  ·have e':q.1=k:=h1.symm.trans e
   have b:atKey (q::qs) k=some q.2:=by simp [atKey,List.find?_cons,e']
   rw [a5Y e,b];exact h2
  ·have e':¬ q.1=k:=fun z=>e (h1.trans z)
   have b:atKey (q::qs) k=atKey qs k:=by simp [atKey,List.find?_cons,e']
   rw [a5Z e,b];exact ih
theorem KT.repl {H:Hp} {kvs:List (List Key×V)} {xs:List (List Key×Addr×Value)} (r:KT H kvs xs) (k:List Key) {y:V} {u:Value} (ry:RelV y u) :
  KT H (kvs.map fun kv=>if kv.1=k then (kv.1,y) else kv) (xs.map (putAt k u)):=by
 induction r with
 | nil=>exact .nil
 | @cons p q ps qs h t ih=>
  rw [List.map_cons,List.map_cons]
  refine .cons ?_ ih
  obtain⟨h1,h2,h3⟩:=h
  unfold putAt
  by_cases e:p.1=k
  ·rw [if_pos e,if_pos (h1.symm.trans e)];exact⟨h1,h2,ry⟩
  ·rw [if_neg e,if_neg (fun z=>e (h1.trans z))];exact⟨h1,h2,h3⟩
theorem KT.put {H:Hp} {kvs:List (List Key×V)} {xs:List (List Key×Addr×Value)} (r:KT H kvs xs) (k:List Key) {b:Addr} {y:V} {u:Value} (hb:H b=some (.tup (k.map kV))) (ry:RelV y u) :
  KT H (putK kvs k y) (storedH xs k b u):=by
 have e:(kvs.any fun kv=>decide (kv.1=k))=(atKey xs k).isSome:=by
  rw [a8b,(r.val k).isSome_eq,Option.isSome_map]
 unfold putK storedH
 rw [e]
 by_cases q:(atKey xs k).isSome=true
 ·rw [if_pos q,if_pos q];exact r.repl k ry
 ·rw [if_neg q,if_neg q];exact Paired.snoc r ⟨rfl,hb,ry⟩
theorem KT.keeps {H H':Hp} {kvs:List (List Key×V)} {xs:List (List Key×Addr×Value)} (r:KT H kvs xs) (ht:∀ b ys,H b=some (.tup ys)->H' b=some (.tup ys)):KT H' kvs xs:=
 Paired.mapP r fun _ _ z=>⟨z.1,ht _ _ z.2.1,z.2.2⟩
section
variable {P:Program} {w:World} {H:Hp} {h:Heap} {a:Addr}
theorem b4Y {u:HO} (ok:HOk P w H h) (e:Rd H a u):ObjOk P w H h a u:=e.ok ok
theorem b4Z {kvs:List (Key×V)} (ok:HOk P w H h) (e:Rd H a (.dK kvs)):kvs.length≤sizeLine/\(a==sysModules)=false/\∃ vs,KV kvs vs/\h.DictOf (a1d P w) a vs:=
 show ObjOk P w H h a (.dK kvs) from b4Y ok e
theorem b40 {kvs:List (Key×V)} (ok:HOk P w H h) (e:H a=some (.dK kvs)):kvs.length≤sizeLine/\(a==sysModules)=false/\∃ vs,KV kvs vs/\h.DictOf (a1d P w) a vs:=b4Z ok (.inl e)
theorem b2r {ks:List Key} (ok:HOk P w H h) (e:H a=some (.tup (ks.map kV))):(tupleKind (a1d P w)).is h ks a:=by
 obtain⟨_,its,r,o,h1,h2,n,h3⟩:=(show ObjOk P w H h a (.tup (ks.map kV)) from ok a _ e)
 exact⟨o,its.toArray,n,h1,h2,h3,by simpa using a6E r⟩
theorem b7c {kvs:List (List Key×V)} (ok:HOk P w H h) (e:Rd H a (.dT kvs)):kvs.length≤sizeLine/\(a==sysModules)=false /\
  ∃ xs,KT H kvs xs/\h.DictOfH (tupleKind (a1d P w)) a xs:=by
 obtain⟨z,y,xs,r,o,es,ep,h1,h2,h3,h4,h5⟩:=(show ObjOk P w H h a (.dT kvs) from b4Y ok e)
 refine⟨z,y,xs,r,o,es,ep,h1,h2,h3,h4,fun x hx=>?_,h5⟩
 have all:∀ {l:List (List Key×V)} {m:List (List Key×Addr×Value)},KT H l m->∀ x∈m,(tupleKind (a1d P w)).is h x.1 x.2.1:=by
  intro l m q
  induction q with
  | nil=>intro x hx;exact nomatch hx
  | @cons p q ps qs hq t ih=>
   intro x hx
   rcases List.mem_cons.mp hx with e | hx
   ·subst e
    exact b2r ok (by rw [<- hq.1];exact hq.2.1)
   ·exact ih x hx
 exact all r x hx
end
def DGet (H:Hp) (a:Addr) (y:V) (r:Option V):Prop:=
 (∃ kvs k,Rd H a (.dK kvs)/\y=kV k/\r=valV kvs k)\/∃ kvs k b,Rd H a (.dT kvs)/\y=.ref b/\H b=some (.tup (k.map kV))/\r=valV kvs k
def DPut (H:Hp) (a:Addr) (y v:V) (H':Hp):Prop:=
 (∃ kvs k,H a=some (.dK kvs)/\y=kV k/\kvs.length<sizeLine/\H'=upd H a (.dK (putK kvs k v))) \/
 ∃ kvs k b,H a=some (.dT kvs)/\y=.ref b/\H b=some (.tup (k.map kV))/\kvs.length<sizeLine/\H'=upd H a (.dT (putK kvs k v))
theorem DGet.k {H:Hp} {a:Addr} {kvs:List (Key×V)} {k:Key} (e:H a=some (.dK kvs)):DGet H a (kV k) (valV kvs k):=.inl ⟨kvs,k,.inl e,rfl,rfl⟩
theorem DGet.t {H:Hp} {a b:Addr} {kvs:List (List Key×V)} {k:List Key} (e:H a=some (.dT kvs)) (eb:H b=some (.tup (k.map kV))):DGet H a (.ref b) (valV kvs k):=.inr ⟨kvs,k,b,.inl e,rfl,eb,rfl⟩
theorem DPut.k {H:Hp} {a:Addr} {kvs:List (Key×V)} {k:Key} {v:V} (e:H a=some (.dK kvs)) (hl:kvs.length<sizeLine):DPut H a (kV k) v (upd H a (.dK (putK kvs k v))):=.inl ⟨kvs,k,e,rfl,hl,rfl⟩
theorem DPut.t {H:Hp} {a b:Addr} {kvs:List (List Key×V)} {k:List Key} {v:V} (e:H a=some (.dT kvs)) (eb:H b=some (.tup (k.map kV))) (hl:kvs.length<sizeLine) :
  DPut H a (.ref b) v (upd H a (.dT (putK kvs k v))):=.inr ⟨kvs,k,b,e,rfl,eb,hl,rfl⟩
section
variable {X:Cx} {pins:List (Addr×Obj)} {σ:St} {H:Hp} {s:Shared} {a:Addr} {y v:V} {u r:Value} {o:Option V} {A:Around} {E:Value->Shared->Prop}
theorem Inv.big (I:Inv X pins σ H s):sysModules<s.heap.objs.size:=by
 have h:mainGlobals<s.heap.objs.size:=(I.mod.glob.keeps I.bk).lt
 exact Nat.lt_trans (by decide) h
theorem b3i {h':Heap} {t':Nat} {ob:HO} (I:Inv X pins σ H s) (mu:Mut (H a)) (hs:Heap.SameBut a s.heap h') (he:∃ q,h'.get? a=some q) (new:ObjOk X.prog X.w (upd H a ob) h' a ob) :
  Inv X pins σ (upd H a ob) { s with heap:=h',toks:=t' }:=
 I.write (x:=a) (e:=a) mu (.inl rfl) (fun b q hb z=>(hs.2 b hb).trans z) he new
theorem b41 {P:Program} {w:World} {H':Hp} {h':Heap} {kvs:List (Key×V)} {vs:List (Key×Value)} (z:kvs.length≤sizeLine) (hd:(a==sysModules)=false) (rel:KV kvs vs) (dd:h'.DictOf (a1d P w) a vs) :
  ObjOk P w H' h' a (.dK kvs):=⟨z,hd,vs,rel,dd⟩
end
section
variable {X:Cx} {pins:List (Addr×Obj)} {σ:St} {H:Hp} {s:Shared} {a:Addr} {kvs:List (Key×V)} {k:Key} {u:Value} {A:Around} {E:Value->Shared->Prop}
end
section
variable {X:Cx} {o i e value:Expr} {pos pos' tpos:Pos} {td ty tv:TE}
end
theorem b1x {P:Program} {w:World} {H:Hp} (h:Heap) (hb:sysModules<h.objs.size):ObjOk P w H (h.push { cls:=.type "dict",data:=.dict #[] }) h.objs.size (.dK []):=
 ⟨Nat.zero_le _,beq_eq_false_iff_ne.mpr (Ne.symm (Nat.ne_of_lt hb)),[],.nil,Heap.DictOf.new h⟩
def b42:TE:=fun _ H Q=>∀ p,H p=none->Q (.ref p) (upd H p (.dK []))
section
variable {X:Cx} {pos:Pos}
theorem b1y:PE X (.Dict [] [] pos) b42:=fun pins s σ H Q I h=>
 wpAny_Dict_empty ⟨.ref s.heap.objs.size,_,I.laid (a:=s.heap.objs.size) (o:=.dK []) (t':=s.toks) (fun _ _ q=>Heap.get?_push_of_some _ q) (Nat.le_refl _) (b1x s.heap I.big),rfl,h _ (I.hok.fresh (Nat.le_refl _))⟩
end
def b43 (kvs more:List (Key×V)):List (Key×V):=more.foldl (fun acc kv=>putK acc kv.1 kv.2) kvs
theorem KV.merge:∀ {more:List (Key×V)} {rs:List (Key×Value)} {kvs:List (Key×V)} {vs:List (Key×Value)},KV more rs->KV kvs vs->KV (b43 kvs more) (merged vs rs):=by
 intro more rs kvs vs r
 unfold KV at r
 induction r generalizing kvs vs with
 | nil=>intro q;exact q
 | @cons p q ps qs h t ih=>
  intro r0
  have e:KV (putK kvs p.1 p.2) (stored vs q.1 q.2):=by
   have:=r0.put p.1 h.2
   rw [<- h.1];exact this
  exact ih e
section
variable {X:Cx} {pins:List (Addr×Obj)} {σ:St} {H:Hp} {s:Shared} {a:Addr} {y d:V} {u r:Value} {o:Option V} {A:Around} {E:Value->Shared->Prop}
theorem b44 {Q:Value->Shared->Prop} (hu:A.units+1<cLine) (I:Inv X pins σ H s) (g:DGet H a y o) (ry:RelV y u) (rd:RelV d r) (h:∀ w' s',Inv X pins σ H s'->RelV (o.getD d) w'->Q w' s') :
  wpAny (model X.prog X.w) A (call (.builtin "dict.get") [.ref a,u,r]) Q E s:=by
 rcases g with ⟨kvs,k,e,ey,l⟩ | ⟨kvs,k,b,e,ey,eb,l⟩
 ·subst ey
  obtain⟨z,hd,vs,rel,dd⟩:=b4Z I.hok e
  refine call_meetsIn PySem.F.slot_dict_get dd.typeIs PySem.F.entry_dict_get (PySem.F.args_dict_get_3 _ _ _) (meets_dict_get_default (a1d X.prog X.w) a (b3h ry) hd r) ⟨_,dd.mapOf,h _ _ (I.tok _) ?_⟩
  rw [l]
  exact (rel.val k).getD rd
 ·subst ey
  cases (show u=Value.ref b from ry)
  obtain⟨z,hd,xs,rel,dd⟩:=b7c I.hok e
  refine call_meetsIn PySem.F.slot_dict_get dd.typeIs PySem.F.entry_dict_get (PySem.F.args_dict_get_3 _ _ _) (meetsH_dict_get_default (tupleKind (a1d X.prog X.w)) a b hd r) ⟨tupleKind_room_in1 hu,k,xs,b2r I.hok eb,dd,h _ _ (I.tok _) ?_⟩
  rw [l]
  exact (rel.val k).getD rd
end
section
variable {X:Cx} {o e f:Expr} {apos cpos:Pos} {td ty tx:TE}
end
section
variable {X:Cx} {pins:List (Addr×Obj)} {σ:St} {H:Hp} {s:Shared} {a:Addr} {kvs:List (Key×V)} {A:Around} {E:Value->Shared->Prop}
end
section
variable {X:Cx} {pins:List (Addr×Obj)} {σ:St} {H:Hp} {s:Shared} {a:Addr} {y:V} {u:Value} {A:Around} {E:Value->Shared->Prop}
end
end L2
namespace PySem
def a1v (env:Env):List (Str×NameKind)->List (Str×Addr)->List (Str×Addr)
 | [],cs=>cs
 | (n,k)::r,cs=>if (k==.free)=true then a1v env r ((n,(env.cells.lookup n).getD 0)::cs) else a1v env r cs
theorem a50 {scope:Scope} {env:Env} (h:∀ x∈scope.names,x.2=.free->∃ c,env.cells.lookup x.1=some c):closureFor scope env=pure (a1v env scope.names []):=by
 simp only [closureFor]
 suffices H:∀ (l:List (Str×NameKind)) (cs:List (Str×Addr)),(∀ x∈l,x.2=.free->∃ c,env.cells.lookup x.1=some c) ->
   (forIn l cs (fun (x:Str×NameKind) (r:List (Str×Addr))=>if (x.snd==NameKind.free)=true then do let a <- cellOf env x.fst;pure (ForInStep.yield ((x.fst,a)::r)) else pure (ForInStep.yield r)):Sem (List (Str×Addr)))=pure (a1v env l cs) by
  rw [H scope.names [] h];rfl
 intro l
 induction l with
 | nil=>intro cs _;rfl
 | cons x l ih=>
  intro cs hx
  obtain⟨n,k⟩:=x
  have ih':=fun cs=>ih cs fun y hy=>hx y (List.mem_cons_of_mem _ hy)
  rw [List.forIn_cons]
  by_cases hk:k=.free
  ·subst hk
   obtain⟨c,hc⟩:=hx (n,.free) List.mem_cons_self rfl
   have hcell:cellOf env n=pure c:=by unfold cellOf;rw [hc]
   dsimp only
   rw [if_pos (show (NameKind.free==NameKind.free)=true from rfl),hcell]
   have e:a1v env ((n,NameKind.free)::l) cs=a1v env l ((n,c)::cs):=by
    show (if (NameKind.free==NameKind.free)=true then _ else _)=_
    rw [if_pos (show (NameKind.free==NameKind.free)=true from rfl)];show a1v env l ((n,(List.lookup n env.cells).getD 0)::cs)=_;rw [show List.lookup n env.cells=some c from hc];rfl
   rw [e,<- ih' ((n,c)::cs)]
   rfl
  ·have hb:(k==NameKind.free)=false:=by simpa using hk
   have e:a1v env ((n,k)::l) cs=a1v env l cs:=by
    show (if (k==NameKind.free)=true then _ else _)=_
    rw [hb];rfl
   rw [e,<- ih' cs]
   dsimp only
   rw [hb,if_neg Bool.false_ne_true]
   rfl
theorem a2v {env:Env} {x:Str}:∀ (l:List (Str×NameKind)) (cs:List (Str×Addr)),(∀ y∈l,y.2=.free->∃ c,env.cells.lookup y.1=some c)->(∀ y c,cs.lookup y=some c->env.cells.lookup y=some c) ->
  ∀ c,(a1v env l cs).lookup x=some c->env.cells.lookup x=some c
 | [],cs,_,hc,c,h=>hc x c h
 | (n,k)::r,cs,hx,hc,c,h=>by
  have hr:=fun y hy=>hx y (List.mem_cons_of_mem _ hy)
  unfold a1v at h
  split at h
  ·rename_i hk
   have hk':k=.free:=by simpa using hk
   obtain⟨d,hd⟩:=hx (n,k) List.mem_cons_self hk'
   refine a2v r _ hr (fun y c' h'=>?_) c h
   rw [List.lookup_cons] at h'
   cases e:y==n with
   | true=>
    rw [e] at h'
    have e':y=n:=by simpa using e
    subst e'
    have hd':env.cells.lookup y=some d:=hd
    rw [hd'] at h' ⊢
    exact h'
   | false=>rw [e] at h';exact hc y c' h'
  ·exact a2v r cs hr hc c h
theorem a2w {env:Env} {x:Str}:∀ (l:List (Str×NameKind)) (cs:List (Str×Addr)) (c:Addr),cs.lookup x=some c->∃ c',(a1v env l cs).lookup x=some c'
 | [],cs,c,h=>⟨c,h⟩
 | (n,k)::r,cs,c,h=>by
  unfold a1v
  split
  ·cases e:x==n with
   | true=>exact a2w r _ _ (by rw [List.lookup_cons,e])
   | false=>exact a2w r _ c (by rw [List.lookup_cons,e];exact h)
  ·exact a2w r cs c h
theorem a25 {env:Env} {x:Str}:∀ (l:List (Str×NameKind)) (cs:List (Str×Addr)),(x,NameKind.free)∈l->∃ c,(a1v env l cs).lookup x=some c
 | [],cs,h=>by cases h
 | (n,k)::r,cs,h=>by
  unfold a1v
  rcases List.mem_cons.mp h with e | e
  ·cases e
   rw [if_pos (show (NameKind.free==NameKind.free)=true from rfl)]
   exact a2w r _ ((env.cells.lookup x).getD 0) (by rw [List.lookup_cons];simp)
  ·split
   ·exact a25 r _ e
   ·exact a25 r _ e
end PySem
namespace PySem
theorem a3h {env:Env} {x:Str}:∀ (names:List (Str×NameKind)),
  (names.map fun (n,k)=>if (k==NameKind.free&&env.scope.kind==.function&&env.kindOf n==some .cell) then (n,NameKind.cell) else (n,k)).lookup x =
   (names.lookup x).map fun k=>if (k==NameKind.free&&env.scope.kind==.function&&env.kindOf x==some .cell)=true then NameKind.cell else k
 | []=>rfl
 | (n,k)::r=>by
  have ih:=a3h (env:=env) (x:=x) r
  show List.lookup x ((if (k==NameKind.free&&env.scope.kind==.function&&env.kindOf n==some .cell)=true then (n,NameKind.cell) else (n,k))::_)=_
  cases hx:x==n with
  | true=>
   have e:x=n:=by simpa using hx
   subst e
   by_cases hc:(k==NameKind.free&&env.scope.kind==.function&&env.kindOf x==some .cell)=true
   ·rw [if_pos hc];simp only [List.lookup_cons,hx,Option.map_some,if_pos hc]
   ·rw [if_neg hc];simp only [List.lookup_cons,hx,Option.map_some,if_neg hc]
  | false=>
   by_cases hc:(k==NameKind.free&&env.scope.kind==.function&&env.kindOf n==some .cell)=true
   ·rw [if_pos hc];simp only [List.lookup_cons,hx];exact ih
   ·rw [if_neg hc];simp only [List.lookup_cons,hx];exact ih
theorem a3p {prog:Program} {w:World} {A:Around} {R:Result->Shared->Prop} {s:Shared} {elt target iter:Expr} {ifs:List Expr} {scope:Scope} {pos:Pos} {it acc:Value} {env:Env} (I:Nat->Shared->Prop)
  (turn:∀ n s,I n s->wpAny (model prog w) A (pyNext it) (fun r s₁=>match r with
   | none=>R (.ok .next) s₁
   | some v=>wpAny (model prog w) A (letOwnedTupleGo target it v) (fun _ s₁=>wpAny (model prog w) A (assign target env v) (fun _ s₂=>
     wpAny (model prog w) A (forIn ifs true fun c r=>if r=true then do let ok <- isTrue c env (eval c env);pure (ForInStep.yield ok) else pure (ForInStep.yield r)) (fun ok s₃=>
      if ok=true then wpAny (model prog w) A (eval elt env) (fun x s₄=>
       wpAny (model prog w) A (call (.builtin "list.append") [acc,x]) (fun _ s₅=>∃ m,m<n/\I m s₅) (notedBy (model prog w) A env fun e s'=>R (.error e) s') s₄) (notedBy (model prog w) A env fun e s'=>R (.error e) s') s₃
      else ∃ m,m<n/\I m s₃) (notedBy (model prog w) A env fun e s'=>R (.error e) s') s₂) (notedBy (model prog w) A env fun e s'=>R (.error e) s') s₁) (fun _ _=>False) s₁) (fun _ _=>False) s)
  (n:Nat) (h:I n s) :
  codeAny (model prog w) A (.compLoop (.ListComp elt [⟨target,iter,ifs,0⟩] scope pos) 0 it acc env) R s:=by
 have up:∀ {α:Type} {t:Sem α} {Q:α->Shared->Prop} {E:Value->Shared->Prop} {s:Shared},wpAny (model prog w) A t Q (fun _ _=>False) s->wpAny (model prog w) A t Q E s:=fun h=>wpAny_mono h (fun _ _ q=>q) fun _ _ f=>f.elim
 refine codeAny_loop rfl I (fun n s hI=>?_) n h
 show wpAny _ A ((compTurn (.ListComp elt [⟨target,iter,ifs,0⟩] scope pos) 0 it acc env).onRaise (fun x=>do noteFrame x env;theTreesLotGoes x)) _ _ s
 refine wpAny_noted ?_
 rw [compTurn_list]
 refine wpAny_bind (wpAny_standAt (wpAny_bind (wpAny_mono (turn n s hI) (fun r s₁ h₁=>?_) fun _ _ f=>f.elim)))
 cases r with
 | none=>exact wpAny_pure h₁
 | some v=>
  refine wpAny_bind (wpAny_mono h₁ (fun _ s₁ h₁=>?_) fun _ _ f=>f.elim)
  refine wpAny_bind (wpAny_mono h₁ (fun _ s₂ h₂=>wpAny_bind (wpAny_mono h₂ (fun ok s₃ h₃=>?_) fun _ _ f=>f)) fun _ _ f=>f)
  cases ok with
  | false=>exact wpAny_pure ⟨rfl,h₃⟩
  | true=>
   exact wpAny_bind (wpAny_bind (wpAny_mono h₃ (fun x s₄ h₄=>wpAny_bind (wpAny_mono h₄ (fun _ s₅ h₅=>wpAny_pure (wpAny_pure ⟨rfl,h₅⟩)) fun _ _ f=>f)) fun _ _ f=>f))
end PySem
namespace L2
open PySem PySem.Spec PyProof.Rows
def a3B (cap:List (Option Nat)) (σ:St):St:=cap.map fun o=>o.bind fun j=>(σ[j]?).join
def a2e:St->St->Prop
 | [],[]=>True
 | none::a,_::b=>a2e a b
 | some x::a,y::b=>y=some x/\a2e a b
 | _,_=>False
theorem a34:∀ {a b:St},a2e a b->a.length=b.length/\∀ (i:Nat) v,a[i]?=some (some v)->b[i]?=some (some v)
 | [],[],_=>⟨rfl,fun i v h=>by simp at h⟩
 | none::a,y::b,h=>by
  have ih:=a34 (a:=a) (b:=b) h
  refine⟨by simp [ih.1],fun i v e=>?_⟩
  cases i with
  | zero=>simp at e
  | succ i=>simpa using ih.2 i v (by simpa using e)
 | some x::a,y::b,h=>by
  obtain⟨e0,h⟩:=(show y=some x/\a2e a b from h)
  have ih:=a34 (a:=a) (b:=b) h
  refine⟨by simp [ih.1],fun i v e=>?_⟩
  cases i with
  | zero=>rw [e0];simpa using e
  | succ i=>simpa using ih.2 i v (by simpa using e)
 | [],_::_,h=>False.elim h
 | none::_,[],h=>False.elim h
 | some _::_,[],h=>False.elim h
theorem a2W:∀ a:St,a2e a a
 | []=>True.intro
 | none::a=>a2W a
 | some _::a=>⟨rfl,a2W a⟩
def capB (N:List Str) (so sc:Scope) (N':List Str) (cap:List (Option Nat)):Bool:=
 decide (sc.kind=.function)&&decide N'.Nodup&&decide (cap.length=N'.length)&&(sc.names.all fun y=>decide (y.2≠.cell)) &&
 (sc.names.all fun y=>decide (y.2=.local->sc.names.lookup y.1=some .local)) &&
 (sc.names.all fun y=>decide (y.2=.free->so.names.lookup y.1=some .cell\/so.names.lookup y.1=some .free)) &&
 ((N'.zip cap).all fun y=>match y.2 with | none=>true | some j=>decide (N[j]?=some y.1)&&decide (sc.names.lookup y.1=some .free))
structure CapOk (N:List Str) (so sc:Scope) (N':List Str) (cap:List (Option Nat)):Prop where
 kind:sc.kind=.function
 nd:N'.Nodup
 len:cap.length=N'.length
 nocell:∀ y∈sc.names,y.2≠.cell
 nms:∀ y∈sc.names,y.2=.local->sc.names.lookup y.1=some .local
 fre:∀ y∈sc.names,y.2=.free->so.names.lookup y.1=some .cell\/so.names.lookup y.1=some .free
 cap:∀ (i:Nat) x j,N'[i]?=some x->cap[i]?=some (some j)->N[j]?=some x/\sc.names.lookup x=some .free
theorem a9Q {N:List Str} {so sc:Scope} {N':List Str} {cap:List (Option Nat)} (h:capB N so sc N' cap=true):CapOk N so sc N' cap:=by
 unfold capB at h
 simp only [Bool.and_eq_true,decide_eq_true_eq,List.all_eq_true] at h
 obtain⟨⟨⟨⟨⟨⟨h1,h2⟩,h3⟩,h4⟩,h5⟩,h6⟩,h7⟩:=h
 refine⟨h1,h2,h3,h4,h5,h6,fun i x j e1 e2=>?_⟩
 have e3:(N'.zip cap)[i]?=some (x,some j):=by rw [List.getElem?_zip_eq_some];exact⟨e1,e2⟩
 have q:=h7 (x,some j) (List.mem_of_getElem? e3)
 simpa using q
end L2
namespace L2
open PySem PySem.Spec PyProof.Rows
structure Lk (fr:List Addr) (ex:Addr->Prop) (h h':Heap):Prop where
 keep:∀ b o,h.get? b=some o->b∉fr->¬ ex b->h'.get? b=some o
 slot:∀ b o,h.get? b=some o->¬ ex b->∃ sl,h'.get? b=some { o with slots:=sl }
 size:h.objs.size≤h'.objs.size
theorem Lk.refl {fr:List Addr} {ex:Addr->Prop} {h:Heap}:Lk fr ex h h:=⟨fun _ _ q _ _=>q,fun _ o q _=>⟨o.slots,q⟩,Nat.le_refl _⟩
theorem Lk.trans {fr:List Addr} {ex ex2:Addr->Prop} {h h1 h2:Heap} (a:Lk fr ex h h1) (b:Lk fr ex2 h1 h2) (i:∀ x,ex2 x->ex x\/h.objs.size≤x):Lk fr ex h h2:=by
 have n:∀ {x o},h.get? x=some o->¬ ex x->¬ ex2 x:=fun {x o} q n z=>by
  rcases i x z with z | z
  ·exact n z
  ·exact absurd (Heap.lt_size q) (Nat.not_lt.mpr z)
 refine⟨fun x o q f z=>b.keep x o (a.keep x o q f z) f (n q z),fun x o q z=>?_,Nat.le_trans a.size b.size⟩
 obtain⟨sl,e⟩:=a.slot x o q z
 obtain⟨sl2,e2⟩:=b.slot x _ e (n q z)
 exact⟨sl2,e2⟩
theorem Lk.funs {fr:List Addr} {ex:Addr->Prop} {h h' base:Heap} (k:Lk fr ex h h'):∀ {l:List Env},(∀ b∈frs l,¬ ex b)->h.FunFrames base l->h'.FunFrames base l
 | [],_,_=>True.intro
 | env::rest,hx,⟨hk,⟨L,o,hf,hn,ho,hd⟩,hr⟩=>by
  have hL:L∈frs (env::rest):=by show L∈(env::rest).filterMap (·.frame);rw [List.filterMap_cons,hf];exact .head _
  obtain⟨sl,e⟩:=k.slot L o ho (hx L hL)
  exact⟨hk,⟨L,_,hf,hn,e,hd⟩,k.funs (fun b hb=>hx b (by show b∈(env::rest).filterMap (·.frame);rw [List.filterMap_cons,hf];exact .tail _ hb)) hr⟩
def FlyT (e:Addr) (cls:Value) (T:Addr) (fl:Value) (h:Heap):Prop:=∃ oe vs oT ts,h.get? e=some oe/\(oe.cls=cls/\oe.dict=none)/\oe.data=.fields vs/\vs[1]?=some (.ref T)/\T≠e/\h.get? T=some oT/\oT.data=.fields ts/\ts[3]?=some fl
section
variable {M:Model} {A:Around} {E:Value->Shared->Prop} {s:Shared} {base:Heap} {env:Env} {outer:List Env} {L e T:Addr} {cls fl:Value} {Q:Unit->Shared->Prop}
theorem a5l (f:Array Value->Array Value) (o:Obj):(o.mapFields f).dict=o.dict:=by
 unfold Obj.mapFields
 split<;>rfl
theorem b2s {oe:Obj} {vs:Array Value} {head:Value} {hn:Bool} (hfr:A.frames=some (env::outer)) (hl:s.heap.FunFrames base (env::outer)) (hf:env.frame=some L) (he:s.heap.get? e=some oe) (hn0:oe.dict=none) (hd:oe.data=.fields vs) (hz:1<vs.size)
  (q:∀ h' T',Lk (frs (env::outer)) (·=e) s.heap h'->FlyT e oe.cls T' (rawInt L) h'->s.heap.objs.size≤T'->Q () { s with heap:=h' }) :
  wpAny M A (do let a <- frameOf env;let pl <- entryPlaceOf L hn;let b <- EntryCells.newEntry head a .none (rawInt L) .none pl;setField (.ref e) 1 b) Q E s:=by
 have nf:e∉frs (env::outer):=fun hm=>by
  obtain⟨_,ob,hob,no⟩:=hl.mem hm
  rw [he] at hob
  cases hob
  exact no vs hd
 refine wpAny_bind (wpAny_frameOf_fun hfr hl hf fun h1 k1=>wpAny_bind (wpAny_entryPlaceOf fun pl hpl=>?_))
 unfold EntryCells.newEntry
 unfold newFields
 refine wpAny_bind ?_
 refine wpAny_newObj_type ?_ (hpl.sizeOk5 _ _ _ _ _)
 generalize ht:([head,Value.ref L,.none,rawInt L,.none]++(if pl.isEmpty then List.replicate 6 Value.none else pl)).toArray=ts
 have z3:ts[3]?=some (rawInt L):=by rw [<- ht];simp
 have e1:h1.get? e=some oe:=(k1.2.1 e nf).trans he
 have lt:=Heap.lt_size e1
 have nT:h1.objs.size≠e:=Nat.ne_of_gt lt
 have e2:=Heap.get?_push_of_some (h:=h1) { cls:=.type "traceback",dict:=none,data:=.fields ts } e1
 have d3:=Obj.data_mapFields hd (·.setIfInBounds 1 (Value.ref h1.objs.size))
 have e3:=Heap.get?_update_self (Obj.mapFields (·.setIfInBounds 1 (Value.ref h1.objs.size))) e2 (Obj.isFreed_of_fields d3)
 have t3:=(Heap.get?_update_other (h1.push { cls:=.type "traceback",dict:=none,data:=.fields ts }) (Obj.mapFields (·.setIfInBounds 1 (Value.ref h1.objs.size))) (Ne.symm nT)).trans (Heap.get?_push_size h1 rfl)
 refine wpAny_setField e2 hd hz (q _ h1.objs.size ?_ ⟨_,_,_,_,e3,⟨Obj.cls_mapFields _ _,(a5l _ _).trans hn0⟩,d3,by simp [hz],nT,t3,rfl,z3⟩ (Nat.le_of_eq k1.1.symm))
 have kp:∀ b o,b≠e->h1.get? b=some o->((h1.push { cls:=.type "traceback",dict:=none,data:=.fields ts }).update e (Obj.mapFields (·.setIfInBounds 1 (Value.ref h1.objs.size)))).get? b=some o:=fun b o ne hb=>by
  rw [Heap.get?_update_other _ _ (Ne.symm ne)]
  exact Heap.get?_push_of_some (h:=h1) _ hb
 refine⟨fun b o hb hx ne=>kp b o ne ((k1.2.1 b hx).trans hb),fun b o hb ne=>?_,?_⟩
 ·obtain⟨sl,q1⟩:=k1.2.2 b o hb
  exact⟨sl,kp b _ ne q1⟩
 ·rw [Heap.size_update,<- k1.1]
  exact Nat.le_of_lt (by rw [size_push'];exact Nat.lt_succ_self _)
theorem a9R {x:Value} (hT:FlyT e cls T fl s.heap) (q:∀ h',(∀ fr,Lk fr (·=T) s.heap h')->FlyT e cls T x h'->Q () { s with heap:=h' }):wpAny M A (setField (.ref T) 3 x) Q E s:=by
 obtain⟨oe,vs,oT,ts,he,hc,hd,h1,nT,hT,dT,h3⟩:=hT
 have z3:=(Array.getElem?_eq_some_iff.mp h3).1
 refine wpAny_setField hT dT z3 (q _ (fun fr=>?_) ?_)
 all_goals have ot:∀ b,b≠T->(s.heap.update T (Obj.mapFields (·.setIfInBounds 3 x))).get? b=s.heap.get? b:=fun b hb=>Heap.get?_update_other _ _ (Ne.symm hb)
 all_goals have tt:=Heap.get?_update_self (Obj.mapFields (·.setIfInBounds 3 x)) hT (Obj.isFreed_of_fields (Obj.data_mapFields dT _))
 ·exact⟨fun b o hb _ n0=>(ot b n0).trans hb,fun b o hb n0=>⟨o.slots,(ot b n0).trans hb⟩,by rw [Heap.size_update];exact Nat.le_refl _⟩
 ·exact⟨oe,vs,_,_,(ot e (Ne.symm nT)).trans he,hc,hd,h1,nT,tt,Obj.data_mapFields dT _,by simp [z3]⟩
theorem FlyT.field {Q:Value->Shared->Prop} (h:FlyT e cls T fl s.heap) (q:Q (.ref T) s):wpAny M A (field (.ref e) 1) Q E s:=by
 obtain⟨_,_,_,_,he,_,hd,h1,_⟩:=h
 exact wpAny_field he hd h1 q
theorem FlyT.mark {Q:Value->Shared->Prop} (h:FlyT e cls T fl s.heap) (q:Q fl s):wpAny M A (PySem.field (.ref T) 3) Q E s:=by
 obtain⟨_,_,_,_,_,_,_,_,_,hT,dT,h3⟩:=h
 exact wpAny_field hT dT h3 q
theorem b1z {fo:Option Addr} (hT:FlyT e cls T fl s.heap) (q:∀ h',(∀ fr,Lk fr (·=T) s.heap h')->FlyT e cls T (fo.elim .none fun f=>rawInt f) h'->Q () { s with heap:=h' }):wpAny M A (setFlight (.ref e) fo) Q E s:=by
 unfold setFlight
 refine wpAny_bind (hT.field ?_)
 rw [if_pos (show (Value.ref T != .none)=true by simp)]
 exact a9R hT q
theorem b1A {oe:Obj} {vs:Array Value} (hfr:A.frames=some (env::outer)) (hl:s.heap.FunFrames base (env::outer)) (hf:env.frame=some L) (he:s.heap.get? e=some oe) (hn0:oe.dict=none) (hd:oe.data=.fields vs) (h1:vs[1]?=some .none)
  (q:∀ h' T',Lk (frs (env::outer)) (·=e) s.heap h'->FlyT e oe.cls T' (rawInt L) h'->s.heap.objs.size≤T'->Q () { s with heap:=h' }):wpAny M A (noteFrame (.ref e) env) Q E s:=by
 unfold noteFrame
 simp only [hf]
 refine wpAny_bind ?_
 refine wpAny_field he hd h1 ?_
 rw [if_neg (by decide)]
 exact b2s hfr hl hf he hn0 hd (Array.getElem?_eq_some_iff.mp h1).1 q
theorem b2t (hfr:A.frames=some (env::outer)) (hl:s.heap.FunFrames base (env::outer)) (hf:env.frame=some L) (hT:FlyT e cls T fl s.heap)
  (q:∀ h' T',Lk (frs (env::outer)) (fun b=>b=e\/b=T) s.heap h'->FlyT e cls T' (rawInt L) h'->T'=T\/s.heap.objs.size≤T'->Q () { s with heap:=h' }):wpAny M A (noteFrame (.ref e) env) Q E s:=by
 unfold noteFrame
 simp only [hf]
 refine wpAny_bind (hT.field ?_)
 rw [if_pos (show (Value.ref T != .none)=true by simp)]
 refine wpAny_bind (hT.mark ?_)
 by_cases c:(fl==rawInt L)=true
 ·rw [if_pos c]
  rw [show fl=rawInt L by simpa using c] at hT
  exact wpAny_pure (q s.heap T .refl hT (.inl rfl))
 ·rw [if_neg c]
  refine wpAny_bind (a9R hT fun h1 k1 f1=>?_)
  have hl1:h1.FunFrames base (env::outer):=(k1 []).funs (fun b hb z=>by
   obtain⟨_,ob,hob,no⟩:=hl.mem hb
   obtain⟨_,_,_,ts,_,_,_,_,_,hT',dT,_⟩:=hT
   rw [z,hT'] at hob
   cases hob
   exact no ts dT) hl
  obtain⟨oe,vs,oT,ts,he,hc,hd,h1',nT,hT',dT,h3⟩:=f1
  refine b2s (s:={ s with heap:=h1 }) hfr hl1 hf he hc.2 hd (Array.getElem?_eq_some_iff.mp h1').1 fun h' T' k f z=>q h' T' ?_ (hc.1▸f) (.inr (Nat.le_trans (k1 []).size z))
  have k1':Lk (frs (env::outer)) (fun b=>b=e\/b=T) s.heap h1:=⟨fun b o q f n=>(k1 _).keep b o q f fun z=>n (.inr z),fun b o q n=>(k1 []).slot b o q fun z=>n (.inr z),(k1 []).size⟩
  exact k1'.trans k fun x z=>.inl (.inl z)
theorem b1B {oe:Obj} {vs:Array Value} (hfr:A.frames=some (env::outer)) (hl:s.heap.FunFrames base (env::outer)) (hf:env.frame=some L) (he:s.heap.get? e=some oe) (hn0:oe.dict=none) (hd:oe.data=.fields vs) (h1:vs[1]?=some .none)
  (q:∀ h' T',Lk (frs (env::outer)) (·=e) s.heap h'->FlyT e oe.cls T' .none h'->s.heap.objs.size≤T'->Q () { s with heap:=h' }):wpAny M A (leaving env (.ref e)) Q E s:=
 wpAny_bind (b1A hfr hl hf he hn0 hd h1 fun _ T' k f z=>b1z f fun h2 k2 f2=>q h2 T' (k.trans (k2 _) fun x w=>.inr (by rw [w];exact z)) f2 z)
theorem b45 (hfr:A.frames=some (env::outer)) (hl:s.heap.FunFrames base (env::outer)) (hf:env.frame=some L) (hT:FlyT e cls T fl s.heap)
  (q:∀ h' T',Lk (frs (env::outer)) (fun b=>b=e\/b=T) s.heap h'->FlyT e cls T' .none h'->T'=T\/s.heap.objs.size≤T'->Q () { s with heap:=h' }):wpAny M A (leaving env (.ref e)) Q E s:=
 wpAny_bind (b2t hfr hl hf hT fun _ T' k f z=>b1z f fun h2 k2 f2=>q h2 T' (k.trans (k2 _) fun x w=>by
  rw [w]
  rcases z with z | z
  ·exact .inl (.inr z)
  ·exact .inr z) f2 z)
end
end L2
namespace L2
open PySem PySem.Spec PyProof.Rows
theorem Un.lk {fs fr ex0:List Addr} {ex:Addr->Prop} {H0 H:Hp} {h0 h h':Heap} (u:Un fs ex0 H0 H h0 h) (v:Lk fr ex h h') (hf:∀ b∈fr,b∈fs\/h0.get? b=none) (hx:∀ b,ex b->b∈ex0\/h0.get? b=none):Un fs ex0 H0 H h0 h':=by
 have nx:∀ {b o},h0.get? b=some o->b∉ex0->¬ ex b:=fun {b o} q n z=>by
  rcases hx b z with z | z
  ·exact n z
  ·rw [q] at z;cases z
 refine⟨fun b o q n hb n0=>?_,fun b o q n hb n0=>?_,u.free,fun b o q n0=>?_,u.tups,u.frzs,u.tbls⟩
 ·refine v.keep b o (u.keep b o q n hb n0) (fun z=>?_) (nx q n0)
  rcases hf b z with z | z
  ·exact hb z
  ·rw [q] at z;cases z
 ·obtain⟨sl,e1⟩:=u.slot b o q n hb n0
  obtain⟨sl2,e2⟩:=v.slot b _ e1 (nx q n0)
  exact⟨sl2,e2⟩
 ·obtain⟨o',e1⟩:=u.there b o q n0
  obtain⟨sl2,e2⟩:=v.slot b _ e1 (nx q n0)
  exact⟨_,e2⟩
theorem Un.gone {fs ex:List Addr} {H0 H:Hp} {h0 h:Heap} (u:Un fs ex H0 H h0 h) {b:Addr} (n:h.get? b=none):b∈ex\/h0.get? b=none:=by
 cases q:h0.get? b with
 | none=>exact .inr rfl
 | some o=>
  by_cases c:b∈ex
  ·exact .inl c
  ·obtain⟨o',e⟩:=u.there b o q c;rw [n] at e;cases e
theorem Un.gone0 {fs:List Addr} {H0 H:Hp} {h0 h:Heap} (u:Un fs [] H0 H h0 h) {b:Addr} (n:h.get? b=none):h0.get? b=none:=(u.gone n).resolve_left (by simp)
theorem ObjOk.is {P:Program} {w:World} {H:Hp} {h:Heap} {a:Addr} {o:HO} (x:ObjOk P w H h a o):∃ ob,h.get? a=some ob:=by
 cases o with
 | lst xs=>obtain⟨_,_,_,_,e⟩:=x;exact⟨_,e⟩
 | tup xs=>obtain⟨_,_,_,ob,e,_⟩:=x;exact⟨_,e⟩
 | dK kvs=>obtain⟨_,_,_,_,o,_,_,e,_⟩:=x;exact⟨_,e⟩
 | dT kvs=>obtain⟨_,_,_,_,o,_,_,e,_⟩:=x;exact⟨_,e⟩
 | set S n=>obtain⟨o,_,_,_,e,_⟩:=x;exact⟨_,e⟩
 | ins C dx fs=>obtain⟨_,_,_,e,_⟩:=x;exact⟨_,e⟩
 | own y=>obtain⟨_,e⟩:=x;exact⟨_,e⟩
 | xd fs=>obtain⟨_,⟨_,_,_,e,_⟩,_⟩:=x;exact⟨_,e⟩
 | rng lo hi=>obtain⟨_,_,_,e⟩:=x;exact⟨_,e⟩
 | frz ob u=>obtain⟨e,_⟩:=x;exact⟨_,e⟩
 | tbl ps=>exact⟨_,show h.get? a=some _ from x⟩
 | met f y=>exact⟨_,show h.get? a=some _ from x⟩
 | ext φ=>obtain⟨_,⟨_,e⟩,_⟩:=x;exact⟨_,e⟩
theorem HOk.gone {P:Program} {w:World} {H:Hp} {h:Heap} {a:Addr} (x:HOk P w H h) (n:h.get? a=none):H a=none:=by
 cases q:H a with
 | none=>rfl
 | some u=>obtain⟨ob,e⟩:=(x a u q).is;rw [n] at e;cases e
theorem HOk.lk {P:Program} {w:World} {fr:List Addr} {ex:Addr->Prop} {H:Hp} {h h':Heap} (x:HOk P w H h) (l:Lk fr ex h h') (hf:∀ b∈fr,H b=none) (he:∀ b,ex b->H b=none):HOk P w H h':=fun a o q=>
 (x a o q).stay (fun b u hb r=>by
  have tr:H b≠none:=by
   rcases hb with rfl | hb
   ·rw [q];simp
   ·rw [hb];simp
  exact l.keep b u r (fun z=>tr (hf b z)) fun z=>tr (he b z)) (fun _ q=>q) fun _ _ q=>q
structure Fly (N:Addr->Prop) (H:Hp) (fl:Value) (e:Addr) (cls:Value) (h:Heap):Prop where
 at_:∃ T,FlyT e cls T fl h/\N T/\H T=none
 old:N e
 free:H e=none
def CXx (P:Program) (w:World):CXT:=fun outer H s E ev s'=>∃ e C H',ev=.ref e/\s'.os=s.os/\AllBare s'.gens/\Un (frs outer) [] H H' s.heap s'.heap/\HOk P w H' s'.heap/\Fly (fun b=>s.heap.get? b=none) H' .none e (.ref C) s'.heap/\E (.ref C) none H'
structure TKs (H H':Hp):Prop where
 tup:∀ b xs,H b=some (.tup xs)->H' b=some (.tup xs)
 frz:∀ b o u,H b=some (.frz o u)->H' b=some (.frz o u)
def since (H:Hp) (E:XK):XK:=fun c d H'=>TKs H H'->E c d H'
structure Outs (X:Cx) (E:XK):Prop where
 xe:∀ ev s',wpAny (model X.prog X.w) X.A (leaving X.env ev) (fun _ s''=>CXx X.prog X.w X.outer X.H₀ X.s₀ E ev s'') (fun e' s''=>CXx X.prog X.w X.outer X.H₀ X.s₀ E e' s'') s'->X.xe ev s'
 stk:X.stack=X.env::X.outer
 frm:X.env.frame=some X.env.locals
 ex:X.ex=[]
theorem Outs.of {P:Program} {w:World} {K:Fg} {mg:Str->Option Value} {base:Heap} {N:List Str} {qual:Str} {scope:Scope} {f:Addr} {cd:Value} {A:Around} {outer:List Env} {s:Shared} {H:Hp} {E:XK}:Outs (cxOf (CXx P w) P w K mg base N qual scope f cd A outer s H E) E:=⟨fun _ _ h=>h,rfl,rfl,rfl⟩
section
variable {X:Cx} {E:XK} {pins:List (Addr×Obj)} {σ:St} {H:Hp} {s:Shared}
theorem Outs.frames (O:Outs X E) (I:Inv X pins σ H s):X.A.frames=some (X.env::X.outer):=by rw [<- O.stk];exact I.ok.frames
theorem Outs.sub (O:Outs X E) (I:Inv X pins σ H s):∀ b∈frs (X.env::X.outer),b∈X.fs\/X.s₀.heap.get? b=none:=fun b hb=>by
 rw [<- O.stk] at hb
 rcases List.mem_cons.mp (I.stkSub b hb) with z | z
 ·rw [z];exact .inr (Heap.get?_none_of_le I.ok.above)
 ·exact .inl z
theorem Outs.funs (O:Outs X E) (I:Inv X pins σ H s):s.heap.FunFrames X.base (X.env::X.outer):=by rw [<- O.stk];exact I.stack
theorem Outs.free (O:Outs X E) (I:Inv X pins σ H s):∀ b∈frs (X.env::X.outer),H b=none:=by rw [<- O.stk];exact I.stkFree
theorem Outs.base (O:Outs X E) (I:Inv X pins σ H s):Un X.fs [] X.H₀ H X.s₀.heap s.heap:=by have:=I.base;rw [O.ex] at this;exact this
theorem Outs.fin (O:Outs X E) (I:Inv X pins σ H s) {e C T:Addr} {ex:Addr->Prop} {h':Heap} (k:Lk (frs (X.env::X.outer)) ex s.heap h') (f:FlyT e (.ref C) T .none h') (hx:∀ b,ex b->X.s₀.heap.get? b=none/\H b=none) (he:ex e) (hT:ex T\/s.heap.objs.size≤T) (q:since X.H₀ E (.ref C) none H) :
  CXx X.prog X.w X.outer X.H₀ X.s₀ E (.ref e) { s with heap:=h' }:=
 ⟨e,C,H,rfl,I.os,I.bare,(O.base I).lk k (O.sub I) (fun b hb=>.inr (hx b hb).1),I.hok.lk k (O.free I) fun b hb=>(hx b hb).2,⟨⟨T,f,by
  rcases hT with z | z
  ·exact hx T z
  ·exact⟨Heap.get?_none_of_le (Nat.le_trans I.sz z),I.hok.fresh z⟩⟩,(hx e he).1,(hx e he).2⟩,q ⟨I.base.tups,I.base.frzs⟩⟩
theorem b1C (O:Outs X E) (I:Inv X pins σ H s) {h':Heap} {e C:Addr} {vs:List Value} (hm:Heap.MadeExcOf s.heap h' e (.ref C) vs) (q:since X.H₀ E (.ref C) none H):X.xe (.ref e) { s with heap:=h' }:=by
 obtain⟨t,he,nt,_⟩:=hm.there
 have I2:Inv X pins σ H { s with heap:=h' }:=I.kept (t':=s.toks) hm.keeps
 refine O.xe _ _ (b1B (base:=X.base) (O.frames I) (O.funs I2) O.frm he rfl rfl (by simp) fun h2 T l f z=>?_)
 exact O.fin I2 (ex:=(·=e)) l f (fun b hb=>by rw [hb];exact⟨(O.base I).gone0 hm.new,I.hok.gone hm.new⟩) rfl (.inr z) q
theorem a1f (O:Outs X E):a2V (CXx X.prog X.w) X (since X.H₀ E):=by
 intro pins σ H s ev s' I ⟨e,C,H',e1,os,bare,un,hok,⟨⟨T,f,q9,q10⟩,old,fe⟩,q⟩
 subst e1
 have I2:Inv X pins σ H' s':=I.call' (ch:=[]) os un hok bare fun _ z=>nomatch z
 refine O.xe _ _ (b45 (base:=X.base) (O.frames I) (O.funs I2) O.frm f fun h2 T' l f' z=>?_)
 refine O.fin I2 (ex:=fun b=>b=e\/b=T) l f' (fun b hb=>?_) (.inl rfl) (by
  rcases z with z | z
  ·exact .inl (.inr z)
  ·exact .inr z) q
 rcases hb with rfl | rfl
 ·exact⟨(O.base I).gone0 old,fe⟩
 ·exact⟨(O.base I).gone0 q9,q10⟩
end
end L2
namespace L2
open PySem PySem.Spec PyProof.Rows
def ExC (X:Cx) (E:XK) (C:Addr) (s:Shared) (H:Hp) (fp:List Addr) (ev:Value) (s':Shared):Prop:=
 ∃ e Cl H',ev=.ref e/\s'.os=s.os/\AllBare s'.gens/\Un (frs X.stack) fp H H' s.heap s'.heap/\HOk X.prog X.w H' s'.heap/\Fly (fun b=>b∈fp\/s.heap.get? b=none) H' .none e (.ref Cl) s'.heap/\(∃ m,s'.heap.Ns C m)/\H' C=none/\C≠e/\E (.ref Cl) none H'
def a51 (X:Cx) (EW:XK) (sc:Scope):Prop:=∀ (pins:List (Addr×Obj)) (σ:St) (H:Hp) (s:Shared) (C:Addr) (fp:List Addr) (use:Option (Value->Sem Unit)) (Fin:Value->Shared->Prop) (acc:Value),Inv X pins σ H s->(∀ b∈fp,FpOk X pins H b)->C=s.heap.objs.size ->
 ∀ ev s',ExC X EW C s H fp ev s'->notedBy (model X.prog X.w) X.A (compEnvC sc (a1v X.env sc.names []) C X.env) (fun e s''=>compPost (model X.prog X.w) X.A X.xe use Fin acc C (.error e) s'') ev s'
theorem a8c {X:Cx} {sc:Scope}:a51 X (fun _ _ _=>False) sc:=by
 rintro pins σ H s C fp use Fin acc _ _ _ ev s' ⟨_,_,_,_,_,_,_,_,_,_,_,_,q⟩
 exact q.elim
end L2
namespace L2
open PySem PySem.Spec PyProof.Rows
def cxC (X:Cx) (EW:XK) (N':List Str) (sc:Scope) (C:Addr) (s:Shared) (H:Hp) (fp:List Addr):Cx:=
 { X with N:=N',s₀:=s,H₀:=H,env:=compEnvC sc (a1v X.env sc.names []) C X.env,outer:=X.stack,stack:=X.stack,ex:=fp,fn:=fun _=>false,pn:=[],xe:=ExC X EW C s H fp }
def PIfs (X:Cx) (ifs:List Expr) (t:TT):Prop:=
 ∀ (pins:List (Addr×Obj)) (s:Shared) (σ:St) (H:Hp) (Q:Bool->Hp->Prop),Inv X pins σ H s->t σ H Q ->
  wpAny (model X.prog X.w) X.A (forIn ifs true fun c r=>if r=true then do let ok <- isTrue c X.env (eval c X.env);pure (ForInStep.yield ok) else pure (ForInStep.yield r)) (TP X pins σ Q) X.xe s
def tTT:TT:=fun _ H Q=>Q true H
theorem b1D {X:Cx}:PIfs X [] tTT:=fun _ _ _ H _ I h=>wpAny_tests_nil ⟨H,I,h⟩
theorem b1E {X:Cx} {c:Expr} {t:TT} (h:PT X c t):PIfs X [c] t:=fun pins s σ H Q I q=>wpAny_tests_one (h pins s σ H Q I q)
def LcB (J:It) (cap:List (Option Nat)) (g:TG) (tt:TT) (te:TE) (σ:St) (Q:VK) (D:Addr) (H1:Hp):Prop:=
 ∃ W:Nat->Nat->List V->Hp->Prop,(∃ m,W 0 m [] (upd H1 D (.lst [])))/\∀ i m ys H2,W i m ys H2 ->
  (J.stop i H2/\Q (.ref D) H2) \/
  (J.go i H2/\∃ N:List V->Hp->Prop,(∀ ys' H',N ys' H'->∃ m',m'<m/\W (i+1) m' ys' H')/\∀ x H',J.yld i H2 x H' ->
   g x (a3B cap σ) H' fun σ2 H3=>a2e (a3B cap σ) σ2/\tt σ2 H3 fun b H4=>if b=true then te σ2 H4 fun y H5=>∃ zs,H5 D=some (.lst zs)/\zs.length<sizeLine/\N (zs++[y]) (upd H5 D (.lst (zs++[y]))) else N ys H4)
def tLC (wi:TI) (cap:List (Option Nat)) (g:TG) (tt:TT) (te:TE):TE:=fun σ H Q=>wi σ H fun J H1=>∀ D,H1 D=none->LcB J cap g tt te σ Q D H1
structure CFree (X:Cx) (pins:List (Addr×Obj)) (H:Hp) (C:Addr):Prop where
 free:H C=none
 loc:C≠X.env.locals
 old:X.s₀.heap.objs.size≤C
 cell:∀ x c,X.env.cells.lookup x=some c->c≠C
 pin:∀ p∈X.pn++pins,p.1≠C
section
variable {X:Cx} {pins:List (Addr×Obj)} {σ:St} {H:Hp} {s:Shared} {N':List Str} {sc:Scope} {cap:List (Option Nat)} {C:Addr} {fp:List Addr} {EW:XK}
theorem a9S (I:Inv X pins σ H s) (ck:CapOk X.N X.env.scope sc N' cap):∀ x∈sc.names,x.2=.free->∃ c,X.env.cells.lookup x.1=some c:=fun x hx hf=>
 I.ok.has x.1 (ck.fre x hx hf)
theorem a40 {x:Str} (I:Inv X pins σ H s) (ck:CapOk X.N X.env.scope sc N' cap) {c:Addr} (h:(a1v X.env sc.names []).lookup x=some c):X.env.cells.lookup x=some c:=
 a2v sc.names [] (a9S I ck) (fun y c h=>by simp at h) c h
theorem a9T (env:Env) (x:Str):(compEnvC sc (a1v X.env sc.names []) C env).kindOf x=(sc.names.lookup x).map fun k=>if (k==NameKind.free&&env.scope.kind==.function&&env.kindOf x==some .cell)=true then NameKind.cell else k:=
 a3h sc.names
theorem a2f {l:List (Str×NameKind)} {x:Str} {k:NameKind} (h:l.lookup x=some k):(x,k)∈l:=PySem.mem_of_lookup h
theorem b7d (I:Inv X pins σ H s) (ck:CapOk X.N X.env.scope sc N' cap) (hf:∀ b∈fp,FpOk X pins H b) (hlt:∀ b∈fp,b<s.heap.objs.size) (hC:C=s.heap.objs.size):(cxC X EW N' sc C s H fp).Ok:=by
 have cl:∀ {x:Str} {c:Addr},(a1v X.env sc.names []).lookup x=some c->X.env.cells.lookup x=some c:=fun h=>a40 I ck h
 have cne:∀ {x:Str} {c:Addr},X.env.cells.lookup x=some c->c<s.heap.objs.size:=fun e=>by
  obtain⟨v,q⟩:=I.cell _ _ e
  exact q.lt
 refine⟨I.ok.mod,ck.kind,I.ok.glob,I.ok.blt,by rw [hC];exact Nat.le_refl _,fun x y c h1 h2=>I.ok.inj x y c (cl h1) (cl h2),fun x hx=>?_,fun x c h _=>(by cases h),I.ok.hd,I.ok.frames,.inl rfl,fun b hb=>⟨?_,fun x c h=>?_⟩,I.bs,Nat.le_trans I.ok.bsz I.sz,fun b o e hb=>?_,fun b hb hz=>?_,I.stack,I.stkFree⟩
 ·have hx':(sc.names.lookup x).map (fun k=>if (k==NameKind.free&&X.env.scope.kind==.function&&X.env.kindOf x==some .cell)=true then NameKind.cell else k)=some .cell \/
    (sc.names.lookup x).map (fun k=>if (k==NameKind.free&&X.env.scope.kind==.function&&X.env.kindOf x==some .cell)=true then NameKind.cell else k)=some .free:=by
   rw [<- a9T (X:=X) (C:=C) X.env x]
   exact hx
  cases e:sc.names.lookup x with
  | none=>rw [e] at hx';rcases hx' with z | z<;>cases z
  | some k=>
   have hm:=a2f e
   have hk:k=.free:=by
    rw [e] at hx'
    by_cases hk:k=.free
    ·exact hk
    ·have hb:(k==NameKind.free)=false:=by simpa using hk
     simp only [Option.map_some,hb,Bool.false_and,Bool.false_eq_true,if_false,Option.some.injEq] at hx'
     rcases hx' with z | z
     ·exact absurd z (ck.nocell _ hm)
     ·exact absurd z hk
   subst hk
   exact a25 sc.names [] hm
 ·show b≠C
  rw [hC]
  exact Nat.ne_of_lt (hlt b hb)
 ·exact (hf b hb).2.2.2.2.1 x c (cl h)
 ·obtain⟨_,_,_,z,_⟩:=hf b hb
  rcases z with z | z
  ·exact I.ok.noex b o e z
  ·exact absurd (Nat.lt_of_lt_of_le (Heap.lt_size e) (Nat.le_trans I.ok.bsz z)) (Nat.lt_irrefl _)
 ·rcases List.mem_cons.mp (I.stkSub b hz) with z | z
  ·exact (hf b hb).2.1 z
  ·exact (hf b hb).2.2.1 z
theorem b46 {h₁:Heap} {m:Str->Option Value} {t':Nat} (I:Inv X pins σ H s) (ck:CapOk X.N X.env.scope sc N' cap) (hf:∀ b∈fp,FpOk X pins H b) (hlt:∀ b∈fp,b<s.heap.objs.size) (hC:C=s.heap.objs.size)
  (hn:h₁.Ns C m) (hk:∀ b o,s.heap.get? b=some o->h₁.get? b=some o):Inv (cxC X EW N' sc C s H fp) [] (a3B cap σ) H { s with heap:=h₁,toks:=t' }:=by
 refine⟨b7d I ck hf hlt hC,rfl,I.bare,Un.kept hk,⟨m,hn,fun i x v e1 e2 e3=>?_⟩,fun x c h=>?_,?_,fun x c h=>I.freeC x c (a40 I ck h),fun p hp=>absurd (show p∈([]:List (Addr×Obj)) from hp) (by simp),I.hok.kept hk,?_⟩
 ·have e1':N'[i]?=some x:=e1
  unfold a3B at e2
  rw [List.getElem?_map] at e2
  cases ec:cap[i]? with
  | none=>rw [ec] at e2;cases e2
  | some o=>
   rw [ec] at e2
   cases o with
   | none=>simp at e2
   | some j=>
    have e2':(σ[j]?).join=some v:=by simpa using e2
    have e2'':σ[j]?=some (some v):=by
     cases q:σ[j]? with
     | none=>rw [q] at e2';cases e2'
     | some w=>rw [q] at e2';rw [show w=some v from e2']
    obtain⟨a1,a2⟩:=ck.cap i x j e1' ec
    have hfr:=ck.fre (x,.free) (a2f a2) rfl
    obtain⟨m0,_,hl⟩:=I.loc
    obtain⟨u,ru,lk⟩:=hl j x v a1 e2'' (.inr hfr)
    refine⟨u,ru,.inr ⟨?_,?_⟩⟩
    ·show (compEnvC sc (a1v X.env sc.names []) C X.env).kindOf x=some .cell\/(compEnvC sc (a1v X.env sc.names []) C X.env).kindOf x=some .free
     rw [a9T,a2]
     simp only [Option.map_some,beq_self_eq_true,Bool.true_and]
     by_cases hc:(X.env.scope.kind==ScopeKind.function&&X.env.kindOf x==some NameKind.cell)=true
     ·rw [if_pos hc];exact .inl rfl
     ·rw [if_neg hc];exact .inr rfl
    ·obtain⟨c',hc'⟩:=a25 (env:=X.env) sc.names [] (a2f a2)
     have hX:=a40 I ck hc'
     rcases lk with ⟨k,_⟩ | ⟨_,c,ec',z⟩
     ·have k':X.env.scope.names.lookup x=some .local:=k
      have hfr':X.env.scope.names.lookup x=some .cell\/X.env.scope.names.lookup x=some .free:=hfr
      rw [k'] at hfr'
      rcases hfr' with q | q<;>cases q
     ·rw [hX] at ec'
      cases ec'
      obtain⟨oc,ho,hd⟩:=z
      exact⟨c',hc',oc,hk _ _ ho,hd⟩
 ·obtain⟨v,oc,ho,hd⟩:=I.cell x c (a40 I ck h)
  exact⟨v,oc,hk _ _ ho,hd⟩
 ·show H C=none
  rw [hC]
  exact I.hok.fresh (Nat.le_refl _)
 ·show (a3B cap σ).length=N'.length
  unfold a3B
  rw [List.length_map]
  exact ck.len
theorem b3j {s':Shared} {σ':St} {H':Hp} {pins':List (Addr×Obj)} (I:Inv X pins σ H s) (hf:∀ b∈fp,FpOk X pins H b) (J:Inv (cxC X EW N' sc C s H fp) pins' σ' H' s'):Inv X pins σ H' s':=
 I.call' (ch:=fp) J.os J.base J.hok J.bare fun b hb=>⟨(hf b hb).2.2.2.1,(hf b hb).2.1,(hf b hb).2.2.2.2.1,(hf b hb).2.2.2.2.2⟩
theorem b1F {s':Shared} {σ':St} {H':Hp} {pins':List (Addr×Obj)} (I:Inv X pins σ H s) (hC:C=s.heap.objs.size) (J:Inv (cxC X EW N' sc C s H fp) pins' σ' H' s'):CFree X pins H' C:=by
 refine⟨J.free,by rw [hC];exact Nat.ne_of_gt I.lt,by rw [hC];exact I.sz,fun x c e z=>?_,fun p hp z=>?_⟩
 ·obtain⟨v,q⟩:=I.cell x c e
  exact absurd q.lt (by rw [z,hC];exact Nat.lt_irrefl _)
 ·exact absurd (Heap.lt_size (I.pin p hp).1) (by rw [z,hC];exact Nat.lt_irrefl _)
theorem CFree.after {h':Heap} {t':Nat} (F:CFree X pins H C) (I:Inv X pins σ H s) (k:∀ b o,b≠C->s.heap.get? b=some o->h'.get? b=some o):Inv X pins σ H { s with heap:=h',toks:=t' }:=
 I.turned k F.free F.loc (.inr F.old) F.cell F.pin
end
section
variable {X:Cx} {elt tg iter:Expr} {ifs:List Expr} {sc:Scope} {pos:Pos} {wi:TI} {g:TG} {tt:TT} {te:TE} {N':List Str} {cap:List (Option Nat)} {EW:XK}
theorem a9U (hc:X.calm=true) (hE:a51 X EW sc) (ck:CapOk X.N X.env.scope sc N' cap) (hi:PI X tg iter wi)
  (hg:∀ C s H fp,PG (cxC X EW N' sc C s H fp) tg g) (ht:∀ C s H fp,PIfs (cxC X EW N' sc C s H fp) ifs tt) (he:∀ C s H fp,PE (cxC X EW N' sc C s H fp) elt te)
  (hs:∀ x,foldedSetIterable iter X.env x=pure x) {use:Option (Value->Sem Unit)} {Fin:Value->Shared->Prop} {pos':Pos}
  {pins:List (Addr×Obj)} {s:Shared} {σ:St} {H:Hp} {Q:VK} (I:Inv X pins σ H s) (h:tLC wi cap g tt te σ H Q)
  (fin:∀ D s' C m H',Inv X pins σ H' s'->Q (.ref D) H'->s'.heap.Ns C m->CFree X pins H' C->compPost (model X.prog X.w) X.A X.xe use Fin (.ref D) C (.ok .next) s') :
  wpAny (model X.prog X.w) X.A (comprehension (.ListComp elt [⟨tg,iter,ifs,0⟩] sc pos) sc X.env pos' (newList []) false (eval iter X.env) use) Fin X.xe s:=by
 refine wpAny_comprehension_free (use:=use) rfl hs (a50 (a9S I ck)) ck.kind ck.nms ?_
 refine thn (hi pins s σ H _ I h) fun v s1 h1=>thn h1 fun itv s2 h2=>?_
 obtain⟨it,fp,tn,J,H2,e,I2,T,st2,f2,h2⟩:=h2
 subst e
 have hD:H2 s2.heap.objs.size=none:=I2.hok.fresh (Nat.le_refl _)
 obtain⟨W,⟨m0,w0⟩,turn⟩:=h2 s2.heap.objs.size hD
 refine wpAny_newObj_type ?_
 have I3:Inv X pins σ (upd H2 s2.heap.objs.size (.lst [])) { s2 with heap:=s2.heap.push { cls:=.type "list",data:=.seq ([]:List Value).toArray } }:=I2.lnew (its:=[]) (ys:=[]) (t':=s2.toks) .nil (Nat.zero_le _)
 generalize hs3:({ s2 with heap:=s2.heap.push { cls:=.type "list",data:=.seq ([]:List Value).toArray } }:Shared)=s3 at I3
 generalize hH3:upd H2 s2.heap.objs.size (.lst [])=H3 at I3 w0
 have hlt2:∀ b∈fp,b<s2.heap.objs.size:=fun b hb=>by
  obtain⟨o,e,_⟩:=T.obj _ _ st2 b hb
  exact Heap.lt_size e
 have sz3:s3.heap.objs.size=s2.heap.objs.size+1:=by rw [<- hs3];exact Heap.size_push _ _
 have hlt3:∀ b∈fp,b<s3.heap.objs.size:=fun b hb=>by rw [sz3];exact Nat.lt_succ_of_lt (hlt2 b hb)
 have f3:∀ b∈fp,FpOk X pins H3 b:=fun b hb=>by
  refine⟨?_,(f2 b hb).2⟩
  rw [<- hH3,a1c (Nat.ne_of_lt (hlt2 b hb))]
  exact (f2 b hb).1
 have st3:tn 0 s3.heap:=T.keep _ _ _ st2 fun b _ o e=>by rw [<- hs3];exact Heap.get?_push_of_some _ e
 refine wpAny_newFunctionEnv ck.nocell (by intro y hy;simp at hy) (fun h₁ hns₁ hsb₁=>?_) ck.kind
 have hk:∀ b o,s3.heap.get? b=some o->h₁.get? b=some o:=fun b o e=>hsb₁.extBut b o (Nat.ne_of_lt (Heap.lt_size e)) (Heap.get?_push_of_some _ e)
 have I4:=b46 (EW:=EW) (C:=s3.heap.objs.size) (t':=s3.toks+([]:List (Str×Value)).length) I3 ck f3 hlt3 rfl hns₁ hk
 generalize hs4:({ s3 with heap:=h₁,toks:=s3.toks+([]:List (Str×Value)).length }:Shared)=s4 at I4 ⊢
 have st4:tn 0 s4.heap:=T.keep _ _ _ st3 fun b _ o e=>by rw [<- hs4];exact hk b o e
 have stat:∀ {H':Hp} {pins':List (Addr×Obj)},(∀ p∈pins',p.1∉fp)->(∀ b∈fp,H' b=none)->∀ b∈fp,FpOk (cxC X EW N' sc s3.heap.objs.size s3 H3 fp) pins' H' b:=fun {H' pins'} hp hn b hb=>
  ⟨hn b hb,Nat.ne_of_lt (hlt3 b hb),fun z=>by
   rcases List.mem_cons.mp (I3.stkSub b z) with z | z
   ·exact (f3 b hb).2.1 z
   ·exact (f3 b hb).2.2.1 z,.inl hb,fun x c e=>(f3 b hb).2.2.2.2.1 x c (a40 I3 ck e),fun p hp' z=>hp p hp' (by rw [z];exact hb)⟩
 have hx:=hE pins σ H3 s3 s3.heap.objs.size fp use Fin (.ref s2.heap.objs.size) I3 f3 rfl
 have loop:codeAny (model X.prog X.w) X.A (.compLoop (.ListComp elt [⟨tg,iter,ifs,0⟩] sc pos) 0 (.ref it) (.ref s2.heap.objs.size) (compEnvC sc (a1v X.env sc.names []) s3.heap.objs.size X.env))
   (compPost (model X.prog X.w) X.A X.xe use Fin (.ref s2.heap.objs.size) s3.heap.objs.size) s4:=by
  refine a3p (fun n s'=>∃ i ys σ' H',Inv (cxC X EW N' sc s3.heap.objs.size s3 H3 fp) [] σ' H' s'/\a2e (a3B cap σ) σ'/\tn i s'.heap/\(∀ b∈fp,H' b=none)/\W i n ys H') ?_ m0
   ⟨0,[],a3B cap σ,H3,I4,a2W _,st4,fun b hb=>(f3 b hb).1,w0⟩
  rintro n s5 ⟨i,ys,σ5,H5,I5,k5,st5,fr5,w5⟩
  have kk:=a34 k5
  have I5:=I5.weak (σ':=a3B cap σ) kk.1 kk.2
  rcases turn i n ys H5 w5 with ⟨stop,q⟩ | ⟨go,N,hN,step⟩
  ·refine thn (T.done (cxC X EW N' sc s3.heap.objs.size s3 H3 fp) rfl rfl rfl hc i [] s5 _ H5 _ I5 (stat (fun p hp=>by cases hp) fr5) st5 stop) fun r s6 ⟨hr,I6⟩=>?_
   subst hr
   obtain⟨m6,n6,_⟩:=I6.loc
   exact fin _ s6 _ m6 H5 (b3j I3 f3 I6) q n6 (b1F I3 rfl I6)
  ·refine thn (T.item (cxC X EW N' sc s3.heap.objs.size s3 H3 fp) rfl rfl rfl hc i [] s5 _ H5 _ I5 (stat (fun p hp=>by cases hp) fr5) st5 go) fun r s6 ⟨u,hr,h6⟩=>?_
   subst hr
   refine thn h6 fun _ s7 ⟨x,H7,I7,r7,y7,st7,fr7⟩=>?_
   have I7':=I7.pinned (stat (fun p hp=>by cases hp) fr7) (T.obj _ _ st7)
   have again:∀ {σ9:St} {H9:Hp} {s9:Shared} {ys':List V},Inv (cxC X EW N' sc s3.heap.objs.size s3 H3 fp) ([]++a6w fp s7.heap) σ9 H9 s9->a2e (a3B cap σ) σ9->N ys' H9 ->
     ∃ m,m<n/\∃ i ys σ' H',Inv (cxC X EW N' sc s3.heap.objs.size s3 H3 fp) [] σ' H' s9/\a2e (a3B cap σ) σ'/\tn i s9.heap/\(∀ b∈fp,H' b=none)/\W i m ys H':=fun {σ9 H9 s9 ys'} I9 k9 n9=>by
    obtain⟨m',hm,w9⟩:=hN ys' H9 n9
    refine⟨m',hm,i+1,ys',σ9,H9,I9.unpinned,k9,T.keep _ _ _ st7 fun b hb o e=>(I9.pin (b,o) (List.mem_append_right _ (List.mem_append_right _ (a24 hb e)))).1,fun b hb=>?_,w9⟩
    obtain⟨o,e,d⟩:=T.obj _ _ st7 b hb
    exact (I9.pin (b,o) (List.mem_append_right _ (List.mem_append_right _ (a24 hb e)))).2.1
   refine wpAny_mono (hg _ _ _ _ _ s7 _ H7 x u _ I7' r7 (step x H7 y7)) (fun _ s8 ⟨σ8,H8,I8,k8,q8⟩=>?_) hx
   refine wpAny_mono (ht _ _ _ _ _ s8 σ8 H8 _ I8 q8) (fun b s9 ⟨H9,I9,q9⟩=>?_) hx
   cases b with
   | false=>
    rw [if_neg Bool.false_ne_true] at q9 ⊢
    exact again I9 k8 q9
   | true=>
    rw [if_pos rfl] at q9 ⊢
    refine wpAny_mono (he _ _ _ _ _ s9 σ8 H9 _ I9 q9) (fun y s10 ⟨vy,H10,I10,r10,zs,hacc,hsz,q10⟩=>?_) hx
    refine wpAny_mono (a6C (X:=cxC X EW N' sc s3.heap.objs.size s3 H3 fp) _ s10 σ8 H10 (.ref s2.heap.objs.size) [vy] (.ref s2.heap.objs.size) [y] (fun _ H'=>N (zs++[vy]) H') I10 rfl (.cons r10 .nil) ⟨_,zs,vy,rfl,rfl,hacc,hsz,q10⟩) (fun _ s11 ⟨_,H11,I11,_,q11⟩=>?_) hx
    exact again I11 k8 q11
 exact codeAny_compStart_list loop (T.self _ 0 _ _ _ st4 loop)
theorem b7e {N₀:List Str} {so:Scope} (hc:X.calm=true) (hE:a51 X EW sc) (hNN:X.N=N₀) (hso:X.env.scope=so) (ck:capB N₀ so sc N' cap=true) (hi:PI X tg iter wi)
  (hg:∀ C s H fp,PG (cxC X EW N' sc C s H fp) tg g) (ht:∀ C s H fp,PIfs (cxC X EW N' sc C s H fp) ifs tt) (he:∀ C s H fp,PE (cxC X EW N' sc C s H fp) elt te)
  (hs:∀ x,foldedSetIterable iter X.env x=pure x:=by intro _;rfl):PE X (.ListComp elt [⟨tg,iter,ifs,0⟩] sc pos) (tLC wi cap g tt te):=by
 intro pins s σ H Q I h
 rw [eval_ListComp]
 subst hNN hso
 refine a9U hc hE (a9Q ck) hi hg ht he hs (use:=none) I h fun D s' C m H' I' q hn F=>?_
 exact⟨m,hn,fun h' hs'=>⟨.ref D,H',F.after (t':=s'.toks) I' (fun b o hb e=>hs'.extBut b o hb e),rfl,q⟩⟩
theorem b1G {N₀:List Str} {so:Scope} {i:Nat} {x:Str} {pos' spos:Pos} (hN:X.N.Nodup) (hx:X.N[i]?=some x) (hl:X.env.scope.names.lookup x=some .local) (hc:X.calm=true) (hE:a51 X EW sc) (hNN:X.N=N₀) (hso:X.env.scope=so) (ck:capB N₀ so sc N' cap=true) (hi:PI X tg iter wi)
  (hg:∀ C s H fp,PG (cxC X EW N' sc C s H fp) tg g) (ht:∀ C s H fp,PIfs (cxC X EW N' sc C s H fp) ifs tt) (he:∀ C s H fp,PE (cxC X EW N' sc C s H fp) elt te)
  (hsw:swapsWith (.ListComp elt [⟨tg,iter,ifs,0⟩] sc pos) (some (.Name x pos')) spos.line X.env=pure true:=by rfl)
  (hs:∀ x,foldedSetIterable iter X.env x=pure x:=by intro _;rfl):PS X (.Assign [.Name x pos'] (.ListComp elt [⟨tg,iter,ifs,0⟩] sc pos) spos) (tAsg (tLC wi cap g tt te) (a9q i)):=by
 subst hNN hso
 intro pins s σ H D I h
 rw [exec_Assign_Name_used _ _ _ _ hsw]
 refine wpAny_bind (wpAny_standAt (wpAny_bind ?_))
 show wpAny _ X.A (do let _ <- comprehension (.ListComp elt [⟨tg,iter,ifs,0⟩] sc pos) sc X.env _ (newList []) false (eval iter X.env) (some (assign (.Name x pos') X.env))) _ _ s
 refine wpAny_bind (wpAny_mono (a9U hc hE (a9Q ck) hi hg ht he hs (use:=some (assign (.Name x pos') X.env)) (Fin:=fun _ s'=>SP X pins D .next s') I h fun d s' C m H' I' q hn F=>?_) (fun _ s' hq=>wpAny_pure (wpAny_pure hq)) fun _ _ e=>e)
 show wpAny _ _ (assign (.Name x pos') X.env (.ref d)) _ _ s'
 refine wpAny_assign_Name (a6u I' hN hx (.inl hl) (v:=.ref d) rfl (fun s'' I'' hd=>?_) (.inr hl))
 obtain⟨a,hsb,ha⟩:=hd
 have hCa:C≠a:=by
  rcases ha with z | z
  ·rw [z];exact F.loc
  ·exact Ne.symm (F.cell _ _ z)
 exact⟨m,hn.sameBut hsb hCa,fun h' hs'=>⟨_,H',F.after (t':=s''.toks) I'' (fun b o hb e=>hs'.extBut b o hb e),q⟩⟩
end
end L2
namespace L2
open PySem PySem.Spec PyProof.Rows
section
variable {X:Cx} {st:Stmt} {rest:List Stmt} {t u:TS} {e:Expr} {te:TE} {tt:TT}
end
end L2
namespace L2
open PySem PySem.Spec PyProof.Rows
mutual
def DV (H:Hp):PyData->V->Prop
 | .none,x=>x=.non
 | .bool b,x=>x=.bl b
 | .int i,x=>x=.int i
 | .str s,x=>x=.str s
 | .list ds,x=>∃ a vs,x=.ref a/\H a=some (.lst vs)/\DVs H ds vs
 | .tuple ds,x=>∃ a vs,x=.ref a/\H a=some (.tup vs)/\DVs H ds vs
 | .dict _,_=>False
def DVs (H:Hp):List PyData->List V->Prop
 | [],vs=>vs=[]
 | d::ds,vs=>∃ v r,vs=v::r/\DV H d v/\DVs H ds r
end
mutual
theorem DV.reads {P:Program} {w:World} {H:Hp} {h:Heap} (ok:HOk P w H h):∀ {d:PyData} {x:V} {u:Value},DV H d x->RelV x u->∃ as,Reads h u d as
 | .none,x,u,q,r=>by
  unfold DV at q;subst q
  cases (show u=Value.none from r);exact⟨_,.none⟩
 | .bool b,x,u,q,r=>by
  unfold DV at q;subst q
  cases (show u=Value.bool b from r);exact⟨_,.bool b⟩
 | .int i,x,u,q,r=>by
  unfold DV at q;subst q
  obtain⟨t,e⟩:=(show ∃ t,u=Value.int i t from r);subst e;exact⟨_,.int i t⟩
 | .str s,x,u,q,r=>by
  unfold DV at q;subst q
  obtain⟨t,e⟩:=(show ∃ t,u=Value.str s t from r);subst e;exact⟨_,.str s t⟩
 | .list ds,x,u,q,r=>by
  unfold DV at q
  obtain⟨a,vs,e,ha,q⟩:=q
  subst e
  cases (show u=Value.ref a from r)
  obtain⟨_,its,n,rv,e⟩:=ok a _ ha
  obtain⟨as,rd⟩:=DVs.reads ok q rv
  exact⟨_,.list e rfl rfl (by simpa using rd)⟩
 | .tuple ds,x,u,q,r=>by
  unfold DV at q
  obtain⟨a,vs,e,ha,q⟩:=q
  subst e
  cases (show u=Value.ref a from r)
  obtain⟨_,its,rv,o,e,c,n,d⟩:=ok a _ ha
  obtain⟨as,rd⟩:=DVs.reads ok q rv
  exact⟨_,.tuple e c d (by simpa using rd)⟩
 | .dict _,x,u,q,r=>by unfold DV at q;exact q.elim
theorem DVs.reads {P:Program} {w:World} {H:Hp} {h:Heap} (ok:HOk P w H h):∀ {ds:List PyData} {vs:List V} {us:List Value},DVs H ds vs->Vals vs us->∃ as,ReadsAll h us ds as
 | [],vs,us,q,r=>by
  unfold DVs at q;subst q
  cases r
  exact⟨_,.nil⟩
 | d::ds,vs,us,q,r=>by
  unfold DVs at q
  obtain⟨v,rr,e,q1,q2⟩:=q
  subst e
  cases r with
  | cons r1 r2=>
   obtain⟨as,h1⟩:=DV.reads ok q1 r1
   obtain⟨bs,h2⟩:=DVs.reads ok q2 r2
   exact⟨_,.cons h1 h2⟩
end
def rEqD:R2:=fun x y H Q=>∃ d e,DV H d x/\DV H e y/\SeqAt.shaped d=true/\SeqAt.shaped e=true/\Q (.bl (PyData.eqv d e)) H
def rNeD:R2:=fun x y H Q=>∃ d e,DV H d x/\DV H e y/\SeqAt.shaped d=true/\SeqAt.shaped e=true/\Q (.bl (!PyData.eqv d e)) H
section
variable {X:Cx}
theorem b2u (hu:X.A.units+66<cLine):OpR X (compareOp .Eq) rEqD:=by
 intro pins s σ H x y v u Q I rx ry h
 obtain⟨d,e,h1,h2,h3,h4,q⟩:=h
 obtain⟨as,r1⟩:=h1.reads I.hok rx
 obtain⟨bs,r2⟩:=h2.reads I.hok ry
 exact eq_dataH r1 r2 h3 h4 (by omega) ⟨.bl _,H,I,rfl,q⟩
theorem b2v (hu:X.A.units+66<cLine):OpR X (compareOp .NotEq) rNeD:=by
 intro pins s σ H x y v u Q I rx ry h
 obtain⟨d,e,h1,h2,h3,h4,q⟩:=h
 obtain⟨as,r1⟩:=h1.reads I.hok rx
 obtain⟨bs,r2⟩:=h2.reads I.hok ry
 exact ne_dataH r1 r2 h3 h4 (by omega) ⟨.bl _,H,I,rfl,q⟩
def b47 (_ j:Int):Prop:=0<j/\j<2 ^ 64
theorem b1H:OpR X (binaryOp .FloorDiv) (rI b47 fun i j=>.int (i / j)):=opI fun i j _ _ _ _ _ hc q=>by
 have h1:(0:Int)<j:=hc.1
 have h2:j<2 ^ 64:=hc.2
 refine floordiv_int (by omega) ?_ (.inl (PyProof.noPylong_of_log2 ?_))
 ·rw [Int.fdiv_eq_ediv_of_nonneg i (by omega)];exact q
 ·have h3:j.natAbs<2 ^ 64:=by omega
  have h4:j.natAbs.log2<64:=(Nat.log2_lt (by omega)).mpr h3
  omega
def rIsT (K:Fg):List V->Hp->VK->Prop:=fun xs H Q=>∃ x T t b,xs=[x,.ty T]/\TyOf K H x t/\PySem.W.kitOne K t (.type T)=some b/\Q (.bl b) H
theorem b1I:CallR X (.builtin "isinstance") (rIsT X.K):=by
 intro pins s σ H xs us Q I r h
 obtain⟨x,T,t,b,rfl,ty,e,q⟩:=h
 obtain⟨u,w',rfl,r1,r2⟩:=a8R r
 cases (show w'=Value.type T from r2)
 exact a9E I r1 ty e fun tk=>⟨.bl b,H,I.tok tk,rfl,q⟩
end
end L2
namespace L2
open PySem PySem.Spec PyProof.Rows
abbrev veM:List Value:=[.type "ValueError",.type "Exception",.type "BaseException",.type "object"]
theorem b48 {K:Fg} {C:Addr} (q:PySem.W.excIn K C veM "ValueError.__new__"=true):∃ bm N nm qn bs hd sn sub ab col dd k0 k1 k2 k3 k5,K.lookup C=some (excClassObj nm qn C N bs bm hd sn sub ab col dd k0 k1 k2 k3 k5 "ValueError.__new__") /\
  PySem.W.nsOkIn K N=true/\PySem.W.nsIn K N "__init__"=some none/\PySem.W.tailIn K veM bm=true:=by
 unfold PySem.W.excIn at q
 split at q
 ·rename_i dd cd sl ho
  split at q
  ·rename_i C2 bm k0 k1 k2 k3 nw k5 hm hs
   simp only [Bool.and_eq_true,Bool.not_eq_true',beq_iff_eq] at q
   obtain⟨⟨⟨⟨⟨z1,z2⟩,z3⟩,z4⟩,z5⟩,z6⟩:=q
   subst z1 z2
   obtain⟨nm,bs,mr,ns,qn,hd,sn,sub,ab,col,dl⟩:=cd
   dsimp only at hm z3 z5 z6
   subst hm z3
   have es:sl=#[k0,k1,k2,k3,some (.builtin "ValueError.__new__"),k5]:=by
    cases sl with
    | mk l=>dsimp only at hs;rw [hs]
   subst es
   exact⟨bm,ns,nm,qn,bs,hd,sn,sub,ab,col,dd,k0,k1,k2,k3,k5,ho,z5,z6,z4⟩
  ·cases q
 ·cases q
section
variable {X:Cx} {E:XK}
theorem b1J {x:Str} {np cpos pos:Pos} {e0:Expr} {te:TE} {C:Addr} (O:Outs X E) (hc:X.calm=true) (hg:Gl X x) (hm:X.mg x=some (.ref C)) (hq:PySem.W.excIn X.K C veM "ValueError.__new__"=true) (he:PE X e0 te)
  (hs:starEach [e0] X.env=(false,eval e0 X.env)::starEach [] X.env:=by rfl) (hp:(backTo cpos (starEach [] X.env)).any (·.1)=false:=by rfl) (hd:(x==("__debug__":Str))=false:=by decide) :
  PS X (.Raise (some (.Call (.Name x np) [e0] [] cpos)) none pos) (fun _ σ H=>te σ H fun _ H1=>since X.H₀ E (.ref C) none H1):=by
 intro pins s σ H D I h
 obtain⟨bm,N,nm,qn,bs,hd',sn,sub,ab,col,dd,k0,k1,k2,k3,k5,hC,z5,z6,z4⟩:=b48 hq
 have B:=I.mod.kin
 have hN:X.base.Ns N (X.base.nsMap N):=.of_isNs (PySem.W.isNs_of_in B z5)
 have hi:=PySem.W.nsMap_none_of_in B z5 z6
 have T:OwnTail X.base veM bm:=PySem.W.tail_of_in B z4
 refine wpAny_Raise_call_subT (C:=C) (nm:=nm) (q:=qn) (N:=N) (bs:=bs) (bm:=bm) (hdct:=hd') (sn:=sn) (sub:=sub) (ab:=ab) (col:=col) (dd:=dd) (k0:=k0) (k1:=k1) (k2:=k2) (k3:=k3) (k5:=k5) PySem.F.excBase_ValueError (mN:=X.base.nsMap N) (T.hasType (by decide)) (I.ok.hd hc)
  (by rw [hs];show (false||(backTo cpos (starEach [] X.env)).any (·.1))=false;rw [hp];rfl) hi (a3o I hg hm ⟨rfl,?_⟩ hd)
 rw [hs]
 refine Calls.evalArgs_plain (Calls.spliced_cons (thn (he pins s σ H _ I h) fun v s2 ⟨y,H2,I2,_,q2⟩=>Calls.spliced_nil ⟨rfl,Nat.le_of_lt (a0P (Nat.le_of_ble_eq_true rfl)),I2.bk _ _ (B _ _ hC),hN.keeps I2.bk,T.keeps I2.bk,fun h' e hm=>b1C O I2 hm q2⟩))
end
end L2
namespace L2
open PySem PySem.Spec PyProof.Rows
section
variable {X:Cx} {E:XK}
end
end L2
namespace L2
open PySem PySem.Spec PySem.Calls PyProof.Rows PySem.W
structure ExK (K:Frag) (D:Addr):Prop where
 cls:(clsIn K D).isSome=true
 ga:findIn K (.ref D) "__getattribute__"=some (some (.builtin "BaseException.__getattribute__"))
 hk:findIn K (.ref D) "__getattr__"=some none
 ha:findIn K (.ref D) "__class__"=some (some (.builtin "object.__class__"))
 hn:specialIn K (.builtin "object.__class__") "__get__"=some (some (.builtin "getset_descriptor.__get__"))
 tk:takesIn K (.builtin "object.__class__")=some true
 hm:mroIn K D (.type "object")=some true
 hb:mroIn K D (.type "BaseException")=some true
section
variable {prog:Program} {w:World} {A:Around} {E:Value->Shared->Prop} {s:Shared} {K:Frag} {x D:Addr} {ox:Obj}
theorem ExK.find (k:ExK K D):findObj K D none "__class__"=some (.bind (.builtin "getset_descriptor.__get__") (.builtin "object.__class__")):=by
 obtain⟨cd,hc⟩:=Option.isSome_iff_exists.mp k.cls
 unfold findObj
 rw [hc,Option.bind_some,k.ha,Option.bind_some]
 simp [k.hn,k.tk]
theorem a6F {v:Value} {Q:Unit->Shared->Prop} (k:ExK K D) (X:K.In s.heap) (I:InstAt s.heap x ox D none) (h:Q () s):wpAny (model prog w) A (checkBuiltinCall "BaseException.__getattribute__" ⟨[.ref x,v],[]⟩) Q E s:=by
 obtain⟨hh,g,d,t,os⟩:=s
 have hk:builtinKind "BaseException.__getattribute__"=some .slot:=by decide +kernel
 have hsplit:splitId "BaseException.__getattribute__"=some ("BaseException","__getattribute__"):=by decide +kernel
 have L0:=I.type (M:=model prog w)
 have L1:=looks_mroIn (M:=model prog w) X k.hb
 have ha:=PySem.F.args_bexc_ga (.ref x) v
 simp only [checkBuiltinCall,hk,hsplit]
 unfold isInstance
 repeat lk
 exact h
theorem b49 {tk:Tok} {Q:Fin->Shared->Prop} (k:ExK K D) (X:K.In s.heap) (I:InstAt s.heap x ox D none) (h:Q (.done (.ret (.ref D))) s) :
  wpAny (model prog w) A (Builtin.«object.__getattribute__» ⟨[.ref x,.str "__class__" tk],[]⟩) Q E s:=by
 obtain⟨hh,g,d,t,os⟩:=s
 have L0:=I.type (M:=model prog w)
 have L1:=looks_find (M:=model prog w) X I k.find
 unfold Builtin.«object.__getattribute__»
 repeat (first | with_reducible refine wpAny_call ?_ | lk)
 exact class_get (s:=⟨hh,g,d,t,os⟩) X I k.hm (wpAny_pure h)
theorem a9V {Q:Option Value->Shared->Prop} (k:ExK K D) (X:K.In s.heap) (I:InstAt s.heap x ox D none) (h:Q (some (.ref D)) { s with toks:=s.toks+1 }):wpAny (model prog w) A (getAttr? (.ref x) "__class__") Q E s:=by
 obtain⟨hh,g,d,t,os⟩:=s
 have L0:=I.type (M:=model prog w)
 have L1:=looks_findIn (M:=model prog w) X k.ga
 have L2:=looks_findIn (M:=model prog w) X k.hk
 unfold getAttr? getAttrBy? getAttrBy
 refine wpAny_bind (wpAny_mkText (wpAny_bind (wpAny_attempt (wpAny_holding (wpAny_bind (L0.at (wpAny_bind (L1.at ?_))))))))
 dsimp only
 rw [if_neg (by rw [show (Value.builtin "BaseException.__getattribute__"==Value.builtin "object.__getattribute__")=false by decide +kernel,Bool.and_false];exact Bool.false_ne_true)]
 unfold getAttrByItsOwn hookBefore
 rw [if_pos (show onTheHeap (Value.ref D)=true from rfl)]
 refine wpAny_bind (L2.at ?_)
 refine wpAny_bind (wpAny_attempt (wpAny_holding ?_))
 unfold callGetattribute boundAndCalled
 rw [if_neg (by simp)]
 have f3:=PySem.F.excAttr_ValueError.ga.bind (.ref x)
 rw [f3]
 refine wpAny_bind (wpAny_pure (wpAny_call (codeAny_call_builtin PySem.F.excAttr_ValueError.ga.plain PySem.F.entry_bexc_ga (a6F k X I (b49 k X I ?_)))))
 exact handed_on rfl (wpAny_pure h)
theorem a52 (k:ExK K D):KitX K (.ref x) (.ref D) (fun h=>InstAt h x ox D none) where
 ty:=fun _ _ _ I=>I.type
 it:=fun _ _ X _=>by
  obtain⟨cd,hc⟩:=Option.isSome_iff_exists.mp k.cls
  unfold clsIn at hc
  split at hc
  ·rename_i ho
   intro A' Q' E' s' k q
   unfold isType loadHead
   exact wpAny_bind (wpAny_loadPart (k _ _ (X _ _ ho)) (wpAny_pure q))
  ·cases hc
 ne:=fun h tp dd its n sl X htp=>by
  obtain⟨cd,hc⟩:=Option.isSome_iff_exists.mp k.cls
  refine Bool.eq_false_iff.mpr fun q=>?_
  have e:D=tp:=Value.ref.inj (beq_iff_eq.mp q)
  subst e
  unfold clsIn at hc
  split at hc
  ·rename_i ho
   have z:=(X _ _ ho).symm.trans htp
   cases z
  ·cases hc
 ca:=fun X I q=>a9V k X I q
end
end L2
namespace L2
open PySem PySem.Spec PyProof.Rows
section
variable {X:Cx} {pins:List (Addr×Obj)} {σ σ':St} {H:Hp} {s:Shared}
theorem Inv.lk {ex:Addr->Prop} {h':Heap} {t':Nat} (I:Inv X pins σ H s) (k:Lk (frs X.stack) ex s.heap h') (hx:∀ b,ex b->X.s₀.heap.get? b=none/\H b=none/\(∀ x c,X.env.cells.lookup x=some c->c≠b)/\∀ p∈X.pn++pins,p.1≠b)
  (hl:∃ m,h'.Ns X.env.locals m/\∀ (i:Nat) (x:Str) (v:V),X.N[i]?=some x->σ'[i]?=some (some v)->Vis X.env.scope x->∃ u,RelV v u/\Look X.env h' m x u) (hn:σ'.length=σ.length):Inv X pins σ' H { s with heap:=h',toks:=t' }:=by
 refine⟨I.ok,I.os,I.bare,I.base.lk k (fun b hb=>?_) (fun b hb=>.inr (hx b hb).1),hl,fun x c e=>?_,I.free,I.freeC,fun p hp=>?_,I.hok.lk k I.stkFree fun b hb=>(hx b hb).2.1,hn.trans I.len⟩
 ·rcases List.mem_cons.mp (I.stkSub b hb) with z | z
  ·rw [z];exact .inr (Heap.get?_none_of_le I.ok.above)
  ·exact .inl z
 ·obtain⟨v,o,ho,hd⟩:=I.cell x c e
  obtain⟨sl,e1⟩:=k.slot c o ho fun z=>(hx c z).2.2.1 x c e rfl
  exact⟨v,_,e1,hd⟩
 ·obtain⟨e1,e2,e3,e4,e5⟩:=I.pin p hp
  refine⟨k.keep _ _ e1 (fun z=>?_) (fun z=>(hx _ z).2.2.2 p hp rfl),e2,e3,e4,e5⟩
  rcases List.mem_cons.mp (I.stkSub _ z) with z | z
  ·exact e3 z
  ·exact e4 z
theorem Inv.lk0 {ex:Addr->Prop} {h':Heap} (I:Inv X pins σ H s) (k:Lk (frs X.stack) ex s.heap h') (hx:∀ b,ex b->X.s₀.heap.get? b=none/\H b=none/\b≠X.env.locals/\(∀ x c,X.env.cells.lookup x=some c->c≠b)/\∀ p∈X.pn++pins,p.1≠b):Inv X pins σ H { s with heap:=h' }:=by
 refine I.lk (t':=s.toks) k (fun b hb=>⟨(hx b hb).1,(hx b hb).2.1,(hx b hb).2.2.2⟩) ?_ rfl
 obtain⟨m,⟨o,es,ep,q1,q2,q3,q4⟩,hl⟩:=I.loc
 obtain⟨sl,e1⟩:=k.slot _ o q1 fun z=>(hx _ z).2.2.1 rfl
 refine⟨m,⟨_,es,ep,e1,q2,q3,q4⟩,fun i x v h1 h2 h3=>?_⟩
 obtain⟨u,ru,lk⟩:=hl i x v h1 h2 h3
 refine⟨u,ru,?_⟩
 rcases lk with z | ⟨z1,c,z2,oc,z3,z4⟩
 ·exact .inl z
 ·obtain⟨sl,e2⟩:=k.slot c oc z3 fun z=>(hx c z).2.2.2.1 x c z2 rfl
  exact .inr ⟨z1,c,z2,_,e2,z4⟩
abbrev Cx.hnd (X:Cx) (e:Addr) (oe:Obj):Cx:={ X with A:=X.A.mark (some (.ref e)),calm:=false,pn:=(e,oe)::X.pn,xe:=fun _ _=>False }
theorem Inv.hnd {e:Addr} {oe:Obj} (I:Inv X pins σ H s) (h1:s.heap.get? e=some oe) (h2:H e=none) (h3:e≠X.env.locals) (h4:e∉X.fs) (h5:∀ v,oe.data≠.cell v):Inv (X.hnd e oe) pins σ H s:=
 ⟨⟨I.ok.mod,I.ok.kind,I.ok.glob,I.ok.blt,I.ok.above,I.ok.inj,I.ok.has,I.ok.cab,(fun z=>nomatch z),I.ok.frames,I.ok.stk,I.ok.exf,I.ok.bs,I.ok.bsz,I.ok.noex,I.ok.exfs,I.ok.funs,I.ok.frf⟩,I.os,I.bare,I.base,I.loc,I.cell,I.free,I.freeC,(fun p hp=>by
  rcases List.mem_cons.mp (show p∈(e,oe)::(X.pn++pins) from hp) with rfl | hp
  ·exact⟨h1,h2,h3,h4,h5⟩
  ·exact I.pin p hp),I.hok,I.len⟩
theorem Inv.unhnd {e:Addr} {oe:Obj} (ok:X.Ok) (I:Inv (X.hnd e oe) pins σ H s):Inv X pins σ H s:=⟨ok,I.os,I.bare,I.base,I.loc,I.cell,I.free,I.freeC,fun p hp=>I.pin p (List.mem_cons_of_mem _ hp),I.hok,I.len⟩
theorem a3C {M:Model} {A:Around} {E:Value->Shared->Prop} {i:Nat} {n:Str} {pos:Pos} {Q:Unit->Shared->Prop} (I:Inv X pins σ H s) (hN:X.N.Nodup) (hi:X.N[i]?=some n) (hl:X.env.scope.names.lookup n=some .local) (q:∀ s',Inv X pins (σ.set i none) H s'->Q () s') :
  wpAny M A (do bindName X.env n .none;unbindBehindTheSuite X.env n pos) Q E s:=by
 obtain⟨m,hn,lk⟩:=I.loc
 have hcls:(X.env.scope.kind==.class||(X.env.scope.kind==.module&&X.env.locals != X.env.globals))=false:=by rw [I.ok.kind];rfl
 refine wpAny_nameGoes_keeps hl hn hcls fun h' v hn' hs=>q _ ?_
 refine I.lk (ex:=(·=X.env.locals)) (t':=s.toks+1) ⟨fun b o q _ n=>(hs.2 b n).trans q,fun b o q n=>⟨o.slots,(hs.2 b n).trans q⟩,Nat.le_of_eq hs.1.symm⟩ (fun b hb=>?_) ⟨_,hn',fun j x v' h1 h2 h3=>?_⟩ (List.length_set ..)
 ·rw [hb]
  exact⟨Heap.get?_none_of_le I.ok.above,I.free,I.cne,fun p hp=>(I.pin p hp).2.2.1⟩
 ·by_cases hj:j=i
  ·subst hj
   rw [List.getElem?_set_self (by rw [I.len];exact (List.getElem?_eq_some_iff.mp hi).1)] at h2
   cases h2
  ·rw [List.getElem?_set_ne (Ne.symm hj)] at h2
   obtain⟨u,ru,z⟩:=lk j x v' h1 h2 h3
   refine⟨u,ru,?_⟩
   rcases z with ⟨z1,z2⟩ | ⟨z1,c,z2,oc,z3,z4⟩
   ·refine .inl ⟨z1,?_⟩
    show (if x=n then v else m x)=some u
    rw [if_neg fun e=>hj (by
     subst e
     obtain⟨b1,c1⟩:=List.getElem?_eq_some_iff.mp h1
     obtain⟨b2,c2⟩:=List.getElem?_eq_some_iff.mp hi
     exact (List.getElem_inj hN).mp (c1.trans c2.symm))]
    exact z2
   ·exact .inr ⟨z1,c,z2,oc,(hs.2 c (I.cne x c z2)).trans z3,z4⟩
def PX (X:Cx) (e:Expr) (t:XK->TE):Prop:=∀ (pins:List (Addr×Obj)) (s:Shared) (σ:St) (H:Hp) (Q:VK) (E:XK),Inv X pins σ H s->t E σ H Q ->
 wpAny (model X.prog X.w) X.A (eval e X.env) (EP X pins σ Q) (fun ev s'=>∃ H1 s1,Inv X pins σ H1 s1/\CXx X.prog X.w X.stack H1 s1 E ev s') s
end
section
variable {X:Cx} {k:Nat} {f C D:Addr} {fd:FuncData} {ps:List Str} {sp:Sp} {x n:Str} {p pos np hpos tpos:Pos} {e ce:Expr} {es:List Expr} {t:TA}
theorem b3k (F:FnOk X.prog X.w X.K X.mg X.base (CXx X.prog X.w) k f fd ps sp) (hr:Room k X.A) (hg:Gl X x) (hm:X.mg x=some (.ref f)) (hk:PySem.W.keepIn X.K (.ref f)=true) (hb:Binds X.K fd ps [])
  (ha:PA X.nox (e::es) t) (hdb:(x==("__debug__":Str))=false:=by decide) (he:starEach (e::es) X.env=(false,eval e X.env)::starEach es X.env:=by rfl) (hpl:(backTo pos (starEach es X.env)).any (·.1)=false:=by rfl) :
  PX X (.Call (.Name x p) (e::es) [] pos) (fun E=>b4Q sp [] E t):=by
 intro pins s σ H Q E I h
 refine wpAny_Call_Name_kw (a3o I hg hm ?_ hdb)
 refine PySem.W.callWith_K (h₀:=X.base) I.ok.mod.kin hk (wpAny_mono (ha pos pins s σ H _ (I.wish _) h) (fun us s1 ⟨vs,H1,I1,r,q⟩=>⟨I1.kIn,?_⟩) fun _ _ z=>False.elim z) he hpl
 have I1:=I1.unwish
 have q:sp (vs++[]) H1 Q E:=q
 rw [List.append_nil] at q
 have hl:us.length=ps.length:=by rw [<- r.length];exact F.len _ _ _ _ q
 refine wpAny_call (codeAny_mono (F.run X.A X.stack s1 H1 ⟨us,[]⟩ us vs Q E hr I1.env0 (by simpa using hb s1 us I1.kIn (by simpa using hl)) r q) fun r s' hq=>?_)
 cases r with
 | error e=>exact⟨H1,s1,I1,hq⟩
 | ok fl=>
  cases fl with
  | ret u=>exact I1.after hq
  | next=>exact False.elim hq
  | brk=>exact False.elim hq
  | cont=>exact False.elim hq
end
end L2
namespace L3
open PySem PySem.Spec PyProof.Rows L2
inductive Z where
 | non | bl (b:Bool) | int (i:Int) | str (x:Str) | ref (a:Addr) | ty (n:String) | scr (a:Addr) (ns:List Int)
 | tup (ws:List Z)
mutual
def eqZ:Z->Z->Bool
 | .non,.non=>true
 | .bl a,.bl b=>a==b
 | .int a,.int b=>decide (a=b)
 | .str a,.str b=>decide (a=b)
 | .ref a,.ref b=>decide (a=b)
 | .ty a,.ty b=>decide (a=b)
 | .scr a ns,.scr b ms=>decide (a=b)&&decide (ns=ms)
 | .tup a,.tup b=>eqZs a b
 | _,_=>false
def eqZs:List Z->List Z->Bool
 | [],[]=>true
 | a::as,b::bs=>eqZ a b&&eqZs as bs
 | _,_=>false
end
mutual
theorem a9W:∀ x y:Z,eqZ x y=true↔x=y
 | .tup a,y=>by
  cases y with
  | tup b=>simp only [eqZ,Z.tup.injEq];exact a8d a b
  | _=>simp [eqZ]
 | .non,y=>by cases y<;>simp [eqZ]
 | .bl _,y=>by cases y<;>simp [eqZ]
 | .int _,y=>by cases y<;>simp [eqZ]
 | .str _,y=>by cases y<;>simp [eqZ]
 | .ref _,y=>by cases y<;>simp [eqZ]
 | .ty _,y=>by cases y<;>simp [eqZ]
 | .scr _ _,y=>by cases y<;>simp [eqZ]
theorem a8d:∀ x y:List Z,eqZs x y=true↔x=y
 | [],y=>by cases y<;>simp [eqZs]
 | a::as,y=>by
  cases y with
  | nil=>simp [eqZs]
  | cons b bs=>simp only [eqZs,Bool.and_eq_true,List.cons.injEq,a9W a b,a8d as bs]
end
instance:DecidableEq Z:=fun x y=>decidable_of_iff _ (a9W x y)
section
variable {K:Fg} {H H' H1 H2:Hp} {a p:Addr} {xs:List V}
def Fz (K:Fg) (H:Hp) (a:Addr) (xs:List V):Prop:=
 (∃ o,H a=some (.frz o (.lst xs)))\/∃ (o:Obj) (its:Array Value) (n:Nat),K.lookup a=some o/\o.cls=.type "list"/\o.dict=none/\o.data=.seq its n/\its.size≤sizeLine/\Vals xs its.toList
theorem Fz.sq (h:Fz K H a xs):SqL K H a xs:=by
 rcases h with ⟨o,h⟩ | h
 ·exact .inl (.inr ⟨o,h⟩)
 ·exact .inr h
theorem Fz.of (hO:Only H) (h:SqL K H a xs):Fz K H a xs:=by
 rcases h with (h | h) | h
 ·rcases hO a with z | ⟨o,ys,z⟩
  ·rw [h] at z;cases z
  ·rw [h] at z;cases z
 ·exact .inl h
 ·exact .inr h
structure TK (K:Fg) (H H':Hp):Prop where
 tup:∀ a xs,H a=some (.tup xs)->H' a=some (.tup xs)
 frz:∀ a xs,Fz K H a xs->Fz K H' a xs
 frd:∀ a o u,H a=some (.frz o u)->H' a=some (.frz o u)
theorem TK.refl (K:Fg) (H:Hp):TK K H H:=⟨fun _ _ h=>h,fun _ _ h=>h,fun _ _ _ h=>h⟩
theorem TK.trans (a:TK K H H1) (b:TK K H1 H2):TK K H H2:=⟨fun c xs h=>b.tup c xs (a.tup c xs h),fun c xs h=>b.frz c xs (a.frz c xs h),fun c o u h=>b.frd c o u (a.frd c o u h)⟩
theorem TK.upd {o:HO} (h:∀ xs,H p≠some (.tup xs)) (h2:∀ o u,H p≠some (.frz o u)):TK K H (L2.upd H p o):=by
 refine⟨fun c xs e=>?_,fun c xs e=>?_,fun c o' u e=>by rw [a1c (by rintro rfl;exact h2 _ _ e)];exact e⟩
 ·rw [a1c (by rintro rfl;exact h _ e)];exact e
 ·rcases e with ⟨o',e⟩ | e
  ·exact .inl ⟨o',by rw [a1c (by rintro rfl;exact h2 _ _ e)];exact e⟩
  ·exact .inr e
theorem TK.new {o:HO} (h:H p=none):TK K H (L2.upd H p o):=.upd (fun xs e=>by rw [h] at e;cases e) (fun o u e=>by rw [h] at e;cases e)
theorem TK.lst {o:HO} (h:H p=some (.lst xs)):TK K H (L2.upd H p o):=.upd (fun xs e=>by rw [h] at e;cases e) (fun o u e=>by rw [h] at e;cases e)
theorem TK.dK {o:HO} {kvs:List (Key×V)} (h:H p=some (.dK kvs)):TK K H (L2.upd H p o):=.upd (fun xs e=>by rw [h] at e;cases e) (fun o u e=>by rw [h] at e;cases e)
theorem TK.ins {o:HO} {C dx:Addr} {fs:List (Str×V)} (h:H p=some (.ins C dx fs)):TK K H (L2.upd H p o):=.upd (fun xs e=>by rw [h] at e;cases e) (fun o u e=>by rw [h] at e;cases e)
end
mutual
def Rep (K:Fg) (H:Hp):Z->V->Prop
 | .non,v=>v=.non
 | .bl b,v=>v=.bl b
 | .int i,v=>v=.int i
 | .str x,v=>v=.str x
 | .ref a,v=>v=.ref a
 | .ty n,v=>v=.ty n
 | .scr a ns,v=>v=.ref a/\Fz K H a (ns.map V.int)
 | .tup ws,v=>∃ a vs,v=.ref a/\H a=some (.tup vs)/\Reps K H ws vs
def Reps (K:Fg) (H:Hp):List Z->List V->Prop
 | [],vs=>vs=[]
 | w::ws,vs=>∃ v r,vs=v::r/\Rep K H w v/\Reps K H ws r
end
section
variable {K:Fg} {H H':Hp}
theorem a1H {v:V}:Rep K H .non v=(v=.non):=by unfold Rep;rfl
theorem a06 {b:Bool} {v:V}:Rep K H (.bl b) v=(v=.bl b):=by unfold Rep;rfl
theorem a0u {i:Int} {v:V}:Rep K H (.int i) v=(v=.int i):=by unfold Rep;rfl
theorem a0H {x:Str} {v:V}:Rep K H (.str x) v=(v=.str x):=by unfold Rep;rfl
theorem a0p {a:Addr} {v:V}:Rep K H (.ref a) v=(v=.ref a):=by unfold Rep;rfl
theorem a6G {n:String} {v:V}:Rep K H (.ty n) v=(v=.ty n):=by unfold Rep;rfl
theorem a2x {a:Addr} {ns:List Int} {v:V}:Rep K H (.scr a ns) v=(v=.ref a/\Fz K H a (ns.map V.int)):=by unfold Rep;rfl
theorem a1w {ws:List Z} {v:V}:Rep K H (.tup ws) v=(∃ a vs,v=.ref a/\H a=some (.tup vs)/\Reps K H ws vs):=by conv=>lhs;unfold Rep
theorem a0O {vs:List V}:Reps K H [] vs=(vs=[]):=by unfold Reps;rfl
theorem a0o {w:Z} {ws:List Z} {vs:List V}:Reps K H (w::ws) vs=(∃ v r,vs=v::r/\Rep K H w v/\Reps K H ws r):=by conv=>lhs;unfold Reps
mutual
theorem Rep.mono (t:TK K H H'):∀ (w:Z) (v:V),Rep K H w v->Rep K H' w v
 | .tup ws,v,h=>by
  rw [a1w] at h ⊢
  obtain⟨a,vs,e,h,r⟩:=h
  exact⟨a,vs,e,t.tup _ _ h,Reps.mono t ws vs r⟩
 | .scr a ns,v,h=>by
  rw [a2x] at h ⊢
  exact⟨h.1,t.frz _ _ h.2⟩
 | .non,v,h=>by rw [a1H] at h ⊢;exact h
 | .bl _,v,h=>by rw [a06] at h ⊢;exact h
 | .int _,v,h=>by rw [a0u] at h ⊢;exact h
 | .str _,v,h=>by rw [a0H] at h ⊢;exact h
 | .ref _,v,h=>by rw [a0p] at h ⊢;exact h
 | .ty _,v,h=>by rw [a6G] at h ⊢;exact h
theorem Reps.mono (t:TK K H H'):∀ (ws:List Z) (vs:List V),Reps K H ws vs->Reps K H' ws vs
 | [],vs,h=>by rw [a0O] at h ⊢;exact h
 | w::ws,vs,h=>by
  rw [a0o] at h ⊢
  obtain⟨v,r,e,h1,h2⟩:=h
  exact⟨v,r,e,Rep.mono t w v h1,Reps.mono t ws r h2⟩
end
theorem Reps.cons {w:Z} {v:V} {ws:List Z} {vs:List V} (a:Rep K H w v) (b:Reps K H ws vs):Reps K H (w::ws) (v::vs):=by rw [a0o];exact⟨v,vs,rfl,a,b⟩
theorem Reps.nil:Reps K H [] []:=by rw [a0O]
theorem Reps.length:∀ {ws:List Z} {vs:List V},Reps K H ws vs->ws.length=vs.length
 | [],vs,h=>by rw [a0O] at h;rw [h];rfl
 | w::ws,vs,h=>by
  rw [a0o] at h
  obtain⟨v,r,e,_,h2⟩:=h
  rw [e,List.length_cons,List.length_cons,Reps.length h2]
theorem Reps.get:∀ {ws:List Z} {vs:List V} {i:Nat} {w:Z},Reps K H ws vs->ws[i]?=some w->∃ v,vs[i]?=some v/\Rep K H w v
 | [],_,_,_,_,e=>by simp at e
 | w::ws,vs,i,x,h,e=>by
  rw [a0o] at h
  obtain⟨v,r,rfl,h1,h2⟩:=h
  cases i with
  | zero=>simp at e;subst e;exact⟨v,rfl,h1⟩
  | succ i=>simpa using Reps.get (i:=i) h2 (by simpa using e)
theorem Reps.tog {ws:List Z} {vs:List V} {i:Nat} {v:V} (h:Reps K H ws vs) (e:vs[i]?=some v):∃ w,ws[i]?=some w/\Rep K H w v:=by
 have hl:=h.length
 have hi:i<ws.length:=by
  have:=(List.getElem?_eq_some_iff.mp e).1
  omega
 obtain⟨v',e',r⟩:=h.get (List.getElem?_eq_getElem hi)
 rw [e] at e'
 cases e'
 exact⟨_,List.getElem?_eq_getElem hi,r⟩
theorem Reps.append:∀ {ws ws':List Z} {vs vs':List V},Reps K H ws vs->Reps K H ws' vs'->Reps K H (ws++ws') (vs++vs')
 | [],_,vs,_,h,h'=>by rw [a0O] at h;subst h;exact h'
 | w::ws,_,vs,_,h,h'=>by
  rw [a0o] at h
  obtain⟨v,r,rfl,h1,h2⟩:=h
  exact .cons h1 (Reps.append h2 h')
theorem Reps.drop:∀ {ws:List Z} {vs:List V} (n:Nat),Reps K H ws vs->Reps K H (ws.drop n) (vs.drop n)
 | [],vs,n,h=>by rw [a0O] at h;subst h;simpa using Reps.nil
 | w::ws,vs,0,h=>h
 | w::ws,vs,n+1,h=>by
  rw [a0o] at h
  obtain⟨v,r,rfl,h1,h2⟩:=h
  exact Reps.drop n h2
theorem Reps.take:∀ {ws:List Z} {vs:List V} (n:Nat),Reps K H ws vs->Reps K H (ws.take n) (vs.take n)
 | [],vs,n,h=>by rw [a0O] at h;subst h;simpa using Reps.nil
 | w::ws,vs,0,h=>by simpa using Reps.nil
 | w::ws,vs,n+1,h=>by
  rw [a0o] at h
  obtain⟨v,r,rfl,h1,h2⟩:=h
  exact .cons h1 (Reps.take n h2)
theorem Reps.set {w:Z} {v:V} (r:Rep K H w v):∀ {ws:List Z} {vs:List V} (i:Nat),Reps K H ws vs->Reps K H (ws.set i w) (vs.set i v)
 | [],vs,i,h=>by rw [a0O] at h;subst h;simpa using Reps.nil
 | x::ws,vs,i,h=>by
  rw [a0o] at h
  obtain⟨y,s,rfl,h1,h2⟩:=h
  cases i with
  | zero=>exact .cons r h2
  | succ i=>exact .cons h1 (Reps.set r i h2)
theorem Reps.reverse:∀ {ws:List Z} {vs:List V},Reps K H ws vs->Reps K H ws.reverse vs.reverse
 | [],vs,h=>by rw [a0O] at h;subst h;exact Reps.nil
 | x::ws,vs,h=>by
  rw [a0o] at h
  obtain⟨y,s,rfl,h1,h2⟩:=h
  rw [List.reverse_cons,List.reverse_cons]
  exact (Reps.reverse h2).append (.cons h1 .nil)
theorem a6H:∀ {ns:List Int} {vs:List V},Reps K H (ns.map Z.int) vs->vs=ns.map V.int
 | [],vs,h=>by rw [List.map_nil,a0O] at h;subst h;rfl
 | n::ns,vs,h=>by
  rw [List.map_cons,a0o] at h
  obtain⟨v,r,rfl,h1,h2⟩:=h
  rw [a0u] at h1
  rw [h1,a6H h2];rfl
theorem a3D:∀ (ns:List Int),Reps K H (ns.map Z.int) (ns.map V.int)
 | []=>Reps.nil
 | n::ns=>.cons (by rw [a0u]) (a3D ns)
theorem Reps.one {w:Z} {vs:List V} (h:Reps K H [w] vs):∃ v,vs=[v]/\Rep K H w v:=by
 rw [a0o] at h
 obtain⟨v,r,rfl,h1,h2⟩:=h
 rw [a0O] at h2
 exact⟨v,by rw [h2],h1⟩
theorem Reps.two {w w':Z} {vs:List V} (h:Reps K H [w,w'] vs):∃ v v',vs=[v,v']/\Rep K H w v/\Rep K H w' v':=by
 rw [a0o] at h
 obtain⟨v,r,rfl,h1,h2⟩:=h
 obtain⟨v',rfl,h3⟩:=h2.one
 exact⟨v,v',rfl,h1,h3⟩
end
inductive O where
 | lst (ws:List Z)
 | dK (kvs:List (Key×Z))
 | ins (C dx:Addr) (fs:List (Str×Z))
 | dF (kvs:List (Key×Z))
abbrev Hq:=Addr->Option O
def put (G:Hq) (a:Addr) (o:O):Hq:=fun b=>if b=a then some o else G b
theorem a0f {G:Hq} {a:Addr} {o:O}:put G a o a=some o:=by unfold put;rw [if_pos rfl]
theorem a07 {G:Hq} {a b:Addr} {o:O} (h:b≠a):put G a o b=G b:=by unfold put;rw [if_neg h]
theorem a2y {G:Hq} {a:Addr} {o u:O}:put (put G a o) a u=put G a u:=by
 funext b;unfold put;split<;>rfl
theorem a1G {G:Hq} {a b:Addr} {o:O} (h:G a=some o) (h':G b=none):a≠b:=by
 intro e;subst e;rw [h] at h';cases h'
theorem a0I {G:Hq} {a b:Addr} {o u:O} (h:G b=some u) (n:G a=none):put G a o b=some u:=by rw [a07 (a1G h n)];exact h
def ROb (K:Fg) (H:Hp) (a:Addr):O->Prop
 | .lst ws=>∃ vs,H a=some (.lst vs)/\Reps K H ws vs
 | .dK kvs=>∃ us,H a=some (.dK us)/\us.map (·.1)=kvs.map (·.1)/\Reps K H (kvs.map (·.2)) (us.map (·.2))
 | .ins C dx fs=>∃ gs,H a=some (.ins C dx gs)/\gs.map (·.1)=fs.map (·.1)/\Reps K H (fs.map (·.2)) (gs.map (·.2))
 | .dF kvs=>∃ o us,H a=some (.frz o (.dK us))/\us.map (·.1)=kvs.map (·.1)/\Reps K H (kvs.map (·.2)) (us.map (·.2))
def RH (K:Fg) (G:Hq) (H:Hp):Prop:=∀ a o,G a=some o->ROb K H a o
section
variable {K:Fg} {H H':Hp} {G:Hq} {a p:Addr} {o:O} {u:HO}
theorem ROb.some (h:ROb K H a o):∃ u,H a=some u:=by
 cases o with
 | lst ws=>obtain⟨vs,e,_⟩:=h;exact⟨_,e⟩
 | dK kvs=>obtain⟨vs,e,_⟩:=h;exact⟨_,e⟩
 | ins C dx fs=>obtain⟨vs,e,_⟩:=h;exact⟨_,e⟩
 | dF kvs=>obtain⟨ob,vs,e,_⟩:=h;exact⟨_,e⟩
theorem ROb.stay (t:TK K H H') (e:H' a=H a) (h:ROb K H a o):ROb K H' a o:=by
 cases o with
 | lst ws=>obtain⟨vs,q,r⟩:=h;exact⟨vs,e.trans q,r.mono t⟩
 | dK kvs=>obtain⟨vs,q,n,r⟩:=h;exact⟨vs,e.trans q,n,r.mono t⟩
 | ins C dx fs=>obtain⟨vs,q,n,r⟩:=h;exact⟨vs,e.trans q,n,r.mono t⟩
 | dF kvs=>obtain⟨ob,vs,q,n,r⟩:=h;exact⟨ob,vs,e.trans q,n,r.mono t⟩
theorem RH.out (h:RH K G H) (e:H a=none):G a=none:=by
 cases q:G a with
 | none=>rfl
 | some o=>obtain⟨u,z⟩:=(h a o q).some;rw [e] at z;cases z
theorem RH.hid (h:RH K G H) (e:H p=none):RH K G (upd H p u):=fun b o q=>
 (h b o q).stay (.new e) (a1c (by rintro rfl;obtain⟨u,z⟩:=(h _ o q).some;rw [e] at z;cases z))
theorem RH.set (h:RH K G H) (t:TK K H (upd H p u)) (n:ROb K (upd H p u) p o):RH K (put G p o) (upd H p u):=fun b o' q=>by
 by_cases hb:b=p
 ·subst hb;rw [a0f] at q;cases q;exact n
 ·rw [a07 hb] at q
  exact (h b o' q).stay t (a1c hb)
end
abbrev S3:=List (Option Z)
abbrev K3:=Z->Hq->Prop
abbrev C3:=S3->Hq->Prop
abbrev E3:=S3->Hq->K3->Prop
abbrev T3:=S3->Hq->(Bool->Hq->Prop)->Prop
abbrev A3:=S3->Hq->(List Z->Hq->Prop)->Prop
abbrev X3:=C3->K3->C3->C3->S3->Hq->Prop
def ROp (K:Fg) (H:Hp) (ow:Option Z) (ov:Option V):Prop:=∀ w,ow=some w->∃ v,ov=some v/\Rep K H w v
def RSt (K:Fg) (H:Hp):S3->L2.St->Prop:=Paired (ROp K H)
section
variable {K:Fg} {H H':Hp}
theorem RSt.mono (t:TK K H H'):∀ {σ:S3} {τ:L2.St},RSt K H σ τ->RSt K H' σ τ
 | _,_,.nil=>.nil
 | _,_,.cons r s=>.cons (fun w e=>let ⟨v,q,h⟩:=r w e;⟨v,q,h.mono t⟩) (RSt.mono t s)
theorem RSt.get:∀ {σ:S3} {τ:L2.St} {i:Nat} {w:Z},RSt K H σ τ->σ[i]?=some (some w)->∃ v,τ[i]?=some (some v)/\Rep K H w v
 | _,_,_,_,.nil,e=>by simp at e
 | _,_,0,w,.cons r _,e=>by
  obtain⟨v,q,h⟩:=r w (by simpa using e)
  exact⟨v,by rw [q];rfl,h⟩
 | _,_,i+1,w,.cons _ s,e=>by
  obtain⟨v,q,h⟩:=RSt.get (i:=i) s (by simpa using e)
  exact⟨v,by simpa using q,h⟩
theorem RSt.set {w:Z} {v:V} (r:Rep K H w v):∀ {σ:S3} {τ:L2.St} (i:Nat),RSt K H σ τ->RSt K H (σ.set i (some w)) (τ.set i (some v))
 | _,_,_,.nil=>.nil
 | _,_,0,.cons _ s=>.cons (fun _ e=>by cases e;exact⟨v,rfl,r⟩) s
 | _,_,i+1,.cons q s=>.cons q (RSt.set r i s)
theorem RSt.length {σ:S3} {τ:L2.St} (h:RSt K H σ τ):σ.length=τ.length:=Paired.length h
theorem RSt.nones:∀ n:Nat,RSt K H (List.replicate n none) (List.replicate n none)
 | 0=>.nil
 | n+1=>.cons (fun _ e=>nomatch e) (RSt.nones n)
theorem RSt.app:∀ {σ σ':S3} {τ τ':L2.St},RSt K H σ τ->RSt K H σ' τ'->RSt K H (σ++σ') (τ++τ')
 | _,_,_,_,.nil,h=>h
 | _,_,_,_,.cons r s,h=>.cons r (RSt.app s h)
theorem RSt.ofVals:∀ {ws:List Z} {vs:List V},Reps K H ws vs->RSt K H (ws.map some) (vs.map some)
 | [],vs,h=>by rw [a0O] at h;subst h;exact .nil
 | w::ws,vs,h=>by
  rw [a0o] at h
  obtain⟨v,r,rfl,h1,h2⟩:=h
  exact .cons (fun _ e=>by cases e;exact⟨v,rfl,h1⟩) (RSt.ofVals h2)
end
def a4t (N:List Str) (ws:List Z):S3:=ws.map some++List.replicate (N.length - ws.length) none
theorem RSt.start {K:Fg} {H:Hp} {N:List Str} {ws:List Z} {vs:List V} (h:Reps K H ws vs):RSt K H (a4t N ws) (L2.start N vs):=by
 unfold a4t L2.start
 rw [h.length]
 exact (RSt.ofVals h).app (RSt.nones _)
def UpV (K:Fg) (H:Hp) (R:K3) (Q:VK):Prop:=∀ w G v H',R w G->Rep K H' w v->RH K G H'->TK K H H'->Q v H'
def UpB (K:Fg) (H:Hp) (R:Bool->Hq->Prop) (Q:Bool->Hp->Prop):Prop:=∀ b G H',R b G->RH K G H'->TK K H H'->Q b H'
def UpA (K:Fg) (H:Hp) (R:List Z->Hq->Prop) (Q:List V->Hp->Prop):Prop:=∀ ws G vs H',R ws G->Reps K H' ws vs->RH K G H'->TK K H H'->Q vs H'
def UpS (K:Fg) (H:Hp) (R:C3) (Q:L2.St->Hp->Prop):Prop:=∀ σ G τ H',R σ G->RSt K H' σ τ->RH K G H'->TK K H H'->Q τ H'
section
variable {K:Fg} {H H':Hp}
theorem UpV.mono {R:K3} {Q:VK} (h:UpV K H R Q) (t:TK K H H'):UpV K H' R Q:=fun w G v H2 q r g t2=>h w G v H2 q r g (t.trans t2)
theorem UpB.mono {R:Bool->Hq->Prop} {Q:Bool->Hp->Prop} (h:UpB K H R Q) (t:TK K H H'):UpB K H' R Q:=fun w G H2 q g t2=>h w G H2 q g (t.trans t2)
theorem UpA.mono {R:List Z->Hq->Prop} {Q:List V->Hp->Prop} (h:UpA K H R Q) (t:TK K H H'):UpA K H' R Q:=fun w G v H2 q r g t2=>h w G v H2 q r g (t.trans t2)
theorem UpS.mono {R:C3} {Q:L2.St->Hp->Prop} (h:UpS K H R Q) (t:TK K H H'):UpS K H' R Q:=fun w G v H2 q r g t2=>h w G v H2 q r g (t.trans t2)
end
def low (K:Fg) (t:E3):TE:=fun τ H Q=>∃ σ G R,RSt K H σ τ/\RH K G H/\t σ G R/\UpV K H R Q
theorem low.un {K:Fg} {t:E3} {τ:L2.St} {H:Hp} {Q:VK} {C:Prop} (z:low K t τ H Q) (f:∀ σ G R,(RSt K H σ τ)->(RH K G H)->(t σ G R)->(UpV K H R Q)->C):C:=by obtain⟨σ,G,R,q0,q1,q2,q3⟩:=z;exact f _ _ _ q0 q1 q2 q3
def lowT (K:Fg) (t:T3):TT:=fun τ H Q=>∃ σ G R,RSt K H σ τ/\RH K G H/\t σ G R/\UpB K H R Q
theorem lowT.un {K:Fg} {t:T3} {τ:L2.St} {H:Hp} {Q:Bool->Hp->Prop} {C:Prop} (z:lowT K t τ H Q) (f:∀ σ G R,(RSt K H σ τ)->(RH K G H)->(t σ G R)->(UpB K H R Q)->C):C:=by obtain⟨σ,G,R,q0,q1,q2,q3⟩:=z;exact f _ _ _ q0 q1 q2 q3
def lowA (K:Fg) (t:A3):TA:=fun τ H Q=>∃ σ G R,RSt K H σ τ/\RH K G H/\t σ G R/\UpA K H R Q
theorem lowA.un {K:Fg} {t:A3} {τ:L2.St} {H:Hp} {Q:List V->Hp->Prop} {C:Prop} (z:lowA K t τ H Q) (f:∀ σ G R,(RSt K H σ τ)->(RH K G H)->(t σ G R)->(UpA K H R Q)->C):C:=by obtain⟨σ,G,R,q0,q1,q2,q3⟩:=z;exact f _ _ _ q0 q1 q2 q3
def lowS (K:Fg) (t:X3):TS:=fun D τ H=>∃ σ G nx rt bk ct,RSt K H σ τ/\RH K G H/\t nx rt bk ct σ G/\UpS K H nx D.nx/\UpV K H rt D.rt/\UpS K H bk D.bk/\UpS K H ct D.ct
theorem lowS.un {K:Fg} {t:X3} {D:Ends} {τ:L2.St} {H:Hp} {C:Prop} (z:lowS K t D τ H) (f:∀ σ G nx rt bk ct,(RSt K H σ τ)->(RH K G H)->(t nx rt bk ct σ G)->(UpS K H nx D.nx)->(UpV K H rt D.rt)->(UpS K H bk D.bk)->(UpS K H ct D.ct)->C):C:=by obtain⟨σ,G,nx,rt,bk,ct,q0,q1,q2,q3,q4,q5,q6⟩:=z;exact f _ _ _ _ _ _ q0 q1 q2 q3 q4 q5 q6
structure QE (X:Cx) (e:Expr) (t:E3):Prop where
 p:PE X e (low X.K t)
structure QT (X:Cx) (e:Expr) (t:T3):Prop where
 p:PT X e (lowT X.K t)
structure QW (X:Cx) (e:Expr) (t:T3):Prop where
 p:PW X e (lowT X.K t)
structure QA (X:Cx) (es:List Expr) (t:A3):Prop where
 p:PA X es (lowA X.K t)
structure QS (X:Cx) (st:Stmt) (t:X3):Prop where
 p:PS X st (lowS X.K t)
structure QSs (X:Cx) (st:List Stmt) (t:X3):Prop where
 p:PSs X st (lowS X.K t)
theorem QW.qt {X:Cx} {e:Expr} {t:T3} (h:QW X e t):QT X e t:=⟨PW.pt h.p⟩
section
variable {X:Cx} {e:Expr} {es:List Expr} {st:Stmt} {sts:List Stmt}
theorem a1Z {t t':TE} (h:PE X e t') (i:∀ σ H Q,t σ H Q->t' σ H Q):PE X e t:=fun pins s σ H Q I q=>h pins s σ H Q I (i σ H Q q)
theorem b1K {t t':TT} (h:PT X e t') (i:∀ σ H Q,t σ H Q->t' σ H Q):PT X e t:=fun pins s σ H Q I q=>h pins s σ H Q I (i σ H Q q)
theorem b5a {t t':TT} (h:PW X e t') (i:∀ σ H Q,t σ H Q->t' σ H Q):PW X e t:=fun w pins s σ H Q I q=>h w pins s σ H Q I (i σ H Q q)
theorem b5b {t t':TA} (h:PA X es t') (i:∀ σ H Q,t σ H Q->t' σ H Q):PA X es t:=fun pos pins s σ H Q I q=>h pos pins s σ H Q I (i σ H Q q)
theorem a3E {t t':TS} (h:PS X st t') (i:∀ D σ H,t D σ H->t' D σ H):PS X st t:=fun pins s σ H D I q=>h pins s σ H D I (i D σ H q)
theorem a9X {t t':TS} (h:PSs X sts t') (i:∀ D σ H,t D σ H->t' D σ H):PSs X sts t:=fun pins s σ H D I q=>h pins s σ H D I (i D σ H q)
end
end L3
namespace L3
open PySem PySem.Spec PyProof.Rows L2
abbrev R3:=Z->Z->Hq->K3->Prop
def low2 (K:Fg) (r:R3):R2:=fun x y H Q=>∃ a b G R,Rep K H a x/\Rep K H b y/\RH K G H/\r a b G R/\UpV K H R Q
theorem low2.un {K:Fg} {r:R3} {x y:V} {H:Hp} {Q:VK} {C:Prop} (z:low2 K r x y H Q) (f:∀ a b G R,(Rep K H a x)->(Rep K H b y)->(RH K G H)->(r a b G R)->(UpV K H R Q)->C):C:=by obtain⟨a,b,G,R,q0,q1,q2,q3,q4⟩:=z;exact f _ _ _ _ q0 q1 q2 q3 q4
def low1 (K:Fg) (r:Z->Hq->K3->Prop):V->Hp->VK->Prop:=fun x H Q=>∃ a G R,Rep K H a x/\RH K G H/\r a G R/\UpV K H R Q
theorem low1.un {K:Fg} {r:Z->Hq->K3->Prop} {x:V} {H:Hp} {Q:VK} {C:Prop} (z:low1 K r x H Q) (f:∀ a G R,(Rep K H a x)->(RH K G H)->(r a G R)->(UpV K H R Q)->C):C:=by obtain⟨a,G,R,q0,q1,q2,q3⟩:=z;exact f _ _ _ q0 q1 q2 q3
def lowC (K:Fg) (r:List Z->Hq->K3->Prop):List V->Hp->VK->Prop:=fun xs H Q=>∃ ws G R,Reps K H ws xs/\RH K G H/\r ws G R/\UpV K H R Q
theorem lowC.un {K:Fg} {r:List Z->Hq->K3->Prop} {xs:List V} {H:Hp} {Q:VK} {C:Prop} (z:lowC K r xs H Q) (f:∀ ws G R,(Reps K H ws xs)->(RH K G H)->(r ws G R)->(UpV K H R Q)->C):C:=by obtain⟨ws,G,R,q0,q1,q2,q3⟩:=z;exact f _ _ _ q0 q1 q2 q3
def lowM (K:Fg) (r:Z->List Z->Hq->K3->Prop):V->List V->Hp->VK->Prop:=fun x xs H Q=>∃ w ws G R,Rep K H w x/\Reps K H ws xs/\RH K G H/\r w ws G R/\UpV K H R Q
theorem lowM.un {K:Fg} {r:Z->List Z->Hq->K3->Prop} {x:V} {xs:List V} {H:Hp} {Q:VK} {C:Prop} (z:lowM K r x xs H Q) (f:∀ w ws G R,(Rep K H w x)->(Reps K H ws xs)->(RH K G H)->(r w ws G R)->(UpV K H R Q)->C):C:=by obtain⟨w,ws,G,R,q0,q1,q2,q3,q4⟩:=z;exact f _ _ _ _ q0 q1 q2 q3 q4
def OpQ (X:Cx) (f:Value->Value->Sem Value) (r:R3):Prop:=OpR X f (low2 X.K r)
def UnQ (X:Cx) (f:Value->Sem Value) (r:Z->Hq->K3->Prop):Prop:=UnR X f (low1 X.K r)
def a3F (X:Cx) (f:Value) (r:List Z->Hq->K3->Prop):Prop:=CallR X f (lowC X.K r)
def IxQ (X:Cx) (r:R3):Prop:=IxR X (low2 X.K r)
def MtQ (X:Cx) (id:String) (r:Z->List Z->Hq->K3->Prop):Prop:=MtR X id (lowM X.K r)
theorem a5m {X:Cx} {f:Value->Value->Sem Value} {r r':R2} (h:OpR X f r') (i:∀ x y H Q,r x y H Q->r' x y H Q):OpR X f r:=fun pins s σ H x y v u Q I rx ry q=>h pins s σ H x y v u Q I rx ry (i x y H Q q)
theorem b7f {X:Cx} {f:Value->Sem Value} {r r':V->Hp->VK->Prop} (h:UnR X f r') (i:∀ x H Q,r x H Q->r' x H Q):UnR X f r:=fun pins s σ H x v Q I rx q=>h pins s σ H x v Q I rx (i x H Q q)
theorem a2g {X:Cx} {f:Value} {r r':List V->Hp->VK->Prop} (h:CallR X f r') (i:∀ xs H Q,r xs H Q->r' xs H Q):CallR X f r:=fun pins s σ H xs us Q I rx q=>h pins s σ H xs us Q I rx (i xs H Q q)
theorem b7g {X:Cx} {r r':R2} (h:IxR X r') (i:∀ x y H Q,r x y H Q->r' x y H Q):IxR X r:=fun a b pins s σ H x y v u Q I rx ry q=>h a b pins s σ H x y v u Q I rx ry (i x y H Q q)
theorem a8Y {X:Cx} {id:String} {r r':V->List V->Hp->VK->Prop} (h:MtR X id r') (i:∀ x xs H Q,r x xs H Q->r' x xs H Q):MtR X id r:=fun pins s σ H x xs v us Q I rx rs q=>h pins s σ H x xs v us Q I rx rs (i x xs H Q q)
def uVar (i:Nat):E3:=fun σ G R=>∃ w,σ[i]?=some (some w)/\R w G
def uC (w:Z):E3:=fun _ G R=>R w G
section
variable {X:Cx} {e a b c:Expr} {pos:Pos} {ta tb tc:E3}
theorem a0d {i:Nat} (h:PE X e (tVar i)):QE X e (uVar i):=⟨a1Z h fun τ H Q ⟨σ,G,R,hs,hg,⟨w,e,q⟩,up⟩=>by
 obtain⟨v,e',r⟩:=hs.get e
 exact⟨v,e',up w G v H q r hg (.refl _ _)⟩⟩
theorem a7x {v:V} {w:Z} (h:PE X e (tC v)) (hr:∀ H,Rep X.K H w v):QE X e (uC w):=⟨a1Z h fun τ H Q hx=>hx.un fun σ G R hs hg q up=>up w G v H q (hr H) hg (.refl _ _)⟩
theorem a0g {i j pos}:QE X (.Constant (.int i) j pos) (uC (.int i)):=a7x b4n fun _=>by rw [a0u]
theorem q_bl {b j pos}:QE X (.Constant (.bool b) j pos) (uC (.bl b)):=a7x b6S fun _=>by rw [a06]
theorem a35 {j pos}:QE X (.Constant .none j pos) (uC .non):=a7x b4o fun _=>by rw [a1H]
theorem a1Q {x j pos}:QE X (.Constant (.str x) j pos) (uC (.str x)):=a7x b4p fun _=>by rw [a0H]
theorem b2w {i:Int} (h:PE X e (tC (.int i))):QE X e (uC (.int i)):=a7x h fun _=>by rw [a0u]
theorem q_ty {n:String} (h:PE X e (tC (.ty n))):QE X e (uC (.ty n)):=a7x h fun _=>by rw [a6G]
def uOp (r:R3) (ta tb:E3):E3:=fun σ G R=>ta σ G fun x G1=>tb σ G1 fun y G2=>r x y G2 R
def uUn (r:Z->Hq->K3->Prop) (ta:E3):E3:=fun σ G R=>ta σ G fun x G1=>r x G1 R
theorem a8e {K:Fg} {r:R3} {τ:L2.St} {H:Hp} {Q:VK} (h:low K (uOp r ta tb) τ H Q):tOp (low2 K r) (low K ta) (low K tb) τ H Q:=by
 obtain⟨σ,G,R,hs,hg,h,up⟩:=h
 refine⟨σ,G,_,hs,hg,h,fun w G1 v H1 h1 rv hg1 t1=>?_⟩
 refine⟨σ,G1,_,hs.mono t1,hg1,h1,fun w' G2 v' H2 h2 rv' hg2 t2=>?_⟩
 exact⟨w,w',G2,R,rv.mono t2,rv',hg2,h2,up.mono (t1.trans t2)⟩
theorem b5c {K:Fg} {r:Z->Hq->K3->Prop} {τ:L2.St} {H:Hp} {Q:VK} (h:low K (uUn r ta) τ H Q):tUn (low1 K r) (low K ta) τ H Q:=by
 obtain⟨σ,G,R,hs,hg,h,up⟩:=h
 exact⟨σ,G,_,hs,hg,h,fun w G1 v H1 h1 rv hg1 t1=>⟨w,G1,R,rv,hg1,h1,up.mono t1⟩⟩
theorem q_op {op:Operator} {r:R3} (ho:OpQ X (binaryOp op) r) (ha:QE X a ta) (hb:QE X b tb):QE X (.BinOp a op b pos) (uOp r ta tb):=⟨a1Z (b6Z ho ha.p hb.p) fun _ _ _=>a8e⟩
theorem q_un {op:UnaryOp} {r:Z->Hq->K3->Prop} (ho:UnQ X (unaryOp op) r) (ha:QE X a ta):QE X (.UnaryOp op a pos) (uUn r ta):=⟨a1Z (b60 ho ha.p) fun _ _ _=>b5c⟩
theorem a9Y {op:CmpOp} {r:R3} (ho:OpQ X (compareOp op) r) (ha:QE X a ta) (hb:QE X b tb) (hm:behindInMarks op b=false):QE X (.Compare a [op] [b] pos) (uOp r ta tb):=⟨a1Z (b24 ho ha.p hb.p hm) fun _ _ _=>a8e⟩
def b1L (t:E3):T3:=fun σ G R=>t σ G fun x G1=>∃ k,x=.bl k/\R k G1
theorem a8f {K:Fg} {τ:L2.St} {H:Hp} {Q:Bool->Hp->Prop} (h:lowT K (b1L ta) τ H Q):low K ta τ H fun x H'=>∃ k,x=.bl k/\Q k H':=by
 obtain⟨σ,G,R,hs,hg,h,up⟩:=h
 refine⟨σ,G,_,hs,hg,h,fun w G1 v H1 ⟨k,e,h1⟩ rv hg1 t1=>?_⟩
 subst e
 rw [a06] at rv
 exact⟨k,rv,up _ _ _ h1 hg1 t1⟩
theorem a0J {op:CmpOp} {r:R3} (ho:OpQ X (compareOp op) r) (ha:QE X a ta) (hb:QE X b tb) (hm:behindInMarks op b=false):QT X (.Compare a [op] [b] pos) (b1L (uOp r ta tb)):=⟨b1K (b25 ho ha.p hb.p hm) fun _ _ _ h=>a8e (a8f h)⟩
def a9Z (r r':R3) (ta tb tc:E3):E3:=fun σ G R=>ta σ G fun x G1=>tb σ G1 fun y G2=>r x y G2 fun z G3=>∃ k,z=.bl k/\(if k=true then tc σ G3 fun w G4=>r' y w G4 R else R (.bl false) G3)
theorem a90 {K:Fg} {r r':R3} {τ:L2.St} {H:Hp} {Q:VK} (h:low K (a9Z r r' ta tb tc) τ H Q):b2q (low2 K r) (low2 K r') (low K ta) (low K tb) (low K tc) τ H Q:=by
 obtain⟨σ,G,R,hs,hg,h,up⟩:=h
 refine⟨σ,G,_,hs,hg,h,fun w G1 v H1 h1 rv hg1 t1=>?_⟩
 refine⟨σ,G1,_,hs.mono t1,hg1,h1,fun w' G2 v' H2 h2 rv' hg2 t2=>?_⟩
 refine⟨w,w',G2,_,rv.mono t2,rv',hg2,h2,fun z G3 vz H3 ⟨k,ek,h3⟩ rz hg3 t3=>?_⟩
 subst ek
 rw [a06] at rz
 refine⟨k,rz,?_⟩
 cases k with
 | false=>exact up _ _ _ _ (by simpa using h3) (by rw [a06]) hg3 ((t1.trans t2).trans t3)
 | true=>
  rw [if_pos rfl] at h3 ⊢
  refine⟨σ,G3,_,hs.mono ((t1.trans t2).trans t3),hg3,h3,fun w4 G4 v4 H4 h4 r4 hg4 t4=>?_⟩
  exact⟨w',w4,G4,R,rv'.mono (t3.trans t4),r4,hg4,h4,up.mono (((t1.trans t2).trans t3).trans t4)⟩
theorem a91 {op op':CmpOp} {r r':R3} (ho:OpQ X (compareOp op) r) (ho':OpQ X (compareOp op') r') (ha:QE X a ta) (hb:QE X b tb) (hc:QE X c tc)
  (hm:lastMarks [op,op'] [b,c]=false:=by with_unfolding_all rfl):QE X (.Compare a [op,op'] [b,c] pos) (a9Z r r' ta tb tc):=⟨a1Z (b1i ho ho' ha.p hb.p hc.p hm) fun _ _ _=>a90⟩
def uAnd (t u:T3):T3:=fun σ G R=>t σ G fun c G1=>if c=true then u σ G1 R else R false G1
def uOr (t u:T3):T3:=fun σ G R=>t σ G fun c G1=>if c=true then R true G1 else u σ G1 R
def uNot (t:T3):T3:=fun σ G R=>t σ G fun c G1=>R (!c) G1
variable {t u:T3} {rest:List Expr}
theorem a41 (ha:QT X a t):QW X (.BoolOp .And [a] pos) t:=⟨b2X ha.p⟩
theorem a53 (ha:QT X a t):QW X (.BoolOp .Or [a] pos) t:=⟨b4r ha.p⟩
theorem a6I (ha:QT X a t) (hb:QW X (.BoolOp .And (b::rest) pos) u):QW X (.BoolOp .And (a::b::rest) pos) (uAnd t u):=⟨b5a (b4s ha.p hb.p) fun τ H Q hx=>hx.un fun σ G R hs hg h up=>by
 refine⟨σ,G,_,hs,hg,h,fun k G1 H1 h1 hg1 t1=>?_⟩
 cases k with
 | false=>exact up _ _ _ (by simpa using h1) hg1 t1
 | true=>rw [if_pos rfl] at h1 ⊢;exact⟨σ,G1,R,hs.mono t1,hg1,h1,up.mono t1⟩⟩
theorem q_or (ha:QT X a t) (hb:QW X (.BoolOp .Or (b::rest) pos) u):QW X (.BoolOp .Or (a::b::rest) pos) (uOr t u):=⟨b5a (b6T ha.p hb.p) fun τ H Q hx=>hx.un fun σ G R hs hg h up=>by
 refine⟨σ,G,_,hs,hg,h,fun k G1 H1 h1 hg1 t1=>?_⟩
 cases k with
 | true=>exact up _ _ _ (by simpa using h1) hg1 t1
 | false=>rw [if_neg (by decide)] at h1 ⊢;exact⟨σ,G1,R,hs.mono t1,hg1,h1,up.mono t1⟩⟩
theorem a3i (ha:QT X a t):QT X (.UnaryOp .Not a pos) (uNot t):=⟨b1K (b4t ha.p) fun τ H Q hx=>hx.un fun σ G R hs hg h up=>
 ⟨σ,G,_,hs,hg,h,fun k G1 H1 h1 hg1 t1=>up _ _ _ h1 hg1 t1⟩⟩
def b5d (ta tb:E3):E3:=fun σ G R=>ta σ G fun x G1=>∃ c,x=.bl c/\if c=true then tb σ G1 R else R (.bl false) G1
def uOrV (ta tb:E3):E3:=fun σ G R=>ta σ G fun x G1=>∃ c,x=.bl c/\if c=true then R (.bl true) G1 else tb σ G1 R
def b7h (ta:E3):E3:=fun σ G R=>ta σ G fun x G1=>∃ c,x=.bl c/\R (.bl (!c)) G1
theorem a92 {op} (h:QE X a ta):QE X (.BoolOp op [a] pos) ta:=⟨b4u h.p⟩
theorem a6J (ha:QE X a ta) (hb:QE X (.BoolOp .And (b::rest) pos) tb):QE X (.BoolOp .And (a::b::rest) pos) (b5d ta tb):=⟨a1Z (b4v ha.p hb.p) fun τ H Q hx=>hx.un fun σ G R hs hg h up=>by
 refine⟨σ,G,_,hs,hg,h,fun x G1 v H1 ⟨k,ek,h1⟩ rv hg1 t1=>?_⟩
 subst ek
 rw [a06] at rv
 refine⟨k,rv,?_⟩
 cases k with
 | false=>exact up _ _ _ _ (by simpa using h1) (by rw [a06]) hg1 t1
 | true=>rw [if_pos rfl] at h1 ⊢;exact⟨σ,G1,R,hs.mono t1,hg1,h1,up.mono t1⟩⟩
def uIf (t:T3) (ta tb:E3):E3:=fun σ G R=>t σ G fun c G1=>if c=true then ta σ G1 R else tb σ G1 R
theorem q_if (hc:QT X c t) (ha:QE X a ta) (hb:QE X b tb):QE X (.IfExp c a b pos) (uIf t ta tb):=⟨a1Z (b1f hc.p ha.p hb.p) fun τ H Q hx=>hx.un fun σ G R hs hg h up=>by
 refine⟨σ,G,_,hs,hg,h,fun k G1 H1 h1 hg1 t1=>?_⟩
 cases k with
 | true=>rw [if_pos rfl] at h1 ⊢;exact⟨σ,G1,R,hs.mono t1,hg1,h1,up.mono t1⟩
 | false=>rw [if_neg (by decide)] at h1 ⊢;exact⟨σ,G1,R,hs.mono t1,hg1,h1,up.mono t1⟩⟩
def tru:Z->Hq->(Bool->Hq->Prop)->Prop
 | .non,G,R=>R false G
 | .bl b,G,R=>R b G
 | .int i,G,R=>R (i != 0) G
 | .str y,G,R=>y.length≤sizeLine/\R ((y.length:Int) != 0) G
 | .tup ws,G,R=>R (!ws.isEmpty) G
 | .scr _ ns,G,R=>R (!ns.isEmpty) G
 | .ref p,G,R=>(∃ ws,G p=some (.lst ws)/\R (!ws.isEmpty) G)\/∃ kvs,G p=some (.dK kvs)/\R (!kvs.isEmpty) G
 | .ty _,_,_=>False
def uTru (ta:E3):T3:=fun σ G R=>ta σ G fun x G1=>tru x G1 R
theorem a2z {α β:Type} {a:List α} {b:List β} (h:a.length=b.length):a.isEmpty=b.isEmpty:=by
 cases a<;>cases b<;>simp_all
theorem b3l {K:Fg} {w:Z} {v:V} {G:Hq} {H:Hp} {R:Bool->Hq->Prop} {Q:Bool->Hp->Prop} (h:tru w G R) (r:Rep K H w v) (hg:RH K G H) (up:UpB K H R Q):∃ k,TruV K v H k/\Q k H:=by
 cases w with
 | non=>rw [a1H] at r;subst r;exact⟨_,rfl,up _ _ _ h hg (.refl _ _)⟩
 | bl b=>rw [a06] at r;subst r;exact⟨_,rfl,up _ _ _ h hg (.refl _ _)⟩
 | int i=>rw [a0u] at r;subst r;exact⟨_,rfl,up _ _ _ h hg (.refl _ _)⟩
 | str y=>rw [a0H] at r;subst r;exact⟨_,⟨h.1,rfl⟩,up _ _ _ h.2 hg (.refl _ _)⟩
 | ty n=>exact False.elim h
 | scr a ns=>rw [a2x] at r;obtain⟨rfl,f⟩:=r;exact⟨!ns.isEmpty,.inl ⟨_,f.sq,by rw [a2z (List.length_map ..).symm]⟩,up _ _ _ h hg (.refl _ _)⟩
 | tup ws=>
  rw [a1w] at r
  obtain⟨a,vs,rfl,e,rs⟩:=r
  exact⟨!ws.isEmpty,.inr (.inl ⟨vs,SqT.of e,by rw [a2z rs.length]⟩),up _ _ _ h hg (.refl _ _)⟩
 | ref p=>
  rw [a0p] at r
  subst r
  rcases h with ⟨ws,e,h⟩ | ⟨kvs,e,h⟩
  ·obtain⟨vs,e',rs⟩:=hg p _ e
   exact⟨_,.inl ⟨vs,SqL.of e',by rw [<- a2z rs.length]⟩,up _ _ _ h hg (.refl _ _)⟩
  ·obtain⟨us,e',hn,rs⟩:=hg p _ e
   exact⟨_,.inr (.inr ⟨us,e',by rw [a2z (show kvs.length=us.length by rw [<- List.length_map (f:=(·.2)) (as:=kvs),rs.length,List.length_map])]⟩),up _ _ _ h hg (.refl _ _)⟩
theorem a8Z (ha:QE X a ta) (he:∀ whole,isTrue a X.env whole=(do let v <- whole;standAt a.pos;holding [v] (truthy v))):QT X a (uTru ta):=⟨b1K (b1j ha.p he) fun τ H Q hx=>hx.un fun σ G R hs hg h up=>
 ⟨σ,G,_,hs,hg,h,fun w G1 v H1 h1 rv hg1 t1=>b3l h1 rv hg1 (up.mono t1)⟩⟩
theorem a6K (ha:QE X a ta) (he:∀ whole,isTrue a X.env whole=(do let v <- whole;standAt a.pos;holding [v] (truthy v)):=by intro _;rfl):QT X a (b1L ta):=⟨b1K (b4q ha.p he) fun _ _ _ h=>a8f h⟩
end
section
variable {env:Env} {es:List Expr} {pos:Pos}
theorem a0e {c k p}:starEach (.Constant c k p::es) env=(false,eval (.Constant c k p) env)::starEach es env:=rfl
theorem a0a {x p}:starEach (.Name x p::es) env=(false,eval (.Name x p) env)::starEach es env:=rfl
theorem a0K {a o b p}:starEach (.BinOp a o b p::es) env=(false,eval (.BinOp a o b p) env)::starEach es env:=rfl
theorem a5D {o a p}:starEach (.UnaryOp o a p::es) env=(false,eval (.UnaryOp o a p) env)::starEach es env:=rfl
theorem a42 {o a p}:starEach (.BoolOp o a p::es) env=(false,eval (.BoolOp o a p) env)::starEach es env:=rfl
theorem a54 {a p}:starEach (.List a p::es) env=(false,eval (.List a p) env)::starEach es env:=rfl
theorem a10 {a k p}:starEach (.Tuple a k p::es) env=(false,eval (.Tuple a k p) env)::starEach es env:=rfl
theorem a0m {a b p}:starEach (.Subscript a b p::es) env=(false,eval (.Subscript a b p) env)::starEach es env:=rfl
theorem a1W {a b p}:starEach (.Attribute a b p::es) env=(false,eval (.Attribute a b p) env)::starEach es env:=rfl
theorem a1q {a b c p}:starEach (.Call a b c p::es) env=(false,eval (.Call a b c p) env)::starEach es env:=rfl
theorem a1I {a b c p}:starEach (.ListComp a b c p::es) env=(false,eval (.ListComp a b c p) env)::starEach es env:=rfl
theorem a0l:(backTo pos (starEach [] env)).any (·.1)=false:=rfl
theorem a0i {e:Expr} (h:starEach (e::es) env=(false,eval e env)::starEach es env) (r:(backTo pos (starEach es env)).any (·.1)=false):(backTo pos (starEach (e::es) env)).any (·.1)=false:=by
 rw [h]
 show (false||(backTo pos (starEach es env)).any (·.1))=false
 rw [r];rfl
end
section
variable {X:Cx} {e a b:Expr} {es:List Expr} {pos p2:Pos} {te ta tb:E3} {t:A3}
theorem q_ix {r:R3} (hr:IxQ X r) (ha:QE X a ta) (hb:QE X b tb) (hs:a9M b):QE X (.Subscript a b pos) (uOp r ta tb):=⟨a1Z (b69 hr ha.p hb.p hs) fun _ _ _=>a8e⟩
abbrev O3:=S3->Hq->(Option Int->Hq->Prop)->Prop
def a93:O3:=fun _ G R=>R none G
def b5e (t:E3):O3:=fun σ G R=>t σ G fun x G1=>∃ i,x=.int i/\R (some i) G1
def lowO (K:Fg) (t:O3):TO:=fun τ H Q=>∃ σ G R,RSt K H σ τ/\RH K G H/\t σ G R/\∀ o G' H',R o G'->RH K G' H'->TK K H H'->Q o H'
theorem lowO.un {K:Fg} {t:O3} {τ:L2.St} {H:Hp} {Q:Option Int->Hp->Prop} {C:Prop} (z:lowO K t τ H Q) (f:∀ σ G R,(RSt K H σ τ)->(RH K G H)->(t σ G R)->(∀ o G' H',R o G'->RH K G' H'->TK K H H'->Q o H')->C):C:=by obtain⟨σ,G,R,q0,q1,q2,q3⟩:=z;exact f _ _ _ q0 q1 q2 q3
def QO (X:Cx) (e:Option Expr) (t:O3):Prop:=PO X e (lowO X.K t)
theorem a26:QO X none a93:=fun pins s τ H Q I ⟨σ,G,R,hs,hg,h,up⟩=>b3d pins s τ H Q I (up _ _ _ h hg (.refl _ _))
theorem a3j (h:QE X e te):QO X (some e) (b5e te):=fun pins s τ H Q I ⟨σ,G,R,hs,hg,q,up⟩=>b3e h.p pins s τ H Q I ⟨σ,G,_,hs,hg,q,fun w G1 v H1 ⟨i,ei,h1⟩ rv hg1 t1=>by
 subst ei
 rw [a0u] at rv
 exact⟨i,rv,up _ _ _ h1 hg1 t1⟩⟩
abbrev L3r:=Z->Option Int->Option Int->Hq->K3->Prop
def lowL (K:Fg) (r:L3r):V->Option Int->Option Int->Hp->VK->Prop:=fun x lo hi H Q=>∃ w G R,Rep K H w x/\RH K G H/\r w lo hi G R/\UpV K H R Q
theorem lowL.un {K:Fg} {r:L3r} {x:V} {lo hi:Option Int} {H:Hp} {Q:VK} {C:Prop} (z:lowL K r x lo hi H Q) (f:∀ w G R,(Rep K H w x)->(RH K G H)->(r w lo hi G R)->(UpV K H R Q)->C):C:=by obtain⟨w,G,R,q0,q1,q2,q3⟩:=z;exact f _ _ _ q0 q1 q2 q3
def SlQ (X:Cx) (r:L3r):Prop:=SlR X (lowL X.K r)
theorem b7i {r r':V->Option Int->Option Int->Hp->VK->Prop} (h:SlR X r') (i:∀ x lo hi H Q,r x lo hi H Q->r' x lo hi H Q):SlR X r:=fun pins s σ H x v vl vu lo hi sl Q I rx hs pl pu q=>h pins s σ H x v vl vu lo hi sl Q I rx hs pl pu (i _ _ _ _ _ q)
def uSl (r:L3r) (te:E3) (tl th:O3):E3:=fun σ G R=>te σ G fun x G1=>tl σ G1 fun l G2=>th σ G2 fun u G3=>r x l u G3 R
theorem a2X {r:L3r} {lo hi:Option Expr} {tl th:O3} (hr:SlQ X r) (he:QE X e te) (hl:QO X lo tl) (hu:QO X hi th):QE X (.Subscript e (.Slice lo hi none p2) pos) (uSl r te tl th):=⟨a1Z (b1s hr he.p hl hu) fun τ H Q hx=>hx.un fun σ G R hs hg h up=>
 ⟨σ,G,_,hs,hg,h,fun w G1 v H1 h1 rv hg1 t1=>⟨σ,G1,_,hs.mono t1,hg1,h1,fun l G2 H2 h2 hg2 t2=>⟨σ,G2,_,hs.mono (t1.trans t2),hg2,h2,fun u G3 H3 h3 hg3 t3=>
  ⟨w,G3,R,rv.mono (t2.trans t3),hg3,h3,up.mono ((t1.trans t2).trans t3)⟩⟩⟩⟩⟩
def uNil:A3:=fun _ G R=>R [] G
def b5f (ta:E3) (tr:A3):A3:=fun σ G R=>ta σ G fun x G1=>tr σ G1 fun xs G2=>R (x::xs) G2
theorem a0k:QA X [] uNil:=⟨b5b b4N fun τ H Q hx=>hx.un fun σ G R hs hg h up=>up _ _ _ _ h .nil hg (.refl _ _)⟩
theorem a0b (ha:QE X e te) (hr:QA X es t) (hs:starEach (e::es) X.env=(false,eval e X.env)::starEach es X.env:=by rfl):QA X (e::es) (b5f te t):=⟨b5b (b3a ha.p hr.p hs) fun τ H Q hx=>hx.un fun σ G R hs hg h up=>
 ⟨σ,G,_,hs,hg,h,fun w G1 v H1 h1 rv hg1 t1=>⟨σ,G1,_,hs.mono t1,hg1,h1,fun ws G2 vs H2 h2 rs hg2 t2=>up _ _ _ _ h2 (.cons (rv.mono t2) rs) hg2 (t1.trans t2)⟩⟩⟩
def uTup (t:A3):E3:=fun σ G R=>t σ G fun xs G1=>xs.length≤sizeLine/\R (.tup xs) G1
def uLst (t:A3):E3:=fun σ G R=>t σ G fun xs G1=>xs.length≤sizeLine/\∀ p,G1 p=none->R (.ref p) (put G1 p (.lst xs))
theorem a2m {x1} (h:QA X es t):QE X (.Tuple es x1 pos) (uTup t):=⟨a1Z (b4O h.p) fun τ H Q hx=>hx.un fun σ G R hs hg h up=>
 ⟨σ,G,_,hs,hg,h,fun ws G1 vs H1 ⟨hz,h1⟩ rv hg1 t1=>⟨by rw [<- rv.length];exact hz,fun p hp=>up _ _ _ _ h1 (by rw [a1w];exact⟨p,vs,rfl,a1a,rv.mono (.new hp)⟩) (hg1.hid hp) (t1.trans (.new hp))⟩⟩⟩
theorem a2A {K:Fg} {H:Hp} {p:Addr} {ws:List Z} {vs:List V} (r:Reps K H ws vs) (t:TK K H (upd H p (.lst vs))):ROb K (upd H p (.lst vs)) p (.lst ws):=⟨vs,a1a,r.mono t⟩
theorem a1X (h:QA X es t):QE X (.List es pos) (uLst t):=⟨a1Z (b4P h.p) fun τ H Q hx=>hx.un fun σ G R hs hg h up=>
 ⟨σ,G,_,hs,hg,h,fun ws G1 vs H1 ⟨hz,h1⟩ rv hg1 t1=>⟨by rw [<- rv.length];exact hz,fun p hp=>up _ _ _ _ (h1 p (hg1.out hp)) (by rw [a0p]) (hg1.set (.new hp) (a2A rv (.new hp))) (t1.trans (.new hp))⟩⟩⟩
def uCB (r:List Z->Hq->K3->Prop) (t:A3):E3:=fun σ G R=>t σ G fun ws G1=>r ws G1 R
theorem b2x {K:Fg} {r:List Z->Hq->K3->Prop} {τ:L2.St} {H:Hp} {Q:VK} (h:low K (uCB r t) τ H Q):tCB (lowC K r) (lowA K t) τ H Q:=by
 obtain⟨σ,G,R,hs,hg,h,up⟩:=h
 exact⟨σ,G,_,hs,hg,h,fun ws G1 vs H1 h1 rs hg1 t1=>⟨ws,G1,R,rs,hg1,h1,up.mono t1⟩⟩
variable {x:Str} {p:Pos} {id T:String} {r:List Z->Hq->K3->Prop}
theorem a01 (hc:a3F X (.builtin id) r) (hg:Gl X x) (hm:X.mg x=none) (hv:bootBuiltins x=some (.builtin id)) (ha:QA X (e::es) t) (hn:x≠"__name__":=by decide) (hdb:(x==("__debug__":Str))=false:=by decide)
  (he:starEach (e::es) X.env=(false,eval e X.env)::starEach es X.env:=by rfl) (hpl:(backTo pos (starEach es X.env)).any (·.1)=false:=by rfl):QE X (.Call (.Name x p) (e::es) [] pos) (uCB r t):=⟨a1Z (b1q hc hg hm hv ha.p hn hdb he hpl) fun _ _ _=>b2x⟩
theorem a4M (hc:a3F X (.type T) r) (hg:Gl X x) (hm:X.mg x=none) (hv:bootBuiltins x=some (.type T)) (ha:QA X (e::es) t) (hn:x≠"__name__":=by decide) (hdb:(x==("__debug__":Str))=false:=by decide)
  (he:starEach (e::es) X.env=(false,eval e X.env)::starEach es X.env:=by rfl) (hpl:(backTo pos (starEach es X.env)).any (·.1)=false:=by rfl):QE X (.Call (.Name x p) (e::es) [] pos) (uCB r t):=⟨a1Z (a9J hc hg hm hv ha.p hn hdb he hpl) fun _ _ _=>b2x⟩
def tyZ (T:String) (x:Z) (G:Hq):Prop:=match x with
 | .str _=>T="str"
 | .int _=>T="int"
 | .ref p=>(T="list"/\∃ ws,G p=some (.lst ws))\/(T="dict"/\∃ kvs,G p=some (.dK kvs)\/G p=some (.dF kvs))
 | .scr _ _=>T="list"
 | _=>False
theorem b3m {K:Fg} {G:Hq} {H:Hp} {w:Z} {v:V} (h:tyZ T w G) (r:Rep K H w v) (hg:RH K G H):tyV K T v H:=by
 cases w with
 | str y=>rw [a0H] at r;subst r;exact h
 | int y=>rw [a0u] at r;subst r;exact h
 | ref q=>
  rw [a0p] at r
  subst r
  rcases h with ⟨e,ws,g⟩ | ⟨e,kvs,g⟩
  ·obtain⟨vs,e',_⟩:=hg q _ g;exact .inl ⟨e,vs,SqL.of e'⟩
  ·rcases g with g | g
   ·obtain⟨vs,e',_⟩:=hg q _ g;exact .inr (.inr (.inl ⟨e,.inl ⟨vs,e'⟩⟩))
   ·obtain⟨ob,vs,e',_⟩:=hg q _ g;exact .inr (.inr (.inl ⟨e,.inr (.inr ⟨ob,vs,e'⟩)⟩))
 | scr q ns=>rw [a2x] at r;obtain⟨rfl,f⟩:=r;exact .inl ⟨h,_,f.sq⟩
 | _=>exact False.elim h
def uBM0 (T:String) (r:Z->List Z->Hq->K3->Prop) (to:E3):E3:=fun σ G R=>to σ G fun x G1=>tyZ T x G1/\r x [] G1 R
def uBM (T:String) (r:Z->List Z->Hq->K3->Prop) (to:E3) (t:A3):E3:=fun σ G R=>to σ G fun x G1=>tyZ T x G1/\t σ G1 fun xs G2=>r x xs G2 R
variable {o:Expr} {to:E3} {name:Str} {apos cpos:Pos} {rm:Z->List Z->Hq->K3->Prop}
theorem q_bm (pa:PlainAttrs T) (slot:Slot T name id) (hty:typeOf (.builtin id)=pure (.type "method_descriptor")) (hm:MtQ X id rm) (ho:QE X o to) (ha:QA X (e::es) t)
  (hbase:attributeBase o name X.env (eval o X.env)=eval o X.env:=by rfl)
  (hfew:((backTo cpos (starEach (e::es) X.env)).all (fun x=>!x.1)&&(backToKw cpos (keywordEach [] X.env)).all (fun x=>x.1.isSome)
   && decide ((e::es).length+([]:List Keyword).length+(if ([]:List Keyword).isEmpty then 0 else 1)<30))=true:=by rfl)
  (hline:(apos.endLine==cpos.line)=true:=by rfl) (hs:starEach (e::es) X.env=(false,eval e X.env)::starEach es X.env:=by rfl) (hplain:(backTo cpos (starEach es X.env)).any (·.1)=false:=by rfl) :
  QE X (.Call (.Attribute o name apos) (e::es) [] cpos) (uBM T rm to t):=⟨a1Z (b7b pa slot hty hm ho.p ha.p hbase hfew hline hs hplain) fun τ H Q hx=>hx.un fun σ G R hs hg h up=>
  ⟨σ,G,_,hs,hg,h,fun w G1 v H1 ⟨ty,h1⟩ rv hg1 t1=>⟨b3m ty rv hg1,σ,G1,_,hs.mono t1,hg1,h1,fun ws G2 vs H2 h2 rs hg2 t2=>⟨w,ws,G2,R,rv.mono t2,rs,hg2,h2,up.mono (t1.trans t2)⟩⟩⟩⟩
abbrev P3:=List Z->Hq->K3->Prop
def lowP (K:Fg) (sp:P3):Sp:=fun vs H Q _=>lowC K sp vs H Q
def b5g (sp:P3) (t:A3):E3:=fun σ G R=>t σ G fun ws G1=>sp ws G1 R
variable {k:Nat} {f:Addr} {fd:FuncData} {ps:List Str} {sp:P3}
theorem a0Q (F:FnOk X.prog X.w X.K X.mg X.base CX0 k f fd ps (lowP X.K sp)) (hr:Room k X.A) (hg:Gl X x) (hm:X.mg x=some (.ref f)) (hk:PySem.W.keepIn X.K (.ref f)=true) (hb:Binds X.K fd ps []) (ha:QA X (e::es) t)
  (hdb:(x==("__debug__":Str))=false:=by decide) (he:starEach (e::es) X.env=(false,eval e X.env)::starEach es X.env:=by rfl) (hpl:(backTo pos (starEach es X.env)).any (·.1)=false:=by rfl) :
  QE X (.Call (.Name x p) (e::es) [] pos) (b5g sp t):=⟨a1Z (a9G F hr hg hm hk hb .nil b1w ha.p hdb he hpl) fun τ H Q hx=>hx.un fun σ G R hs hg h up=>⟨σ,G,_,hs,hg,h,fun ws G1 vs H1 h1 rs hg1 t1=>⟨ws,G1,R,by rw [List.append_nil];exact rs,hg1,h1,up.mono t1⟩⟩⟩
end
end L3
namespace L3
open PySem PySem.Spec PyProof.Rows L2
section
variable {X:Cx} {e c tg:Expr} {st:Stmt} {rest sa sb:List Stmt} {pos:Pos} {te:E3} {t u:X3} {tc:T3}
def b5h:X3:=fun nx _ _ _ σ G=>nx σ G
def uSeq (t u:X3):X3:=fun nx rt bk ct σ G=>t (u nx rt bk ct) rt bk ct σ G
theorem a1J:QSs X [] b5h:=⟨a9X b2Y fun D τ H hx=>hx.un fun σ G nx rt bk ct hs hg h u1 u2 u3 u4=>u1 _ _ _ _ h hs hg (.refl _ _)⟩
theorem a0n (h1:QS X st t) (h2:QSs X rest u):QSs X (st::rest) (uSeq t u):=⟨a9X (a79 h1.p h2.p) fun D τ H hx=>hx.un fun σ G nx rt bk ct hs hg h u1 u2 u3 u4=>
 ⟨σ,G,_,rt,bk,ct,hs,hg,h,fun σ' G' τ' H' h' hs' hg' t'=>⟨σ',G',nx,rt,bk,ct,hs',hg',h',u1.mono t',u2.mono t',u3.mono t',u4.mono t'⟩,u2,u3,u4⟩⟩
theorem a0t (h1:QS X st t):QSs X [st] t:=⟨b2Z h1.p⟩
def uCut (t u:X3):X3:=fun nx rt bk ct σ G=>∃ M:C3,t M rt bk ct σ G/\∀ σ' G',M σ' G'->u nx rt bk ct σ' G'
theorem a7y (h1:QS X st t) (h2:QSs X rest u):QSs X (st::rest) (uCut t u):=⟨a9X (a79 h1.p h2.p) fun D τ H hx=>hx.un fun σ G nx rt bk ct hs hg h0 u1 u2 u3 u4=>by
 obtain⟨M,h,hM⟩:=h0
 exact⟨σ,G,M,rt,bk,ct,hs,hg,h,fun σ' G' τ' H' h' hs' hg' t'=>⟨σ',G',nx,rt,bk,ct,hs',hg',hM _ _ h',u1.mono t',u2.mono t',u3.mono t',u4.mono t'⟩,u2,u3,u4⟩⟩
def b5i:X3:=fun _ _ bk _ σ G=>bk σ G
def b7j:X3:=fun _ _ _ ct σ G=>ct σ G
def b5j (te:E3):X3:=fun nx _ _ _ σ G=>te σ G fun _ G1=>nx σ G1
theorem a1o (he:QE X e te) (hs:swapsWith e none pos.line X.env=pure false:=by rfl):QS X (.Expr e pos) (b5j te):=⟨a3E (b20 he.p hs) fun D τ H hx=>hx.un fun σ G nx rt bk ct hs hg h u1 u2 u3 u4=>
 ⟨σ,G,_,hs,hg,h,fun w G1 v H1 h1 rv hg1 t1=>u1 _ _ _ _ h1 (hs.mono t1) hg1 t1⟩⟩
def uRet (te:E3):X3:=fun _ rt _ _ σ G=>te σ G rt
theorem a02 (he:QE X e te):QS X (.Return (some e) pos) (uRet te):=⟨a3E (b4w he.p) fun D τ H hx=>hx.un fun σ G nx rt bk ct hs hg h u1 u2 u3 u4=>⟨σ,G,_,hs,hg,h,u2⟩⟩
def b7k:X3:=fun _ rt _ _ _ G=>rt .non G
def uIfS (c:T3) (t u:X3):X3:=fun nx rt bk ct σ G=>c σ G fun b G1=>if b=true then t nx rt bk ct σ G1 else u nx rt bk ct σ G1
theorem z_if (hc:QT X c tc) (ha:QSs X sa t) (hb:QSs X sb u):QS X (.If c sa sb pos) (uIfS tc t u):=⟨a3E (b6X hc.p ha.p hb.p) fun D τ H hx=>hx.un fun σ G nx rt bk ct hs hg h u1 u2 u3 u4=>by
 refine⟨σ,G,_,hs,hg,h,fun b G1 H1 h1 hg1 t1=>?_⟩
 cases b with
 | true=>rw [if_pos rfl] at h1 ⊢;exact⟨σ,G1,nx,rt,bk,ct,hs.mono t1,hg1,h1,u1.mono t1,u2.mono t1,u3.mono t1,u4.mono t1⟩
 | false=>rw [if_neg (by decide)] at h1 ⊢;exact⟨σ,G1,nx,rt,bk,ct,hs.mono t1,hg1,h1,u1.mono t1,u2.mono t1,u3.mono t1,u4.mono t1⟩⟩
def b5k (c:T3) (tb:X3):X3:=fun nx rt _ _ σ G=>∃ I:Nat->S3->Hq->Prop,(∃ m,I m σ G)/\∀ m σ G,I m σ G ->
 c σ G fun b G1=>if b=true then tb (fun σ' G'=>∃ m',m'<m/\I m' σ' G') rt nx (fun σ' G'=>∃ m',m'<m/\I m' σ' G') σ G1 else nx σ G1
theorem b3n (hp:PassesOwn (model X.prog X.w) X.A X.env X.xe) (hc:QT X c tc) (hb:QSs X sb t):QS X (.While c sb [] pos) (b5k tc t):=⟨a3E (b1g hp hc.p hb.p) fun D τ H hx=>hx.un fun σ G nx rt bk ct hs hg h0 u1 u2 u3 u4=>by
 obtain⟨I,⟨m0,i0⟩,step⟩:=h0
 refine⟨fun m τ' H'=>∃ σ' G',RSt X.K H' σ' τ'/\RH X.K G' H'/\TK X.K H H'/\I m σ' G',⟨m0,σ,G,hs,hg,.refl _ _,i0⟩,?_⟩
 rintro m τ' H1 ⟨σ1,G1,hs1,hg1,t1,i1⟩
 refine⟨σ1,G1,_,hs1,hg1,step m σ1 G1 i1,fun b G2 H2 h2 hg2 t2=>?_⟩
 cases b with
 | false=>rw [if_neg (by decide)] at h2 ⊢;exact u1 _ _ _ _ h2 (hs1.mono t2) hg2 (t1.trans t2)
 | true=>
  rw [if_pos rfl] at h2 ⊢
  refine⟨_,fun σ' H' h=>h,σ1,G2,_,rt,nx,_,hs1.mono t2,hg2,h2,?_,u2.mono (t1.trans t2),u1.mono (t1.trans t2),?_⟩
  ·rintro σ3 G3 τ3 H3 ⟨m',hm,i3⟩ hs3 hg3 t3
   exact⟨m',hm,σ3,G3,hs3,hg3,(t1.trans t2).trans t3,i3⟩
  ·rintro σ3 G3 τ3 H3 ⟨m',hm,i3⟩ hs3 hg3 t3
   exact⟨m',hm,σ3,G3,hs3,hg3,(t1.trans t2).trans t3,i3⟩⟩
inductive Pt where
 | nm (i:Nat)
 | tp (is:List Nat)
def gsOf:List Nat->TGs
 | []=>gNil
 | i::is=>b4x (a9q i) (gsOf is)
def gP (K:Fg):Pt->TG
 | .nm i=>a9q i
 | .tp is=>gTup K is.length (gsOf is)
def sets:List Nat->List Z->S3->S3
 | i::is,w::ws,σ=>sets is ws (σ.set i (some w))
 | _,_,σ=>σ
def a5n:Pt->Z->S3->Option S3
 | .nm i,w,σ=>some (σ.set i (some w))
 | .tp is,.tup ws,σ=>if ws.length=is.length then some (sets is ws σ) else none
 | _,_,_=>none
def Pt.slots:Pt->List Nat
 | .nm i=>[i]
 | .tp is=>is
def a4B:List Nat->List V->L2.St->L2.St
 | i::is,w::ws,σ=>a4B is ws (σ.set i (some w))
 | _,_,σ=>σ
theorem a94 {H:Hp} {Q:L2.St->Hp->Prop}:∀ {is:List Nat} {vs:List V} {τ:L2.St},vs.length=is.length->Q (a4B is vs τ) H->gsOf is vs τ H Q
 | [],[],_,_,q=>⟨rfl,q⟩
 | i::is,v::vs,τ,h,q=>⟨v,vs,rfl,a94 (is:=is) (vs:=vs) (by simpa using h) q⟩
 | [],_::_,_,h,_=>by simp at h
 | _::_,[],_,h,_=>by simp at h
theorem a6L {K:Fg} {H:Hp}:∀ {is:List Nat} {ws:List Z} {vs:List V} {σ:S3} {τ:L2.St},Reps K H ws vs->RSt K H σ τ->RSt K H (sets is ws σ) (a4B is vs τ)
 | [],ws,vs,σ,τ,_,h=>by unfold sets a4B;exact h
 | i::is,[],vs,σ,τ,r,h=>by rw [a0O] at r;subst r;exact h
 | i::is,w::ws,vs,σ,τ,r,h=>by
  rw [a0o] at r
  obtain⟨v,vs',rfl,r1,r2⟩:=r
  exact a6L (is:=is) r2 (h.set r1 i)
theorem a5E:∀ {is:List Nat} {vs:List V} {τ:L2.St} {j:Nat},j∉is->(a4B is vs τ)[j]?=τ[j]?
 | [],_,_,_,_=>by unfold a4B;rfl
 | i::is,[],_,_,_=>by unfold a4B;rfl
 | i::is,v::vs,τ,j,h=>by
  have h1:j≠i:=fun z=>h (by rw [z];exact List.mem_cons_self ..)
  have h2:j∉is:=fun z=>h (List.mem_cons_of_mem _ z)
  show (a4B is vs (τ.set i (some v)))[j]?=τ[j]?
  rw [a5E h2,List.getElem?_set_ne (Ne.symm h1)]
theorem a4u:∀ {is:List Nat} {vs:List V} {τ:L2.St},(a4B is vs τ).length=τ.length
 | [],_,_=>by unfold a4B;rfl
 | i::is,[],_=>by unfold a4B;rfl
 | i::is,v::vs,τ=>by
  show (a4B is vs (τ.set i (some v))).length=τ.length
  rw [a4u,List.length_set]
theorem b3o {K:Fg} {H:Hp} {pt:Pt} {w:Z} {v:V} {σ σ':S3} {τ:L2.St} {Q:L2.St->Hp->Prop} (r:Rep K H w v) (hs:RSt K H σ τ) (hb:a5n pt w σ=some σ')
  (q:∀ τ',RSt K H σ' τ'->τ'.length=τ.length->(∀ j,j∉pt.slots->τ'[j]?=τ[j]?)->Q τ' H):gP K pt v τ H Q:=by
 cases pt with
 | nm i=>
  cases hb
  exact q _ (hs.set r i) (by rw [List.length_set]) fun j hj=>by rw [List.getElem?_set_ne];intro z;exact hj (by rw [z];exact List.mem_cons_self ..)
 | tp is=>
  cases w with
  | tup ws=>
   rw [a1w] at r
   obtain⟨a,vs,rfl,e,rs⟩:=r
   have hb':(if ws.length=is.length then some (sets is ws σ) else none)=some σ':=hb
   by_cases hl:ws.length=is.length
   ·rw [if_pos hl] at hb'
    cases hb'
    exact⟨a,vs,rfl,SqT.of e,by rw [<- rs.length];exact hl,a94 (by rw [<- rs.length];exact hl) (q _ (a6L rs hs) a4u fun j hj=>a5E hj)⟩
   ·rw [if_neg hl] at hb'
    cases hb'
  | _=>cases hb
def QP (X:Cx) (tg:Expr) (pt:Pt):Prop:=PG X tg (gP X.K pt)
def uAsg (te:E3) (pt:Pt):X3:=fun nx _ _ _ σ G=>te σ G fun x G1=>∃ σ',a5n pt x σ=some σ'/\nx σ' G1
theorem a7z {D:Ends} {pt:Pt} {K:Fg} {τ:L2.St} {H:Hp} (h:lowS K (uAsg te pt) D τ H):tAsg (low K te) (gP K pt) D τ H:=by
 obtain⟨σ,G,nx,rt,bk,ct,hs,hg,h,u1,u2,u3,u4⟩:=h
 exact⟨σ,G,_,hs,hg,h,fun w G1 v H1 ⟨σ',hb,h1⟩ rv hg1 t1=>b3o rv (hs.mono t1) hb fun τ' hs' _ _=>u1 _ _ _ _ h1 hs' hg1 t1⟩
theorem a05 {i:Nat} {x:Str} {pos':Pos} (hN:X.N.Nodup) (hi:X.N[i]?=some x) (hx:Loc X.env.scope x) (he:QE X e te) (hs:swapsWith e (some (.Name x pos')) pos.line X.env=pure false:=by rfl) (hf:X.fn x=true\/X.env.scope.names.lookup x=some .local:=by first | exact .inl rfl | exact .inr rfl | assumption) :
  QS X (.Assign [.Name x pos'] e pos) (uAsg te (.nm i)):=⟨a3E (b4z hN hi hx he.p hs hf) fun _ _ _=>a7z (pt:=.nm i)⟩
theorem b5l {pt:Pt} (he:QE X e te) (hg:QP X tg pt) (hs:swapsWithSole [tg] e pos.line X.env=pure false:=by rfl) (hw:swappedStores [tg] e X.env=pure none:=by rfl)
  (h1:(assignEach [tg] X.env).map (·.2)=[assign tg X.env]:=by rfl):QS X (.Assign [tg] e pos) (uAsg te pt):=⟨a3E (b2p he.p hg hs hw h1) fun _ _ _=>a7z⟩
abbrev Z3:=Z->Z->Z->Hq->(Hq->Prop)->Prop
def lowZ (K:Fg) (r:Z3):TSet:=fun o i v H Q=>∃ a b w G R,Rep K H a o/\Rep K H b i/\Rep K H w v/\RH K G H/\r a b w G R/\∀ G' H',R G'->RH K G' H'->TK K H H'->Q H'
theorem lowZ.un {K:Fg} {r:Z3} {o i v:V} {H:Hp} {Q:Hp->Prop} {C:Prop} (z:lowZ K r o i v H Q) (f:∀ a b w G R,(Rep K H a o)->(Rep K H b i)->(Rep K H w v)->(RH K G H)->(r a b w G R)->(∀ G' H',R G'->RH K G' H'->TK K H H'->Q H')->C):C:=by obtain⟨a,b,w,G,R,q0,q1,q2,q3,q4,q5⟩:=z;exact f _ _ _ _ _ q0 q1 q2 q3 q4 q5
def SetQ (X:Cx) (r:Z3):Prop:=PSet X (lowZ X.K r)
theorem b5m {r r':TSet} (h:PSet X r') (i:∀ o j v H Q,r o j v H Q->r' o j v H Q):PSet X r:=fun pins s σ H o j v ov iv u Q I ro ri rv q=>h pins s σ H o j v ov iv u Q I ro ri rv (i _ _ _ _ _ q)
def uPut (te to ti:E3) (r:Z3):X3:=fun nx _ _ _ σ G=>te σ G fun w G1=>to σ G1 fun o G2=>ti σ G2 fun i G3=>r o i w G3 fun G4=>nx σ G4
theorem b7l {to ti:E3} {r:Z3} (h:PS X st (tAsg (low X.K te) (gSub (low X.K to) (low X.K ti) (lowZ X.K r)))):QS X st (uPut te to ti r):=⟨a3E h fun D τ H hx=>hx.un fun σ G nx rt bk ct hs hg h u1 u2 u3 u4=>
 ⟨σ,G,_,hs,hg,h,fun w G1 v H1 h1 rv hg1 t1=>⟨σ,G1,_,hs.mono t1,hg1,h1,fun w2 G2 v2 H2 h2 rv2 hg2 t2=>⟨σ,G2,_,hs.mono (t1.trans t2),hg2,h2,fun w3 G3 v3 H3 h3 rv3 hg3 t3=>
  ⟨w2,w3,w,G3,_,rv2.mono t3,rv3,rv.mono (t2.trans t3),hg3,h3,fun G4 H4 h4 hg4 t4=>u1 _ _ _ _ h4 (hs.mono (((t1.trans t2).trans t3).trans t4)) hg4 (((t1.trans t2).trans t3).trans t4)⟩⟩⟩⟩⟩
theorem b5n {o i:Expr} {to ti:E3} {r:Z3} {p':Pos} (he:QE X e te) (ho:QE X o to) (hi:QE X i ti) (hr:SetQ X r) (hs:swapsWithSole [.Subscript o i p'] e pos.line X.env=pure false:=by rfl) (hw:swappedStores [.Subscript o i p'] e X.env=pure none:=by rfl)
  (h1:(assignEach [.Subscript o i p'] X.env).map (·.2)=[assign (.Subscript o i p') X.env]:=by rfl) (ha:∀ v,assign (.Subscript o i p') X.env v=(do
   let ov <- holding [v] (eval o X.env)
   let iv <- holding [v,ov] (eval i X.env)
   standAt p'
   holding [v,ov,iv] (setItem ov iv v)
   release [v,ov,iv] []):=by intro _;rfl):QS X (.Assign [.Subscript o i p'] e pos) (uPut te to ti r):=b7l (b2p he.p (b4y ho.p hi.p hr ha) hs hw h1)
def uAug (i:Nat) (te:E3) (r:R3):X3:=fun nx _ _ _ σ G=>∃ x,σ[i]?=some (some x)/\te σ G fun y G1=>r x y G1 fun z G2=>nx (σ.set i (some z)) G2
theorem b7m {i:Nat} {r:R3} (h:PS X st (tAug i (low X.K te) (low2 X.K r))):QS X st (uAug i te r):=⟨a3E h fun D τ H hx=>hx.un fun σ G nx rt bk ct hs hg h0 u1 u2 u3 u4=>by
 obtain⟨x,ex,h⟩:=h0
 obtain⟨v,ev,rv⟩:=hs.get ex
 exact⟨v,ev,σ,G,_,hs,hg,h,fun w G1 v1 H1 h1 rv1 hg1 t1=>⟨x,w,G1,_,rv.mono t1,rv1,hg1,h1,fun w2 G2 v2 H2 h2 rv2 hg2 t2=>u1 _ _ _ _ h2 ((hs.mono (t1.trans t2)).set rv2 i) hg2 (t1.trans t2)⟩⟩⟩
theorem b5o {i:Nat} {x:Str} {op:Operator} {r:R3} {pos':Pos} (hN:X.N.Nodup) (hi:X.N[i]?=some x) (hx:Loc X.env.scope x) (he:QE X e te) (ho:OpQ X (inplaceOp op) r) (hf:X.fn x=true\/X.env.scope.names.lookup x=some .local:=by first | exact .inl rfl | exact .inr rfl | assumption) :
  QS X (.AugAssign (.Name x pos') op e pos) (uAug i te r):=b7m (b4A hN hi hx he.p ho hf)
end
abbrev I3:=S3->Hq->(List Z->(Hq->Prop)->Hq->Prop)->Prop
def a55 (K:Fg) (ws:List Z) (ok:Hq->Prop) (J:It) (H0:Hp):Prop:=∀ i G H,RH K G H->TK K H0 H->ok G->i≤ws.length ->
 (i=ws.length->J.stop i H)/\∀ w,ws[i]?=some w->J.go i H/\∀ x H',J.yld i H x H'->Rep K H' w x/\RH K G H'/\TK K H H'
def lowI (K:Fg) (wi:I3):TI:=fun τ H R2=>∃ σ G R,RSt K H σ τ/\RH K G H/\wi σ G R/\∀ ws ok G' J H',R ws ok G'->a55 K ws ok J H'->RH K G' H'->TK K H H'->R2 J H'
theorem lowI.un {K:Fg} {wi:I3} {τ:L2.St} {H:Hp} {R2:It->Hp->Prop} {C:Prop} (z:lowI K wi τ H R2) (f:∀ σ G R,(RSt K H σ τ)->(RH K G H)->(wi σ G R)->(∀ ws ok G' J H',R ws ok G'->a55 K ws ok J H'->RH K G' H'->TK K H H'->R2 J H')->C):C:=by obtain⟨σ,G,R,q0,q1,q2,q3⟩:=z;exact f _ _ _ q0 q1 q2 q3
def QI (X:Cx) (tg iter:Expr) (wi:I3):Prop:=PI X tg iter (lowI X.K wi)
theorem a80 {X:Cx} {tg iter:Expr} {wi wi':TI} (h:PI X tg iter wi') (i:∀ σ H R,wi σ H R->wi' σ H R):PI X tg iter wi:=fun pins s σ H R I q=>h pins s σ H R I (i σ H R q)
def FORB (ws:List Z) (ok:Hq->Prop) (pt:Pt) (tb:X3) (nx:C3) (rt:K3) (σ:S3) (G1:Hq):Prop:=∃ I:Nat->S3->Hq->Prop,I 0 σ G1/\(∀ i σ G,i≤ws.length->I i σ G->ok G) /\
 (∀ i x σ G,ws[i]?=some x->I i σ G->∃ σ',a5n pt x σ=some σ'/\tb (I (i+1)) rt nx (I (i+1)) σ' G)/\∀ σ G,I ws.length σ G->nx σ G
def uFor (wi:I3) (pt:Pt) (tb:X3):X3:=fun nx rt _ _ σ G=>wi σ G fun ws ok G1=>FORB ws ok pt tb nx rt σ G1
theorem a3k {ws:List Z} {ok:Hq->Prop} {pt:Pt} {tb:X3} {nx:C3} {rt:K3} {σ:S3} {G:Hq} (I:Nat->S3->Hq->Prop) (h0:I 0 σ G) (hok:∀ i σ G,i≤ws.length->I i σ G->ok G)
  (step:∀ i x σ G,ws[i]?=some x->I i σ G->∃ σ',a5n pt x σ=some σ'/\tb (I (i+1)) rt nx (I (i+1)) σ' G) (fin:∀ σ G,I ws.length σ G->nx σ G):FORB ws ok pt tb nx rt σ G:=⟨I,h0,hok,step,fin⟩
theorem a6M {X:Cx} {tg iter:Expr} {sb:List Stmt} {t:X3} {wi:I3} {pt:Pt} {pos:Pos} (hp:PassesOwn (model X.prog X.w) X.A X.env X.xe) (hc:X.calm=true) (hi:QI X tg iter wi) (hg:QP X tg pt) (hb:QSs X sb t)
  (hs:∀ x,foldedSetIterable iter X.env x=pure x:=by intro _;rfl):QS X (.For tg iter sb [] pos) (uFor wi pt t):=⟨a3E (b4E hp hc hi hg hb.p hs) fun D τ H hx=>hx.un fun σ G nx rt bk ct hs hg h u1 u2 u3 u4=>by
 refine⟨σ,G,_,hs,hg,h,?_⟩
 rintro ws ok G1 J H1 ⟨I,i0,hok,step,fin⟩ hJ hg1 t1
 refine⟨fun i m τ' H'=>m=ws.length - i/\i≤ws.length/\∃ σ' G',RSt X.K H' σ' τ'/\RH X.K G' H'/\TK X.K H1 H'/\I i σ' G',⟨ws.length,by simp,Nat.zero_le _,σ,G1,hs.mono t1,hg1,.refl _ _,i0⟩,?_⟩
 rintro i m τ2 H2 ⟨rfl,hle,σ2,G2,hs2,hg2,t2,i2⟩
 have hJ2:=hJ i G2 H2 hg2 t2 (hok i σ2 G2 hle i2) hle
 by_cases hlt:i<ws.length
 ·obtain⟨go,yl⟩:=hJ2.2 _ (List.getElem?_eq_getElem hlt)
  refine .inr ⟨go,fun τ' H'=>i+1≤ws.length/\∃ σ' G',RSt X.K H' σ' τ'/\RH X.K G' H'/\TK X.K H1 H'/\I (i+1) σ' G',fun σ' H' q=>⟨ws.length - (i+1),by omega,rfl,q.1,q.2⟩,fun x H3 y3=>?_⟩
  obtain⟨rx,hg3,t3⟩:=yl x H3 y3
  obtain⟨σ',hb',h3⟩:=step i _ σ2 G2 (List.getElem?_eq_getElem hlt) i2
  refine b3o rx (hs2.mono t3) hb' fun τ' hs' _ _=>⟨σ',G2,_,rt,nx,_,hs',hg3,h3,?_,u2.mono ((t1.trans t2).trans t3),u1.mono ((t1.trans t2).trans t3),?_⟩
  ·exact fun σ4 G4 τ4 H4 h4 hs4 hg4 t4=>⟨hlt,σ4,G4,hs4,hg4,(t2.trans t3).trans t4,h4⟩
  ·exact fun σ4 G4 τ4 H4 h4 hs4 hg4 t4=>⟨hlt,σ4,G4,hs4,hg4,(t2.trans t3).trans t4,h4⟩
 ·have e:i=ws.length:=by omega
  subst e
  exact .inl ⟨hJ2.1 rfl,u1 _ _ _ _ (fin σ2 G2 i2) hs2 hg2 (t1.trans t2)⟩⟩
section
variable {X:Cx} {tg l:Expr} {tl:E3}
def wkL (x:Z) (G:Hq) (R:List Z->(Hq->Prop)->Hq->Prop):Prop:=match x with
 | .ref a=>∃ ws,G a=some (.lst ws)/\R ws (fun G=>G a=some (.lst ws)) G
 | .scr _ ns=>R (ns.map Z.int) (fun _=>True) G
 | _=>False
def iL (tl:E3):I3:=fun σ G R=>tl σ G fun x G1=>wkL x G1 R
theorem a81 {K:Fg} {a:Addr} {ws:List Z} {H:Hp}:a55 K ws (fun G=>G a=some (.lst ws)) (Itl K a) H:=fun i G H hg t ok hi=>by
 obtain⟨vs,e,rs⟩:=hg a _ ok
 refine⟨fun h=>⟨vs,SqL.of e,by rw [<- rs.length,h];exact Nat.le_refl _⟩,fun w hw=>?_⟩
 obtain⟨v,ev,rv⟩:=rs.get hw
 refine⟨⟨vs,v,SqL.of e,ev⟩,?_⟩
 rintro x H' ⟨rfl,y⟩
 have:=y vs (SqL.of e)
 rw [ev] at this
 cases this
 exact⟨rv,hg,.refl _ _⟩
theorem a95 {K:Fg} {a:Addr} {ns:List Int} {H0:Hp} (f:Fz K H0 a (ns.map V.int)):a55 K (ns.map Z.int) (fun _=>True) (Itl K a) H0:=fun i G H hg t ok hi=>by
 have fs:=(t.frz _ _ f).sq
 have rs:Reps K H (ns.map Z.int) (ns.map V.int):=a3D ns
 refine⟨fun h=>⟨_,fs,by rw [<- rs.length,h];exact Nat.le_refl _⟩,fun w hw=>?_⟩
 obtain⟨v,ev,rv⟩:=rs.get hw
 refine⟨⟨_,v,fs,ev⟩,?_⟩
 rintro x H' ⟨rfl,y⟩
 have:=y _ fs
 rw [ev] at this
 cases this
 exact⟨rv,hg,.refl _ _⟩
theorem a1R (hl:QE X l tl):QI X tg l (iL tl):=a80 (b21 hl.p) fun τ H R2 hx=>hx.un fun σ G R hs hg h up=>by
 refine⟨σ,G,_,hs,hg,h,fun w G1 v H1 h1 rv hg1 t1=>?_⟩
 cases w with
 | ref a=>
  rw [a0p] at rv
  obtain⟨ws,e,h1⟩:=h1
  obtain⟨vs,e',_⟩:=hg1 a _ e
  exact⟨a,rv,⟨vs,SqL.of e'⟩,up _ _ _ _ _ h1 a81 hg1 t1⟩
 | scr a ns=>
  rw [a2x] at rv
  exact⟨a,rv.1,⟨_,rv.2.sq⟩,up _ _ _ _ _ h1 (a95 rv.2) hg1 t1⟩
 | _=>exact False.elim h1
def wkT (x:Z) (G:Hq) (R:List Z->(Hq->Prop)->Hq->Prop):Prop:=match x with
 | .tup ws=>R ws (fun _=>True) G
 | _=>False
def iT (tl:E3):I3:=fun σ G R=>tl σ G fun x G1=>wkT x G1 R
theorem a96 {K:Fg} {a:Addr} {ws:List Z} {vs:List V} {H0:Hp} (e:H0 a=some (.tup vs)) (rs:Reps K H0 ws vs):a55 K ws (fun _=>True) (Itt K a) H0:=fun i G H hg t ok hi=>by
 have e:=t.tup _ _ e
 have rs:=rs.mono t
 refine⟨fun h=>⟨vs,SqT.of e,by rw [<- rs.length,h];exact Nat.le_refl _⟩,fun w hw=>?_⟩
 obtain⟨v,ev,rv⟩:=rs.get hw
 refine⟨⟨vs,v,SqT.of e,ev⟩,?_⟩
 rintro x H' ⟨rfl,y⟩
 have:=y vs (SqT.of e)
 rw [ev] at this
 cases this
 exact⟨rv,hg,.refl _ _⟩
theorem b5p (hl:QE X l tl):QI X tg l (iT tl):=a80 (b4C hl.p) fun τ H R2 hx=>hx.un fun σ G R hs hg h up=>by
 refine⟨σ,G,_,hs,hg,h,fun w G1 v H1 h1 rv hg1 t1=>?_⟩
 cases w with
 | tup ws=>
  rw [a1w] at rv
  obtain⟨a,vs,rfl,e,rs⟩:=rv
  exact⟨a,rfl,⟨vs,SqT.of e⟩,up _ _ _ _ _ h1 (a96 e rs) hg1 t1⟩
 | _=>exact False.elim h1
def rng (lo:Int):Nat->List Z
 | 0=>[]
 | n+1=>.int lo::rng (lo+1) n
theorem a12:∀ (lo:Int) (n:Nat),(rng lo n).length=n
 | _,0=>rfl
 | lo,n+1=>by rw [rng,List.length_cons,a12]
theorem a3q:∀ {lo:Int} {n i:Nat} {w:Z},(rng lo n)[i]?=some w->i<n/\w=.int (lo+i)
 | _,0,_,_,h=>by simp [rng] at h
 | lo,n+1,0,w,h=>by simp [rng] at h;exact⟨by omega,by rw [<- h];simp⟩
 | lo,n+1,i+1,w,h=>by
  have:=a3q (lo:=lo+1) (n:=n) (i:=i) (w:=w) (by simpa [rng] using h)
  refine⟨by omega,?_⟩
  rw [this.2]
  congr 1
  omega
theorem a97 {K:Fg} {lo:Int} {n:Nat} {H0:Hp}:a55 K (rng lo n) (fun _=>True) (Itr lo n) H0:=fun i G H hg t ok hi=>by
 rw [a12]
 refine⟨fun h=>by rw [h];exact Nat.le_refl _,fun w hw=>?_⟩
 obtain⟨h1,h2⟩:=a3q hw
 refine⟨h1,?_⟩
 rintro x H' ⟨rfl,rfl⟩
 exact⟨by rw [h2,a0u],hg,.refl _ _⟩
variable {t:A3}
def iR1 (t:A3):I3:=fun σ G R=>t σ G fun ws G1=>∃ j:Int,ws=[.int j]/\-(2 ^ 62)≤j/\j<2 ^ 62/\R (rng 0 j.toNat) (fun _=>True) G1
def iR2 (t:A3):I3:=fun σ G R=>t σ G fun ws G1=>∃ i j:Int,ws=[.int i,.int j]/\(-(2 ^ 62)≤i/\i<2 ^ 62/\-(2 ^ 62)≤j/\j<2 ^ 62)/\R (rng i (j - i).toNat) (fun _=>True) G1
theorem a98 {wi:Expr} (h:PI X tg wi (b4D (lowA X.K t))):QI X tg wi (iR1 t):=a80 h fun τ H R2 hx=>hx.un fun σ G R hs hg h up=>by
 refine⟨σ,G,_,hs,hg,h,fun ws G1 vs H1 ⟨j,e,a,b,h1⟩ rv hg1 t1=>?_⟩
 subst e
 obtain⟨v,rfl,r⟩:=rv.one
 rw [a0u] at r
 subst r
 exact⟨j,rfl,a,b,up _ _ _ _ _ h1 a97 hg1 t1⟩
end
section
variable {X:Cx} {tg a b:Expr} {p pos:Pos} {t:A3}
theorem a2n (hg:Gl X "range") (hm:X.mg "range"=none) (ha:QA X [a] t) (hs:starEach [a] X.env=[(false,eval a X.env)]:=by rfl):QI X tg (.Call (.Name "range" p) [a] [] pos) (iR1 t):=a98 (a9s hg hm ha.p hs)
end
def cap3 (cap:List (Option Nat)) (σ:S3):S3:=cap.map fun o=>o.bind fun j=>(σ[j]?).join
theorem a7A {K:Fg} {H:Hp} {σ:S3} {τ:L2.St} (h:RSt K H σ τ):∀ cap:List (Option Nat),RSt K H (cap3 cap σ) (a3B cap τ)
 | []=>.nil
 | none::cap=>.cons (fun _ e=>nomatch e) (a7A h cap)
 | some j::cap=>.cons (fun w e=>by
   have e':(σ[j]?).join=some w:=e
   have e2:σ[j]?=some (some w):=by
    cases q:σ[j]? with
    | none=>rw [q] at e';cases e'
    | some o=>rw [q] at e';cases o with
     | none=>cases e'
     | some z=>cases e';rfl
   obtain⟨v,ev,r⟩:=h.get e2
   exact⟨v,by show (τ[j]?).join=some v;rw [ev];rfl,r⟩) (a7A h cap)
theorem a36:∀ {a b:L2.St},b.length=a.length->(∀ (i:Nat) v,a[i]?=some (some v)->b[i]?=some (some v))->a2e a b
 | [],[],_,_=>True.intro
 | none::a,_::b,h,k=>a36 (a:=a) (b:=b) (by simpa using h) fun i v e=>by simpa using k (i+1) v (by simpa using e)
 | some x::a,y::b,h,k=>⟨by simpa using k 0 x rfl,a36 (a:=a) (b:=b) (by simpa using h) fun i v e=>by simpa using k (i+1) v (by simpa using e)⟩
 | [],_::_,h,_=>by simp at h
 | _::_,[],h,_=>by simp at h
def LCB (ws:List Z) (ok:Hq->Prop) (cap:List (Option Nat)) (pt:Pt) (tt:T3) (te:E3) (σ:S3) (R:K3) (D:Addr) (G1:Hq):Prop:=∃ I:Nat->List Z->Hq->Prop,I 0 [] (put G1 D (.lst []))/\(∀ i ys G,i≤ws.length->I i ys G->ok G) /\
 (∀ i x ys G,ws[i]?=some x->I i ys G->∃ σ',a5n pt x (cap3 cap σ)=some σ'/\tt σ' G fun b G4=>if b=true then te σ' G4 fun y G5=>G5 D=some (.lst ys)/\ys.length<sizeLine/\I (i+1) (ys++[y]) (put G5 D (.lst (ys++[y]))) else I (i+1) ys G4) /\
 ∀ ys G,I ws.length ys G->R (.ref D) G
def uLC (wi:I3) (cap:List (Option Nat)) (pt:Pt) (tt:T3) (te:E3):E3:=fun σ G R=>wi σ G fun ws ok G1=>∀ D,G1 D=none->LCB ws ok cap pt tt te σ R D G1
theorem a56 {ws:List Z} {ok:Hq->Prop} {cap:List (Option Nat)} {pt:Pt} {tt:T3} {te:E3} {σ:S3} {R:K3} {D:Addr} {G1:Hq} (I:Nat->List Z->Hq->Prop) (h0:I 0 [] (put G1 D (.lst []))) (hok:∀ i ys G,i≤ws.length->I i ys G->ok G)
  (step:∀ i x ys G,ws[i]?=some x->I i ys G->∃ σ',a5n pt x (cap3 cap σ)=some σ'/\tt σ' G fun b G4=>if b=true then te σ' G4 fun y G5=>G5 D=some (.lst ys)/\ys.length<sizeLine/\I (i+1) (ys++[y]) (put G5 D (.lst (ys++[y]))) else I (i+1) ys G4)
  (fin:∀ ys G,I ws.length ys G->R (.ref D) G):LCB ws ok cap pt tt te σ R D G1:=⟨I,h0,hok,step,fin⟩
theorem a19 {α β:Type} {f:α->Option β} {ws:List α} {i:Nat} {x:α} (h:ws[i]?=some x):(ws.take (i+1)).filterMap f=(ws.take i).filterMap f++(f x).toList:=by
 rw [List.take_add_one,List.filterMap_append,h]
 cases e:f x<;>simp [e]
theorem b3p {ws:List Z} {ok:Hq->Prop} {cap:List (Option Nat)} {pt:Pt} {tt:T3} {te:E3} {σ:S3} {R:K3} {D:Addr} {G1:Hq} (f:Z->Option Z) (hok:∀ ys,ok (put G1 D (.lst ys))) (hz:ws.length≤1000)
  (turn:∀ x,x∈ws->∀ (ys:List Z) (K1:K3) (K2:Hq->Prop),(∀ y,f x=some y->K1 y (put G1 D (.lst ys)))->(f x=none->K2 (put G1 D (.lst ys)))->∃ σ',a5n pt x (cap3 cap σ)=some σ'/\tt σ' (put G1 D (.lst ys)) fun b G4=>if b=true then te σ' G4 K1 else K2 G4)
  (fin:R (.ref D) (put G1 D (.lst (ws.filterMap f)))):LCB ws ok cap pt tt te σ R D G1:=by
 refine⟨fun i ys G=>ys=(ws.take i).filterMap f/\G=put G1 D (.lst ys),⟨by simp,rfl⟩,?_,?_,?_⟩
 ·rintro i ys G _ ⟨_,rfl⟩;exact hok ys
 ·rintro i x ys G hx ⟨e,rfl⟩
  refine turn x (List.mem_of_getElem? hx) ys _ _ (fun y hy=>⟨a0f,?_,?_,?_⟩) fun hn=>⟨?_,rfl⟩
  ·rw [e]
   exact Nat.lt_of_le_of_lt (Nat.le_trans (List.length_filterMap_le _ _) (by rw [List.length_take];omega)) (a0P (Nat.le_refl 1000))
  ·rw [a19 hx,hy,e];rfl
  ·rw [a2y]
  ·rw [a19 hx,hn,e];simp
 ·rintro ys G ⟨e,rfl⟩
  rw [List.take_length] at e
  rw [e];exact fin
def QIfs (X:Cx) (ifs:List Expr) (t:T3):Prop:=PIfs X ifs (lowT X.K t)
def uTT:T3:=fun _ G R=>R true G
theorem a2Y {X:Cx}:QIfs X [] uTT:=fun pins s τ H Q I ⟨σ,G,R,hs,hg,h,up⟩=>b1D pins s τ H Q I (up _ _ _ h hg (.refl _ _))
theorem a37 {X:Cx} {c:Expr} {t:T3} (h:QT X c t):QIfs X [c] t:=b1E h.p
theorem b3q {cap:List (Option Nat)} {pt:Pt} (hc:(pt.slots.all fun j=>decide (cap[j]?=some none))=true) {τ:L2.St} {i:Nat} {v:V} (h:(a3B cap τ)[i]?=some (some v)):i∉pt.slots:=fun hm=>by
 have q:=of_decide_eq_true ((List.all_eq_true.mp hc) i hm)
 unfold a3B at h
 rw [List.getElem?_map,q] at h
 cases h
theorem b2y {K:Fg} {wi:I3} {cap:List (Option Nat)} {pt:Pt} {tt:T3} {te:E3} (hc:(pt.slots.all fun j=>decide (cap[j]?=some none))=true) {τ:L2.St} {H:Hp} {Q:VK} (h:low K (uLC wi cap pt tt te) τ H Q) :
  tLC (lowI K wi) cap (gP K pt) (lowT K tt) (low K te) τ H Q:=by
 obtain⟨σ,G,R,hs,hg,h,up⟩:=h
 refine⟨σ,G,_,hs,hg,h,fun ws ok G1 J H1 h1 hJ hg1 t1 D hD=>?_⟩
 obtain⟨I,i0,hok,step,fin⟩:=h1 D (hg1.out hD)
 refine⟨fun i m _ H'=>m=ws.length - i/\i≤ws.length/\∃ ys G',RH K G' H'/\TK K H1 H'/\I i ys G',⟨ws.length,by simp,Nat.zero_le _,[],_,hg1.set (o:=.lst []) (.new hD) ⟨[],a1a,.nil⟩,.new hD,i0⟩,?_⟩
 rintro i m vs H2 ⟨rfl,hle,ys,G2,hg2,t2,i2⟩
 have hJ2:=hJ i G2 H2 hg2 t2 (hok i ys G2 hle i2) hle
 by_cases hlt:i<ws.length
 ·obtain⟨go,yl⟩:=hJ2.2 _ (List.getElem?_eq_getElem hlt)
  refine .inr ⟨go,fun _ H'=>i+1≤ws.length/\∃ ys G',RH K G' H'/\TK K H1 H'/\I (i+1) ys G',fun vs' H' q=>⟨ws.length - (i+1),by omega,rfl,q.1,q.2⟩,fun x H3 y3=>?_⟩
  obtain⟨rx,hg3,t3⟩:=yl x H3 y3
  obtain⟨σ',hb',h3⟩:=step i _ ys G2 (List.getElem?_eq_getElem hlt) i2
  refine b3o rx (a7A (hs.mono ((t1.trans t2).trans t3)) cap) hb' fun τ' hs' hl' hk'=>⟨a36 hl' fun j v ej=>by rw [hk' j (b3q hc ej)];exact ej,?_⟩
  refine⟨σ',G2,_,hs',hg3,h3,fun b G4 H4 h4 hg4 t4=>?_⟩
  cases b with
  | false=>
   rw [if_neg (by decide)] at h4 ⊢
   exact⟨hlt,ys,G4,hg4,(t2.trans t3).trans t4,h4⟩
  | true=>
   rw [if_pos rfl] at h4 ⊢
   refine⟨σ',G4,_,hs'.mono t4,hg4,h4,fun y G5 v5 H5 ⟨hD5,hsz,h5⟩ r5 hg5 t5=>?_⟩
   obtain⟨vs5,e5,rs5⟩:=hg5 D _ hD5
   refine⟨vs5,e5,by rw [<- rs5.length];exact hsz,hlt,_,_,hg5.set (.lst e5) (a2A (rs5.append (.cons r5 .nil)) (.lst e5)),?_,h5⟩
   exact (((t2.trans t3).trans t4).trans t5).trans (.lst e5)
 ·have e:i=ws.length:=by omega
  subst e
  exact .inl ⟨hJ2.1 rfl,up _ _ _ _ (fin ys G2 i2) (by rw [a0p]) hg2 (t1.trans t2)⟩
section
variable {X:Cx} {N':List Str} {sc:Scope} {cap:List (Option Nat)} {tg iter elt:Expr} {ifs:List Expr} {wi:I3} {pt:Pt} {tt:T3} {te:E3} {pos:Pos}
theorem q_lc {N₀:List Str} {so:Scope} (hc:X.calm=true) (hNN:X.N=N₀) (hso:X.env.scope=so) (ck:capB N₀ so sc N' cap=true) (hp:(pt.slots.all fun j=>decide (cap[j]?=some none))=true) (hi:QI X tg iter wi)
  (hg:∀ C s H fp,QP (cxC X E0 N' sc C s H fp) tg pt) (ht:∀ C s H fp,QIfs (cxC X E0 N' sc C s H fp) ifs tt) (he:∀ C s H fp,QE (cxC X E0 N' sc C s H fp) elt te)
  (hs:∀ x,foldedSetIterable iter X.env x=pure x:=by intro _;rfl):QE X (.ListComp elt [⟨tg,iter,ifs,0⟩] sc pos) (uLC wi cap pt tt te):=⟨a1Z (b7e (g:=gP X.K pt) (tt:=lowT X.K tt) (te:=low X.K te) hc a8c hNN hso ck hi hg ht (fun C s H fp=>(he C s H fp).p) hs) fun _ _ _=>b2y hp⟩
theorem a99 {N₀:List Str} {so:Scope} {i:Nat} {x:Str} {pos' spos:Pos} (hN:X.N.Nodup) (hx:X.N[i]?=some x) (hl:X.env.scope.names.lookup x=some .local) (hc:X.calm=true) (hNN:X.N=N₀) (hso:X.env.scope=so) (ck:capB N₀ so sc N' cap=true)
  (hp:(pt.slots.all fun j=>decide (cap[j]?=some none))=true) (hi:QI X tg iter wi)
  (hg:∀ C s H fp,QP (cxC X E0 N' sc C s H fp) tg pt) (ht:∀ C s H fp,QIfs (cxC X E0 N' sc C s H fp) ifs tt) (he:∀ C s H fp,QE (cxC X E0 N' sc C s H fp) elt te)
  (hsw:swapsWith (.ListComp elt [⟨tg,iter,ifs,0⟩] sc pos) (some (.Name x pos')) spos.line X.env=pure true:=by rfl)
  (hs:∀ x,foldedSetIterable iter X.env x=pure x:=by intro _;rfl):QS X (.Assign [.Name x pos'] (.ListComp elt [⟨tg,iter,ifs,0⟩] sc pos) spos) (uAsg (uLC wi cap pt tt te) (.nm i)):=⟨a3E (b1G (g:=gP X.K pt) (tt:=lowT X.K tt) (te:=low X.K te) hN hx hl hc a8c hNN hso ck hi hg ht (fun C s H fp=>(he C s H fp).p) hsw hs) fun D τ H h=>b2y hp (a7z (pt:=.nm i) h)⟩
end
section
variable {P:Program} {w:World} {K:Fg} {mg:Str->Option Value} {base:Heap}
theorem fn3 {x qual:Str} {st:Stmt} {f:Addr} {fd:FuncData} {N ps:List Str} {k:Nat} {sp:P3} (F:Fun K x qual st f fd) (S:FnScope N ps (a0c st)) (len:∀ ws G R,sp ws G R->ws.length=ps.length)
  (hbody:∀ (cdv:Value) (A:Around) (outer:List Env) (s:Shared) (H:Hp) (E:XK) (ws:List Z) (G:Hq) (R:K3),Room k (A.deeper (envOfC qual (a0c st) s.heap.objs.size f cdv))->sp ws G R ->
   ∃ t,QSs (cxOf CX0 P w K mg base N qual (a0c st) f cdv A outer s H E).nox (a0h st) t/\t (fun _ G'=>R .non G') R (fun _ _=>False) (fun _ _=>False) (a4t N ws) G):FnOk P w K mg base CX0 (k+1) f fd ps (lowP K sp):=by
 refine F.ok S (fun vs H Q E ⟨ws,G,R,rs,hg,h,up⟩=>by rw [<- rs.length];exact len _ _ _ h) ?_
 rintro cdv A outer s H vs Q E hr ⟨ws,G,R,rs,hg,h,up⟩
 obtain⟨t,ht,hq⟩:=hbody cdv A outer s H E ws G R hr h
 exact⟨_,ht.p,a4t N ws,G,_,R,_,_,.start rs,hg,hq,fun σ' G' τ' H' h' hs' hg' t'=>up _ _ _ _ h' (by rw [a1H]) hg' t',up,fun _ _ _ _ h _ _ _=>h.elim,fun _ _ _ _ h _ _ _=>h.elim⟩
end
end L3
namespace L3
open PySem PySem.Spec PyProof.Rows L2
section
variable {X:Cx}
def zAdd:R3:=fun x y G R=>match x,y with
 | .int i,.int j=>R (.int (i+j)) G
 | .str a,.str b=>a.length+b.length≤sizeLine/\R (.str (a++b)) G
 | .tup xs,.tup ys=>xs≠[]/\xs.length+ys.length≤sizeLine/\R (.tup (xs++ys)) G
 | .ref p,.ref q=>∃ xs ys,G p=some (.lst xs)/\G q=some (.lst ys)/\xs.length+ys.length≤sizeLine/\∀ t,G t=none->R (.ref t) (put G t (.lst (xs++ys)))
 | _,_=>False
theorem a1r:OpQ X (binaryOp .Add) zAdd:=a5m (op_add.or (op_add_str.or (op_catT.or b4W))) fun x y H Q hx=>hx.un fun a b G R ra rb hg h up=>by
 cases a with
 | int i=>
  cases b with
  | int j=>rw [a0u] at ra rb;exact .inl ⟨_,_,ra,rb,up _ _ _ _ h (by rw [a0u]) hg (.refl _ _)⟩
  | _=>exact False.elim h
 | str i=>
  cases b with
  | str j=>rw [a0H] at ra rb;exact .inr (.inl ⟨_,_,ra,rb,h.1,up _ _ _ _ h.2 (by rw [a0H]) hg (.refl _ _)⟩)
  | _=>exact False.elim h
 | tup us=>
  cases b with
  | tup ws=>
   rw [a1w] at ra rb
   obtain⟨p,xs,rfl,e1,r1⟩:=ra
   obtain⟨q,ys,rfl,e2,r2⟩:=rb
   obtain⟨h0,hz,h⟩:=h
   refine .inr (.inr (.inl ⟨p,q,xs,ys,rfl,rfl,SqT.of e1,SqT.of e2,fun z=>?_,by rw [<- r1.length,<- r2.length];exact hz,fun z=>?_,fun z t ht=>?_⟩))
   ·subst z
    exact h0 (List.length_eq_zero_iff.mp r1.length)
   ·subst z
    have e:ws=[]:=List.length_eq_zero_iff.mp r2.length
    subst e
    rw [List.append_nil] at h
    exact up _ _ _ _ h (by rw [a1w];exact⟨p,xs,rfl,e1,r1⟩) hg (.refl _ _)
   ·exact up _ _ _ _ h (by rw [a1w];exact⟨t,xs++ys,rfl,a1a,Reps.mono (.new ht) _ _ (r1.append r2)⟩) (hg.hid ht) (.new ht)
  | _=>exact False.elim h
 | ref p=>
  cases b with
  | ref q=>
   rw [a0p] at ra rb
   subst ra rb
   obtain⟨xs,ys,e1,e2,hz,h⟩:=h
   obtain⟨vs,e1',r1⟩:=hg _ _ e1
   obtain⟨us,e2',r2⟩:=hg _ _ e2
   exact .inr (.inr (.inr ⟨_,_,vs,us,rfl,rfl,e1',e2',by rw [<- r1.length,<- r2.length];exact hz,fun t ht=>up _ _ _ _ (h t (hg.out ht)) (by rw [a0p]) (hg.set (.new ht) (a2A (r1.append r2) (.new ht))) (.new ht)⟩))
  | _=>exact False.elim h
 | _=>exact False.elim h
def zI (C:Int->Int->Prop) (g:Int->Int->Z):R3:=fun x y G R=>match x,y with
 | .int i,.int j=>C i j/\R (g i j) G
 | _,_=>False
def zI0 (g:Int->Int->Z):R3:=fun x y G R=>match x,y with
 | .int i,.int j=>R (g i j) G
 | _,_=>False
theorem oI {f:Value->Value->Sem Value} {C:Int->Int->Prop} {g:Int->Int->Int} (h:OpR X f (rI C fun i j=>.int (g i j))):OpQ X f (zI C fun i j=>.int (g i j)):=a5m h fun x y H Q hx=>hx.un fun a b G R ra rb hg h up=>by
 cases a<;>cases b<;>first
  | exact False.elim h
  | (rw [a0u] at ra rb;exact⟨_,_,ra,rb,h.1,up _ _ _ _ h.2 (by rw [a0u]) hg (.refl _ _)⟩)
theorem oI0 {f:Value->Value->Sem Value} {g:Int->Int->Int} (h:OpR X f (rI0 fun i j=>.int (g i j))):OpQ X f (zI0 fun i j=>.int (g i j)):=a5m h fun x y H Q hx=>hx.un fun a b G R ra rb hg h up=>by
 cases a<;>cases b<;>first
  | exact False.elim h
  | (rw [a0u] at ra rb;exact⟨_,_,ra,rb,up _ _ _ _ h (by rw [a0u]) hg (.refl _ _)⟩)
theorem a82:OpQ X (binaryOp .Sub) (zI0 fun i j=>.int (i - j)):=oI0 b4F
theorem a7B:OpQ X (binaryOp .Mult) (zI CMul fun i j=>.int (i*j)):=oI b4G
theorem a43:OpQ X (binaryOp .FloorDiv) (zI b47 fun i j=>.int (i / j)):=oI b1H
theorem a1k:OpQ X (binaryOp .Mod) (zI (fun _ j=>0<j) fun i j=>.int (i % j)):=oI b4H
theorem a3G:OpQ X (binaryOp .Pow) (zI CPow fun i j=>.int (i ^ j.toNat)):=oI b4I
theorem b2z:OpQ X (inplaceOp .Add) (zI0 fun i j=>.int (i+j)):=oI0 b22
def zNeg:Z->Hq->K3->Prop:=fun x G R=>match x with
 | .int i=>R (.int (-i)) G
 | _=>False
theorem a38:UnQ X (unaryOp .USub) zNeg:=b7f b4J fun x H Q hx=>hx.un fun a G R ra hg h up=>by
 cases a<;>first
  | exact False.elim h
  | (rw [a0u] at ra;exact⟨_,ra,up _ _ _ _ h (by rw [a0u]) hg (.refl _ _)⟩)
theorem b0a:OpR X (compareOp .LtE) (fun x y H Q=>∃ i j,x=.str i/\y=.str j/\Q (.bl (!decide (j.cps.toList<i.cps.toList))) H):=by
 intro pins s σ H x y v u Q I rx ry h
 obtain⟨i,j,rfl,rfl,q⟩:=h
 obtain⟨t,rfl⟩:=rx
 obtain⟨t',rfl⟩:=ry
 exact PySem.P.le_str (a0V I q rfl)
theorem b0b:OpR X (compareOp .Gt) (fun x y H Q=>∃ i j,x=.str i/\y=.str j/\Q (.bl (decide (j.cps.toList<i.cps.toList))) H):=by
 intro pins s σ H x y v u Q I rx ry h
 obtain⟨i,j,rfl,rfl,q⟩:=h
 obtain⟨t,rfl⟩:=rx
 obtain⟨t',rfl⟩:=ry
 exact PySem.P.gt_str (a0V I q rfl)
def zC (f:Int->Int->Bool) (g:Str->Str->Bool):R3:=fun x y G R=>match x,y with
 | .int i,.int j=>R (.bl (f i j)) G
 | .str i,.str j=>R (.bl (g i j)) G
 | _,_=>False
theorem oC {op:CmpOp} {f:Int->Int->Bool} {g:Str->Str->Bool} (h:OpR X (compareOp op) (rI0 fun i j=>.bl (f i j))) (h':OpR X (compareOp op) (fun x y H Q=>∃ i j,x=.str i/\y=.str j/\Q (.bl (g i j)) H)) :
  OpQ X (compareOp op) (zC f g):=a5m (h.or h') fun x y H Q hx=>hx.un fun a b G R ra rb hg h up=>by
 cases a<;>cases b<;>first
  | exact False.elim h
  | (rw [a0u] at ra rb;exact .inl ⟨_,_,ra,rb,up _ _ _ _ h (by rw [a06]) hg (.refl _ _)⟩)
  | (rw [a0H] at ra rb;exact .inr ⟨_,_,ra,rb,up _ _ _ _ h (by rw [a06]) hg (.refl _ _)⟩)
abbrev ltS (x y:Str):Bool:=decide (x.cps.toList<y.cps.toList)
theorem o_lt:OpQ X (compareOp .Lt) (zC (fun i j=>decide (i<j)) fun x y=>ltS x y):=oC b61 a9y
theorem o_le:OpQ X (compareOp .LtE) (zC (fun i j=>decide (i≤j)) fun x y=>!ltS y x):=oC b62 b0a
theorem o_gt:OpQ X (compareOp .Gt) (zC (fun i j=>decide (j<i)) fun x y=>ltS y x):=oC b63 b0b
def zIs (neg:Bool):R3:=fun x y G R=>match y with
 | .non=>R (.bl (if neg then !decide (x=.non) else decide (x=.non))) G
 | .bl b=>match x with
  | .bl a=>neg=false/\R (.bl (a==b)) G
  | _=>False
 | _=>False
theorem a5F {K:Fg} {H:Hp} {w:Z} {v:V} (r:Rep K H w v):decide (v=.non)=decide (w=.non):=by
 cases w with
 | non=>rw [a1H] at r;subst r;rfl
 | bl _=>rw [a06] at r;subst r;simp
 | int _=>rw [a0u] at r;subst r;simp
 | str _=>rw [a0H] at r;subst r;simp
 | ref _=>rw [a0p] at r;subst r;simp
 | ty _=>rw [a6G] at r;subst r;simp
 | scr _ _=>rw [a2x] at r;obtain⟨rfl,_⟩:=r;simp
 | tup _=>rw [a1w] at r;obtain⟨_,_,rfl,_⟩:=r;simp
end
mutual
def dZ:Z->PyData
 | .bl b=>.bool b
 | .int i=>.int i
 | .str x=>.str x
 | .tup ws=>.tuple (dZs ws)
 | _=>.none
def dZs:List Z->List PyData
 | []=>[]
 | w::ws=>dZ w::dZs ws
end
def flat:Nat->Z->Bool
 | _,.non=>true
 | _,.int _=>true
 | _,.str x=>PyData.strOk x
 | n+1,.tup ws=>ws.all (flat n)
 | _,_=>false
theorem b2A:∀ (n:Nat) (d:Z),flat n d=true->(dZ d).canLay0=true/\(dZ d).depth≤n:=by
 have all:∀ (n:Nat),(∀ d,flat n d=true->(dZ d).canLay0=true/\(dZ d).depth≤n)->∀ ds:List Z,(∀ d∈ds,flat n d=true)->PyData.canLayAll0 (dZs ds)=true/\PyData.depthAll (dZs ds)≤n:=by
  intro n ih ds
  induction ds with
  | nil=>intro _;simp [dZs,PyData.canLayAll0,PyData.depthAll]
  | cons d ds hi=>
   intro h
   have h1:=ih d (h d (.head _))
   have h2:=hi fun e he=>h e (.tail _ he)
   simp only [dZs,PyData.canLayAll0,PyData.depthAll,h1.1,h2.1,Bool.and_self,true_and]
   have a1:=h1.2
   have a2:=h2.2
   omega
 intro n
 induction n with
 | zero=>
  intro d h
  cases d<;>simp_all [flat,dZ,PyData.canLay0,PyData.depth]
 | succ n ih=>
  intro d h
  cases d with
  | non=>simp [dZ,PyData.canLay0,PyData.depth]
  | int i=>simp [dZ,PyData.canLay0,PyData.depth]
  | str x=>simp [flat] at h;simp [dZ,PyData.canLay0,PyData.depth,h]
  | tup ds=>
   have q:=all n ih ds (by simpa [flat] using h)
   have q2:=q.2
   simp only [dZ,PyData.canLay0,PyData.depth,q.1,true_and]
   omega
  | _=>simp [flat] at h
theorem b0c (n:Nat) (ds:List Z) (h:ds.all (flat n)=true):PyData.canLayAll0 (dZs ds)=true/\PyData.depthAll (dZs ds)≤n:=by
 have q:=b2A (n+1) (.tup ds) (by simpa [flat] using h)
 simp only [dZ,PyData.canLay0,PyData.depth] at q
 exact⟨q.1,by omega⟩
theorem b2B:∀ (n:Nat) (d e:Z) (k:Nat),flat n d=true->flat k e=true->(PyData.eqv (dZ d) (dZ e)=true↔d=e):=by
 have all:∀ (n:Nat),(∀ d e k,flat n d=true->flat k e=true->(PyData.eqv (dZ d) (dZ e)=true↔d=e))->∀ (k:Nat) (ds es:List Z),(∀ d∈ds,flat n d=true)->(∀ d∈es,flat k d=true) ->
   (PyData.eqvAll (dZs ds) (dZs es)=true↔ds=es):=by
  intro n ih k ds
  induction ds with
  | nil=>intro es _ _;cases es<;>simp [dZs,PyData.eqvAll]
  | cons d ds hi=>
   intro es h1 h2
   cases es with
   | nil=>simp [dZs,PyData.eqvAll]
   | cons e es=>
    have q1:=ih d e k (h1 d (.head _)) (h2 e (.head _))
    have q2:=hi es (fun x hx=>h1 x (.tail _ hx)) fun x hx=>h2 x (.tail _ hx)
    simp only [dZs,PyData.eqvAll,Bool.and_eq_true,q1,q2,List.cons.injEq]
 intro n
 induction n with
 | zero=>
  intro d e k h1 h2
  cases d<;>cases e<;>simp_all [flat,dZ,PyData.eqv]
 | succ n ih=>
  intro d e k h1 h2
  cases d with
  | tup ds=>
   cases e with
   | tup es=>
    cases k with
    | zero=>simp [flat] at h2
    | succ k=>
     simp only [dZ,PyData.eqv,Z.tup.injEq]
     exact all n ih k ds es (by simpa [flat] using h1) (by simpa [flat] using h2)
   | _=>simp_all [flat,dZ,PyData.eqv]
  | _=>cases e<;>simp_all [flat,dZ,PyData.eqv]
theorem b0d (n k:Nat) (ds es:List Z) (h:ds.all (flat n)=true) (h':es.all (flat k)=true):PyData.eqvAll (dZs ds) (dZs es)=true↔ds=es:=by
 have q:=b2B (n+1) (.tup ds) (.tup es) (k+1) (by simpa [flat] using h) (by simpa [flat] using h')
 simpa only [dZ,PyData.eqv,Z.tup.injEq] using q
section
variable {K:Fg} {H:Hp}
theorem b3r:∀ (n:Nat) (w:Z) (v:V),flat n w=true->Rep K H w v->DV H (dZ w) v:=by
 have all:∀ (n:Nat),(∀ w v,flat n w=true->Rep K H w v->DV H (dZ w) v)->∀ (ws:List Z) (vs:List V),(∀ d∈ws,flat n d=true)->Reps K H ws vs->DVs H (dZs ws) vs:=by
  intro n ih ws
  induction ws with
  | nil=>intro vs _ r;rw [a0O] at r;simp only [dZs];unfold DVs;exact r
  | cons w ws hi=>
   intro vs h r
   rw [a0o] at r
   obtain⟨v,r',e,r1,r2⟩:=r
   simp only [dZs]
   unfold DVs
   exact⟨v,r',e,ih w v (h w (.head _)) r1,hi r' (fun d hd=>h d (.tail _ hd)) r2⟩
 intro n
 induction n with
 | zero=>
  intro w v h r
  cases w with
  | non=>rw [a1H] at r;simp only [dZ];unfold DV;exact r
  | int i=>rw [a0u] at r;simp only [dZ];unfold DV;exact r
  | str x=>rw [a0H] at r;simp only [dZ];unfold DV;exact r
  | _=>simp [flat] at h
 | succ n ih=>
  intro w v h r
  cases w with
  | non=>rw [a1H] at r;simp only [dZ];unfold DV;exact r
  | int i=>rw [a0u] at r;simp only [dZ];unfold DV;exact r
  | str x=>rw [a0H] at r;simp only [dZ];unfold DV;exact r
  | tup ws=>
   rw [a1w] at r
   obtain⟨a,vs,e,ea,rs⟩:=r
   simp only [dZ]
   unfold DV
   exact⟨a,vs,e,ea,all n ih ws vs (by simpa [flat] using h) rs⟩
  | _=>simp [flat] at h
theorem a8g (n:Nat):∀ (ws:List Z) (vs:List V),ws.all (flat n)=true->Reps K H ws vs->DVs H (dZs ws) vs
 | [],vs,_,r=>by rw [a0O] at r;simp only [dZs];unfold DVs;exact r
 | w::ws,vs,h,r=>by
  rw [a0o] at r
  obtain⟨v,r',e,r1,r2⟩:=r
  rw [List.all_cons,Bool.and_eq_true] at h
  simp only [dZs]
  unfold DVs
  exact⟨v,r',e,b3r n w v h.1 r1,a8g n ws r' h.2 r2⟩
end
theorem a44 {n:Nat} {w:Z} (h:flat n w=true) (hn:n≤64):SeqAt.shaped (dZ w)=true:=by
 have q:=b2A n w h
 unfold SeqAt.shaped
 rw [q.1,Bool.true_and]
 exact decide_eq_true (by omega)
theorem a45 {n:Nat} {ws:List Z} (h:ws.all (flat n)=true) (hn:n≤63):SeqAt.shaped (.list (dZs ws))=true:=by
 have q:=b0c n ws h
 unfold SeqAt.shaped
 simp only [PyData.canLay0,PyData.depth,q.1,Bool.true_and]
 exact decide_eq_true (by omega)
theorem a7C {a:Bool} {p:Prop} [Decidable p] (h:a=true↔p):a=decide p:=by
 cases a with
 | true=>exact (decide_eq_true (h.mp rfl)).symm
 | false=>exact (decide_eq_false fun q=>by cases h.mpr q).symm
theorem a1m {p q:Prop} [Decidable p] [Decidable q] (h:p=q):decide p=decide q:=by
 by_cases k:q
 ·rw [decide_eq_true k,decide_eq_true (h▸k)]
 ·rw [decide_eq_false k,decide_eq_false (h▸k)]
def zEq (f:Bool->Bool):R3:=fun x y G R=>match x,y with
 | .bl a,.bl b=>R (.bl (f (a==b))) G
 | .int a,.int b=>R (.bl (f (decide (a=b)))) G
 | .str a,.str b=>R (.bl (f (decide (a=b)))) G
 | .ref p,.ref q=>∃ xs ys,G p=some (.lst xs)/\G q=some (.lst ys)/\xs.all (flat 8)=true/\ys.all (flat 8)=true/\R (.bl (f (decide (xs=ys)))) G
 | x,y=>flat 8 x=true/\flat 8 y=true/\R (.bl (f (decide (x=y)))) G
section
variable {X:Cx}
theorem b2C {f:Bool->Bool} {K:Fg} {x y:V} {H:Hp} {Q:VK} (h:low2 K (zEq f) x y H Q) :
    (scal x y=true/\Q (.bl (f (decide (x=y)))) H)\/∃ d e,DV H d x/\DV H e y/\SeqAt.shaped d=true/\SeqAt.shaped e=true/\Q (.bl (f (PyData.eqv d e))) H:=by
  obtain⟨a,b,G,R,ra,rb,hg,h,up⟩:=h
  have flt:flat 8 a=true/\flat 8 b=true/\R (.bl (f (decide (a=b)))) G->∃ d e,DV H d x/\DV H e y/\SeqAt.shaped d=true/\SeqAt.shaped e=true/\Q (.bl (f (PyData.eqv d e))) H:=fun ⟨h1,h2,h3⟩=>by
    refine⟨dZ a,dZ b,b3r 8 _ _ h1 ra,b3r 8 _ _ h2 rb,a44 h1 (by decide),a44 h2 (by decide),?_⟩
    rw [a7C (b2B 8 a b 8 h1 h2)]
    exact up _ _ _ _ h3 (by rw [a06]) hg (.refl _ _)
  cases a<;>cases b<;>first
    | exact .inr (flt h)
    | (rw [a06] at ra rb;subst ra rb;exact .inl ⟨rfl,by rw [a9v];exact up _ _ _ _ h (by rw [a06]) hg (.refl _ _)⟩)
    | (rw [a0u] at ra rb;subst ra rb;exact .inl ⟨rfl,by rw [a1m (V.int.injEq _ _)];exact up _ _ _ _ h (by rw [a06]) hg (.refl _ _)⟩)
    | (rw [a0H] at ra rb;subst ra rb;exact .inl ⟨rfl,by rw [a1m (V.str.injEq _ _)];exact up _ _ _ _ h (by rw [a06]) hg (.refl _ _)⟩)
    | (rw [a0p] at ra rb
       subst ra rb
       obtain⟨xs,ys,e1,e2,f1,f2,h⟩:=h
       obtain⟨vs,e1',r1⟩:=hg _ _ e1
       obtain⟨us,e2',r2⟩:=hg _ _ e2
       refine .inr ⟨.list (dZs xs),.list (dZs ys),?_,?_,a45 f1 (by decide),a45 f2 (by decide),?_⟩
       · unfold DV;exact⟨_,vs,rfl,e1',a8g 8 _ _ f1 r1⟩
       · unfold DV;exact⟨_,us,rfl,e2',a8g 8 _ _ f2 r2⟩
       · simp only [PyData.eqv]
         rw [a7C (b0d 8 8 xs ys f1 f2)]
         exact up _ _ _ _ h (by rw [a06]) hg (.refl _ _))
theorem o_eq (hu:X.A.units+66<cLine):OpQ X (compareOp .Eq) (zEq id):=a5m (op_eq.or (b2u hu)) fun x y H Q h=>b2C h
theorem o_ne (hu:X.A.units+66<cLine):OpQ X (compareOp .NotEq) (zEq not):=a5m (op_ne.or (b2v hu)) fun x y H Q h=>b2C h
def zIn (f:Bool->Bool):R3:=fun x y G R=>match x,y with
 | .str a,.str b=>R (.bl (f (!(Builtin.Str.occurrences b a 0 b.length 1).isEmpty))) G
 | x,.ref q=>∃ ws,G q=some (.lst ws)/\flat 8 x=true/\ws.all (flat 8)=true/\R (.bl (f (decide (x∈ws)))) G
 | x,.tup ws=>flat 8 x=true/\ws.all (flat 8)=true/\R (.bl (f (decide (x∈ws)))) G
 | _,_=>False
end
end L3
namespace L2
open PySem PySem.Spec PyProof.Rows
def Its (x:Str):It:=⟨fun i _=>i<x.cps.size,fun i H v H'=>H'=H/\∃ c,x.cps[i]?=some c/\v=.str ⟨#[c]⟩,fun i _=>i=x.cps.size⟩
theorem a8h {P:Program} {w:World} {K:Fg} {tg:Expr} {it:Addr} {ty:String} {x:Str} {t:Tok}
  (hty:["enumerate","zip","dict_itemiterator","dict_reverseitemiterator","odict_iterator","itertools.zip_longest","itertools.pairwise"].contains ty=false)
  (W:∀ A':Around,A'.handled=none->Walks P w A' it [it] [it] x.cps.size (SignAt x) (fun i h=>h.IsStrIter it ty x t i))
  (hself:∀ (A:Around) (i:Nat) (s:Shared) (Q:Value->Shared->Prop) (E:Value->Shared->Prop),s.heap.IsStrIter it ty x t i->Q (.ref it) s->wpAny (model P w) A (pyIter (.ref it)) Q E s) :
  Turn P w K tg (Its x) [it] it (fun i h=>h.IsStrIter it ty x t i) where
 mem:=by simp
 obj:=fun i h st b hb=>by
  have e:b=it:=by simpa using hb
  subst e
  obtain⟨o,e,c,d⟩:=st
  exact⟨o,e,fun v z=>by rw [d] at z;cases z⟩
 keep:=fun i h h' st k=>let ⟨o,e,r⟩:=st;⟨o,k it (by simp) o e,r⟩
 item:=by
  intro X hP hw hK hc i pins s σ H E I hf st hg
  subst hP hw hK
  obtain⟨f0,f1,f2,f3,f4,f5⟩:=hf it (by simp)
  refine (W X.A (I.ok.hd hc)).item i s _ _ hg st fun v h' tk ⟨c,u,hx,e⟩ st' k=>?_
  subst e
  have I1:Inv X pins σ H { s with heap:=h',toks:=tk }:=I.turned (t':=tk) (fun b o hb e=>k b o (by simpa using hb) e) f0 f1 f3 f4 f5
  obtain⟨o,e,cl,d⟩:=id st'
  exact⟨_,rfl,a8N (s:={ s with heap:=h',toks:=tk }) e cl d hty ⟨.str ⟨#[c]⟩,H,I1,⟨_,rfl⟩,⟨rfl,c,hx,rfl⟩,st',fun b hb=>(hf b hb).1⟩⟩
 done:=by
  intro X hP hw hK hc i pins s σ H E I hf st hg
  subst hP hw hK
  obtain⟨f0,f1,f2,f3,f4,f5⟩:=hf it (by simp)
  have hg':i=x.cps.size:=hg
  subst hg'
  exact (W X.A (I.ok.hd hc)).done s _ _ st fun h' tk k=>⟨rfl,I.turned (t':=tk) (fun b o hb e=>k b o (by simpa using hb) e) f0 f1 f3 f4 f5⟩
 self:=hself
def iStr (tl:TE):TI:=fun σ H R=>tl σ H fun v H1=>∃ x,v=.str x/\R (Its x) H1
theorem b5q {X:Cx} {tg l:Expr} {tl:TE} (hl:PE X l tl):PI X tg l (iStr tl):=by
 intro pins s σ H R I h
 refine thn (hl pins s σ H _ I h) fun v s1 ⟨x,H1,I1,r1,q1⟩=>?_
 obtain⟨y,e,q⟩:=q1
 subst e
 obtain⟨t,rfl⟩:=r1
 have fp:∀ (o:Obj),∀ b∈[s1.heap.objs.size],FpOk X pins H1 b:=fun o b hb=>by
  have e:b=s1.heap.objs.size:=by simpa using hb
  subst e
  exact I1.fpOk (Nat.le_refl _) (I1.hok.fresh (Nat.le_refl _))
 cases ha:y.cps.all (·<128)
 ·refine wpAny_pyIter_wide ha ?_
  exact⟨s1.heap.objs.size,[s1.heap.objs.size],_,_,H1,rfl,I1.kept (t':=s1.toks) (fun b o e=>Heap.get?_push_of_some _ e),a8h (by decide) (fun A' hA=>Walks.strWide hA _ y t) (fun _ _ _ _ _ st h=>wpAny_pyIter_striter_wide st h),
   ⟨_,Heap.get?_push_size _ rfl,rfl,rfl⟩,fp default,q⟩
 ·refine wpAny_pyIter_ascii ha ?_
  exact⟨s1.heap.objs.size,[s1.heap.objs.size],_,_,H1,rfl,I1.kept (t':=s1.toks) (fun b o e=>Heap.get?_push_of_some _ e),a8h (by decide) (fun A' hA=>Walks.strAscii hA _ y t) (fun _ _ _ _ _ st h=>wpAny_pyIter_striter_ascii st h),
   ⟨_,Heap.get?_push_size _ rfl,rfl,rfl⟩,fp default,q⟩
theorem Vals.tog:∀ {xs:List V} {us:List Value} {i:Nat} {u:Value},Vals xs us->us[i]?=some u->∃ x,xs[i]?=some x/\RelV x u
 | _,_,_,_,.nil,e=>by simp at e
 | _,_,0,_,.cons r _,e=>by simp at e;subst e;exact⟨_,rfl,r⟩
 | _,_,i+1,u,.cons _ t,e=>by
  obtain⟨x,h1,h2⟩:=Vals.tog (i:=i) (u:=u) t (by simpa using e)
  exact⟨x,by simpa using h1,h2⟩
theorem a5G:∀ {ys:List Str} {us:List Value},Vals (ys.map V.str) us->StrsAre us ys
 | [],us,r=>by rw [List.map_nil] at r;cases r;exact .nil
 | y::ys,us,r=>by
  rw [List.map_cons] at r
  cases r with
  | cons r1 r2=>
   obtain⟨t,e⟩:=r1
   subst e
   exact .cons y t (a5G r2)
theorem b0e (bs:List Bool):(List.range bs.length).all (fun i=>bs.getD i false)=bs.all id:=by
 rw [Bool.eq_iff_iff]
 simp only [List.all_eq_true,List.mem_range,id]
 constructor
 ·intro h b hb
  obtain⟨i,hi,e⟩:=List.getElem_of_mem hb
  have:=h i hi
  rw [List.getD_eq_getElem?_getD,List.getElem?_eq_getElem hi] at this
  rw [<- e];exact this
 ·intro h i hi
  rw [List.getD_eq_getElem?_getD,List.getElem?_eq_getElem hi]
  exact h _ (List.getElem_mem hi)
section
variable {X:Cx}
theorem b0f (hc:X.calm=true):CallR X (.builtin "all") (fun xs H Q=>∃ (p:Addr) (bs:List Bool),xs=[.ref p]/\SqL X.K H p (bs.map V.bl)/\Q (.bl (bs.all id)) H):=by
 intro pins s σ H xs us Q I r h
 obtain⟨p,bs,rfl,hq,q⟩:=h
 obtain⟨u,rfl,r1⟩:=a4U r
 cases r1
 obtain⟨its,rv,pl,_⟩:=I.list hq
 have hp:p<s.heap.objs.size:=by obtain⟨o,_,e,_⟩:=pl;exact Heap.lt_size e
 refine call_all_walk (wpAny_pyIter_list pl.isList ?_)
 have hh:X.A.in1.handled=none:=I.ok.hd hc
 have il:(s.heap.push { cls:=.type "list_iterator",data:=.fields #[.ref p,rawInt 0] }).IsList p its.toArray:=by
  obtain⟨o,e,c⟩:=pl.isList
  exact⟨o,Heap.get?_push_of_some _ e,c⟩
 refine⟨_,_,_,_,_,_,fun i=>bs.getD i false,rfl,Walks.list hh s.heap.objs.size p (Nat.ne_of_lt hp) its.toArray,⟨⟨_,Heap.get?_push_size _ rfl,rfl,rfl⟩,il⟩,?_,?_⟩
 ·intro i v s' Q' E' hv hQ
  obtain⟨x,hx,rx⟩:=Vals.tog rv (by simpa using hv)
  rw [List.getElem?_map] at hx
  cases hb:bs[i]? with
  | none=>rw [hb] at hx;cases hx
  | some b=>
   rw [hb] at hx
   cases hx
   cases rx
   refine wpAny_truthy_bool ?_
   have:bs.getD i false=b:=by rw [List.getD_eq_getElem?_getD,hb];rfl
   dsimp only at hQ
   rw [this] at hQ
   exact hQ
 ·intro h' tk k
  have e:(List.range its.toArray.size).all (fun i=>bs.getD i false)=bs.all id:=by
   have hl:its.toArray.size=bs.length:=by rw [List.size_toArray,<- rv.length,List.length_map]
   rw [hl]
   exact b0e bs
  rw [e]
  exact⟨.bl _,H,I.kept (t':=tk) (fun b o eb=>k b o (by simpa using Nat.ne_of_lt (Heap.lt_size eb)) (Heap.get?_push_of_some _ eb)),rfl,q⟩
theorem b5r:OpR X (compareOp .Is) (fun x y H Q=>∃ a b,x=.bl a/\y=.bl b/\Q (.bl (a==b)) H):=by
 intro pins s σ H x y v u Q I rx ry h
 obtain⟨a,b,rfl,rfl,q⟩:=h
 cases rx
 cases ry
 exact wpAny_is_plain rfl (a0V I q (by cases a<;>cases b<;>rfl))
theorem b3s:MtR X "str.join" (fun x vs H Q=>∃ (z:Str) (p:Addr) (ys:List Str),x=.str z/\vs=[.ref p]/\SqL X.K H p (ys.map V.str)/\(ys.map (·.length)).sum+ys.length*z.length≤16777216/\Q (.str (Txt.join z ys)) H):=by
 intro pins s σ H x xs v us Q I rx rs h
 obtain⟨z,p,ys,rfl,rfl,hq,hz,q⟩:=h
 obtain⟨t,rfl⟩:=rx
 obtain⟨u,rfl,r1⟩:=a4U rs
 cases r1
 obtain⟨its,rv,pl,_⟩:=I.list hq
 exact join_list pl.isList (by simpa using a5G rv) hz fun t' k=>⟨.str _,H,I.tok k,⟨_,rfl⟩,q⟩
def rSlS:V->Option Int->Option Int->Hp->VK->Prop:=fun x lo hi H Q=>∃ z,x=.str z/\z.length≤sizeLine/\Q (.str (Txt.slice z lo hi)) H
theorem b5s:SlR X rSlS:=by
 intro pins s σ H x v vl vu lo hi sl Q I rx hs pl pu h
 obtain⟨z,rfl,hz,q⟩:=h
 obtain⟨t,rfl⟩:=rx
 obtain⟨o,e,c,d⟩:=hs
 have fin:∀ lo hi,Q (.str (Txt.slice z lo hi)) H->(Txt.slice z lo hi).length≤sizeLine/\∀ t' k,EP X pins σ Q (.str (Txt.slice z lo hi) t') { s with toks:=k }:=fun lo hi q=>
  ⟨Nat.le_trans (Txt.slice_le z _ _) hz,fun t' k=>⟨.str _,H,I.tok k,⟨_,rfl⟩,q⟩⟩
 cases pl with
 | none=>
  cases pu with
  | none=>exact⟨"str",_,F.slot_str_getitem.lookup,typeIs_str _ _ _,wpAny_getItem_str_slice (l:=none) (u:=none) (st:=none) ⟨o,e,c,d⟩ rfl (post_val_or_str (fin _ _ q))⟩
  | int j u=>exact⟨"str",_,F.slot_str_getitem.lookup,typeIs_str _ _ _,wpAny_getItem_str_slice (l:=none) (u:=some (j,u)) (st:=none) ⟨o,e,c,d⟩ rfl (post_val_or_str (fin _ _ q))⟩
 | int i v=>
  cases pu with
  | none=>exact⟨"str",_,F.slot_str_getitem.lookup,typeIs_str _ _ _,wpAny_getItem_str_slice (l:=some (i,v)) (u:=none) (st:=none) ⟨o,e,c,d⟩ rfl (post_val_or_str (fin _ _ q))⟩
  | int j u=>exact⟨"str",_,F.slot_str_getitem.lookup,typeIs_str _ _ _,wpAny_getItem_str_slice (l:=some (i,v)) (u:=some (j,u)) (st:=none) ⟨o,e,c,d⟩ rfl (post_val_or_str (fin _ _ q))⟩
end
end L2
namespace L3
open PySem PySem.Spec PyProof.Rows L2
section
variable {X:Cx}
theorem o_is:OpQ X (compareOp .Is) (zIs false):=a5m (op_isN.or b5r) fun x y H Q hx=>hx.un fun a b G R ra rb hg h up=>by
 cases b with
 | non=>rw [a1H] at rb;exact .inl ⟨rb,by rw [a5F ra];exact up _ _ _ _ h (by rw [a06];rfl) hg (.refl _ _)⟩
 | bl b=>
  cases a with
  | bl a=>rw [a06] at ra rb;exact .inr ⟨_,_,ra,rb,up _ _ _ _ h.2 (by rw [a06]) hg (.refl _ _)⟩
  | _=>exact False.elim h
 | _=>exact False.elim h
theorem a57:OpQ X (compareOp .IsNot) (zIs true):=a5m b23 fun x y H Q hx=>hx.un fun a b G R ra rb hg h up=>by
 cases b with
 | non=>rw [a1H] at rb;exact⟨rb,by rw [a5F ra];exact up _ _ _ _ h (by rw [a06];rfl) hg (.refl _ _)⟩
 | bl b=>
  cases a with
  | bl a=>exact nomatch h.1
  | _=>exact False.elim h
 | _=>exact False.elim h
def zIx:R3:=fun x y G R=>match x,y with
 | .ref p,.int i=>∃ ws w,G p=some (.lst ws)/\atI ws i=some w/\R w G
 | .scr _ ns,.int i=>∃ n,atI ns i=some n/\R (.int n) G
 | .tup ws,.int i=>∃ w,atI ws i=some w/\R w G
 | .str z,.int i=>∃ c,z.length≤sizeLine/\atI z.cps.toList i=some c/\R (.str ⟨#[c]⟩) G
 | _,_=>False
theorem b0g {K:Fg} {H:Hp} {ws:List Z} {vs:List V} {i:Int} {w:Z} (r:Reps K H ws vs) (h:atI ws i=some w):∃ v,atI vs i=some v/\Rep K H w v:=by
 unfold atI at h ⊢
 rw [<- r.length]
 cases e:ixN ws.length i with
 | none=>rw [e] at h;cases h
 | some j=>
  rw [e] at h
  exact r.get h
theorem b3t {α β:Type} {f:α->β} {xs:List α} {i:Int} {x:α} (h:atI xs i=some x):atI (xs.map f) i=some (f x):=by
 unfold atI at h ⊢
 rw [List.length_map]
 cases e:ixN xs.length i with
 | none=>rw [e] at h;cases h
 | some j=>
  rw [e] at h
  have h':xs[j]?=some x:=h
  show (xs.map f)[j]?=some (f x)
  rw [List.getElem?_map,h'];rfl
theorem x_ix:IxQ X zIx:=b7g b4U fun x y H Q hx=>hx.un fun a b G R ra rb hg h up=>by
  cases a<;>cases b<;>first
    | exact False.elim h
    | (rw [a0p] at ra
       rw [a0u] at rb
       obtain⟨ws,w,e,hw,h⟩:=h
       obtain⟨vs,e',rs⟩:=hg _ _ e
       obtain⟨v,hv,rv⟩:=b0g rs hw
       exact .inl ⟨_,_,_,v,ra,rb,SqL.of e',hv,up _ _ _ _ h rv hg (.refl _ _)⟩)
    | (rw [a2x] at ra
       rw [a0u] at rb
       obtain⟨n,hn,h⟩:=h
       exact .inl ⟨_,_,_,_,ra.1,rb,ra.2.sq,b3t hn,up _ _ _ _ h (by rw [a0u]) hg (.refl _ _)⟩)
    | (rw [a1w] at ra
       rw [a0u] at rb
       obtain⟨p,vs,e,e',rs⟩:=ra
       obtain⟨w,hw,h⟩:=h
       obtain⟨v,hv,rv⟩:=b0g rs hw
       exact .inr (.inl ⟨p,vs,_,v,e,rb,SqT.of e',hv,up _ _ _ _ h rv hg (.refl _ _)⟩))
    | (rw [a0H] at ra
       rw [a0u] at rb
       obtain⟨c,hz,hc,h⟩:=h
       exact .inr (.inr ⟨_,_,c,ra,rb,hz,hc,up _ _ _ _ h (by rw [a0H]) hg (.refl _ _)⟩))
def cutZ {α:Type} (xs:List α) (lo hi:Option Int):List α:=(xs.drop (HT.sIx xs.length 0 lo)).take (HT.sIx xs.length xs.length hi - HT.sIx xs.length 0 lo)
theorem b3u (xs:List V) (lo hi:Option Int):cutV xs lo hi=cutZ xs lo hi:=rfl
theorem a7D {α:Type} (xs:List α) (lo hi:Option Int):(cutZ xs lo hi).length≤xs.length:=by
 unfold cutZ
 rw [List.length_take,List.length_drop]
 omega
theorem Reps.cut {K:Fg} {H:Hp} {ws:List Z} {vs:List V} (r:Reps K H ws vs) (lo hi:Option Int):Reps K H (cutZ ws lo hi) (cutV vs lo hi):=by
 unfold cutZ cutV
 rw [<- r.length]
 exact (r.drop _).take _
theorem b1M {α β:Type} (f:α->β) (xs:List α) (lo hi:Option Int):cutZ (xs.map f) lo hi=(cutZ xs lo hi).map f:=by
 unfold cutZ
 rw [List.length_map,List.map_take,List.map_drop]
def zSl:L3r:=fun x lo hi G R=>match x with
 | .ref p=>∃ ws,G p=some (.lst ws)/\∀ t,G t=none->R (.ref t) (put G t (.lst (cutZ ws lo hi)))
 | .scr _ ns=>∀ t,G t=none->R (.ref t) (put G t (.lst ((cutZ ns lo hi).map Z.int)))
 | .tup ws=>¬ (HT.sIx ws.length 0 lo=0/\HT.sIx ws.length ws.length hi=ws.length)/\R (.tup (cutZ ws lo hi)) G
 | .str z=>z.length≤sizeLine/\R (.str (Txt.slice z lo hi)) G
 | _=>False
theorem x_sl:SlQ X zSl:=b7i (sl_list.or (sl_tup.or b5s)) fun x lo hi H Q hx=>hx.un fun a G R ra hg h up=>by
 cases a with
 | ref p=>
  rw [a0p] at ra
  obtain⟨ws,e,h⟩:=h
  obtain⟨vs,e',rs⟩:=hg _ _ e
  exact .inl ⟨p,vs,ra,SqL.of e',fun t ht=>up _ _ _ _ (h t (hg.out ht)) (by rw [a0p]) (hg.set (.new ht) (a2A (rs.cut lo hi) (.new ht))) (.new ht)⟩
 | scr p ns=>
  rw [a2x] at ra
  refine .inl ⟨p,_,ra.1,ra.2.sq,fun t ht=>?_⟩
  rw [b3u,b1M]
  exact up _ _ _ _ (h t (hg.out ht)) (by rw [a0p]) (hg.set (.new ht) (a2A (a3D _) (.new ht))) (.new ht)
 | tup ws=>
  rw [a1w] at ra
  obtain⟨p,vs,e,e',rs⟩:=ra
  exact .inr (.inl ⟨p,vs,e,SqT.of e',by rw [<- rs.length];exact h.1,fun t ht=>up _ _ _ _ h.2 (by rw [a1w];exact⟨t,_,rfl,a1a,(rs.cut lo hi).mono (.new ht)⟩) (hg.hid ht) (.new ht)⟩)
 | str z=>
  rw [a0H] at ra
  exact .inr (.inr ⟨z,ra,h.1,up _ _ _ _ h.2 (by rw [a0H]) hg (.refl _ _)⟩)
 | _=>exact False.elim h
def zSet:Z3:=fun o i v G R=>match o,i with
 | .ref p,.int k=>∃ ws j,G p=some (.lst ws)/\ixN ws.length k=some j/\R (put G p (.lst (ws.set j v)))
 | _,_=>False
theorem b7n:SetQ X zSet:=b5m b1t fun o i v H Q hx=>hx.un fun a b w G R ra rb rw' hg h up=>by
  cases a<;>cases b<;>first
    | exact False.elim h
    | (rw [a0p] at ra
       rw [a0u] at rb
       obtain⟨ws,j,e,hj,h⟩:=h
       obtain⟨vs,e',rs⟩:=hg _ _ e
       exact⟨_,vs,_,j,ra,rb,e',by rw [<- rs.length];exact hj,up _ _ h (hg.set (.lst e') (a2A (rs.set rw' j) (.lst e'))) (.lst e')⟩)
def zLen:List Z->Hq->K3->Prop:=fun xs G R=>match xs with
 | [.str z]=>z.length≤sizeLine/\R (.int z.length) G
 | [.ref p]=>∃ ws,G p=some (.lst ws)/\R (.int ws.length) G
 | [.tup ws]=>R (.int ws.length) G
 | [.scr _ ns]=>R (.int ns.length) G
 | _=>False
theorem b_len:a3F X (.builtin "len") zLen:=a2g b1k fun xs H Q hx=>hx.un fun ws G R rs hg h up=>by
 match ws,h with
 | [.str z],h=>
  obtain⟨v,rfl,r⟩:=rs.one
  rw [a0H] at r
  exact⟨v,z.length,rfl,by rw [r];exact⟨h.1,rfl⟩,up _ _ _ _ h.2 (by rw [a0u]) hg (.refl _ _)⟩
 | [.ref p],h=>
  obtain⟨v,rfl,r⟩:=rs.one
  rw [a0p] at r
  obtain⟨ys,e,h⟩:=h
  obtain⟨vs,e',rs'⟩:=hg _ _ e
  exact⟨v,ys.length,rfl,by rw [r];exact .inl ⟨vs,SqL.of e',rs'.length⟩,up _ _ _ _ h (by rw [a0u]) hg (.refl _ _)⟩
 | [.tup ys],h=>
  obtain⟨v,rfl,r⟩:=rs.one
  rw [a1w] at r
  obtain⟨p,vs,e,e',rs'⟩:=r
  exact⟨v,ys.length,rfl,by rw [e];exact .inr ⟨vs,SqT.of e',rs'.length⟩,up _ _ _ _ h (by rw [a0u]) hg (.refl _ _)⟩
 | [.scr p ns],h=>
  obtain⟨v,rfl,r⟩:=rs.one
  rw [a2x] at r
  exact⟨v,ns.length,rfl,by rw [r.1];exact .inl ⟨_,r.2.sq,(List.length_map ..).symm⟩,up _ _ _ _ h (by rw [a0u]) hg (.refl _ _)⟩
def zMM (f:Int->Int->Int):List Z->Hq->K3->Prop:=fun xs G R=>match xs with
 | [.int i,.int j]=>R (.int (f i j)) G
 | _=>False
theorem bMM {id:String} {f:Int->Int->Int} (hf:CallR X (.builtin id) (fun xs H Q=>∃ i j,xs=[.int i,.int j]/\Q (.int (f i j)) H)):a3F X (.builtin id) (zMM f):=a2g hf fun xs H Q hx=>hx.un fun ws G R rs hg h up=>by
 match ws,h with
 | [.int i,.int j],h=>
  obtain⟨v,v',rfl,r,r'⟩:=rs.two
  rw [a0u] at r r'
  exact⟨i,j,by rw [r,r'],up _ _ _ _ h (by rw [a0u]) hg (.refl _ _)⟩
theorem b_max (hc:X.calm=true):a3F X (.builtin "max") (zMM fun i j=>if j > i then j else i):=bMM (a9z hc)
theorem b_min (hc:X.calm=true):a3F X (.builtin "min") (zMM fun i j=>if j<i then j else i):=bMM (a9A hc)
def zAll:List Z->Hq->K3->Prop:=fun xs G R=>match xs with
 | [.ref p]=>∃ bs:List Bool,G p=some (.lst (bs.map Z.bl))/\R (.bl (bs.all id)) G
 | _=>False
theorem a8i {K:Fg} {H:Hp}:∀ {bs:List Bool} {vs:List V},Reps K H (bs.map Z.bl) vs->vs=bs.map V.bl
 | [],vs,h=>by rw [List.map_nil,a0O] at h;subst h;rfl
 | n::ns,vs,h=>by
  rw [List.map_cons,a0o] at h
  obtain⟨v,r,rfl,h1,h2⟩:=h
  rw [a06] at h1
  rw [h1,a8i h2];rfl
theorem a6N {K:Fg} {H:Hp}:∀ {bs:List Str} {vs:List V},Reps K H (bs.map Z.str) vs->vs=bs.map V.str
 | [],vs,h=>by rw [List.map_nil,a0O] at h;subst h;rfl
 | n::ns,vs,h=>by
  rw [List.map_cons,a0o] at h
  obtain⟨v,r,rfl,h1,h2⟩:=h
  rw [a0H] at h1
  rw [h1,a6N h2];rfl
theorem b_all (hc:X.calm=true):a3F X (.builtin "all") zAll:=a2g (b0f hc) fun xs H Q hx=>hx.un fun ws G R rs hg h up=>by
 match ws,h with
 | [.ref p],h=>
  obtain⟨v,rfl,r⟩:=rs.one
  rw [a0p] at r
  obtain⟨bs,e,h⟩:=h
  obtain⟨vs,e',rs'⟩:=hg _ _ e
  have:=a8i rs'
  subst this
  exact⟨p,bs,by rw [r],SqL.of e',up _ _ _ _ h (by rw [a06]) hg (.refl _ _)⟩
def kit0 (n T:String):Option Bool:=if (Value.type n==Value.type T)=true then some true else if PySem.W.kitMeta T=true then (PySem.fastBuiltinMro n).map (·.contains (.type T)) else none
theorem b5t {K:Fg} {n T:String}:PySem.W.kitOne K (.type n) (.type T)=kit0 n T:=rfl
def tyN (G:Hq):Z->Option String
 | .non=>some "NoneType"
 | .bl _=>some "bool"
 | .int _=>some "int"
 | .str _=>some "str"
 | .tup _=>some "tuple"
 | .ref p=>match G p with
  | some (.lst _)=>some "list"
  | some (.dK _)=>some "dict"
  | _=>none
 | _=>none
def zIsT:List Z->Hq->K3->Prop:=fun xs G R=>match xs with
 | [x,.ty T]=>∃ n b,tyN G x=some n/\kit0 n T=some b/\R (.bl b) G
 | _=>False
theorem b1N {K:Fg} {G:Hq} {H:Hp} {x:Z} {v:V} {n:String} (h:tyN G x=some n) (r:Rep K H x v) (hg:RH K G H):TyOf K H v (.type n):=by
 cases x with
 | non=>rw [a1H] at r;subst r;cases h;exact .non
 | bl _=>rw [a06] at r;subst r;cases h;exact .bl _
 | int _=>rw [a0u] at r;subst r;cases h;exact .int _
 | str _=>rw [a0H] at r;subst r;cases h;exact .str _
 | tup ws=>rw [a1w] at r;obtain⟨a,vs,rfl,e,_⟩:=r;cases h;exact .tup e
 | ref p=>
  rw [a0p] at r
  subst r
  cases e:G p with
  | none=>simp [tyN,e] at h
  | some o=>
   cases o with
   | lst ws=>simp [tyN,e] at h;subst h;obtain⟨vs,e',_⟩:=hg _ _ e;exact .lst e'
   | dK kvs=>simp [tyN,e] at h;subst h;obtain⟨vs,e',_⟩:=hg _ _ e;exact .dK e'
   | ins C dx fs=>simp [tyN,e] at h
   | dF kvs=>simp [tyN,e] at h
 | ty _=>cases h
 | scr _ _=>cases h
theorem b3v:a3F X (.builtin "isinstance") zIsT:=a2g b1I fun xs H Q hx=>hx.un fun ws G R rs hg h up=>by
 match ws,h with
 | [x,.ty T],h=>
  obtain⟨v,v',rfl,r,r'⟩:=rs.two
  rw [a6G] at r'
  obtain⟨n,b,e,k,h⟩:=h
  exact⟨v,T,.type n,b,by rw [r'],b1N e r hg,by rw [b5t];exact k,up _ _ _ _ h (by rw [a06]) hg (.refl _ _)⟩
def a58:Z->List Z->Hq->K3->Prop:=fun x xs G R=>match x,xs with
 | .ref p,[y]=>∃ ws,G p=some (.lst ws)/\ws.length<sizeLine/\R .non (put G p (.lst (ws++[y])))
 | _,_=>False
theorem a27:MtQ X "list.append" a58:=a8Y a6C fun x xs H Q hx=>hx.un fun w ws G R rw' rs hg h up=>by
 match w,ws,h with
 | .ref p,[y],h=>
  rw [a0p] at rw'
  obtain⟨v,rfl,r⟩:=rs.one
  obtain⟨ys,e,hz,h⟩:=h
  obtain⟨vs,e',rs'⟩:=hg _ _ e
  exact⟨p,vs,v,rw',rfl,e',by rw [<- rs'.length];exact hz,up _ _ _ _ h (by rw [a1H]) (hg.set (.lst e') (a2A (rs'.append (.cons r .nil)) (.lst e'))) (.lst e')⟩
def b0h:Z->List Z->Hq->K3->Prop:=fun x xs G R=>match x,xs with
 | .ref p,[.ref q]=>∃ ws ys,G p=some (.lst ws)/\G q=some (.lst ys)/\ws.length+ys.length≤sizeLine/\R .non (put G p (.lst (ws++ys)))
 | _,_=>False
theorem b1O:MtQ X "list.extend" b0h:=a8Y a9N fun x xs H Q hx=>hx.un fun w ws G R rw' rs hg h up=>by
 match w,ws,h with
 | .ref p,[.ref q],h=>
  rw [a0p] at rw'
  obtain⟨v,rfl,r⟩:=rs.one
  rw [a0p] at r
  obtain⟨ys,zs,e,e2,hz,h⟩:=h
  obtain⟨vs,e',rs'⟩:=hg _ _ e
  obtain⟨us,e2',rs2⟩:=hg _ _ e2
  exact⟨p,q,vs,us,rw',by rw [r],e',e2',by rw [<- rs'.length,<- rs2.length];exact hz,up _ _ _ _ h (by rw [a1H]) (hg.set (.lst e') (a2A (rs'.append rs2) (.lst e'))) (.lst e')⟩
def b5u:Z->List Z->Hq->K3->Prop:=fun x xs G R=>match x,xs with
 | .str z,[.ref p]=>∃ ys:List Str,G p=some (.lst (ys.map Z.str))/\(ys.map (·.length)).sum+ys.length*z.length≤16777216/\R (.str (Txt.join z ys)) G
 | _,_=>False
theorem b5v:MtQ X "str.join" b5u:=a8Y b3s fun x xs H Q hx=>hx.un fun w ws G R rw' rs hg h up=>by
 match w,ws,h with
 | .str z,[.ref p],h=>
  rw [a0H] at rw'
  obtain⟨v,rfl,r⟩:=rs.one
  rw [a0p] at r
  obtain⟨ys,e,hz,h⟩:=h
  obtain⟨vs,e',rs'⟩:=hg _ _ e
  have:=a6N rs'
  subst this
  exact⟨z,p,ys,rw',by rw [r],SqL.of e',hz,up _ _ _ _ h (by rw [a0H]) hg (.refl _ _)⟩
def b5w:E3:=fun _ G R=>∀ p,G p=none->R (.ref p) (put G p (.dK []))
theorem b5x {pos:Pos}:QE X (.Dict [] [] pos) b5w:=⟨a1Z b1y fun τ H Q ⟨σ,G,R,hs,hg,h,up⟩ p hp=>up _ _ _ _ (h p (hg.out hp)) (by rw [a0p]) (hg.set (o:=.dK []) (.new hp) ⟨[],a1a,rfl,.nil⟩) (.new hp)⟩
def a4C (x:Str):List Z:=x.cps.toList.map fun c=>.str ⟨#[c]⟩
def wkS (x:Z) (G:Hq) (R:List Z->(Hq->Prop)->Hq->Prop):Prop:=match x with
 | .str z=>R (a4C z) (fun _=>True) G
 | _=>False
def iS (tl:E3):I3:=fun σ G R=>tl σ G fun x G1=>wkS x G1 R
theorem b0i {K:Fg} {x:Str} {H0:Hp}:a55 K (a4C x) (fun _=>True) (Its x) H0:=fun i G H hg t ok hi=>by
 have hl:(a4C x).length=x.cps.size:=by unfold a4C;rw [List.length_map,Array.length_toList]
 refine⟨fun h=>by rw [h,hl];rfl,fun w hw=>?_⟩
 unfold a4C at hw
 rw [List.getElem?_map] at hw
 cases hc:x.cps.toList[i]? with
 | none=>rw [hc] at hw;cases hw
 | some c=>
  rw [hc] at hw
  cases hw
  have hc':x.cps[i]?=some c:=by simpa using hc
  refine⟨(Array.getElem?_eq_some_iff.mp hc').1,?_⟩
  rintro v H' ⟨rfl,c2,h2,rfl⟩
  rw [hc'] at h2
  cases h2
  exact⟨by rw [a0H],hg,.refl _ _⟩
theorem b5y {tg l:Expr} {tl:E3} (hl:QE X l tl):QI X tg l (iS tl):=a80 (b5q hl.p) fun τ H R2 hx=>hx.un fun σ G R hs hg h up=>by
 refine⟨σ,G,_,hs,hg,h,fun w G1 v H1 h1 rv hg1 t1=>?_⟩
 cases w with
 | str x=>
  rw [a0H] at rv
  exact⟨x,rv,up _ _ _ _ _ h1 b0i hg1 t1⟩
 | _=>exact False.elim h1
end
end L3
namespace L3
open PySem PySem.Spec PyProof.Rows L2
section
variable {σ:S3} {G:Hq} {R:K3} {Rb:Bool->Hq->Prop} {Ra:List Z->Hq->Prop} {nx bk ct:C3} {rt:K3} {t u:X3} {te ta tb tc to ti:E3} {c d:T3} {al:A3} {r r':R3} {w x y:Z} {i:Nat}
theorem b7o (e:σ[i]?=some (some w)) (h:R w G):uVar i σ G R:=⟨w,e,h⟩
theorem i_c (h:R w G):uC w σ G R:=h
theorem i_op (h:ta σ G fun x G1=>tb σ G1 fun y G2=>r x y G2 R):uOp r ta tb σ G R:=h
theorem i_un {r:Z->Hq->K3->Prop} (h:ta σ G fun x G1=>r x G1 R):uUn r ta σ G R:=h
theorem b5z (h:ta σ G fun x G1=>∃ k,x=.bl k/\Rb k G1):b1L ta σ G Rb:=h
theorem b3w (h:ta σ G fun x G1=>tb σ G1 fun y G2=>r x y G2 fun z G3=>∃ k,z=.bl k/\(if k=true then tc σ G3 fun w G4=>r' y w G4 R else R (.bl false) G3)):a9Z r r' ta tb tc σ G R:=h
theorem b7p (h:c σ G fun k G1=>if k=true then d σ G1 Rb else Rb false G1):uAnd c d σ G Rb:=h
theorem i_or (h:c σ G fun k G1=>if k=true then Rb true G1 else d σ G1 Rb):uOr c d σ G Rb:=h
theorem b7q (h:c σ G fun k G1=>Rb (!k) G1):uNot c σ G Rb:=h
theorem b5A (h:ta σ G fun x G1=>∃ c,x=.bl c/\if c=true then tb σ G1 R else R (.bl false) G1):b5d ta tb σ G R:=h
theorem b7r (h:ta σ G fun x G1=>∃ c,x=.bl c/\if c=true then R (.bl true) G1 else tb σ G1 R):uOrV ta tb σ G R:=h
theorem b5B (h:ta σ G fun x G1=>∃ c,x=.bl c/\R (.bl (!c)) G1):b7h ta σ G R:=h
theorem i_if (h:c σ G fun k G1=>if k=true then ta σ G1 R else tb σ G1 R):uIf c ta tb σ G R:=h
theorem b7s (h:ta σ G fun x G1=>tru x G1 Rb):uTru ta σ G Rb:=h
theorem b2D {p:Addr} {ws:List Z} (e:G p=some (.lst ws)) (h:Rb (!ws.isEmpty) G):tru (.ref p) G Rb:=.inl ⟨ws,e,h⟩
theorem b5C {n:Int} (h:Rb (n != 0) G):tru (.int n) G Rb:=h
theorem b5D {b:Bool} (h:Rb b G):tru (.bl b) G Rb:=h
theorem i_sl {r:L3r} {tl th:O3} (h:te σ G fun x G1=>tl σ G1 fun l G2=>th σ G2 fun u G3=>r x l u G3 R):uSl r te tl th σ G R:=h
theorem b1P {Ro:Option Int->Hq->Prop} (h:Ro none G):a93 σ G Ro:=h
theorem b5E {Ro:Option Int->Hq->Prop} (h:te σ G fun x G1=>∃ i,x=.int i/\Ro (some i) G1):b5e te σ G Ro:=h
theorem b7t (h:Ra [] G):uNil σ G Ra:=h
theorem b5F (h:ta σ G fun x G1=>al σ G1 fun xs G2=>Ra (x::xs) G2):b5f ta al σ G Ra:=h
theorem b7u (h:al σ G fun xs G1=>xs.length≤sizeLine/\R (.tup xs) G1):uTup al σ G R:=h
theorem b7v (h:al σ G fun xs G1=>xs.length≤sizeLine/\∀ p,G1 p=none->R (.ref p) (put G1 p (.lst xs))):uLst al σ G R:=h
theorem i_cb {r:List Z->Hq->K3->Prop} (h:al σ G fun ws G1=>r ws G1 R):uCB r al σ G R:=h
theorem b7w {T:String} {r:Z->List Z->Hq->K3->Prop} (h:to σ G fun x G1=>tyZ T x G1/\r x [] G1 R):uBM0 T r to σ G R:=h
theorem i_bm {T:String} {r:Z->List Z->Hq->K3->Prop} (h:to σ G fun x G1=>tyZ T x G1/\al σ G1 fun xs G2=>r x xs G2 R):uBM T r to al σ G R:=h
theorem b5G {sp:P3} (h:al σ G fun ws G1=>sp ws G1 R):b5g sp al σ G R:=h
theorem b5H (h:nx σ G):b5h nx rt bk ct σ G:=h
theorem b7x (h:t (u nx rt bk ct) rt bk ct σ G):uSeq t u nx rt bk ct σ G:=h
theorem b5I (h:te σ G fun _ G1=>nx σ G1):b5j te nx rt bk ct σ G:=h
theorem b7y (h:te σ G rt):uRet te nx rt bk ct σ G:=h
theorem b5J (h:rt .non G):b7k nx rt bk ct σ G:=h
theorem b7z (h:c σ G fun b G1=>if b=true then t nx rt bk ct σ G1 else u nx rt bk ct σ G1):uIfS c t u nx rt bk ct σ G:=h
theorem b7A {pt:Pt} (h:te σ G fun x G1=>∃ σ',a5n pt x σ=some σ'/\nx σ' G1):uAsg te pt nx rt bk ct σ G:=h
theorem b7B {r:Z3} (h:te σ G fun w G1=>to σ G1 fun o G2=>ti σ G2 fun i G3=>r o i w G3 fun G4=>nx σ G4):uPut te to ti r nx rt bk ct σ G:=h
theorem b7C (e:σ[i]?=some (some x)) (h:te σ G fun y G1=>r x y G1 fun z G2=>nx (σ.set i (some z)) G2):uAug i te r nx rt bk ct σ G:=⟨x,e,h⟩
theorem a7E (M:C3) (h:t M rt bk ct σ G) (h':∀ σ' G',M σ' G'->u nx rt bk ct σ' G'):uCut t u nx rt bk ct σ G:=⟨M,h,h'⟩
theorem b3x (h:bk σ G):b5i nx rt bk ct σ G:=h
theorem b5K (h:ct σ G):b7j nx rt bk ct σ G:=h
theorem b5L {a b:Int} (h:R (.int (a+b)) G):zAdd (.int a) (.int b) G R:=h
theorem a5H {a b:Str} (z:a.length+b.length≤sizeLine) (h:R (.str (a++b)) G):zAdd (.str a) (.str b) G R:=⟨z,h⟩
theorem b5M {xs ys:List Z} (e:xs≠[]) (z:xs.length+ys.length≤sizeLine) (h:R (.tup (xs++ys)) G):zAdd (.tup xs) (.tup ys) G R:=⟨e,z,h⟩
theorem i_I {C:Int->Int->Prop} {g:Int->Int->Z} {a b:Int} (k:C a b) (h:R (g a b) G):zI C g (.int a) (.int b) G R:=⟨k,h⟩
theorem i_I0 {g:Int->Int->Z} {a b:Int} (h:R (g a b) G):zI0 g (.int a) (.int b) G R:=h
theorem b7D {a:Int} (h:R (.int (-a)) G):zNeg (.int a) G R:=h
theorem i_CI {f:Int->Int->Bool} {g:Str->Str->Bool} {a b:Int} (h:R (.bl (f a b)) G):zC f g (.int a) (.int b) G R:=h
theorem i_CS {f:Int->Int->Bool} {g:Str->Str->Bool} {a b:Str} (h:R (.bl (g a b)) G):zC f g (.str a) (.str b) G R:=h
theorem b7E (h:R (.bl (decide (x=.non))) G):zIs false x .non G R:=h
theorem b7F {a b:Bool} (h:R (.bl (a==b)) G):zIs false (.bl a) (.bl b) G R:=⟨rfl,h⟩
theorem b5N (h:R (.bl (!decide (x=.non))) G):zIs true x .non G R:=h
theorem b7G {f:Bool->Bool} {a b:Bool} (h:R (.bl (f (a==b))) G):zEq f (.bl a) (.bl b) G R:=h
theorem b5O {f:Bool->Bool} {a b:Int} (h:R (.bl (f (decide (a=b)))) G):zEq f (.int a) (.int b) G R:=h
theorem b7H {f:Bool->Bool} {a b:Str} (h:R (.bl (f (decide (a=b)))) G):zEq f (.str a) (.str b) G R:=h
theorem b5P {f:Bool->Bool} {p q:Addr} {xs ys:List Z} (e:G p=some (.lst xs)) (e':G q=some (.lst ys)) (f1:xs.all (flat 8)=true) (f2:ys.all (flat 8)=true) (h:R (.bl (f (decide (xs=ys)))) G):zEq f (.ref p) (.ref q) G R:=⟨xs,ys,e,e',f1,f2,h⟩
theorem a1A {p:Addr} {ws:List Z} {k:Int} (e:G p=some (.lst ws)) (a:atI ws k=some w) (h:R w G):zIx (.ref p) (.int k) G R:=⟨ws,w,e,a,h⟩
theorem b7I {p:Addr} {ns:List Int} {k n:Int} (a:atI ns k=some n) (h:R (.int n) G):zIx (.scr p ns) (.int k) G R:=⟨n,a,h⟩
theorem a3H {ws:List Z} {k:Int} (a:atI ws k=some w) (h:R w G):zIx (.tup ws) (.int k) G R:=⟨w,a,h⟩
theorem b0j {z:Str} {k:Int} {ch:Nat} (l:z.length≤sizeLine) (a:atI z.cps.toList k=some ch) (h:R (.str ⟨#[ch]⟩) G):zIx (.str z) (.int k) G R:=⟨ch,l,a,h⟩
theorem b3y {z:Str} {lo hi:Option Int} (l:z.length≤sizeLine) (h:R (.str (Txt.slice z lo hi)) G):zSl (.str z) lo hi G R:=⟨l,h⟩
theorem b7J {p:Addr} {ns:List Int} {lo hi:Option Int} (h:∀ t,G t=none->R (.ref t) (put G t (.lst ((cutZ ns lo hi).map Z.int)))):zSl (.scr p ns) lo hi G R:=h
theorem b3z {ws:List Z} {lo hi:Option Int} (n:¬ (HT.sIx ws.length 0 lo=0/\HT.sIx ws.length ws.length hi=ws.length)) (h:R (.tup (cutZ ws lo hi)) G):zSl (.tup ws) lo hi G R:=⟨n,h⟩
theorem b7K {p:Addr} {ws:List Z} {k:Int} {j:Nat} {Rg:Hq->Prop} (e:G p=some (.lst ws)) (a:ixN ws.length k=some j) (h:Rg (put G p (.lst (ws.set j w)))):zSet (.ref p) (.int k) w G Rg:=⟨ws,j,e,a,h⟩
theorem b5Q (h:∀ p,G p=none->R (.ref p) (put G p (.dK []))):b5w σ G R:=h
theorem b0k {z:Str} (l:z.length≤sizeLine) (h:R (.int z.length) G):zLen [.str z] G R:=⟨l,h⟩
theorem b2E {p:Addr} {ws:List Z} (e:G p=some (.lst ws)) (h:R (.int ws.length) G):zLen [.ref p] G R:=⟨ws,e,h⟩
theorem b5R {ws:List Z} (h:R (.int ws.length) G):zLen [.tup ws] G R:=h
theorem b5S {p:Addr} {ns:List Int} (h:R (.int ns.length) G):zLen [.scr p ns] G R:=h
theorem i_mm {f:Int->Int->Int} {a b:Int} (h:R (.int (f a b)) G):zMM f [.int a,.int b] G R:=h
theorem b7L {p:Addr} {bs:List Bool} (e:G p=some (.lst (bs.map Z.bl))) (h:R (.bl (bs.all id)) G):zAll [.ref p] G R:=⟨bs,e,h⟩
theorem a28 {p:Addr} {ws:List Z} (e:G p=some (.lst ws)) (z:ws.length<sizeLine) (h:R .non (put G p (.lst (ws++[y])))):a58 (.ref p) [y] G R:=⟨ws,e,z,h⟩
theorem b1Q {p q:Addr} {ws ys:List Z} (e:G p=some (.lst ws)) (e':G q=some (.lst ys)) (z:ws.length+ys.length≤sizeLine) (h:R .non (put G p (.lst (ws++ys)))):b0h (.ref p) [.ref q] G R:=⟨ws,ys,e,e',z,h⟩
theorem b5T {z:Str} {p:Addr} {ys:List Str} (e:G p=some (.lst (ys.map Z.str))) (l:(ys.map (·.length)).sum+ys.length*z.length≤16777216) (h:R (.str (Txt.join z ys)) G):b5u (.str z) [.ref p] G R:=⟨ys,e,l,h⟩
theorem b7M {z:Str} {P:Prop} (h:P):tyZ "str" (.str z) G/\P:=⟨rfl,h⟩
theorem a46 {p:Addr} {ws:List Z} {P:Prop} (e:G p=some (.lst ws)) (h:P):tyZ "list" (.ref p) G/\P:=⟨.inl ⟨rfl,ws,e⟩,h⟩
theorem i_nm {j:Nat} (h:nx (σ.set j (some w)) G):∃ σ',a5n (.nm j) w σ=some σ'/\nx σ' G:=⟨_,rfl,h⟩
theorem b7N {f:Bool->Bool} {a b:Str} (h:R (.bl (f (!(Builtin.Str.occurrences b a 0 b.length 1).isEmpty))) G):zIn f (.str a) (.str b) G R:=h
theorem b5U {wi:I3} {pt:Pt} {tb:X3} (h:wi σ G fun ws ok G1=>FORB ws ok pt tb nx rt σ G1):uFor wi pt tb nx rt bk ct σ G:=h
theorem b7O {wi:I3} {cap:List (Option Nat)} {pt:Pt} {tt:T3} (h:wi σ G fun ws ok G1=>∀ D,G1 D=none->LCB ws ok cap pt tt te σ R D G1):uLC wi cap pt tt te σ G R:=h
variable {Ri:List Z->(Hq->Prop)->Hq->Prop}
theorem i_iL (h:te σ G fun x G1=>wkL x G1 Ri):iL te σ G Ri:=h
theorem i_iT (h:te σ G fun x G1=>wkT x G1 Ri):iT te σ G Ri:=h
theorem i_iS (h:te σ G fun x G1=>wkS x G1 Ri):iS te σ G Ri:=h
theorem b7P (h:al σ G fun ws G1=>∃ j:Int,ws=[.int j]/\-(2 ^ 62)≤j/\j<2 ^ 62/\Ri (rng 0 j.toNat) (fun _=>True) G1):iR1 al σ G Ri:=h
theorem b7Q (h:al σ G fun ws G1=>∃ i j:Int,ws=[.int i,.int j]/\(-(2 ^ 62)≤i/\i<2 ^ 62/\-(2 ^ 62)≤j/\j<2 ^ 62)/\Ri (rng i (j - i).toNat) (fun _=>True) G1):iR2 al σ G Ri:=h
theorem a39 {p:Addr} {ws:List Z} (e:G p=some (.lst ws)) (h:Ri ws (fun G=>G p=some (.lst ws)) G):wkL (.ref p) G Ri:=⟨ws,e,h⟩
theorem b7R {p:Addr} {ns:List Int} (h:Ri (ns.map Z.int) (fun _=>True) G):wkL (.scr p ns) G Ri:=h
theorem b7S {ws:List Z} (h:Ri ws (fun _=>True) G):wkT (.tup ws) G Ri:=h
theorem b7T {z:Str} (h:Ri (a4C z) (fun _=>True) G):wkS (.str z) G Ri:=h
theorem i_tt (h:Rb true G):uTT σ G Rb:=h
end
theorem ifD {p A B:Prop} [Decidable p] (h1:p->A) (h2:¬ p->B):if decide p=true then A else B:=by
 by_cases c:p
 ·rw [if_pos (decide_eq_true c)];exact h1 c
 ·rw [if_neg (fun z=>c (of_decide_eq_true z))];exact h2 c
theorem ifN {p A B:Prop} [Decidable p] (h1:¬ p->A) (h2:p->B):if (!decide p)=true then A else B:=by
 by_cases c:p
 ·rw [if_neg (by simp [c])];exact h2 c
 ·rw [if_pos (by simp [c])];exact h1 c
theorem ifB {b:Bool} {A B:Prop} (h1:b=true->A) (h2:b=false->B):if b=true then A else B:=by
 cases b with
 | true=>rw [if_pos rfl];exact h1 rfl
 | false=>rw [if_neg (by decide)];exact h2 rfl
theorem ifNB {b:Bool} {A B:Prop} (h1:b=false->A) (h2:b=true->B):if (!b)=true then A else B:=by
 cases b with
 | false=>rw [if_pos (show (!false)=true from rfl)];exact h1 rfl
 | true=>rw [if_neg (by decide)];exact h2 rfl
theorem ifT {A B:Prop} (h:A):if true=true then A else B:=by rw [if_pos rfl];exact h
theorem ifF {A B:Prop} (h:B):if false=true then A else B:=by rw [if_neg (by decide)];exact h
theorem ifNN {A B:Prop} (h:A):if decide (Z.non=Z.non)=true then A else B:=by rw [if_pos (decide_eq_true rfl)];exact h
theorem ifNI {A B:Prop} {i:Int} (h:B):if decide (Z.int i=Z.non)=true then A else B:=by rw [if_neg (by simp)];exact h
theorem ifNS {A B:Prop} {i:Str} (h:B):if decide (Z.str i=Z.non)=true then A else B:=by rw [if_neg (by simp)];exact h
theorem ifNU {A B:Prop} {i:List Z} (h:B):if decide (Z.tup i=Z.non)=true then A else B:=by rw [if_neg (by simp)];exact h
theorem ifMN {A B:Prop} (h:B):if (!decide (Z.non=Z.non))=true then A else B:=by rw [if_neg (by simp)];exact h
theorem ifMI {A B:Prop} {i:Int} (h:A):if (!decide (Z.int i=Z.non))=true then A else B:=by rw [if_pos (by simp)];exact h
theorem ifMS {A B:Prop} {i:Str} (h:A):if (!decide (Z.str i=Z.non))=true then A else B:=by rw [if_pos (by simp)];exact h
theorem ifMU {A B:Prop} {i:List Z} (h:A):if (!decide (Z.tup i=Z.non))=true then A else B:=by rw [if_pos (by simp)];exact h
theorem at0 {α:Type} {a:α} {r:List α}:atI (a::r) 0=some a:=a1P (j:=0) rfl
theorem at1 {α:Type} {a b:α} {r:List α}:atI (a::b::r) 1=some b:=a1P (j:=1) rfl
theorem at2 {α:Type} {a b c:α} {r:List α}:atI (a::b::c::r) 2=some c:=a1P (j:=2) rfl
def Sm (G G':Hq):Prop:=∀ b o,G b=some o->G' b=some o
theorem Sm.refl (G:Hq):Sm G G:=fun _ _ h=>h
theorem Sm.trans {G G1 G2:Hq} (a:Sm G G1) (b:Sm G1 G2):Sm G G2:=fun c o h=>b c o (a c o h)
theorem Sm.get {G G':Hq} {b:Addr} {o:O} (s:Sm G G') (h:G b=some o):G' b=some o:=s b o h
theorem Sm.new {G:Hq} {p:Addr} {o:O} (h:G p=none):Sm G (put G p o):=fun _ _ e=>a0I e h
theorem Sm.free {G G':Hq} (s:Sm G G') {p:Addr} (h:G' p=none):G p=none:=by
 cases e:G p with
 | none=>rfl
 | some o=>rw [s p o e] at h;cases h
def Kq (r:Addr) (G G':Hq):Prop:=∀ b o,G b=some o->b≠r->G' b=some o
theorem Kq.refl (r:Addr) (G:Hq):Kq r G G:=fun _ _ h _=>h
theorem Kq.trans {r:Addr} {G G1 G2:Hq} (a:Kq r G G1) (b:Kq r G1 G2):Kq r G G2:=fun c o h n=>b c o (a c o h n) n
theorem Kq.new {r p:Addr} {G:Hq} {o:O} (h:G p=none):Kq r G (put G p o):=fun _ _ e _=>a0I e h
theorem Kq.at {r:Addr} {G:Hq} {o:O}:Kq r G (put G r o):=fun _ _ e n=>by rw [a07 n];exact e
theorem Sm.put {G G':Hq} {p:Addr} {o:O} (s:Sm G G') (h:G p=none):Sm G (put G' p o):=fun b u e=>by rw [a07 (a1G e h)];exact s b u e
end L3
set_option maxHeartbeats 4000000
namespace Tim
open PySem PyProof.Rows
abbrev KF:=Keyed->Int
def Kk (κ:KF) (xs:Array Keyed) (i:Nat):Int:=match xs[i]? with
 | some p=>κ p
 | none=>0
section
variable {κ:KF} {xs ys:Array Keyed} {i j:Nat} {p:Keyed}
theorem a7F (h:xs[i]?=some p):Kk κ xs i=κ p:=by unfold Kk;rw [h]
theorem a47 (h:xs[i]?=ys[j]?):Kk κ xs i=Kk κ ys j:=by unfold Kk;rw [h]
end
def LtOk (M:Model) (A:Around) (E:Value->Shared->Prop) (s:Shared) (κ:KF) (k0:SortKind) (a₀:Array Keyed):Prop:=
 ∀ x y,x∈a₀.toList->y∈a₀.toList->∀ (st:SortSt) (Q:Option Bool->SortSt->Prop),kindOf st=k0->Q (some (decide (κ x<κ y))) st->wpS M A E s (lt' x y) Q st
structure TB (k0:SortKind) (a₀:Array Keyed) (st:SortSt):Prop where
 pm:(arrOf st).Perm a₀
 kd:kindOf st=k0
 fl:failedOf st=none
theorem TB.sz {k0:SortKind} {a₀:Array Keyed} {st:SortSt} (h:TB k0 a₀ st):(arrOf st).size=a₀.size:=h.pm.size_eq
theorem TB.mem {k0:SortKind} {a₀:Array Keyed} {st:SortSt} (h:TB k0 a₀ st) {i:Nat} {p:Keyed} (e:(arrOf st)[i]?=some p):p∈a₀.toList:=by
 have hm:p∈(arrOf st).toList:=by rw [Array.mem_toList_iff];exact Array.mem_of_getElem? e
 exact (Array.perm_iff_toList_perm.mp h.pm).mem_iff.mp hm
theorem TB.arr {k0:SortKind} {a₀:Array Keyed} {st:SortSt} (h:TB k0 a₀ st) {xs:Array Keyed} (hp:xs.Perm (arrOf st)):TB k0 a₀ (setArr st xs):=⟨hp.trans h.pm,h.kd,h.fl⟩
section
variable {M:Model} {A:Around} {E:Value->Shared->Prop} {s:Shared} {κ:KF} {k0:SortKind} {a₀:Array Keyed} {st:SortSt}
theorem a1x {arr:Array Keyed} {i:Nat} {p:Keyed} {Q:Keyed->SortSt->Prop} (e:arr[i]?=some p) (h:Q p st):wpS M A E s (elem' arr i) Q st:=by
 rw [elem'_eq,e];exact wpS_pure h
theorem a6O {i j:Nat} {Q:Option Bool->SortSt->Prop} (L:LtOk M A E s κ k0 a₀) (B:TB k0 a₀ st) (hi:i<a₀.size) (hj:j<a₀.size)
  (h:Q (some (decide (Kk κ (arrOf st) i<Kk κ (arrOf st) j))) st):wpS M A E s (ltAt' i j) Q st:=by
 have e1:(arrOf st)[i]?=some ((arrOf st)[i]'(by rw [B.sz];exact hi)):=getElem?_pos ..
 have e2:(arrOf st)[j]?=some ((arrOf st)[j]'(by rw [B.sz];exact hj)):=getElem?_pos ..
 rw [ltAt'_eq]
 refine wpS_bind (wpS_get ?_)
 refine wpS_bind (a1x e1 (wpS_bind (a1x e2 ?_)))
 refine L _ _ (B.mem e1) (B.mem e2) st Q B.kd ?_
 rw [a7F e1,a7F e2] at h
 exact h
end
def a2h:Bool->Keyed->Array Keyed->Nat->Nat->Nat->StateT SortSt Sem (Option Nat):=sortPriv% PySem.Builtin.gallop
def bey (lft:Bool) (ky:Keyed) (ar:Array Keyed) (bs:Nat) (q:Nat):StateT SortSt Sem (Option Bool):=do
  let z <- elem' ar (bs+q)
  if lft then lt' z ky else return (<- lt' ky z).map (!·)
theorem a83 (lft:Bool) (ky:Keyed) (ar:Array Keyed) (bs n hnt:Nat):a2h lft ky ar bs n hnt=(do
 let mut lst:=0
 let mut oo:=1
 let mut l:=0
 let mut h:=0
 let some rgt <- bey lft ky ar bs hnt | return none
 if rgt then
  let mx:=n - hnt
  for _ in [0:n] do
   if oo≥mx then break
   let some mo <- bey lft ky ar bs (hnt+oo) | return none
   if !mo then break
   lst:=oo
   oo:=2*oo+1
  l:=hnt+lst+1
  h:=hnt+min oo mx
 else
  let mx:=hnt+1
  for _ in [0:n] do
   if oo≥mx then break
   let some fo <- bey lft ky ar bs (hnt - oo) | return none
   if fo then break
   lst:=oo
   oo:=2*oo+1
  l:=hnt+1 - min oo mx
  h:=hnt - lst
 for _ in [0:n] do
  if l≥h then break
  let m:=l+(h - l) / 2
  let some mo <- bey lft ky ar bs m | return none
  if mo then l:=m+1 else h:=m
 return some h):=rfl
def bq (lft:Bool) (k x:Int):Bool:=if lft then decide (x<k) else !decide (k<x)
section
variable {M:Model} {A:Around} {E:Value->Shared->Prop} {s:Shared} {κ:KF} {k0:SortKind} {a₀:Array Keyed} {st:SortSt}
theorem b0l {lft:Bool} {ky:Keyed} {ar:Array Keyed} {bs q:Nat} {Q:Option Bool->SortSt->Prop} (L:LtOk M A E s κ k0 a₀) (hk:kindOf st=k0) (hm:ky∈a₀.toList) (ha:∀ p∈ar.toList,p∈a₀.toList) (hq:bs+q<ar.size)
  (h:Q (some (bq lft (κ ky) (Kk κ ar (bs+q)))) st):wpS M A E s (bey lft ky ar bs q) Q st:=by
 have e1:ar[bs+q]?=some (ar[bs+q]'hq):=getElem?_pos ..
 have hz:ar[bs+q]∈a₀.toList:=ha _ (by simp)
 unfold bey
 refine wpS_bind (a1x e1 ?_)
 rw [a7F e1] at h
 cases lft with
 | true=>
  simp only [if_true]
  exact L _ _ hz hm st Q hk h
 | false=>
  simp only [Bool.false_eq_true,if_false]
  exact wpS_bind (L _ _ hm hz st _ hk (wpS_pure h))
theorem a29 {lft:Bool} {ky:Keyed} {ar:Array Keyed} {bs n hnt:Nat} {Q:Option Nat->SortSt->Prop} (L:LtOk M A E s κ k0 a₀) (hk:kindOf st=k0) (hm:ky∈a₀.toList) (ha:∀ p∈ar.toList,p∈a₀.toList)
  (hn:bs+n≤ar.size) (hh:hnt<n) (mono:∀ i j,i≤j->j<n->Kk κ ar (bs+i)≤Kk κ ar (bs+j))
  (h:∀ h,h≤n->(∀ i,i<h->bq lft (κ ky) (Kk κ ar (bs+i))=true)->(∀ i,h≤i->i<n->bq lft (κ ky) (Kk κ ar (bs+i))=false)->Q (some h) st):wpS M A E s (a2h lft ky ar bs n hnt) Q st:=by
 have down:∀ i j,i≤j->j<n->bq lft (κ ky) (Kk κ ar (bs+j))=true->bq lft (κ ky) (Kk κ ar (bs+i))=true:=fun i j hij hj hb=>by
  have:=mono i j hij hj
  unfold bq at *
  cases lft<;>simp at *<;>omega
 have up:∀ i j,i≤j->j<n->bq lft (κ ky) (Kk κ ar (bs+i))=false->bq lft (κ ky) (Kk κ ar (bs+j))=false:=fun i j hij hj hb=>by
  cases e:bq lft (κ ky) (Kk κ ar (bs+j)) with
  | false=>rfl
  | true=>rw [down i j hij hj e] at hb;cases hb
 rw [a83]
 refine wpS_bind (b0l L hk hm ha (by omega) ?_)
 dsimp only
 cases e0:bq lft (κ ky) (Kk κ ar (bs+hnt)) with
 | true=>
  rw [if_pos rfl]
  refine wpS_bind (wpS_mono (wpS_forRange (I:=fun x c st'=>st'=st/\∃ lst oo,c=(none,lst,oo)/\lst<oo/\x+1≤oo/\hnt+lst<n/\bq lft (κ ky) (Kk κ ar (bs+(hnt+lst)))=true)
   (Q:=fun c st'=>st'=st/\∃ lst oo,c=(none,lst,oo)/\lst<oo/\hnt+lst<n/\bq lft (κ ky) (Kk κ ar (bs+(hnt+lst)))=true/\(n - hnt≤oo\/(hnt+oo<n/\bq lft (κ ky) (Kk κ ar (bs+(hnt+oo)))=false))) ?step ?fin ?init) ?post)
  case init=>exact⟨rfl,0,1,rfl,by omega,by omega,by omega,e0⟩
  case fin=>
   rintro c st' ⟨rfl,lst,oo,rfl,a1,a2,a3,a4⟩
   exact⟨rfl,lst,oo,rfl,a1,a3,a4,.inl (by omega)⟩
  case step=>
   rintro x c st' _ hx ⟨rfl,lst,oo,rfl,a1,a2,a3,a4⟩
   dsimp only
   by_cases hge:oo≥n - hnt
   ·rw [if_pos hge]
    exact wpS_pure ⟨rfl,lst,oo,rfl,a1,a3,a4,.inl hge⟩
   ·rw [if_neg hge]
    refine wpS_bind (b0l L hk hm ha (by omega) ?_)
    cases e:bq lft (κ ky) (Kk κ ar (bs+(hnt+oo))) with
    | true=>
     dsimp only
     rw [if_neg (by decide)]
     exact wpS_pure ⟨rfl,oo,2*oo+1,rfl,by omega,by omega,by omega,e⟩
    | false=>
     dsimp only
     rw [if_pos (show (!false)=true from rfl)]
     exact wpS_pure ⟨rfl,lst,oo,rfl,a1,a3,a4,.inr ⟨by omega,e⟩⟩
  case post=>
   rintro c st' ⟨e1,lst,oo,rfl,a1,a3,a4,a5⟩
   have e1:=e1.symm
   subst e1
   dsimp only
   have hlh:hnt+lst+1≤hnt+min oo (n - hnt):=by omega
   have hhn:hnt+min oo (n - hnt)≤n:=by omega
   have hlo:∀ i,i<hnt+lst+1->bq lft (κ ky) (Kk κ ar (bs+i))=true:=fun i hi=>down i _ (by omega) (by omega) a4
   have hhi:∀ i,hnt+min oo (n - hnt)≤i->i<n->bq lft (κ ky) (Kk κ ar (bs+i))=false:=fun i h1 h2=>by
    rcases a5 with a5 | ⟨a5,a6⟩
    ·omega
    ·exact up _ i (by omega) h2 a6
   generalize hnt+lst+1=l0 at hlh hlo ⊢
   generalize hnt+min oo (n - hnt)=h0 at hlh hhn hhi ⊢
   refine wpS_bind (wpS_mono (wpS_forRange (I:=fun x c st'=>st'=st/\∃ l r,c=(none,l,r)/\l≤r/\r≤n/\r - l≤n - x/\(∀ i,i<l->bq lft (κ ky) (Kk κ ar (bs+i))=true)/\(∀ i,r≤i->i<n->bq lft (κ ky) (Kk κ ar (bs+i))=false))
    (Q:=fun c st'=>st'=st/\∃ l,c=(none,l,l)/\l≤n/\(∀ i,i<l->bq lft (κ ky) (Kk κ ar (bs+i))=true)/\(∀ i,l≤i->i<n->bq lft (κ ky) (Kk κ ar (bs+i))=false)) ?st2 ?fi2 ?in2) ?po2)
   case in2=>exact⟨rfl,l0,h0,rfl,hlh,hhn,by omega,hlo,hhi⟩
   case fi2=>
    rintro c st' ⟨rfl,l,r,rfl,a1,a2,a3,a4,a5⟩
    have:l=r:=by omega
    subst this
    exact⟨rfl,l,rfl,a2,a4,a5⟩
   case st2=>
    rintro x c st' _ hx ⟨rfl,l,r,rfl,a1,a2,a3,a4,a5⟩
    dsimp only
    by_cases hge:l≥r
    ·rw [if_pos hge]
     have:l=r:=by omega
     subst this
     exact wpS_pure ⟨rfl,l,rfl,a2,a4,a5⟩
    ·rw [if_neg hge]
     refine wpS_bind (b0l L hk hm ha (by omega) ?_)
     cases e:bq lft (κ ky) (Kk κ ar (bs+(l+(r - l) / 2))) with
     | true=>
      dsimp only
      rw [if_pos rfl]
      exact wpS_pure ⟨rfl,_,r,rfl,by omega,a2,by omega,fun i hi=>down i _ (by omega) (by omega) e,a5⟩
     | false=>
      dsimp only
      rw [if_neg (by decide)]
      exact wpS_pure ⟨rfl,l,_,rfl,by omega,by omega,by omega,a4,fun i h1 h2=>up _ i h1 h2 e⟩
   case po2=>
    rintro c st' ⟨rfl,l,rfl,a2,a4,a5⟩
    exact wpS_pure (h l a2 a4 a5)
 | false=>
  rw [if_neg (by decide)]
  refine wpS_bind (wpS_mono (wpS_forRange (I:=fun x c st'=>st'=st/\∃ lst oo,c=(none,lst,oo)/\lst<oo/\x+1≤oo/\lst≤hnt/\bq lft (κ ky) (Kk κ ar (bs+(hnt - lst)))=false)
   (Q:=fun c st'=>st'=st/\∃ lst oo,c=(none,lst,oo)/\lst<oo/\lst≤hnt/\bq lft (κ ky) (Kk κ ar (bs+(hnt - lst)))=false/\(hnt+1≤oo\/(oo≤hnt/\bq lft (κ ky) (Kk κ ar (bs+(hnt - oo)))=true))) ?step ?fin ?init) ?post)
  case init=>exact⟨rfl,0,1,rfl,by omega,by omega,by omega,e0⟩
  case fin=>
   rintro c st' ⟨rfl,lst,oo,rfl,a1,a2,a3,a4⟩
   exact⟨rfl,lst,oo,rfl,a1,a3,a4,.inl (by omega)⟩
  case step=>
   rintro x c st' _ hx ⟨rfl,lst,oo,rfl,a1,a2,a3,a4⟩
   dsimp only
   by_cases hge:oo≥hnt+1
   ·rw [if_pos hge]
    exact wpS_pure ⟨rfl,lst,oo,rfl,a1,a3,a4,.inl hge⟩
   ·rw [if_neg hge]
    refine wpS_bind (b0l L hk hm ha (by omega) ?_)
    cases e:bq lft (κ ky) (Kk κ ar (bs+(hnt - oo))) with
    | true=>
     dsimp only
     rw [if_pos rfl]
     exact wpS_pure ⟨rfl,lst,oo,rfl,a1,a3,a4,.inr ⟨by omega,e⟩⟩
    | false=>
     dsimp only
     rw [if_neg (by decide)]
     exact wpS_pure ⟨rfl,oo,2*oo+1,rfl,by omega,by omega,by omega,e⟩
  case post=>
   rintro c st' ⟨e1,lst,oo,rfl,a1,a3,a4,a5⟩
   have e1:=e1.symm
   subst e1
   dsimp only
   have hlh:hnt+1 - min oo (hnt+1)≤hnt - lst:=by omega
   have hhn:hnt - lst≤n:=by omega
   have hlo:∀ i,i<hnt+1 - min oo (hnt+1)->bq lft (κ ky) (Kk κ ar (bs+i))=true:=fun i hi=>by
    rcases a5 with a5 | ⟨a5,a6⟩
    ·omega
    ·exact down i _ (by omega) (by omega) a6
   have hhi:∀ i,hnt - lst≤i->i<n->bq lft (κ ky) (Kk κ ar (bs+i))=false:=fun i h1 h2=>up _ i h1 h2 a4
   generalize hnt+1 - min oo (hnt+1)=l0 at hlh hlo ⊢
   generalize hnt - lst=h0 at hlh hhn hhi ⊢
   refine wpS_bind (wpS_mono (wpS_forRange (I:=fun x c st'=>st'=st/\∃ l r,c=(none,l,r)/\l≤r/\r≤n/\r - l≤n - x/\(∀ i,i<l->bq lft (κ ky) (Kk κ ar (bs+i))=true)/\(∀ i,r≤i->i<n->bq lft (κ ky) (Kk κ ar (bs+i))=false))
    (Q:=fun c st'=>st'=st/\∃ l,c=(none,l,l)/\l≤n/\(∀ i,i<l->bq lft (κ ky) (Kk κ ar (bs+i))=true)/\(∀ i,l≤i->i<n->bq lft (κ ky) (Kk κ ar (bs+i))=false)) ?st2 ?fi2 ?in2) ?po2)
   case in2=>exact⟨rfl,l0,h0,rfl,hlh,hhn,by omega,hlo,hhi⟩
   case fi2=>
    rintro c st' ⟨rfl,l,r,rfl,a1,a2,a3,a4,a5⟩
    have:l=r:=by omega
    subst this
    exact⟨rfl,l,rfl,a2,a4,a5⟩
   case st2=>
    rintro x c st' _ hx ⟨rfl,l,r,rfl,a1,a2,a3,a4,a5⟩
    dsimp only
    by_cases hge:l≥r
    ·rw [if_pos hge]
     have:l=r:=by omega
     subst this
     exact wpS_pure ⟨rfl,l,rfl,a2,a4,a5⟩
    ·rw [if_neg hge]
     refine wpS_bind (b0l L hk hm ha (by omega) ?_)
     cases e:bq lft (κ ky) (Kk κ ar (bs+(l+(r - l) / 2))) with
     | true=>
      dsimp only
      rw [if_pos rfl]
      exact wpS_pure ⟨rfl,_,r,rfl,by omega,a2,by omega,fun i hi=>down i _ (by omega) (by omega) e,a5⟩
     | false=>
      dsimp only
      rw [if_neg (by decide)]
      exact wpS_pure ⟨rfl,l,_,rfl,by omega,by omega,by omega,a4,fun i h1 h2=>up _ i h1 h2 e⟩
   case po2=>
    rintro c st' ⟨rfl,l,rfl,a2,a4,a5⟩
    exact wpS_pure (h l a2 a4 a5)
end
end Tim
namespace Tim
open PySem PyProof.Rows
def a7G:Nat->StateT SortSt Sem Unit:=sortPriv% PySem.Builtin.setMinGallop
theorem a4N (g:Nat):a7G g=modify fun s=>SortSt.mk' (kindOf s) (arrOf s) (pendingOf s) g (failedOf s):=rfl
def a4O:Array Keyed->Array Keyed->StateT SortSt Sem (Array Keyed):=sortPriv% PySem.Builtin.mergeLo
abbrev dnA (a b o:Array Keyed) (i j:Nat):Array Keyed:=o++a.extract i a.size++b.extract j b.size
abbrev dnB (a b o:Array Keyed) (i j:Nat):Array Keyed:=o++b.extract j b.size++a.extract i a.size
theorem a7H (a b:Array Keyed):a4O a b=(do
 rule "list.sort.merge-lo"
 let tot:=a.size+b.size
 let mut o:Array Keyed:=#[<- elem' b 0]
 let mut i:=0
 let mut j:=1
 if j==b.size then return dnA a b o i j
 if i+1==a.size then return dnB a b o i j
 let mut g:=gallopOf (<- get)
 for _ in [0:tot] do
  let mut ac:=0
  let mut bc:=0
  for _ in [0:tot] do
   let some bw <- lt' (<- elem' b j) (<- elem' a i) | return dnA a b o i j
   if bw then
    o:=o.push (<- elem' b j);j:=j+1;bc:=bc+1;ac:=0
    if j==b.size then return dnA a b o i j
    if bc≥g then break
   else
    o:=o.push (<- elem' a i);i:=i+1;ac:=ac+1;bc:=0
    if i+1==a.size then return dnB a b o i j
    if ac≥g then break
  rule "list.sort.gallop"
  g:=g+1
  for _ in [0:tot] do
   if g > 1 then g:=g - 1
   a7G g
   let some k <- a2h false (<- elem' b j) a i (a.size - i) 0 | return dnA a b o i j
   ac:=k
   if k > 0 then
    o:=o++a.extract i (i+k);i:=i+k
    if i+1==a.size then return dnB a b o i j
    if i==a.size then return dnA a b o i j
   o:=o.push (<- elem' b j);j:=j+1
   if j==b.size then return dnA a b o i j
   let some k <- a2h true (<- elem' a i) b j (b.size - j) 0 | return dnA a b o i j
   bc:=k
   if k > 0 then
    o:=o++b.extract j (j+k);j:=j+k
    if j==b.size then return dnA a b o i j
   o:=o.push (<- elem' a i);i:=i+1
   if i+1==a.size then return dnB a b o i j
   if ac<7&&bc<7 then break
  g:=g+1
  a7G g
 (unsupported "internal:list.sort.merge-bound")):=rfl
section
variable {κ:KF} {A B o:List Keyed} {i j:Nat} {p:Keyed}
abbrev Srt (κ:KF) (l:List Keyed):Prop:=l.Pairwise fun x y=>κ x≤κ y
structure MW (κ:KF) (A B o:List Keyed) (i j:Nat):Prop where
 ia:i≤A.length
 jb:j≤B.length
 pm:(o++(A.drop i++B.drop j)).Perm (A++B)
 so:Srt κ o
 ba:∀ x∈o,∀ y∈A.drop i,κ x≤κ y
 bb:∀ x∈o,∀ y∈B.drop j,κ x≤κ y
theorem MW.size (W:MW κ A B o i j):o.length=i+j:=by
 have:=W.pm.length_eq
 have h1:=W.ia
 have h2:=W.jb
 simp only [List.length_append,List.length_drop] at this
 omega
theorem drop_get {l:List Keyed} {n:Nat} (h:l[n]?=some p):l.drop n=p::l.drop (n+1):=by
 obtain⟨hn,e⟩:=List.getElem?_eq_some_iff.mp h
 rw [List.drop_eq_getElem_cons hn,e]
theorem a8j {l:List Keyed} (h:Srt κ l) (hb:∀ x∈l,κ x≤κ p):Srt κ (l++[p]):=by
 refine List.pairwise_append.mpr ⟨h,List.pairwise_singleton _ _,fun x hx y hy=>?_⟩
 rw [List.mem_singleton.mp hy];exact hb x hx
theorem a11 {l:List Keyed} (h:Srt κ l) (n:Nat):Srt κ (l.drop n):=List.Pairwise.sublist (List.drop_sublist n l) h
theorem MW.pushA (W:MW κ A B o i j) (sa:Srt κ A) (hp:A[i]?=some p) (hb:∀ y∈B.drop j,κ p≤κ y):MW κ A B (o++[p]) (i+1) j:=by
 have hd:=drop_get hp
 have hi:=(List.getElem?_eq_some_iff.mp hp).1
 have hs:Srt κ (p::A.drop (i+1)):=hd▸a11 sa i
 refine⟨hi,W.jb,?_,a8j W.so fun x hx=>W.ba x hx p (by rw [hd];exact List.mem_cons_self ..),fun x hx y hy=>?_,fun x hx y hy=>?_⟩
 ·have:=W.pm
  rw [hd] at this
  simpa using this
 ·rcases List.mem_append.mp hx with h | h
  ·exact W.ba x h y (by rw [hd];exact List.mem_cons_of_mem _ hy)
  ·rw [List.mem_singleton.mp h];exact (List.pairwise_cons.mp hs).1 y hy
 ·rcases List.mem_append.mp hx with h | h
  ·exact W.bb x h y hy
  ·rw [List.mem_singleton.mp h];exact hb y hy
theorem MW.pushB (W:MW κ A B o i j) (sb:Srt κ B) (hp:B[j]?=some p) (hb:∀ y∈A.drop i,κ p≤κ y):MW κ A B (o++[p]) i (j+1):=by
 have hd:=drop_get hp
 have hj:=(List.getElem?_eq_some_iff.mp hp).1
 have hs:Srt κ (p::B.drop (j+1)):=hd▸a11 sb j
 refine⟨W.ia,hj,?_,a8j W.so fun x hx=>W.bb x hx p (by rw [hd];exact List.mem_cons_self ..),fun x hx y hy=>?_,fun x hx y hy=>?_⟩
 ·have:=W.pm
  rw [hd] at this
  refine List.Perm.trans ?_ this
  rw [List.append_assoc]
  exact List.Perm.append_left o (show (p::(A.drop i++B.drop (j+1))).Perm _ from List.perm_middle.symm)
 ·rcases List.mem_append.mp hx with h | h
  ·exact W.ba x h y hy
  ·rw [List.mem_singleton.mp h];exact hb y hy
 ·rcases List.mem_append.mp hx with h | h
  ·exact W.bb x h y (by rw [hd];exact List.mem_cons_of_mem _ hy)
  ·rw [List.mem_singleton.mp h];exact (List.pairwise_cons.mp hs).1 y hy
theorem take_snoc {l:List Keyed} {n k:Nat} (h:l[n+k]?=some p):(l.drop n).take (k+1)=(l.drop n).take k++[p]:=by
 rw [List.take_add_one,List.getElem?_drop,h];rfl
theorem MW.runA (W:MW κ A B o i j) (sa:Srt κ A):∀ k,i+k≤A.length->(∀ q z,i≤q->q<i+k->A[q]?=some z->∀ y∈B.drop j,κ z≤κ y)->MW κ A B (o++(A.drop i).take k) (i+k) j
 | 0,_,_=>by simpa using W
 | k+1,hk,hz=>by
  have ih:=MW.runA W sa k (by omega) fun q z h1 h2=>hz q z h1 (by omega)
  have e:A[i+k]?=some A[i+k]:=List.getElem?_eq_getElem (by omega)
  rw [take_snoc e,<- List.append_assoc]
  exact ih.pushA sa e (hz _ _ (by omega) (by omega) e)
theorem MW.runB (W:MW κ A B o i j) (sb:Srt κ B):∀ k,j+k≤B.length->(∀ q z,j≤q->q<j+k->B[q]?=some z->∀ y∈A.drop i,κ z≤κ y)->MW κ A B (o++(B.drop j).take k) i (j+k)
 | 0,_,_=>by simpa using W
 | k+1,hk,hz=>by
  have ih:=MW.runB W sb k (by omega) fun q z h1 h2=>hz q z h1 (by omega)
  have e:B[j+k]?=some B[j+k]:=List.getElem?_eq_getElem (by omega)
  rw [take_snoc e,<- List.append_assoc]
  exact ih.pushB sb e (hz _ _ (by omega) (by omega) e)
def Mgd (κ:KF) (A B r:List Keyed):Prop:=r.Perm (A++B)/\Srt κ r
theorem MW.doneA (W:MW κ A B o i j) (sa:Srt κ A) (sb:Srt κ B) (h:i=A.length\/j=B.length):Mgd κ A B (o++A.drop i++B.drop j):=by
 refine⟨by rw [List.append_assoc];exact W.pm,?_⟩
 rw [List.append_assoc]
 refine List.pairwise_append.mpr ⟨W.so,List.pairwise_append.mpr ⟨a11 sa i,a11 sb j,fun x hx y hy=>?_⟩,fun x hx y hy=>?_⟩
 ·rcases h with rfl | rfl
  ·rw [List.drop_length] at hx;cases hx
  ·rw [List.drop_length] at hy;cases hy
 ·rcases List.mem_append.mp hy with h | h
  ·exact W.ba x hx y h
  ·exact W.bb x hx y h
theorem MW.doneB (W:MW κ A B o i j) (sa:Srt κ A) (sb:Srt κ B) (h:i+1=A.length) (hl:∀ z,A[A.length - 1]?=some z->∀ y∈B,κ y≤κ z):Mgd κ A B (o++B.drop j++A.drop i):=by
 refine⟨?_,?_⟩
 ·rw [List.append_assoc]
  exact List.Perm.trans (List.Perm.append_left o List.perm_append_comm) W.pm
 ·rw [List.append_assoc]
  have e:A[i]?=some A[i]:=List.getElem?_eq_getElem (by omega)
  have hd:A.drop i=[A[i]]:=by rw [drop_get e,List.drop_eq_nil_of_le (by omega)]
  refine List.pairwise_append.mpr ⟨W.so,List.pairwise_append.mpr ⟨a11 sb j,a11 sa i,fun x hx y hy=>?_⟩,fun x hx y hy=>?_⟩
  ·rw [hd] at hy
   rw [List.mem_singleton.mp hy]
   exact hl _ (by rw [show A.length - 1=i by omega];exact e) x (List.mem_of_mem_drop hx)
  ·rcases List.mem_append.mp hy with h | h
   ·exact W.bb x hx y h
   ·exact W.ba x hx y h
theorem a2B {l:List Keyed} (h:Srt κ l) {n:Nat} (hp:l[n]?=some p):∀ y∈l.drop n,κ p≤κ y:=fun y hy=>by
 have hs:=a11 h n
 rw [drop_get hp] at hs hy
 rcases List.mem_cons.mp hy with rfl | hy
 ·exact Int.le_refl _
 ·exact (List.pairwise_cons.mp hs).1 y hy
end
end Tim
namespace Tim
open PySem PyProof.Rows
abbrev SM:=StateT SortSt Sem
abbrev T1:=Option (Array Keyed)×Array Keyed×Nat×Nat×Nat×Nat
abbrev T2:=Option (Array Keyed)×Array Keyed×Nat×Nat×Nat×Nat×Nat
def lo1 (a b:Array Keyed) (g:Nat) (o:Array Keyed) (i j ac bc:Nat):SM (ForInStep T1):=do
 let y <- elem' b j
 let x <- elem' a i
 let r <- lt' y x
 match r with
 | some bw=>
  if bw=true then do
   let y <- elem' b j
   if (j+1==b.size)=true then pure (.done (some (dnA a b (o.push y) i (j+1)),o.push y,i,j+1,0,bc+1))
   else if bc+1≥g then pure (.done (none,o.push y,i,j+1,0,bc+1)) else pure (.yield (none,o.push y,i,j+1,0,bc+1))
  else do
   let x <- elem' a i
   if (i+1+1==a.size)=true then pure (.done (some (dnB a b (o.push x) (i+1) j),o.push x,i+1,j,ac+1,0))
   else if ac+1≥g then pure (.done (none,o.push x,i+1,j,ac+1,0)) else pure (.yield (none,o.push x,i+1,j,ac+1,0))
 | _=>pure (.done (some (dnA a b o i j),o,i,j,ac,bc))
def lo5 (a b:Array Keyed) (o:Array Keyed) (i j g ac bc:Nat):SM (ForInStep T2):=do
 let x <- elem' a i
 if (i+1+1==a.size)=true then pure (.done (some (dnB a b (o.push x) (i+1) j),o.push x,i+1,j,g,ac,bc))
 else if (decide (ac<7)&&decide (bc<7))=true then pure (.done (none,o.push x,i+1,j,g,ac,bc)) else pure (.yield (none,o.push x,i+1,j,g,ac,bc))
def lo4 (a b:Array Keyed) (o:Array Keyed) (i j g ac bc:Nat):SM (ForInStep T2):=do
 let y <- elem' b j
 if (j+1==b.size)=true then pure (.done (some (dnA a b (o.push y) i (j+1)),o.push y,i,j+1,g,ac,bc))
 else do
  let x <- elem' a i
  let r <- a2h true x b (j+1) (b.size - (j+1)) 0
  match r with
  | some k=>
   if k > 0 then
    if (j+1+k==b.size)=true then pure (.done (some (dnA a b (o.push y++b.extract (j+1) (j+1+k)) i (j+1+k)),o.push y++b.extract (j+1) (j+1+k),i,j+1+k,g,ac,k))
    else lo5 a b (o.push y++b.extract (j+1) (j+1+k)) i (j+1+k) g ac k
   else lo5 a b (o.push y) i (j+1) g ac k
  | _=>pure (.done (some (dnA a b (o.push y) i (j+1)),o.push y,i,j+1,g,ac,bc))
def lo3 (a b:Array Keyed) (o:Array Keyed) (i j g ac bc:Nat):SM (ForInStep T2):=do
 a7G g
 let y <- elem' b j
 let r <- a2h false y a i (a.size - i) 0
 match r with
 | some k=>
  if k > 0 then
   if (i+k+1==a.size)=true then pure (.done (some (dnB a b (o++a.extract i (i+k)) (i+k) j),o++a.extract i (i+k),i+k,j,g,k,bc))
   else if (i+k==a.size)=true then pure (.done (some (dnA a b (o++a.extract i (i+k)) (i+k) j),o++a.extract i (i+k),i+k,j,g,k,bc))
   else lo4 a b (o++a.extract i (i+k)) (i+k) j g k bc
  else lo4 a b o i j g k bc
 | _=>pure (.done (some (dnA a b o i j),o,i,j,g,ac,bc))
def lo2 (a b:Array Keyed) (o:Array Keyed) (i j g ac bc:Nat):SM (ForInStep T2):=
 if g > 1 then lo3 a b o i j (g - 1) ac bc else lo3 a b o i j g ac bc
theorem bd2 {α β:Type} {x y:SM α} {f g:α->SM β} (h:x=y) (h2:∀ a,f a=g a):x >>= f=y >>= g:=by rw [h,funext h2]
theorem a6P (a b:Array Keyed):a4O a b=(do
  liftM (rule "list.sort.merge-lo")
  let y <- elem' b 0
  if (1==b.size)=true then pure (dnA a b #[y] 0 1)
  else if (0+1==a.size)=true then pure (dnB a b #[y] 0 1)
  else do
   let st <- get
   let c <- forIn [0:a.size+b.size] ((none,#[y],0,1,gallopOf st):Option (Array Keyed)×Array Keyed×Nat×Nat×Nat) fun _ c=>do
    let c1 <- forIn [0:a.size+b.size] ((none,c.2.1,c.2.2.1,c.2.2.2.1,0,0):T1) fun _ c1=>lo1 a b c.2.2.2.2 c1.2.1 c1.2.2.1 c1.2.2.2.1 c1.2.2.2.2.1 c1.2.2.2.2.2
    match c1.1 with
    | some r=>pure (ForInStep.done (some r,c1.2.1,c1.2.2.1,c1.2.2.2.1,c.2.2.2.2))
    | none=>do
     liftM (rule "list.sort.gallop")
     let c2 <- forIn [0:a.size+b.size] ((none,c1.2.1,c1.2.2.1,c1.2.2.2.1,c.2.2.2.2+1,c1.2.2.2.2.1,c1.2.2.2.2.2):T2) fun _ c2=>lo2 a b c2.2.1 c2.2.2.1 c2.2.2.2.1 c2.2.2.2.2.1 c2.2.2.2.2.2.1 c2.2.2.2.2.2.2
     match c2.1 with
     | some r=>pure (ForInStep.done (some r,c2.2.1,c2.2.2.1,c2.2.2.2.1,c2.2.2.2.2.1))
     | none=>do
      a7G (c2.2.2.2.2.1+1)
      pure (ForInStep.yield (none,c2.2.1,c2.2.2.1,c2.2.2.2.1,c2.2.2.2.2.1+1))
   match c.1 with
   | some r=>pure r
   | none=>unsupported "internal:list.sort.merge-bound"):=by
 rw [a7H]
 refine bind_congr fun _=>bind_congr fun y=>?_
 dsimp only
 congr 1
 congr 1
 refine bind_congr fun st=>?_
 refine bd2 ?_ fun c=>?_
 ·congr 1
  funext x c
  obtain⟨r,o,i,j,g⟩:=c
  dsimp only
  refine bd2 ?_ fun c1=>?_
  ·congr 1
  ·obtain⟨r,o,i,j,ac,bc⟩:=c1
   cases r with
   | some r=>rfl
   | none=>
    refine bind_congr fun _=>?_
    refine bd2 ?_ fun c2=>?_
    ·congr 1
    ·obtain⟨r,o,i,j,g,ac,bc⟩:=c2
     cases r<;>rfl
 ·obtain⟨r,o,i,j,g⟩:=c
  cases r<;>rfl
end Tim
namespace Tim
open PySem PyProof.Rows
structure SG (st st':SortSt):Prop where
 kd:kindOf st'=kindOf st
 ar:arrOf st'=arrOf st
 pe:pendingOf st'=pendingOf st
 fl:failedOf st'=failedOf st
theorem SG.refl (st:SortSt):SG st st:=⟨rfl,rfl,rfl,rfl⟩
theorem SG.trans {x y z:SortSt} (p:SG x y) (q:SG y z):SG x z:=⟨q.kd.trans p.kd,q.ar.trans p.ar,q.pe.trans p.pe,q.fl.trans p.fl⟩
section
variable {κ:KF} {a b o:Array Keyed} {i j:Nat}
theorem a3I:(dnA a b o i j).toList=o.toList++a.toList.drop i++b.toList.drop j:=by
 unfold dnA
 simp [List.extract_eq_take_drop,List.take_of_length_le]
theorem a4P:(dnB a b o i j).toList=o.toList++b.toList.drop j++a.toList.drop i:=by
 unfold dnB
 simp [List.extract_eq_take_drop,List.take_of_length_le]
theorem a8k {k:Nat}:(o++a.extract i (i+k)).toList=o.toList++(a.toList.drop i).take k:=by
 simp [List.extract_eq_take_drop]
theorem a1K (h:i<a.size):a.toList[i]?=some a[i]:=by simp [h]
theorem a1S (h:i<a.size):Kk κ a i=κ a[i]:=a7F (getElem?_pos ..)
theorem a3J (h:Srt κ a.toList) {n:Nat} (hn:i+n≤a.size):∀ p q,p≤q->q<n->Kk κ a (i+p)≤Kk κ a (i+q):=fun p q hp hq=>by
 rw [a1S (show i+p<a.size by omega),a1S (show i+q<a.size by omega)]
 by_cases e:p=q
 ·subst e;exact Int.le_refl _
 ·have:=List.pairwise_iff_getElem.mp h (i+p) (i+q) (by simp;omega) (by simp;omega) (by omega)
  simpa using this
end
structure MC (M:Model) (A:Around) (E:Value->Shared->Prop) (s:Shared) (κ:KF) (k0:SortKind) (a₀ a b:Array Keyed):Prop where
 L:LtOk M A E s κ k0 a₀
 ha:∀ p∈a.toList,p∈a₀.toList
 hb:∀ p∈b.toList,p∈a₀.toList
 sa:Srt κ a.toList
 sb:Srt κ b.toList
 h0:0<a.size
 h1:0<b.size
 hf:∀ y∈a.toList,Kk κ b 0≤κ y
 hl:∀ z,a.toList[a.toList.length - 1]?=some z->∀ y∈b.toList,κ y≤κ z
structure Rdy (κ:KF) (a b o:Array Keyed) (i j:Nat):Prop where
 w:MW κ a.toList b.toList o.toList i j
 hi:i+1<a.size
 hj:j<b.size
section
variable {M:Model} {A:Around} {E:Value->Shared->Prop} {s:Shared} {κ:KF} {k0:SortKind} {a₀ a b o:Array Keyed} {st:SortSt} {i j g ac bc:Nat}
theorem a5I {α:Type} {w:String} {f:Unit->SM α} {Q:α->SortSt->Prop} (h:wpS M A E s (f ()) Q st):wpS M A E s ((liftM (rule w):SM Unit) >>= f) Q st:=
 wpS_bind (wpS_lift (wpAny_rule ⟨rfl,h⟩))
theorem a1N (a:Array Keyed):a.toList.length=a.size:=by simp
theorem b7U {Q:ForInStep T1->SortSt->Prop} (C:MC M A E s κ k0 a₀ a b) (hk:kindOf st=k0) (R:Rdy κ a b o i j)
  (dn:∀ r c,Mgd κ a.toList b.toList r.toList->Q (.done (some r,c)) st)
  (br:∀ o' i' j' x y,Rdy κ a b o' i' j'->i'+j'=i+j+1->Q (.done (none,o',i',j',x,y)) st)
  (go:∀ o' i' j' x y,Rdy κ a b o' i' j'->i'+j'=i+j+1->Q (.yield (none,o',i',j',x,y)) st):wpS M A E s (lo1 a b g o i j ac bc) Q st:=by
 have hi:=R.hi
 have hj:=R.hj
 have eb:b[j]?=some b[j]:=getElem?_pos ..
 have ea:a[i]?=some a[i]:=getElem?_pos ..
 have lb:=a1K hj
 have la:=a1K (a:=a) (i:=i) (by omega)
 unfold lo1
 refine wpS_bind (a1x eb (wpS_bind (a1x ea (wpS_bind ?_))))
 refine C.L _ _ (C.hb _ (List.mem_of_getElem? lb)) (C.ha _ (List.mem_of_getElem? la)) st _ hk ?_
 dsimp only
 by_cases c:κ b[j]<κ a[i]
 ·rw [if_pos (decide_eq_true c)]
  refine wpS_bind (a1x eb ?_)
  have w2:=R.w.pushB C.sb lb fun y hy=>Int.le_trans (Int.le_of_lt c) (a2B C.sa la y hy)
  rw [<- Array.toList_push] at w2
  by_cases e:j+1=b.size
  ·rw [if_pos (by simpa using e)]
   exact wpS_pure (dn _ _ (by rw [a3I];exact w2.doneA C.sa C.sb (.inr (by rw [a1N];exact e))))
  ·rw [if_neg (by simpa using e)]
   have R2:Rdy κ a b (o.push b[j]) i (j+1):=⟨w2,hi,by omega⟩
   split
   ·exact wpS_pure (br _ _ _ _ _ R2 (by omega))
   ·exact wpS_pure (go _ _ _ _ _ R2 (by omega))
 ·rw [if_neg (by simpa using c)]
  refine wpS_bind (a1x ea ?_)
  have w2:=R.w.pushA C.sa la fun y hy=>Int.le_trans (Int.not_lt.mp c) (a2B C.sb lb y hy)
  rw [<- Array.toList_push] at w2
  by_cases e:i+1+1=a.size
  ·rw [if_pos (by simpa using e)]
   exact wpS_pure (dn _ _ (by rw [a4P];exact w2.doneB C.sa C.sb (by rw [a1N];exact e) C.hl))
  ·rw [if_neg (by simpa using e)]
   have R2:Rdy κ a b (o.push a[i]) (i+1) j:=⟨w2,by omega,hj⟩
   split
   ·exact wpS_pure (br _ _ _ _ _ R2 (by omega))
   ·exact wpS_pure (go _ _ _ _ _ R2 (by omega))
structure G2 (st:SortSt) (κ:KF) (a b:Array Keyed) (n:Nat) (Q:ForInStep T2->SortSt->Prop):Prop where
 dn:∀ r c st',SG st st'->Mgd κ a.toList b.toList r.toList->Q (.done (some r,c)) st'
 br:∀ o' i' j' x y z st',SG st st'->Rdy κ a b o' i' j'->n<i'+j'->Q (.done (none,o',i',j',x,y,z)) st'
 go:∀ o' i' j' x y z st',SG st st'->Rdy κ a b o' i' j'->n<i'+j'->Q (.yield (none,o',i',j',x,y,z)) st'
theorem b5V {Q:ForInStep T2->SortSt->Prop} {n:Nat} (C:MC M A E s κ k0 a₀ a b) (R:Rdy κ a b o i j) (hle:∀ y∈b.toList.drop j,Kk κ a i≤κ y) (H:G2 st κ a b n Q) (hn:n≤i+j):wpS M A E s (lo5 a b o i j g ac bc) Q st:=by
 have hi:=R.hi
 have hj:=R.hj
 have ea:a[i]?=some a[i]:=getElem?_pos ..
 have la:=a1K (a:=a) (i:=i) (by omega)
 rw [a1S (show i<a.size by omega)] at hle
 unfold lo5
 refine wpS_bind (a1x ea ?_)
 have w2:=R.w.pushA C.sa la hle
 rw [<- Array.toList_push] at w2
 by_cases e:i+1+1=a.size
 ·rw [if_pos (by simpa using e)]
  exact wpS_pure (H.dn _ _ _ (SG.refl _) (by rw [a4P];exact w2.doneB C.sa C.sb (by rw [a1N];exact e) C.hl))
 ·rw [if_neg (by simpa using e)]
  have R2:Rdy κ a b (o.push a[i]) (i+1) j:=⟨w2,by omega,hj⟩
  split
  ·exact wpS_pure (H.br _ _ _ _ _ _ _ (SG.refl _) R2 (by omega))
  ·exact wpS_pure (H.go _ _ _ _ _ _ _ (SG.refl _) R2 (by omega))
theorem a3r {l:List Keyed} {n:Nat} {y:Keyed} (h:y∈l.drop n):∃ q,n≤q/\q<l.length/\l[q]?=some y:=by
 obtain⟨m,hm⟩:=List.getElem?_of_mem h
 rw [List.getElem?_drop] at hm
 exact⟨n+m,by omega,(List.getElem?_eq_some_iff.mp hm).1,hm⟩
theorem a48 {q:Nat} {z:Keyed} (h:a.toList[q]?=some z):Kk κ a q=κ z:=a7F (by rw [<- Array.getElem?_toList];exact h)
theorem b5W {Q:ForInStep T2->SortSt->Prop} {n:Nat} (C:MC M A E s κ k0 a₀ a b) (hk:kindOf st=k0) (R:Rdy κ a b o i j) (hle:∀ y∈a.toList.drop i,Kk κ b j≤κ y) (H:G2 st κ a b n Q) (hn:n≤i+j):wpS M A E s (lo4 a b o i j g ac bc) Q st:=by
 have hi:=R.hi
 have hj:=R.hj
 have eb:b[j]?=some b[j]:=getElem?_pos ..
 have lb:=a1K hj
 have ea:a[i]?=some a[i]:=getElem?_pos ..
 have la:=a1K (a:=a) (i:=i) (by omega)
 rw [a1S hj] at hle
 unfold lo4
 refine wpS_bind (a1x eb ?_)
 have w2:=R.w.pushB C.sb lb hle
 rw [<- Array.toList_push] at w2
 by_cases e:j+1=b.size
 ·rw [if_pos (by simpa using e)]
  exact wpS_pure (H.dn _ _ _ (SG.refl _) (by rw [a3I];exact w2.doneA C.sa C.sb (.inr (by rw [a1N];exact e))))
 ·rw [if_neg (by simpa using e)]
  refine wpS_bind (a1x ea (wpS_bind ?_))
  refine a29 C.L hk (C.ha _ (List.mem_of_getElem? la)) C.hb (by omega) (by omega) (a3J C.sb (by omega)) fun k hkn hlt hge=>?_
  dsimp only
  have rest:∀ y∈b.toList.drop (j+1+k),Kk κ a i≤κ y:=fun y hy=>by
   obtain⟨q,h1,h2,h3⟩:=a3r hy
   rw [a1N] at h2
   have:=hge (q - (j+1)) (by omega) (by omega)
   rw [show j+1+(q - (j+1))=q by omega,a48 h3] at this
   simp [bq] at this
   rw [a1S (show i<a.size by omega)]
   omega
  split
  ·have w3:=w2.runB C.sb k (by rw [a1N];omega) fun q z h1 h2 h3 y hy=>by
    have:=hlt (q - (j+1)) (by omega)
    rw [show j+1+(q - (j+1))=q by omega,a48 h3] at this
    simp [bq] at this
    exact Int.le_trans (Int.le_of_lt this) (a2B C.sa la y hy)
   rw [<- a8k] at w3
   by_cases e2:j+1+k=b.size
   ·rw [if_pos (by simpa using e2)]
    exact wpS_pure (H.dn _ _ _ (SG.refl _) (by rw [a3I];exact w3.doneA C.sa C.sb (.inr (by rw [a1N];exact e2))))
   ·rw [if_neg (by simpa using e2)]
    exact b5V C ⟨w3,hi,by omega⟩ rest H (by omega)
  ·have:k=0:=by omega
   subst this
   exact b5V C ⟨w2,hi,by omega⟩ rest H (by omega)
theorem b7V {Q:ForInStep T2->SortSt->Prop} {n:Nat} (C:MC M A E s κ k0 a₀ a b) (hk:kindOf st=k0) (R:Rdy κ a b o i j) (H:G2 st κ a b n Q) (hn:n≤i+j):wpS M A E s (lo3 a b o i j g ac bc) Q st:=by
 have hi:=R.hi
 have hj:=R.hj
 have eb:b[j]?=some b[j]:=getElem?_pos ..
 have lb:=a1K hj
 unfold lo3
 rw [a4N]
 refine wpS_bind (wpS_modify ?_)
 have g1:SG st (SortSt.mk' (kindOf st) (arrOf st) (pendingOf st) g (failedOf st)):=⟨rfl,rfl,rfl,rfl⟩
 have hk1:kindOf (SortSt.mk' (kindOf st) (arrOf st) (pendingOf st) g (failedOf st))=k0:=hk
 generalize SortSt.mk' (kindOf st) (arrOf st) (pendingOf st) g (failedOf st)=st1 at g1 hk1
 have H1:G2 st1 κ a b n Q:=⟨fun r c st' g=>H.dn r c st' (g1.trans g),fun _ _ _ _ _ _ st' g=>H.br _ _ _ _ _ _ st' (g1.trans g),fun _ _ _ _ _ _ st' g=>H.go _ _ _ _ _ _ st' (g1.trans g)⟩
 refine wpS_bind (a1x eb (wpS_bind ?_))
 refine a29 C.L hk1 (C.hb _ (List.mem_of_getElem? lb)) C.ha (by omega) (by omega) (a3J C.sa (by omega)) fun k hkn hlt hge=>?_
 dsimp only
 have rest:∀ y∈a.toList.drop (i+k),Kk κ b j≤κ y:=fun y hy=>by
  obtain⟨q,h1,h2,h3⟩:=a3r hy
  rw [a1N] at h2
  have:=hge (q - i) (by omega) (by omega)
  rw [show i+(q - i)=q by omega,a48 h3] at this
  simp [bq] at this
  rw [a1S hj]
  omega
 split
 ·have w3:=R.w.runA C.sa k (by rw [a1N];omega) fun q z h1 h2 h3 y hy=>by
   have:=hlt (q - i) (by omega)
   rw [show i+(q - i)=q by omega,a48 h3] at this
   simp [bq] at this
   exact Int.le_trans this (a2B C.sb lb y hy)
  rw [<- a8k] at w3
  by_cases e1:i+k+1=a.size
  ·rw [if_pos (by simpa using e1)]
   exact wpS_pure (H1.dn _ _ _ (SG.refl _) (by rw [a4P];exact w3.doneB C.sa C.sb (by rw [a1N];exact e1) C.hl))
  ·rw [if_neg (by simpa using e1)]
   by_cases e2:i+k=a.size
   ·rw [if_pos (by simpa using e2)]
    exact wpS_pure (H1.dn _ _ _ (SG.refl _) (by rw [a3I];exact w3.doneA C.sa C.sb (.inl (by rw [a1N];exact e2))))
   ·rw [if_neg (by simpa using e2)]
    exact b5W C hk1 ⟨w3,by omega,hj⟩ rest H1 (by omega)
 ·have:k=0:=by omega
  subst this
  exact b5W C hk1 ⟨R.w,hi,hj⟩ rest H1 (by omega)
theorem b7W {Q:ForInStep T2->SortSt->Prop} {n:Nat} (C:MC M A E s κ k0 a₀ a b) (hk:kindOf st=k0) (R:Rdy κ a b o i j) (H:G2 st κ a b n Q) (hn:n≤i+j):wpS M A E s (lo2 a b o i j g ac bc) Q st:=by
 unfold lo2
 split<;>exact b7V C hk R H hn
theorem b1R (C:MC M A E s κ k0 a₀ a b):MW κ a.toList b.toList [b[0]'C.h1] 0 1:=by
 have lb:=a1K C.h1
 have w0:MW κ a.toList b.toList [] 0 0:=⟨Nat.zero_le _,Nat.zero_le _,by simp,.nil,fun x h=>by simp at h,fun x h=>by simp at h⟩
 exact w0.pushB C.sb lb fun y hy=>by rw [<- a1S (κ:=κ) C.h1];exact C.hf y (by simpa using hy)
theorem b0m {Q:Array Keyed->SortSt->Prop} (C:MC M A E s κ k0 a₀ a b) (hk:kindOf st=k0)
  (h:∀ r st',SG st st'->Mgd κ a.toList b.toList r.toList->Q r st'):wpS M A E s (a4O a b) Q st:=by
 have h0:=C.h0
 have h1:=C.h1
 rw [a6P]
 refine a5I ?_
 refine wpS_bind (a1x (getElem?_pos b 0 C.h1) ?_)
 have w0:=b1R C
 by_cases e1:1=b.size
 ·rw [if_pos (by simpa using e1)]
  exact wpS_pure (h _ _ (SG.refl _) (by rw [a3I];exact w0.doneA C.sa C.sb (.inr (by rw [a1N];exact e1))))
 rw [if_neg (by simpa using e1)]
 by_cases e2:0+1=a.size
 ·rw [if_pos (by simpa using e2)]
  exact wpS_pure (h _ _ (SG.refl _) (by rw [a4P];exact w0.doneB C.sa C.sb (by rw [a1N];exact e2) C.hl))
 rw [if_neg (by simpa using e2)]
 refine wpS_bind (wpS_get ?_)
 have R0:Rdy κ a b #[b[0]] 0 1:=⟨w0,by omega,by omega⟩
 refine wpS_bind (wpS_mono (wpS_forRange (I:=fun x c st'=>∃ o i j g,c=(none,o,i,j,g)/\SG st st'/\Rdy κ a b o i j/\x<i+j)
  (Q:=fun c st'=>∃ r c',c=(some r,c')/\SG st st'/\Mgd κ a.toList b.toList r.toList) ?step ?fin ⟨_,_,_,_,rfl,SG.refl _,R0,by omega⟩) ?post)
 case post=>
  rintro c st' ⟨r,c',rfl,g1,m⟩
  exact wpS_pure (h r st' g1 m)
 case fin=>
  rintro c st' ⟨o,i,j,g,rfl,g1,R,hx⟩
  have:=R.hi
  have:=R.hj
  omega
 case step=>
  rintro x c st' _ hx ⟨o,i,j,g,rfl,g1,R,hxi⟩
  dsimp only
  have hk1:kindOf st'=k0:=g1.kd.trans hk
  refine wpS_bind (wpS_mono (wpS_forRange (I:=fun y c st2=>∃ o' i' j' ac bc,c=(none,o',i',j',ac,bc)/\st2=st'/\Rdy κ a b o' i' j'/\i+j+y≤i'+j')
   (Q:=fun c st2=>st2=st'/\((∃ r c',c=(some r,c')/\Mgd κ a.toList b.toList r.toList)\/∃ o' i' j' ac bc,c=(none,o',i',j',ac,bc)/\Rdy κ a b o' i' j'/\i+j≤i'+j')) ?st1 ?fi1 ⟨_,_,_,_,_,rfl,rfl,R,by omega⟩) ?po1)
  case fi1=>
   rintro c st2 ⟨o',i',j',ac,bc,rfl,rfl,R',hy⟩
   have:=R'.hi
   have:=R'.hj
   omega
  case st1=>
   rintro y c st2 _ hy ⟨o',i',j',ac,bc,rfl,rfl,R',hyi⟩
   dsimp only
   refine b7U C hk1 R' (fun r c m=>⟨rfl,.inl ⟨r,c,rfl,m⟩⟩) (fun o2 i2 j2 u v R2 hs=>⟨rfl,.inr ⟨_,_,_,_,_,rfl,R2,by omega⟩⟩) fun o2 i2 j2 u v R2 hs=>⟨_,_,_,_,_,rfl,rfl,R2,by omega⟩
  case po1=>
   rintro c st2 ⟨rfl,⟨r,c',rfl,m⟩ | ⟨o',i',j',ac,bc,rfl,R',hij⟩⟩
   ·exact wpS_pure ⟨r,_,rfl,g1,m⟩
   ·dsimp only
    refine a5I ?_
    refine wpS_bind (wpS_mono (wpS_forRange (I:=fun y c st3=>∃ o3 i3 j3 g3 ac3 bc3,c=(none,o3,i3,j3,g3,ac3,bc3)/\SG st st3/\Rdy κ a b o3 i3 j3/\i'+j'+y≤i3+j3)
     (Q:=fun c st3=>SG st st3/\((∃ r c',c=(some r,c')/\Mgd κ a.toList b.toList r.toList)\/∃ o3 i3 j3 g3 ac3 bc3,c=(none,o3,i3,j3,g3,ac3,bc3)/\Rdy κ a b o3 i3 j3/\i'+j'<i3+j3)) ?st2 ?fi2 ⟨_,_,_,_,_,_,rfl,g1,R',by omega⟩) ?po2)
    case fi2=>
     rintro c st3 ⟨o3,i3,j3,g3,ac3,bc3,rfl,g3',R3,hy⟩
     have:=R3.hi
     have:=R3.hj
     omega
    case st2=>
     rintro y c st3 _ hy ⟨o3,i3,j3,g3,ac3,bc3,rfl,g3',R3,hyi⟩
     dsimp only
     refine b7W (n:=i3+j3) C (g3'.kd.trans hk) R3 ⟨fun r c st4 g4 m=>⟨g3'.trans g4,.inl ⟨r,c,rfl,m⟩⟩,fun o4 i4 j4 u v w st4 g4 R4 hs=>⟨g3'.trans g4,.inr ⟨_,_,_,_,_,_,rfl,R4,by omega⟩⟩,fun o4 i4 j4 u v w st4 g4 R4 hs=>⟨_,_,_,_,_,_,rfl,g3'.trans g4,R4,by omega⟩⟩ (Nat.le_refl _)
    case po2=>
     rintro c st3 ⟨g3',⟨r,c',rfl,m⟩ | ⟨o3,i3,j3,g3,ac3,bc3,rfl,R3,hs⟩⟩
     ·exact wpS_pure ⟨r,_,rfl,g3',m⟩
     ·dsimp only
      rw [a4N]
      refine wpS_bind (wpS_modify (wpS_pure ?_))
      exact⟨_,_,_,_,rfl,⟨g3'.kd,g3'.ar,g3'.pe,g3'.fl⟩,R3,by omega⟩
end
end Tim
namespace Tim
open PySem PyProof.Rows
def a59:Array Keyed->Array Keyed->SM (Array Keyed):=sortPriv% PySem.Builtin.mergeHi
abbrev hnA (a b o:Array Keyed) (u v:Nat):Array Keyed:=a.extract 0 u++b.extract 0 v++o.reverse
abbrev hnB (a b o:Array Keyed) (u v:Nat):Array Keyed:=b.extract 0 v++a.extract 0 u++o.reverse
abbrev H1:=Option (Array Keyed)×Nat×Nat×Array Keyed×Nat×Nat
abbrev H2:=Option (Array Keyed)×Nat×Nat×Array Keyed×Nat×Nat×Nat
def hi1 (a b:Array Keyed) (g u v:Nat) (o:Array Keyed) (ac bc:Nat):SM (ForInStep H1):=do
 let y <- elem' b (v - 1)
 let x <- elem' a (u - 1)
 let r <- lt' y x
 match r with
 | some aw=>
  if aw=true then do
   let x <- elem' a (u - 1)
   if (u - 1==0)=true then pure (.done (some (hnA a b (o.push x) (u - 1) v),u - 1,v,o.push x,ac+1,0))
   else if ac+1≥g then pure (.done (none,u - 1,v,o.push x,ac+1,0)) else pure (.yield (none,u - 1,v,o.push x,ac+1,0))
  else do
   let y <- elem' b (v - 1)
   if (v - 1==1)=true then pure (.done (some (hnB a b (o.push y) u (v - 1)),u,v - 1,o.push y,0,bc+1))
   else if bc+1≥g then pure (.done (none,u,v - 1,o.push y,0,bc+1)) else pure (.yield (none,u,v - 1,o.push y,0,bc+1))
 | _=>pure (.done (some (hnA a b o u v),u,v,o,ac,bc))
def hi5 (a b:Array Keyed) (u v:Nat) (o:Array Keyed) (g ac bc:Nat):SM (ForInStep H2):=do
 let x <- elem' a (u - 1)
 if (u - 1==0)=true then pure (.done (some (hnA a b (o.push x) (u - 1) v),u - 1,v,o.push x,g,ac,bc))
 else if (decide (ac<7)&&decide (bc<7))=true then pure (.done (none,u - 1,v,o.push x,g,ac,bc)) else pure (.yield (none,u - 1,v,o.push x,g,ac,bc))
def hi4 (a b:Array Keyed) (u v:Nat) (o:Array Keyed) (g ac bc:Nat):SM (ForInStep H2):=do
 let y <- elem' b (v - 1)
 if (v - 1==1)=true then pure (.done (some (hnB a b (o.push y) u (v - 1)),u,v - 1,o.push y,g,ac,bc))
 else do
  let x <- elem' a (u - 1)
  let r <- a2h true x b 0 (v - 1) (v - 1 - 1)
  match r with
  | some p=>
   if v - 1 - p > 0 then
    if (p==1)=true then pure (.done (some (hnB a b (o.push y++(b.extract p (v - 1)).reverse) u p),u,p,o.push y++(b.extract p (v - 1)).reverse,g,ac,v - 1 - p))
    else if (p==0)=true then pure (.done (some (hnA a b (o.push y++(b.extract p (v - 1)).reverse) u p),u,p,o.push y++(b.extract p (v - 1)).reverse,g,ac,v - 1 - p))
    else hi5 a b u p (o.push y++(b.extract p (v - 1)).reverse) g ac (v - 1 - p)
   else hi5 a b u (v - 1) (o.push y) g ac (v - 1 - p)
  | _=>pure (.done (some (hnA a b (o.push y) u (v - 1)),u,v - 1,o.push y,g,ac,bc))
def hi3 (a b:Array Keyed) (u v:Nat) (o:Array Keyed) (g ac bc:Nat):SM (ForInStep H2):=do
 a7G g
 let y <- elem' b (v - 1)
 let r <- a2h false y a 0 u (u - 1)
 match r with
 | some p=>
  if u - p > 0 then
   if (p==0)=true then pure (.done (some (hnA a b (o++(a.extract p u).reverse) p v),p,v,o++(a.extract p u).reverse,g,u - p,bc))
   else hi4 a b p v (o++(a.extract p u).reverse) g (u - p) bc
  else hi4 a b u v o g (u - p) bc
 | _=>pure (.done (some (hnA a b o u v),u,v,o,g,ac,bc))
def hi2 (a b:Array Keyed) (u v:Nat) (o:Array Keyed) (g ac bc:Nat):SM (ForInStep H2):=
 if g > 1 then hi3 a b u v o (g - 1) ac bc else hi3 a b u v o g ac bc
theorem a6Q (a b:Array Keyed):a59 a b=(do
  liftM (rule "list.sort.merge-hi")
  let x <- elem' a (a.size - 1)
  if (a.size - 1==0)=true then pure (hnA a b #[x] (a.size - 1) b.size)
  else if (b.size==1)=true then pure (hnB a b #[x] (a.size - 1) b.size)
  else do
   let st <- get
   let c <- forIn [0:a.size+b.size] ((none,a.size - 1,b.size,#[x],gallopOf st):Option (Array Keyed)×Nat×Nat×Array Keyed×Nat) fun _ c=>do
    let c1 <- forIn [0:a.size+b.size] ((none,c.2.1,c.2.2.1,c.2.2.2.1,0,0):H1) fun _ c1=>hi1 a b c.2.2.2.2 c1.2.1 c1.2.2.1 c1.2.2.2.1 c1.2.2.2.2.1 c1.2.2.2.2.2
    match c1.1 with
    | some r=>pure (ForInStep.done (some r,c1.2.1,c1.2.2.1,c1.2.2.2.1,c.2.2.2.2))
    | none=>do
     liftM (rule "list.sort.gallop")
     let c2 <- forIn [0:a.size+b.size] ((none,c1.2.1,c1.2.2.1,c1.2.2.2.1,c.2.2.2.2+1,c1.2.2.2.2.1,c1.2.2.2.2.2):H2) fun _ c2=>hi2 a b c2.2.1 c2.2.2.1 c2.2.2.2.1 c2.2.2.2.2.1 c2.2.2.2.2.2.1 c2.2.2.2.2.2.2
     match c2.1 with
     | some r=>pure (ForInStep.done (some r,c2.2.1,c2.2.2.1,c2.2.2.2.1,c2.2.2.2.2.1))
     | none=>do
      a7G (c2.2.2.2.2.1+1)
      pure (ForInStep.yield (none,c2.2.1,c2.2.2.1,c2.2.2.2.1,c2.2.2.2.2.1+1))
   match c.1 with
   | some r=>pure r
   | none=>unsupported "internal:list.sort.merge-bound"):=by
 refine bind_congr fun _=>bind_congr fun y=>?_
 dsimp only
 congr 1
 congr 1
 refine bind_congr fun st=>?_
 refine bd2 ?_ fun c=>?_
 ·congr 1
  funext x c
  obtain⟨r,u,v,o,g⟩:=c
  dsimp only
  refine bd2 ?_ fun c1=>?_
  ·congr 1
  ·obtain⟨r,u,v,o,ac,bc⟩:=c1
   cases r with
   | some r=>rfl
   | none=>
    refine bind_congr fun _=>?_
    refine bd2 ?_ fun c2=>?_
    ·congr 1
    ·obtain⟨r,u,v,o,g,ac,bc⟩:=c2
     cases r<;>rfl
 ·obtain⟨r,u,v,o,g⟩:=c
  cases r<;>rfl
end Tim
namespace Tim
open PySem PyProof.Rows
section
variable {κ:KF} {A B o:List Keyed} {u v:Nat} {p:Keyed}
structure MH (κ:KF) (A B o:List Keyed) (u v:Nat):Prop where
 ia:u≤A.length
 jb:v≤B.length
 pm:(A.take u++B.take v++o.reverse).Perm (A++B)
 so:Srt κ o.reverse
 ba:∀ x∈o,∀ y∈A.take u,κ y≤κ x
 bb:∀ x∈o,∀ y∈B.take v,κ y≤κ x
theorem a7I {l:List Keyed} {n:Nat} (h:l[n]?=some p):l.take (n+1)=l.take n++[p]:=by
 rw [List.take_add_one,h];rfl
theorem a2C {l:List Keyed} (h:Srt κ l) (n:Nat):Srt κ (l.take n):=List.Pairwise.sublist (List.take_sublist n l) h
theorem a3a {l:List Keyed} {n:Nat} (h:Srt κ l) (e:l[n]?=some p):∀ y∈l.take (n+1),κ y≤κ p:=fun y hy=>by
 have hs:=a2C h (n+1)
 rw [a7I e] at hs hy
 rcases List.mem_append.mp hy with hy | hy
 ·exact (List.pairwise_append.mp hs).2.2 y hy p (by simp)
 ·rw [List.mem_singleton.mp hy];exact Int.le_refl _
theorem MH.pushA (W:MH κ A B o (u+1) v) (sa:Srt κ A) (hp:A[u]?=some p) (hb:∀ y∈B.take v,κ y≤κ p):MH κ A B (o++[p]) u v:=by
 have hd:=a7I hp
 have hi:=(List.getElem?_eq_some_iff.mp hp).1
 refine⟨by omega,W.jb,?_,?_,fun x hx y hy=>?_,fun x hx y hy=>?_⟩
 ·have:=W.pm
  rw [hd] at this
  refine List.Perm.trans ?_ this
  rw [List.reverse_append,List.reverse_singleton]
  simp only [List.append_assoc]
  refine List.Perm.append_left _ ?_
  rw [List.singleton_append,List.singleton_append]
  exact List.perm_middle
 ·rw [List.reverse_append,List.reverse_singleton,List.singleton_append]
  refine List.pairwise_cons.mpr ⟨fun x hx=>?_,W.so⟩
  exact W.ba x (by simpa using hx) p (by rw [hd];simp)
 ·rcases List.mem_append.mp hx with h | h
  ·exact W.ba x h y (by rw [hd];simp [hy])
  ·rw [List.mem_singleton.mp h];exact a3a sa hp y (by rw [hd];simp [hy])
 ·rcases List.mem_append.mp hx with h | h
  ·exact W.bb x h y hy
  ·rw [List.mem_singleton.mp h];exact hb y hy
theorem MH.pushB (W:MH κ A B o u (v+1)) (sb:Srt κ B) (hp:B[v]?=some p) (hb:∀ y∈A.take u,κ y≤κ p):MH κ A B (o++[p]) u v:=by
 have hd:=a7I hp
 have hi:=(List.getElem?_eq_some_iff.mp hp).1
 refine⟨W.ia,by omega,?_,?_,fun x hx y hy=>?_,fun x hx y hy=>?_⟩
 ·have:=W.pm
  rw [hd] at this
  refine List.Perm.trans ?_ this
  rw [List.reverse_append,List.reverse_singleton]
  simp only [List.append_assoc]
  exact List.Perm.refl _
 ·rw [List.reverse_append,List.reverse_singleton,List.singleton_append]
  refine List.pairwise_cons.mpr ⟨fun x hx=>?_,W.so⟩
  exact W.bb x (by simpa using hx) p (by rw [hd];simp)
 ·rcases List.mem_append.mp hx with h | h
  ·exact W.ba x h y hy
  ·rw [List.mem_singleton.mp h];exact hb y hy
 ·rcases List.mem_append.mp hx with h | h
  ·exact W.bb x h y (by rw [hd];simp [hy])
  ·rw [List.mem_singleton.mp h];exact a3a sb hp y (by rw [hd];simp [hy])
theorem MH.runA (sa:Srt κ A):∀ (k:Nat) {o:List Keyed},MH κ A B o (u+k) v->(∀ q z,u≤q->q<u+k->A[q]?=some z->∀ y∈B.take v,κ y≤κ z)->MH κ A B (o++((A.drop u).take k).reverse) u v
 | 0,o,W,_=>by simpa using W
 | k+1,o,W,hz=>by
  have hlt:u+k<A.length:=by have:=W.ia;omega
  have e:A[u+k]?=some A[u+k]:=List.getElem?_eq_getElem hlt
  have W1:=MH.pushA W sa e (hz _ _ (by omega) (by omega) e)
  have ih:=MH.runA sa k W1 fun q z h1 h2=>hz q z h1 (by omega)
  rw [take_snoc e,List.reverse_append,List.reverse_singleton,<- List.append_assoc]
  exact ih
theorem MH.runB (sb:Srt κ B):∀ (k:Nat) {o:List Keyed},MH κ A B o u (v+k)->(∀ q z,v≤q->q<v+k->B[q]?=some z->∀ y∈A.take u,κ y≤κ z)->MH κ A B (o++((B.drop v).take k).reverse) u v
 | 0,o,W,_=>by simpa using W
 | k+1,o,W,hz=>by
  have hlt:v+k<B.length:=by have:=W.jb;omega
  have e:B[v+k]?=some B[v+k]:=List.getElem?_eq_getElem hlt
  have W1:=MH.pushB W sb e (hz _ _ (by omega) (by omega) e)
  have ih:=MH.runB sb k W1 fun q z h1 h2=>hz q z h1 (by omega)
  rw [take_snoc e,List.reverse_append,List.reverse_singleton,<- List.append_assoc]
  exact ih
theorem MH.doneA (W:MH κ A B o u v) (sa:Srt κ A) (sb:Srt κ B) (h:u=0\/v=0):Mgd κ A B (A.take u++B.take v++o.reverse):=by
 refine⟨W.pm,?_⟩
 refine List.pairwise_append.mpr ⟨List.pairwise_append.mpr ⟨a2C sa u,a2C sb v,fun x hx y hy=>?_⟩,W.so,fun x hx y hy=>?_⟩
 ·rcases h with rfl | rfl
  ·simp at hx
  ·simp at hy
 ·have hy':y∈o:=by simpa using hy
  rcases List.mem_append.mp hx with h | h
  ·exact W.ba y hy' x h
  ·exact W.bb y hy' x h
theorem MH.doneB (W:MH κ A B o u 1) (sa:Srt κ A) (sb:Srt κ B) (hf:∀ z,B[0]?=some z->∀ y∈A,κ z≤κ y):Mgd κ A B (B.take 1++A.take u++o.reverse):=by
 refine⟨?_,?_⟩
 ·refine List.Perm.trans ?_ W.pm
  exact List.Perm.append_right _ List.perm_append_comm
 ·refine List.pairwise_append.mpr ⟨List.pairwise_append.mpr ⟨a2C sb 1,a2C sa u,fun x hx y hy=>?_⟩,W.so,fun x hx y hy=>?_⟩
  ·cases B with
   | nil=>simp at hx
   | cons z B=>
    have:x=z:=by simpa using hx
    subst this
    exact hf x rfl y (List.mem_of_mem_take hy)
  ·have hy':y∈o:=by simpa using hy
   rcases List.mem_append.mp hx with h | h
   ·exact W.bb y hy' x h
   ·exact W.ba y hy' x h
end
section
variable {κ:KF} {a b o:Array Keyed} {u v:Nat}
theorem a3K:(hnA a b o u v).toList=a.toList.take u++b.toList.take v++o.toList.reverse:=by
 unfold hnA
 simp [List.extract_eq_take_drop]
theorem a4Q:(hnB a b o u v).toList=b.toList.take v++a.toList.take u++o.toList.reverse:=by
 unfold hnB
 simp [List.extract_eq_take_drop]
theorem a8l {p:Nat}:(o++(a.extract p u).reverse).toList=o.toList++((a.toList.drop p).take (u - p)).reverse:=by
 simp [List.extract_eq_take_drop]
end
structure RdH (κ:KF) (a b o:Array Keyed) (u v:Nat):Prop where
 w:MH κ a.toList b.toList o.toList u v
 hu:1≤u
 hv:2≤v
section
variable {M:Model} {A:Around} {E:Value->Shared->Prop} {s:Shared} {κ:KF} {k0:SortKind} {a₀ a b o:Array Keyed} {st:SortSt} {u v g ac bc:Nat}
theorem RdH.ua (R:RdH κ a b o u v):u≤a.size:=by have:=R.w.ia;rwa [a1N] at this
theorem RdH.vb (R:RdH κ a b o u v):v≤b.size:=by have:=R.w.jb;rwa [a1N] at this
theorem MC.first (C:MC M A E s κ k0 a₀ a b):∀ z,b.toList[0]?=some z->∀ y∈a.toList,κ z≤κ y:=fun z hz y hy=>by
 have:=C.hf y hy
 rwa [a48 hz] at this
theorem b7X {Q:ForInStep H1->SortSt->Prop} (C:MC M A E s κ k0 a₀ a b) (hk:kindOf st=k0) (R:RdH κ a b o (u+1) (v+1))
  (dn:∀ r c,Mgd κ a.toList b.toList r.toList->Q (.done (some r,c)) st)
  (br:∀ o' u' v' x y,RdH κ a b o' u' v'->u'+v'=u+v+1->Q (.done (none,u',v',o',x,y)) st)
  (go:∀ o' u' v' x y,RdH κ a b o' u' v'->u'+v'=u+v+1->Q (.yield (none,u',v',o',x,y)) st):wpS M A E s (hi1 a b g (u+1) (v+1) o ac bc) Q st:=by
 have hu:=R.ua
 have hv:=R.vb
 have hu1:=R.hu
 have hv1:=R.hv
 have eb:b[v]?=some b[v]:=getElem?_pos ..
 have ea:a[u]?=some a[u]:=getElem?_pos ..
 have lb:=a1K (a:=b) (i:=v) (by omega)
 have la:=a1K (a:=a) (i:=u) (by omega)
 unfold hi1
 simp only [Nat.add_sub_cancel]
 refine wpS_bind (a1x eb (wpS_bind (a1x ea (wpS_bind ?_))))
 refine C.L _ _ (C.hb _ (List.mem_of_getElem? lb)) (C.ha _ (List.mem_of_getElem? la)) st _ hk ?_
 dsimp only
 by_cases c:κ b[v]<κ a[u]
 ·rw [if_pos (decide_eq_true c)]
  refine wpS_bind (a1x ea ?_)
  have w2:=R.w.pushA C.sa la fun y hy=>Int.le_trans (a3a C.sb lb y hy) (Int.le_of_lt c)
  rw [<- Array.toList_push] at w2
  by_cases e:u=0
  ·rw [if_pos (by simpa using e)]
   exact wpS_pure (dn _ _ (by rw [a3K];exact w2.doneA C.sa C.sb (.inl e)))
  ·rw [if_neg (by simpa using e)]
   have R2:RdH κ a b (o.push a[u]) u (v+1):=⟨w2,by omega,hv1⟩
   split
   ·exact wpS_pure (br _ _ _ _ _ R2 (by omega))
   ·exact wpS_pure (go _ _ _ _ _ R2 (by omega))
 ·rw [if_neg (by simpa using c)]
  refine wpS_bind (a1x eb ?_)
  have w2:=R.w.pushB C.sb lb fun y hy=>Int.le_trans (a3a C.sa la y hy) (Int.not_lt.mp c)
  rw [<- Array.toList_push] at w2
  by_cases e:v=1
  ·rw [if_pos (by simpa using e)]
   subst e
   exact wpS_pure (dn _ _ (by rw [a4Q];exact w2.doneB C.sa C.sb C.first))
  ·rw [if_neg (by simpa using e)]
   have R2:RdH κ a b (o.push b[v]) (u+1) v:=⟨w2,hu1,by omega⟩
   split
   ·exact wpS_pure (br _ _ _ _ _ R2 (by omega))
   ·exact wpS_pure (go _ _ _ _ _ R2 (by omega))
structure HG (st:SortSt) (κ:KF) (a b:Array Keyed) (n:Nat) (Q:ForInStep H2->SortSt->Prop):Prop where
 dn:∀ r c st',SG st st'->Mgd κ a.toList b.toList r.toList->Q (.done (some r,c)) st'
 br:∀ o' u' v' x y z st',SG st st'->RdH κ a b o' u' v'->u'+v'<n->Q (.done (none,u',v',o',x,y,z)) st'
 go:∀ o' u' v' x y z st',SG st st'->RdH κ a b o' u' v'->u'+v'<n->Q (.yield (none,u',v',o',x,y,z)) st'
theorem b5X {Q:ForInStep H2->SortSt->Prop} {n:Nat} (C:MC M A E s κ k0 a₀ a b) (R:RdH κ a b o (u+1) v) (hle:∀ y∈b.toList.take v,κ y≤Kk κ a u) (H:HG st κ a b n Q) (hn:u+v<n):wpS M A E s (hi5 a b (u+1) v o g ac bc) Q st:=by
 have hu:=R.ua
 have hv1:=R.hv
 have ea:a[u]?=some a[u]:=getElem?_pos ..
 have la:=a1K (a:=a) (i:=u) (by omega)
 rw [a1S (show u<a.size by omega)] at hle
 unfold hi5
 simp only [Nat.add_sub_cancel]
 refine wpS_bind (a1x ea ?_)
 have w2:=R.w.pushA C.sa la hle
 rw [<- Array.toList_push] at w2
 by_cases e:u=0
 ·rw [if_pos (by simpa using e)]
  exact wpS_pure (H.dn _ _ _ (SG.refl _) (by rw [a3K];exact w2.doneA C.sa C.sb (.inl e)))
 ·rw [if_neg (by simpa using e)]
  have R2:RdH κ a b (o.push a[u]) u v:=⟨w2,by omega,hv1⟩
  split
  ·exact wpS_pure (H.br _ _ _ _ _ _ _ (SG.refl _) R2 (by omega))
  ·exact wpS_pure (H.go _ _ _ _ _ _ _ (SG.refl _) R2 (by omega))
theorem a3s {l:List Keyed} {n:Nat} {y:Keyed} (h:y∈l.take n):∃ q,q<n/\l[q]?=some y:=by
 obtain⟨m,hm⟩:=List.getElem?_of_mem h
 have hlt:=(List.getElem?_eq_some_iff.mp hm).1
 rw [List.length_take] at hlt
 rw [List.getElem?_take] at hm
 split at hm
 ·exact⟨m,by omega,hm⟩
 ·cases hm
theorem b5Y {Q:ForInStep H2->SortSt->Prop} {n:Nat} (C:MC M A E s κ k0 a₀ a b) (hk:kindOf st=k0) (R:RdH κ a b o (u+1) (v+1)) (hle:∀ y∈a.toList.take (u+1),κ y≤Kk κ b v) (H:HG st κ a b n Q) (hn:u+v<n):wpS M A E s (hi4 a b (u+1) (v+1) o g ac bc) Q st:=by
 have hu:=R.ua
 have hv:=R.vb
 have hv1:=R.hv
 have eb:b[v]?=some b[v]:=getElem?_pos ..
 have lb:=a1K (a:=b) (i:=v) (by omega)
 have ea:a[u]?=some a[u]:=getElem?_pos ..
 have la:=a1K (a:=a) (i:=u) (by omega)
 rw [a1S (show v<b.size by omega)] at hle
 unfold hi4
 simp only [Nat.add_sub_cancel]
 refine wpS_bind (a1x eb ?_)
 have w2:=R.w.pushB C.sb lb hle
 rw [<- Array.toList_push] at w2
 by_cases e:v=1
 ·rw [if_pos (by simpa using e)]
  subst e
  exact wpS_pure (H.dn _ _ _ (SG.refl _) (by rw [a4Q];exact w2.doneB C.sa C.sb C.first))
 ·rw [if_neg (by simpa using e)]
  refine wpS_bind (a1x ea (wpS_bind ?_))
  refine a29 C.L hk (C.ha _ (List.mem_of_getElem? la)) C.hb (by omega) (by omega) (a3J C.sb (by omega)) fun p hkn hlt hge=>?_
  dsimp only
  simp only [Nat.zero_add] at hlt hge
  have rest:∀ y∈b.toList.take p,κ y≤Kk κ a u:=fun y hy=>by
   obtain⟨q,h1,h3⟩:=a3s hy
   have:=hlt q h1
   rw [a48 h3] at this
   simp [bq] at this
   rw [a1S (show u<a.size by omega)]
   omega
  split
  ·have w3:=MH.runB (v:=p) C.sb (v - p) (by rw [show p+(v - p)=v by omega];exact w2) fun q z h1 h2 h3 y hy=>by
    have:=hge q h1 (by omega)
    rw [a48 h3] at this
    simp [bq] at this
    exact Int.le_trans (a3a C.sa la y hy) this
   rw [<- a8l] at w3
   by_cases e1:p=1
   ·rw [if_pos (by simpa using e1)]
    subst e1
    exact wpS_pure (H.dn _ _ _ (SG.refl _) (by rw [a4Q];exact w3.doneB C.sa C.sb C.first))
   ·rw [if_neg (by simpa using e1)]
    by_cases e2:p=0
    ·rw [if_pos (by simpa using e2)]
     exact wpS_pure (H.dn _ _ _ (SG.refl _) (by rw [a3K];exact w3.doneA C.sa C.sb (.inr e2)))
    ·rw [if_neg (by simpa using e2)]
     exact b5X C ⟨w3,by omega,by omega⟩ rest H (by omega)
  ·have:p=v:=by omega
   subst this
   exact b5X C ⟨w2,by omega,by omega⟩ rest H (by omega)
theorem b7Y {Q:ForInStep H2->SortSt->Prop} {n:Nat} (C:MC M A E s κ k0 a₀ a b) (hk:kindOf st=k0) (R:RdH κ a b o (u+1) (v+1)) (H:HG st κ a b n Q) (hn:u+v<n):wpS M A E s (hi3 a b (u+1) (v+1) o g ac bc) Q st:=by
 have hu:=R.ua
 have hv:=R.vb
 have hv1:=R.hv
 have eb:b[v]?=some b[v]:=getElem?_pos ..
 have lb:=a1K (a:=b) (i:=v) (by omega)
 unfold hi3
 rw [a4N]
 refine wpS_bind (wpS_modify ?_)
 have g1:SG st (SortSt.mk' (kindOf st) (arrOf st) (pendingOf st) g (failedOf st)):=⟨rfl,rfl,rfl,rfl⟩
 have hk1:kindOf (SortSt.mk' (kindOf st) (arrOf st) (pendingOf st) g (failedOf st))=k0:=hk
 generalize SortSt.mk' (kindOf st) (arrOf st) (pendingOf st) g (failedOf st)=st1 at g1 hk1
 have H1:HG st1 κ a b n Q:=⟨fun r c st' g=>H.dn r c st' (g1.trans g),fun _ _ _ _ _ _ st' g=>H.br _ _ _ _ _ _ st' (g1.trans g),fun _ _ _ _ _ _ st' g=>H.go _ _ _ _ _ _ st' (g1.trans g)⟩
 simp only [Nat.add_sub_cancel]
 refine wpS_bind (a1x eb (wpS_bind ?_))
 refine a29 C.L hk1 (C.hb _ (List.mem_of_getElem? lb)) C.ha (by omega) (by omega) (a3J C.sa (by omega)) fun p hkn hlt hge=>?_
 dsimp only
 simp only [Nat.zero_add] at hlt hge
 have rest:∀ y∈a.toList.take p,κ y≤Kk κ b v:=fun y hy=>by
  obtain⟨q,h1,h3⟩:=a3s hy
  have:=hlt q h1
  rw [a48 h3] at this
  simp [bq] at this
  rw [a1S (show v<b.size by omega)]
  omega
 split
 ·have w3:=MH.runA (u:=p) C.sa (u+1 - p) (by rw [show p+(u+1 - p)=u+1 by omega];exact R.w) fun q z h1 h2 h3 y hy=>by
   have:=hge q h1 (by omega)
   rw [a48 h3] at this
   simp [bq] at this
   exact Int.le_trans (a3a C.sb lb y hy) (Int.le_of_lt this)
  rw [<- a8l] at w3
  by_cases e1:p=0
  ·rw [if_pos (by simpa using e1)]
   exact wpS_pure (H1.dn _ _ _ (SG.refl _) (by rw [a3K];exact w3.doneA C.sa C.sb (.inl e1)))
  ·rw [if_neg (by simpa using e1)]
   obtain⟨p',rfl⟩:∃ p',p=p'+1:=⟨p - 1,by omega⟩
   exact b5Y C hk1 ⟨w3,by omega,hv1⟩ rest H1 (by omega)
 ·have:p=u+1:=by omega
  subst this
  exact b5Y C hk1 R rest H1 (by omega)
theorem b7Z {Q:ForInStep H2->SortSt->Prop} {n:Nat} (C:MC M A E s κ k0 a₀ a b) (hk:kindOf st=k0) (R:RdH κ a b o (u+1) (v+1)) (H:HG st κ a b n Q) (hn:u+v<n):wpS M A E s (hi2 a b (u+1) (v+1) o g ac bc) Q st:=by
 unfold hi2
 split<;>exact b7Y C hk R H hn
theorem b1S (C:MC M A E s κ k0 a₀ a b):MH κ a.toList b.toList [a[a.size - 1]'(by have:=C.h0;omega)] (a.size - 1) b.size:=by
 have h0:=C.h0
 have la:=a1K (a:=a) (i:=a.size - 1) (by omega)
 have w0:MH κ a.toList b.toList [] (a.size - 1+1) b.size:=⟨by rw [a1N];omega,by rw [a1N];omega,by rw [List.take_of_length_le (by rw [a1N];omega),List.take_of_length_le (by rw [a1N];omega)];simp,.nil,fun x h=>by simp at h,fun x h=>by simp at h⟩
 exact w0.pushA C.sa la fun y hy=>C.hl _ (by rw [a1N];exact la) y (List.mem_of_mem_take hy)
theorem b0n {Q:Array Keyed->SortSt->Prop} (C:MC M A E s κ k0 a₀ a b) (hk:kindOf st=k0)
  (h:∀ r st',SG st st'->Mgd κ a.toList b.toList r.toList->Q r st'):wpS M A E s (a59 a b) Q st:=by
 have h0:=C.h0
 have h1:=C.h1
 rw [a6Q]
 refine a5I ?_
 refine wpS_bind (a1x (getElem?_pos a (a.size - 1) (by omega)) ?_)
 have w0:=b1S C
 by_cases e1:a.size - 1=0
 ·rw [if_pos (by simpa using e1)]
  exact wpS_pure (h _ _ (SG.refl _) (by rw [a3K];exact w0.doneA C.sa C.sb (.inl e1)))
 rw [if_neg (by simpa using e1)]
 by_cases e2:b.size=1
 ·rw [if_pos (by simpa using e2)]
  refine wpS_pure (h _ _ (SG.refl _) ?_)
  rw [e2] at w0
  rw [a4Q,e2]
  exact w0.doneB C.sa C.sb C.first
 rw [if_neg (by simpa using e2)]
 refine wpS_bind (wpS_get ?_)
 have R0:RdH κ a b #[a[a.size - 1]] (a.size - 1) b.size:=⟨w0,by omega,by omega⟩
 refine wpS_bind (wpS_mono (wpS_forRange (I:=fun x c st'=>∃ o u v g,c=(none,u,v,o,g)/\SG st st'/\RdH κ a b o u v/\x+(u+v)<a.size+b.size)
  (Q:=fun c st'=>∃ r c',c=(some r,c')/\SG st st'/\Mgd κ a.toList b.toList r.toList) ?step ?fin ⟨_,_,_,_,rfl,SG.refl _,R0,by omega⟩) ?post)
 case post=>
  rintro c st' ⟨r,c',rfl,g1,m⟩
  exact wpS_pure (h r st' g1 m)
 case fin=>
  rintro c st' ⟨o,u,v,g,rfl,g1,R,hx⟩
  omega
 case step=>
  rintro x c st' _ hx ⟨o,u,v,g,rfl,g1,R,hxi⟩
  dsimp only
  have hk1:kindOf st'=k0:=g1.kd.trans hk
  refine wpS_bind (wpS_mono (wpS_forRange (I:=fun y c st2=>∃ o' u' v' ac bc,c=(none,u',v',o',ac,bc)/\st2=st'/\RdH κ a b o' u' v'/\u'+v'+y≤u+v)
   (Q:=fun c st2=>st2=st'/\((∃ r c',c=(some r,c')/\Mgd κ a.toList b.toList r.toList)\/∃ o' u' v' ac bc,c=(none,u',v',o',ac,bc)/\RdH κ a b o' u' v'/\u'+v'≤u+v)) ?st1 ?fi1 ⟨_,_,_,_,_,rfl,rfl,R,by omega⟩) ?po1)
  case fi1=>
   rintro c st2 ⟨o',u',v',ac,bc,rfl,rfl,R',hy⟩
   exact⟨rfl,.inr ⟨_,_,_,_,_,rfl,R',by omega⟩⟩
  case st1=>
   rintro y c st2 _ hy ⟨o',u',v',ac,bc,rfl,rfl,R',hyi⟩
   dsimp only
   have hu1:=R'.hu
   have hv1:=R'.hv
   obtain⟨u',rfl⟩:∃ z,u'=z+1:=⟨u' - 1,by omega⟩
   obtain⟨v',rfl⟩:∃ z,v'=z+1:=⟨v' - 1,by omega⟩
   refine b7X C hk1 R' (fun r c m=>⟨rfl,.inl ⟨r,c,rfl,m⟩⟩) (fun o2 i2 j2 u v R2 hs=>⟨rfl,.inr ⟨_,_,_,_,_,rfl,R2,by omega⟩⟩) fun o2 i2 j2 u v R2 hs=>⟨_,_,_,_,_,rfl,rfl,R2,by omega⟩
  case po1=>
   rintro c st2 ⟨rfl,⟨r,c',rfl,m⟩ | ⟨o',u',v',ac,bc,rfl,R',hij⟩⟩
   ·exact wpS_pure ⟨r,_,rfl,g1,m⟩
   ·dsimp only
    refine a5I ?_
    refine wpS_bind (wpS_mono (wpS_forRange (I:=fun y c st3=>∃ o3 i3 j3 g3 ac3 bc3,c=(none,i3,j3,o3,g3,ac3,bc3)/\SG st st3/\RdH κ a b o3 i3 j3/\i3+j3+y≤u'+v')
     (Q:=fun c st3=>SG st st3/\((∃ r c',c=(some r,c')/\Mgd κ a.toList b.toList r.toList)\/∃ o3 i3 j3 g3 ac3 bc3,c=(none,i3,j3,o3,g3,ac3,bc3)/\RdH κ a b o3 i3 j3/\i3+j3<u'+v')) ?st2 ?fi2 ⟨_,_,_,_,_,_,rfl,g1,R',by omega⟩) ?po2)
    case fi2=>
     rintro c st3 ⟨o3,i3,j3,g3,ac3,bc3,rfl,g3',R3,hy⟩
     exact⟨g3',.inr ⟨_,_,_,_,_,_,rfl,R3,by have:=R3.hu;omega⟩⟩
    case st2=>
     rintro y c st3 _ hy ⟨o3,i3,j3,g3,ac3,bc3,rfl,g3',R3,hyi⟩
     dsimp only
     have hu1:=R3.hu
     have hv1:=R3.hv
     obtain⟨i3,rfl⟩:∃ z,i3=z+1:=⟨i3 - 1,by omega⟩
     obtain⟨j3,rfl⟩:∃ z,j3=z+1:=⟨j3 - 1,by omega⟩
     refine b7Z (n:=i3+1+(j3+1)) C (g3'.kd.trans hk) R3 ⟨fun r c st4 g4 m=>⟨g3'.trans g4,.inl ⟨r,c,rfl,m⟩⟩,fun o4 i4 j4 u v w st4 g4 R4 hs=>⟨g3'.trans g4,.inr ⟨_,_,_,_,_,_,rfl,R4,by omega⟩⟩,fun o4 i4 j4 u v w st4 g4 R4 hs=>⟨_,_,_,_,_,_,rfl,g3'.trans g4,R4,by omega⟩⟩ (by omega)
    case po2=>
     rintro c st3 ⟨g3',⟨r,c',rfl,m⟩ | ⟨o3,i3,j3,g3,ac3,bc3,rfl,R3,hs⟩⟩
     ·exact wpS_pure ⟨r,_,rfl,g3',m⟩
     ·dsimp only
      rw [a4N]
      refine wpS_bind (wpS_modify (wpS_pure ?_))
      exact⟨_,_,_,_,rfl,⟨g3'.kd,g3'.ar,g3'.pe,g3'.fl⟩,R3,by omega⟩
end
end Tim
namespace Tim
open PySem PyProof.Rows
def SR (κ:KF) (xs:Array Keyed) (lo n:Nat):Prop:=∀ i j,i≤j->j<n->Kk κ xs (lo+i)≤Kk κ xs (lo+j)
def NR (κ:KF) (xs:Array Keyed) (lo n:Nat):Prop:=∀ i j,i≤j->j<n->Kk κ xs (lo+j)≤Kk κ xs (lo+i)
structure Ar (st st':SortSt) (lo:Nat):Prop where
 pm:(arrOf st').Perm (arrOf st)
 pre:∀ i,i<lo->(arrOf st')[i]?=(arrOf st)[i]?
 kd:kindOf st'=kindOf st
 pe:pendingOf st'=pendingOf st
 fl:failedOf st'=failedOf st
section
variable {M:Model} {A:Around} {E:Value->Shared->Prop} {s:Shared} {κ:KF} {k0:SortKind} {a₀:Array Keyed} {st st':SortSt} {lo:Nat}
theorem Ar.refl (st:SortSt) (lo:Nat):Ar st st lo:=⟨Array.Perm.refl _,fun _ _=>rfl,rfl,rfl,rfl⟩
theorem Ar.trans {x y z:SortSt} (p:Ar x y lo) (q:Ar y z lo):Ar x z lo:=⟨q.pm.trans p.pm,fun i h=>(q.pre i h).trans (p.pre i h),q.kd.trans p.kd,q.pe.trans p.pe,q.fl.trans p.fl⟩
theorem Ar.tb (q:Ar st st' lo) (B:TB k0 a₀ st):TB k0 a₀ st':=⟨q.pm.trans B.pm,q.kd.trans B.kd,q.fl.trans B.fl⟩
theorem b2F {xs:Array Keyed} {src d:Nat} (hs:src<xs.size) (hd:d≤src) (k:Nat) :
  Kk κ (bubble xs src d) k=if k=src - d then Kk κ xs src else if src - d<k/\k≤src then Kk κ xs (k - 1) else Kk κ xs k:=by
 have q:=getElem?_bubble hs d hd k
 by_cases h1:k=src - d
 ·rw [if_pos h1] at q ⊢;exact a47 q
 ·rw [if_neg h1] at q ⊢
  by_cases h2:src - d<k/\k≤src
  ·rw [if_pos h2] at q ⊢;exact a47 q
  ·rw [if_neg h2] at q ⊢;exact a47 q
theorem Ar.bub {src d:Nat} (hs:src<(arrOf st).size) (hd:d≤src) (h:lo≤src - d):Ar st (setArr st (bubble (arrOf st) src d)) lo:=
 ⟨bubble_perm _ _ _,fun i hi=>by
  show (bubble (arrOf st) src d)[i]?=_
  rw [getElem?_bubble hs d hd,if_neg (by omega),if_neg (by omega)],rfl,rfl,rfl⟩
theorem b0o {xs:Array Keyed} {i j:Nat} (hj:j≤xs.size) (k:Nat):Kk κ (mirror xs i j ((j - i) / 2)) k=if i≤k/\k<j then Kk κ xs (i+j - 1 - k) else Kk κ xs k:=by
 have q:=getElem?_mirror_all (i:=i) hj k
 by_cases h1:i≤k/\k<j
 ·rw [if_pos h1] at q ⊢;exact a47 q
 ·rw [if_neg h1] at q ⊢;exact a47 q
theorem a49 {xs:Array Keyed} {i j:Nat} (hj:j≤xs.size) (hq:∀ k,i≤k->k<j->Kk κ xs k=Kk κ xs (j - 1)) (k:Nat):Kk κ (mirror xs i j ((j - i) / 2)) k=Kk κ xs k:=by
 rw [b0o hj]
 split
 ·rw [hq (i+j - 1 - k) (by omega) (by omega),hq k (by omega) (by omega)]
 ·rfl
theorem Ar.mir {i j:Nat} (hj:j≤(arrOf st).size) (h:lo≤i):Ar st (setArr st (mirror (arrOf st) i j ((j - i) / 2))) lo:=
 ⟨mirror_perm _ _ _ _,fun k hk=>by
  show (mirror (arrOf st) i j ((j - i) / 2))[k]?=_
  rw [getElem?_mirror_all hj,if_neg (by omega)],rfl,rfl,rfl⟩
theorem b1T {n ok:Nat} {Q:Bool->SortSt->Prop} (L:LtOk M A E s κ k0 a₀) (B:TB k0 a₀ st) (hn:lo+n≤a₀.size) (hok:ok≤n) (hs:SR κ (arrOf st) lo ok)
  (h:∀ st',Ar st st' lo->SR κ (arrOf st') lo n->Q true st'):wpS M A E s (binarySort' lo n ok) Q st:=by
 rw [binarySort'_eq]
 refine wpS_bind (wpS_mono (wpS_forRange (I:=fun k c z=>c=(none,())/\Ar st z lo/\SR κ (arrOf z) lo (min k n)) (Q:=fun c z=>c=(none,())/\Ar st z lo/\SR κ (arrOf z) lo n) ?step ?fin ?init) ?post)
 case post=>
  rintro c z ⟨rfl,r1,r2⟩
  exact wpS_pure (h z r1 r2)
 case init=>
  refine⟨rfl,Ar.refl _ _,fun i j hij hj=>?_⟩
  by_cases h1:ok=0
  ·have:i=j:=by omega
   rw [this];exact Int.le_refl _
  ·exact hs i j hij (by omega)
 case fin=>
  rintro c z ⟨hc,r1,r2⟩
  refine⟨hc,r1,?_⟩
  rwa [show min (max (max ok 1) n) n=n by omega] at r2
 case step=>
  rintro k c z hak hkn ⟨rfl,r1,r2⟩
  rw [show min k n=k by omega] at r2
  have B1:=r1.tb B
  refine wpS_bind (wpS_mono (wpS_forRange (I:=fun x c y=>y=z/\∃ p q,c=(none,p,q)/\p≤q/\q≤k/\q - p≤k - x/\(∀ i,i<p->Kk κ (arrOf z) (lo+i)≤Kk κ (arrOf z) (lo+k))/\(∀ i,q≤i->i<k->Kk κ (arrOf z) (lo+k)<Kk κ (arrOf z) (lo+i)))
   (Q:=fun c y=>y=z/\∃ p q,c=(none,p,q)/\p≤k/\(∀ i,i<p->Kk κ (arrOf z) (lo+i)≤Kk κ (arrOf z) (lo+k))/\(∀ i,p≤i->i<k->Kk κ (arrOf z) (lo+k)<Kk κ (arrOf z) (lo+i))) ?istep ?ifin ?iinit) ?ipost)
  case iinit=>exact⟨rfl,0,k,rfl,by omega,by omega,by omega,fun i hi=>by omega,fun i h1 h2=>by omega⟩
  case ifin=>
   rintro c y ⟨rfl,p,q,rfl,u1,u2,u3,u4,u5⟩
   have:p=q:=by omega
   subst this
   exact⟨rfl,p,p,rfl,u2,u4,u5⟩
  case istep=>
   rintro x c y _ hxk ⟨rfl,p,q,rfl,u1,u2,u3,u4,u5⟩
   dsimp only
   by_cases hge:p≥q
   ·rw [if_pos hge]
    have:p=q:=by omega
    subst this
    exact wpS_pure ⟨rfl,p,p,rfl,u2,u4,u5⟩
   ·rw [if_neg hge]
    refine wpS_bind (a6O L B1 (by omega) (by omega) ?_)
    by_cases hless:Kk κ (arrOf y) (lo+k)<Kk κ (arrOf y) (lo+(p+q) / 2)
    ·simp only [hless,decide_true,if_true]
     refine wpS_pure ⟨rfl,p,(p+q) / 2,rfl,by omega,by omega,by omega,u4,fun i h1 h2=>?_⟩
     exact Int.lt_of_lt_of_le hless (r2 _ _ h1 h2)
    ·simp only [hless,decide_false,Bool.false_eq_true,if_false]
     refine wpS_pure ⟨rfl,(p+q) / 2+1,q,rfl,by omega,by omega,by omega,fun i h1=>?_,u5⟩
     exact Int.le_trans (r2 i ((p+q) / 2) (by omega) (by omega)) (Int.not_lt.mp hless)
  case ipost=>
   rintro c y ⟨rfl,p,q,rfl,u2,u4,u5⟩
   show wpS _ _ _ _ (do moveDown' (lo+k) (lo+p);pure (ForInStep.yield (none,()))) _ _
   rw [moveDown'_eq]
   have hks:lo+k<(arrOf y).size:=by rw [B1.sz];omega
   refine wpS_bind (wpS_modify (wpS_pure ⟨rfl,r1.trans (Ar.bub hks (by omega) (by omega)),?_⟩))
   rw [show min (k+1) n=k+1 by omega]
   intro i j hij hj
   show Kk κ (bubble (arrOf y) (lo+k) (lo+k - (lo+p))) (lo+i)≤Kk κ (bubble (arrOf y) (lo+k) (lo+k - (lo+p))) (lo+j)
   rw [b2F hks (by omega),b2F hks (by omega),show lo+k - (lo+k - (lo+p))=lo+p by omega]
   have ek:∀ t,1≤t->lo+t - 1=lo+(t - 1):=fun t ht=>by omega
   repeat' split
   all_goals first
    | (exfalso;omega)
    | exact Int.le_refl _
    | exact u4 _ (by omega)
    | (rw [ek _ (by omega)];exact u4 _ (by omega))
    | exact Int.le_of_lt (u5 _ (by omega) (by omega))
    | (rw [ek _ (by omega)];exact Int.le_of_lt (u5 _ (by omega) (by omega)))
    | exact r2 _ _ (by omega) (by omega)
    | (rw [ek j (by omega)];exact r2 _ _ (by omega) (by omega))
    | (rw [ek i (by omega)];exact r2 _ _ (by omega) (by omega))
    | (rw [ek i (by omega),ek j (by omega)];exact r2 _ _ (by omega) (by omega))
end
end Tim
namespace Tim
open PySem PyProof.Rows
abbrev U1:=Option (Option Nat)×Nat
abbrev U2:=Option (Option Nat)×Nat×Nat
def rise (lo p nr:Nat):SM U1:=forIn [p:nr] ((none,p):U1) fun _ c=>do
 let x <- ltAt' (lo+c.2) (lo+c.2 - 1)
 match x with
 | some sm=>if sm=true then pure (.done (none,c.2)) else pure (.yield (none,c.2+1))
 | _=>pure (.done (some none,c.2))
def fin3 (lo n nr:Nat):SM (Option Nat):=do
 reverseSlice' lo (lo+n)
 let c <- rise lo n nr
 match c.1 with
 | some r=>pure r
 | none=>pure (some c.2)
def fall (lo n nr:Nat):SM U2:=forIn [n:nr] ((none,n,0):U2) fun _ c=>do
 let x <- ltAt' (lo+c.2.1) (lo+c.2.1 - 1)
 match x with
 | some sm=>
  if sm=true then
   if c.2.2 > 0 then do
    reverseSlice' (lo+c.2.1 - (c.2.2+1)) (lo+c.2.1)
    pure (.yield (none,c.2.1+1,0))
   else pure (.yield (none,c.2.1+1,0))
  else do
   let x <- ltAt' (lo+c.2.1 - 1) (lo+c.2.1)
   match x with
   | some lg=>if lg=true then pure (.done (none,c.2.1,c.2.2)) else pure (.yield (none,c.2.1+1,c.2.2+1))
   | _=>pure (.done (some none,c.2.1,c.2.2))
 | _=>pure (.done (some none,c.2.1,c.2.2))
def part (lo n nr:Nat):SM (Option Nat):=do
 liftM (rule "list.sort.descending-run")
 let c <- fall lo (n+1) nr
 match c.1 with
 | some r=>pure r
 | none=>
  if c.2.2 > 0 then do
   reverseSlice' (lo+c.2.1 - (c.2.2+1)) (lo+c.2.1)
   fin3 lo c.2.1 nr
  else fin3 lo c.2.1 nr
theorem a6a (lo nr:Nat):countRun' lo nr=(do
  let c <- rise lo 1 nr
  match c.1 with
  | some r=>pure r
  | none=>
   if (c.2==nr)=true then pure (some c.2)
   else if c.2 > 1 then do
    let x <- ltAt' lo (lo+c.2 - 1)
    match x with
    | some up=>if up=true then pure (some c.2) else do
      reverseSlice' lo (lo+c.2)
      part lo c.2 nr
    | _=>pure none
   else part lo c.2 nr):=by
 have tl:∀ n,(do
   reverseSlice' lo (lo+n)
   let c <- rise lo n nr
   match c.1 with
   | some r=>pure r
   | none=>pure (some c.2))=fin3 lo n nr:=fun n=>rfl
 rw [countRun'_eq]
 refine bd2 rfl fun c=>?_
 obtain⟨r,n⟩:=c
 have pt:∀ n,part lo n nr=part lo n nr:=fun n=>rfl
 cases r with
 | some r=>rfl
 | none=>
  dsimp only
  split
  ·rfl
  ·split
   ·refine bind_congr fun x=>?_
    cases x with
    | none=>rfl
    | some up=>
     dsimp only
     split
     ·rfl
     ·refine bind_congr fun _=>bind_congr fun _=>bd2 rfl fun c=>?_
      obtain⟨r,n,q⟩:=c
      cases r with
      | some r=>rfl
      | none=>
       dsimp only
       split
       ·refine bind_congr fun _=>bind_congr fun _=>bd2 rfl fun c=>?_
        obtain⟨r,n⟩:=c
        cases r<;>rfl
       ·refine bind_congr fun _=>bd2 rfl fun c=>?_
        obtain⟨r,n⟩:=c
        cases r<;>rfl
   ·refine bind_congr fun _=>bd2 rfl fun c=>?_
    obtain⟨r,n,q⟩:=c
    cases r with
    | some r=>rfl
    | none=>
     dsimp only
     split
     ·refine bind_congr fun _=>bind_congr fun _=>bd2 rfl fun c=>?_
      obtain⟨r,n⟩:=c
      cases r<;>rfl
     ·refine bind_congr fun _=>bd2 rfl fun c=>?_
      obtain⟨r,n⟩:=c
      cases r<;>rfl
section
variable {M:Model} {A:Around} {E:Value->Shared->Prop} {s:Shared} {κ:KF} {k0:SortKind} {a₀:Array Keyed} {st:SortSt} {lo nr:Nat}
theorem b1U {i j:Nat} {α:Type} {f:Unit->SM α} {Q:α->SortSt->Prop} (h:wpS M A E s (f ()) Q (setArr st (mirror (arrOf st) i j ((j - i) / 2)))):wpS M A E s (reverseSlice' i j >>= f) Q st:=by
 rw [reverseSlice'_eq];exact wpS_bind (wpS_modify h)
theorem SR.one {xs:Array Keyed}:SR κ xs lo 1:=fun i j h1 h2=>by
 have:i=j:=by omega
 rw [this];exact Int.le_refl _
theorem SR.snoc {xs:Array Keyed} {n:Nat} (h:SR κ xs lo n) (h1:1≤n) (c:Kk κ xs (lo+n - 1)≤Kk κ xs (lo+n)):SR κ xs lo (n+1):=fun i j hij hj=>by
 by_cases hjn:j<n
 ·exact h i j hij hjn
 ·have e:j=n:=by omega
  subst e
  by_cases e2:i=j
  ·rw [e2];exact Int.le_refl _
  ·refine Int.le_trans (h i (j - 1) (by omega) (by omega)) ?_
   rw [show lo+(j - 1)=lo+j - 1 by omega];exact c
theorem NR.snoc {xs:Array Keyed} {n:Nat} (h:NR κ xs lo n) (h1:1≤n) (c:Kk κ xs (lo+n)≤Kk κ xs (lo+n - 1)):NR κ xs lo (n+1):=fun i j hij hj=>by
 by_cases hjn:j<n
 ·exact h i j hij hjn
 ·have e:j=n:=by omega
  subst e
  by_cases e2:i=j
  ·rw [e2];exact Int.le_refl _
  ·refine Int.le_trans ?_ (h i (j - 1) (by omega) (by omega))
   rw [show lo+(j - 1)=lo+j - 1 by omega];exact c
theorem NR.congr {xs ys:Array Keyed} {n:Nat} (h:NR κ xs lo n) (e:∀ k,Kk κ ys k=Kk κ xs k):NR κ ys lo n:=fun i j h1 h2=>by rw [e,e];exact h i j h1 h2
theorem b2G {p:Nat} {Q:U1->SortSt->Prop} (L:LtOk M A E s κ k0 a₀) (B:TB k0 a₀ st) (hn:lo+nr≤a₀.size) (hp:1≤p) (hpn:p≤nr) (hs:SR κ (arrOf st) lo p)
  (h:∀ n,p≤n->n≤nr->SR κ (arrOf st) lo n->(n=nr\/Kk κ (arrOf st) (lo+n)<Kk κ (arrOf st) (lo+n - 1))->Q (none,n) st):wpS M A E s (rise lo p nr) Q st:=by
 unfold rise
 refine wpS_forRange (I:=fun x c z=>z=st/\c=(none,x)/\SR κ (arrOf st) lo x) ?step ?fin ⟨rfl,rfl,hs⟩
 case fin=>
  rintro c z ⟨rfl,rfl,h2⟩
  rw [show max p nr=nr by omega] at h2 ⊢
  exact h nr hpn (Nat.le_refl _) h2 (.inl rfl)
 case step=>
  rintro x c z hax hxn ⟨rfl,rfl,h2⟩
  dsimp only
  refine wpS_bind (a6O L B (by omega) (by omega) ?_)
  by_cases q:Kk κ (arrOf z) (lo+x)<Kk κ (arrOf z) (lo+x - 1)
  ·simp only [q,decide_true,if_true]
   exact wpS_pure (h x hax (by omega) h2 (.inr q))
  ·simp only [q,decide_false,Bool.false_eq_true,if_false]
   exact wpS_pure ⟨rfl,rfl,h2.snoc (by omega) (Int.not_lt.mp q)⟩
theorem b2H {n:Nat} {Q:Option Nat->SortSt->Prop} (L:LtOk M A E s κ k0 a₀) (B:TB k0 a₀ st) (hn:lo+nr≤a₀.size) (h1:1≤n) (hnn:n≤nr) (hs:NR κ (arrOf st) lo n)
  (h:∀ m z,Ar st z lo->1≤m->m≤nr->SR κ (arrOf z) lo m->Q (some m) z):wpS M A E s (fin3 lo n nr) Q st:=by
 unfold fin3
 have hsz:lo+n≤(arrOf st).size:=by rw [B.sz];omega
 refine b1U ?_
 have r1:Ar st (setArr st (mirror (arrOf st) lo (lo+n) ((lo+n - lo) / 2))) lo:=Ar.mir hsz (Nat.le_refl _)
 refine wpS_bind (b2G L (r1.tb B) hn h1 hnn ?_ fun m m1 m2 m3 _=>wpS_pure (h m _ r1 (by omega) m2 m3))
 intro i j hij hj
 show Kk κ (mirror (arrOf st) lo (lo+n) ((lo+n - lo) / 2)) (lo+i)≤Kk κ (mirror (arrOf st) lo (lo+n) ((lo+n - lo) / 2)) (lo+j)
 rw [b0o hsz,b0o hsz,if_pos (by omega),if_pos (by omega),show lo+(lo+n) - 1 - (lo+i)=lo+(n - 1 - i) by omega,show lo+(lo+n) - 1 - (lo+j)=lo+(n - 1 - j) by omega]
 exact hs _ _ (by omega) (by omega)
theorem b5Z {n:Nat} {Q:U2->SortSt->Prop} (L:LtOk M A E s κ k0 a₀) (B:TB k0 a₀ st) (hn:lo+nr≤a₀.size) (h1:1≤n) (hnn:n≤nr) (hs:NR κ (arrOf st) lo n)
  (h:∀ m e z,Ar st z lo->n≤m->m≤nr->NR κ (arrOf z) lo m->e+1≤m->(∀ i,lo+m - (e+1)≤i->i<lo+m->Kk κ (arrOf z) i=Kk κ (arrOf z) (lo+m - 1))->Q (none,m,e) z):wpS M A E s (fall lo n nr) Q st:=by
 unfold fall
 refine wpS_forRange (I:=fun x c z=>∃ e,c=(none,x,e)/\Ar st z lo/\NR κ (arrOf z) lo x/\e+1≤x/\(∀ i,lo+x - (e+1)≤i->i<lo+x->Kk κ (arrOf z) i=Kk κ (arrOf z) (lo+x - 1))) ?step ?fin ⟨0,rfl,Ar.refl _ _,hs,by omega,fun i h1 h2=>by congr 1;omega⟩
 case fin=>
  rintro c z ⟨e,rfl,r1,h2,h3,h4⟩
  rw [show max n nr=nr by omega] at h2 h3 h4 ⊢
  exact h nr e z r1 hnn (Nat.le_refl _) h2 h3 h4
 case step=>
  rintro x c z hax hxn ⟨e,rfl,r1,h2,h3,h4⟩
  dsimp only
  have B1:=r1.tb B
  have hsz:lo+x≤(arrOf z).size:=by rw [B1.sz];omega
  refine wpS_bind (a6O L B1 (by omega) (by omega) ?_)
  by_cases q:Kk κ (arrOf z) (lo+x)<Kk κ (arrOf z) (lo+x - 1)
  ·simp only [q,decide_true,if_true]
   have h5:=h2.snoc (by omega) (Int.le_of_lt q)
   by_cases he:e > 0
   ·rw [if_pos he]
    exact b1U (wpS_pure ⟨0,rfl,r1.trans (Ar.mir hsz (by omega)),h5.congr (a49 hsz h4),by omega,fun i h1 h2=>by congr 1;omega⟩)
   ·rw [if_neg he]
    exact wpS_pure ⟨0,rfl,r1,h5,by omega,fun i h1 h2=>by congr 1;omega⟩
  ·simp only [q,decide_false,Bool.false_eq_true,if_false]
   refine wpS_bind (a6O L B1 (by omega) (by omega) ?_)
   by_cases q2:Kk κ (arrOf z) (lo+x - 1)<Kk κ (arrOf z) (lo+x)
   ·simp only [q2,decide_true,if_true]
    exact wpS_pure (h x e z r1 hax (by omega) h2 h3 h4)
   ·simp only [q2,decide_false,Bool.false_eq_true,if_false]
    have he:Kk κ (arrOf z) (lo+x)=Kk κ (arrOf z) (lo+x - 1):=by omega
    refine wpS_pure ⟨e+1,rfl,r1,h2.snoc (by omega) (by omega),by omega,fun i h1 h2=>?_⟩
    rw [show lo+(x+1) - 1=lo+x by omega]
    by_cases hix:i=lo+x
    ·rw [hix]
    ·rw [he];exact h4 i (by omega) (by omega)
theorem b2I {n:Nat} {Q:Option Nat->SortSt->Prop} (L:LtOk M A E s κ k0 a₀) (B:TB k0 a₀ st) (hn:lo+nr≤a₀.size) (hnn:n+1≤nr) (hs:NR κ (arrOf st) lo (n+1))
  (h:∀ m z,Ar st z lo->1≤m->m≤nr->SR κ (arrOf z) lo m->Q (some m) z):wpS M A E s (part lo n nr) Q st:=by
 unfold part
 refine a5I ?_
 refine wpS_bind (b5Z L B hn (by omega) hnn hs fun m e z r1 m1 m2 m3 m4 m5=>?_)
 dsimp only
 have B1:=r1.tb B
 have hsz:lo+m≤(arrOf z).size:=by rw [B1.sz];omega
 by_cases he:e > 0
 ·rw [if_pos he]
  have r2:Ar st (setArr z (mirror (arrOf z) (lo+m - (e+1)) (lo+m) ((lo+m - (lo+m - (e+1))) / 2))) lo:=r1.trans (Ar.mir hsz (by omega))
  exact b1U (b2H L (r2.tb B) hn (by omega) m2 (m3.congr (a49 hsz m5)) fun k w r3=>h k w (r2.trans r3))
 ·rw [if_neg he]
  exact b2H L B1 hn (by omega) m2 m3 fun k w r3=>h k w (r1.trans r3)
theorem b3A {Q:Option Nat->SortSt->Prop} (L:LtOk M A E s κ k0 a₀) (B:TB k0 a₀ st) (hn:lo+nr≤a₀.size) (h1:1≤nr)
  (h:∀ m z,Ar st z lo->1≤m->m≤nr->SR κ (arrOf z) lo m->Q (some m) z):wpS M A E s (countRun' lo nr) Q st:=by
 rw [a6a]
 refine wpS_bind (b2G L B hn (Nat.le_refl 1) h1 SR.one fun n n1 n2 n3 n4=>?_)
 dsimp only
 by_cases hnn:n=nr
 ·rw [if_pos (by simpa using hnn)]
  exact wpS_pure (h n st (Ar.refl _ _) n1 n2 n3)
 ·rw [if_neg (by simpa using hnn)]
  have hlt:=n4.resolve_left hnn
  have hsz:lo+n≤(arrOf st).size:=by rw [B.sz];omega
  by_cases hgt:n > 1
  ·rw [if_pos hgt]
   refine wpS_bind (a6O L B (by omega) (by omega) ?_)
   by_cases q:Kk κ (arrOf st) lo<Kk κ (arrOf st) (lo+n - 1)
   ·simp only [q,decide_true,if_true]
    exact wpS_pure (h n st (Ar.refl _ _) n1 n2 n3)
   ·simp only [q,decide_false,Bool.false_eq_true,if_false]
    have hall:∀ k,lo≤k->k<lo+n->Kk κ (arrOf st) k=Kk κ (arrOf st) (lo+n - 1):=fun k k1 k2=>by
     have a1:=n3 0 (k - lo) (by omega) (by omega)
     have a2:=n3 (k - lo) (n - 1) (by omega) (by omega)
     rw [show lo+(k - lo)=k by omega] at a1 a2
     rw [show lo+(n - 1)=lo+n - 1 by omega] at a2
     rw [Nat.add_zero] at a1
     omega
    have r2:Ar st (setArr st (mirror (arrOf st) lo (lo+n) ((lo+n - lo) / 2))) lo:=Ar.mir hsz (Nat.le_refl _)
    have hN:NR κ (arrOf st) lo (n+1):=by
     refine NR.snoc (fun i j hij hj=>?_) (by omega) (Int.le_of_lt hlt)
     rw [hall (lo+i) (by omega) (by omega),hall (lo+j) (by omega) (by omega)];exact Int.le_refl _
    exact b1U (b2I L (r2.tb B) hn (by omega) (hN.congr (a49 hsz hall)) fun k w r3=>h k w (r2.trans r3))
  ·rw [if_neg hgt]
   have:n=1:=by omega
   subst this
   refine b2I L B hn (by omega) ?_ h
   refine NR.snoc (fun i j hij hj=>?_) (by omega) (Int.le_of_lt hlt)
   have:i=j:=by omega
   rw [this];exact Int.le_refl _
end
end Tim
namespace Tim
open PySem PyProof.Rows
theorem a7J (i:Nat):mergeAt' i=(do
 let z <- get
 let (some (p,n,w),some (q,m,_)):=((pendingOf z)[i]?,(pendingOf z)[i+1]?) | unsupported "internal:list.sort.pending"
 set (setPending z (((pendingOf z).setIfInBounds i (p,n+m,w)).eraseIdxIfInBounds (i+1)))
 let some k <- a2h false (<- elem' (arrOf z) q) (arrOf z) p n 0 | return false
 let (p,n):=(p+k,n - k)
 if n==0 then return true
 let some m <- a2h true (<- elem' (arrOf z) (p+n - 1)) (arrOf z) q m (m - 1) | return false
 if m==0 then return true
 let x:=(arrOf z).extract p q
 let y:=(arrOf z).extract q (q+m)
 let mg <- if n≤m then a4O x y else a59 x y
 modify fun z=>setArr z (mg.toList.zipIdx.foldl (fun a (v,j)=>a.setIfInBounds (p+j) v) (arrOf z))
 return (failedOf (<- get)).isNone):=rfl
theorem a8m (bs:Nat):∀ (l:List Keyed) (k:Nat) (xs:Array Keyed),bs+k+l.length≤xs.size ->
  ((l.zipIdx k).foldl (fun a (pj:Keyed×Nat)=>a.setIfInBounds (bs+pj.2) pj.1) xs).toList=xs.toList.take (bs+k)++(l++xs.toList.drop (bs+k+l.length))
 | [],k,xs,_=>by simp
 | x::l,k,xs,h=>by
  rw [List.length_cons] at h
  rw [List.zipIdx_cons,List.foldl_cons,a8m bs l (k+1) _ (by rw [Array.size_setIfInBounds];omega)]
  have e:(xs.setIfInBounds (bs+k) x).toList=xs.toList.set (bs+k) x:=by simp
  show (xs.setIfInBounds (bs+k) x).toList.take _++(l++(xs.setIfInBounds (bs+k) x).toList.drop _)=_
  rw [e,show bs+(k+1)=bs+k+1 by omega,List.drop_set_of_lt (by omega),List.length_cons,show bs+k+1+l.length=bs+k+(l.length+1) by omega]
  have:(xs.toList.set (bs+k) x).take (bs+k+1)=xs.toList.take (bs+k)++[x]:=by
   rw [List.take_add_one,List.take_set_of_le (Nat.le_refl _),List.getElem?_set_self (by rw [a1N];omega)]
   rfl
  rw [this]
  simp
section
variable {M:Model} {A:Around} {E:Value->Shared->Prop} {s:Shared} {κ:KF} {k0:SortKind} {a₀:Array Keyed} {st:SortSt}
theorem b70 {z:SortSt} {Q:PUnit->SortSt->Prop} (h:Q ⟨⟩ z):wpS M A E s (set z:SM PUnit) Q st:=by
 unfold wpS;rw [StateT.run_set];exact wpAny_pure ⟨rfl,h⟩
theorem b2J {xs:Array Keyed} {P X R:List Keyed} (e:xs.toList=P++(X++R)) {i:Nat} (hi:i<X.length):Kk κ xs (P.length+i)=κ X[i]:=by
 refine a48 ?_
 rw [e,List.getElem?_append_right (by omega),List.getElem?_append_left (by omega),show P.length+i - P.length=i by omega]
 exact List.getElem?_eq_getElem hi
theorem a3L {X:List Keyed} (h:Srt κ X) {i j:Nat} (hij:i≤j) (hj:j<X.length):κ (X[i]'(by omega))≤κ X[j]:=by
 by_cases e:i=j
 ·subst e;exact Int.le_refl _
 ·exact List.pairwise_iff_getElem.mp h i j (by omega) hj (by omega)
theorem a8n {X:List Keyed} {x:Keyed} (h:x∈X):∃ i,∃ (hi:i<X.length),X[i]=x:=List.mem_iff_getElem.mp h
theorem a6R {X:List Keyed} {x:Keyed} {k:Nat} (h:x∈X.take k):∃ i,∃ (hi:i<X.length),i<k/\X[i]=x:=by
 obtain⟨q,h1,h2⟩:=a3s h
 obtain⟨h3,h4⟩:=List.getElem?_eq_some_iff.mp h2
 exact⟨q,h3,h1,h4⟩
theorem a8o {X:List Keyed} {x:Keyed} {k:Nat} (h:x∈X.drop k):∃ i,∃ (hi:i<X.length),k≤i/\X[i]=x:=by
 obtain⟨q,h1,h2,h3⟩:=a3r h
 obtain⟨h4,h5⟩:=List.getElem?_eq_some_iff.mp h3
 exact⟨q,h4,h1,h5⟩
theorem b0p {i sa na pw sb nb pw2:Nat} {P X Y S:List Keyed} {Q:Bool->SortSt->Prop} (L:LtOk M A E s κ k0 a₀) (B:TB k0 a₀ st) (e1:(pendingOf st)[i]?=some (sa,na,pw)) (e2:(pendingOf st)[i+1]?=some (sb,nb,pw2))
  (ea:(arrOf st).toList=P++(X++(Y++S))) (hP:P.length=sa) (hX:X.length=na) (hsb:sb=sa+na) (hY:Y.length=nb) (sX:Srt κ X) (sY:Srt κ Y) (h1:0<na) (h2:0<nb)
  (h:∀ st' Z,TB k0 a₀ st'->(arrOf st').toList=P++(Z++S)->Z.length=na+nb->Srt κ Z->pendingOf st'=((pendingOf st).setIfInBounds i (sa,na+nb,pw)).eraseIdxIfInBounds (i+1)->Q true st'):wpS M A E s (mergeAt' i) Q st:=by
 have hsz:(arrOf st).size=sa+na+nb+S.length:=by
  rw [<- a1N,ea];simp;omega
 have hmem:∀ p∈(arrOf st).toList,p∈a₀.toList:=fun p hp=>(Array.perm_iff_toList_perm.mp B.pm).mem_iff.mp hp
 have eb:(arrOf st).toList=(P++X)++(Y++S):=by rw [ea,List.append_assoc]
 have kX:∀ i,(hi:i<X.length)->Kk κ (arrOf st) (sa+i)=κ X[i]:=fun i hi=>by rw [<- hP];exact b2J ea hi
 have kY:∀ i,(hi:i<Y.length)->Kk κ (arrOf st) (sb+i)=κ Y[i]:=fun i hi=>by
  rw [hsb,<- hP,<- hX,<- List.length_append];exact b2J eb hi
 rw [a7J]
 refine wpS_bind (wpS_get ?_)
 rw [e1,e2]
 dsimp only
 refine wpS_bind (b70 ?_)
 have B1:TB k0 a₀ (setPending st (((pendingOf st).setIfInBounds i (sa,na+nb,pw)).eraseIdxIfInBounds (i+1))):=⟨B.pm,B.kd,B.fl⟩
 have hs1:arrOf (setPending st (((pendingOf st).setIfInBounds i (sa,na+nb,pw)).eraseIdxIfInBounds (i+1)))=arrOf st:=rfl
 have hp1:pendingOf (setPending st (((pendingOf st).setIfInBounds i (sa,na+nb,pw)).eraseIdxIfInBounds (i+1)))=((pendingOf st).setIfInBounds i (sa,na+nb,pw)).eraseIdxIfInBounds (i+1):=rfl
 generalize setPending st (((pendingOf st).setIfInBounds i (sa,na+nb,pw)).eraseIdxIfInBounds (i+1))=st1 at B1 hs1 hp1
 have hy0:sb<(arrOf st).size:=by omega
 have ey:(arrOf st)[sb]?=some (arrOf st)[sb]:=getElem?_pos ..
 have hky:κ (arrOf st)[sb]=κ Y[0]:=by
  have:=kY 0 (by omega)
  rw [Nat.add_zero,a7F ey] at this
  exact this
 have hmy:(arrOf st)[sb]∈a₀.toList:=hmem _ (by simp)
 refine wpS_bind (a1x ey (wpS_bind ?_))
 refine a29 L B1.kd hmy hmem (by omega) (by omega) (fun p q hp hq=>by rw [kX p (by omega),kX q (by omega)];exact a3L sX hp (by omega)) fun k hkn hlt hge=>?_
 dsimp only
 have lo:∀ q,(hq:q<X.length)->q<k->κ X[q]≤κ Y[0]:=fun q hq hqk=>by
  have:=hlt q hqk
  rw [kX q hq,hky] at this
  simpa [bq] using this
 have up:∀ q,(hq:q<X.length)->k≤q->κ Y[0]<κ X[q]:=fun q hq hqk=>by
  have:=hge q hqk (by omega)
  rw [kX q hq,hky] at this
  simpa [bq] using this
 have whole:(∀ x∈X,∀ y∈Y,κ x≤κ y)->Q true st1:=fun hxy=>by
  refine h st1 (X++Y) B1 (by rw [hs1,ea,List.append_assoc]) (by rw [List.length_append,hX,hY]) ?_ hp1
  exact List.pairwise_append.mpr ⟨sX,sY,hxy⟩
 by_cases c1:na - k=0
 ·rw [if_pos (by simpa using c1)]
  refine wpS_pure (whole fun x hx y hy=>?_)
  obtain⟨q,hq,rfl⟩:=a8n hx
  obtain⟨r,hr,rfl⟩:=a8n hy
  exact Int.le_trans (lo q hq (by omega)) (a3L sY (Nat.zero_le _) hr)
 rw [if_neg (by simpa using c1)]
 have hl:sa+k+(na - k) - 1<(arrOf st).size:=by omega
 have ex:(arrOf st)[sa+k+(na - k) - 1]?=some (arrOf st)[sa+k+(na - k) - 1]:=getElem?_pos ..
 have hkx:κ (arrOf st)[sa+k+(na - k) - 1]=κ X[na - 1]:=by
  have:=kX (na - 1) (by omega)
  rw [show sa+(na - 1)=sa+k+(na - k) - 1 by omega,a7F ex] at this
  exact this
 have hmx:(arrOf st)[sa+k+(na - k) - 1]∈a₀.toList:=hmem _ (by simp)
 refine wpS_bind (a1x ex (wpS_bind ?_))
 refine a29 L B1.kd hmx hmem (by omega) (by omega) (fun p q hp hq=>by rw [kY p (by omega),kY q (by omega)];exact a3L sY hp (by omega)) fun m hmn hlt2 hge2=>?_
 dsimp only
 have lo2:∀ q,(hq:q<Y.length)->q<m->κ Y[q]<κ X[na - 1]:=fun q hq hqk=>by
  have:=hlt2 q hqk
  rw [kY q hq,hkx] at this
  simpa [bq] using this
 have up2:∀ q,(hq:q<Y.length)->m≤q->κ X[na - 1]≤κ Y[q]:=fun q hq hqk=>by
  have:=hge2 q hqk (by omega)
  rw [kY q hq,hkx] at this
  simpa [bq] using this
 by_cases c2:m=0
 ·rw [if_pos (by simpa using c2)]
  refine wpS_pure (whole fun x hx y hy=>?_)
  obtain⟨q,hq,rfl⟩:=a8n hx
  obtain⟨r,hr,rfl⟩:=a8n hy
  exact Int.le_trans (a3L sX (by omega) (by omega)) (up2 r hr (by omega))
 rw [if_neg (by simpa using c2)]
 have lx:((arrOf st).extract (sa+k) sb).toList=X.drop k:=by
  rw [Array.toList_extract,List.extract_eq_take_drop,ea,List.drop_append,<- hP,List.drop_eq_nil_of_le (by omega),List.nil_append,show P.length+k - P.length=k by omega,List.drop_append_of_le_length (by omega),List.take_append_of_le_length (by rw [List.length_drop];omega),List.take_of_length_le (by rw [List.length_drop];omega)]
 have ly:((arrOf st).extract sb (sb+m)).toList=Y.take m:=by
  rw [Array.toList_extract,List.extract_eq_take_drop,eb,List.drop_append,List.drop_eq_nil_of_le (by rw [List.length_append];omega),List.nil_append,show sb - (P++X).length=0 by rw [List.length_append];omega,List.drop_zero,List.take_append_of_le_length (by omega),show sb+m - sb=m by omega]
 have C:MC M A E s κ k0 a₀ ((arrOf st).extract (sa+k) sb) ((arrOf st).extract sb (sb+m)):=by
  refine⟨L,fun p hp=>?_,fun p hp=>?_,?_,?_,?_,?_,fun y hy=>?_,fun z hz y hy=>?_⟩
  ·rw [lx] at hp;exact hmem p (by rw [ea];simp [List.mem_of_mem_drop hp])
  ·rw [ly] at hp;exact hmem p (by rw [ea];simp [List.mem_of_mem_take hp])
  ·rw [lx];exact a11 sX k
  ·rw [ly];exact a2C sY m
  ·rw [<- a1N,lx,List.length_drop];omega
  ·rw [<- a1N,ly,List.length_take];omega
  ·rw [lx] at hy
   obtain⟨q,hq,hk,rfl⟩:=a8o hy
   rw [a48 (z:=Y[0]) (by rw [ly,List.getElem?_take,if_pos (by omega)];exact List.getElem?_eq_getElem _)]
   exact Int.le_of_lt (up q hq hk)
  ·rw [ly] at hy
   rw [lx,List.length_drop,List.getElem?_drop,show k+(X.length - k - 1)=na - 1 by omega,List.getElem?_eq_getElem (show na - 1<X.length by omega)] at hz
   cases hz
   obtain⟨q,hq,hk,rfl⟩:=a6R hy
   exact Int.le_of_lt (lo2 q hq hk)
 have fin:∀ (r:Array Keyed) (st2:SortSt),SG st1 st2->Mgd κ ((arrOf st).extract (sa+k) sb).toList ((arrOf st).extract sb (sb+m)).toList r.toList ->
   wpS M A E s (do
    modify fun z=>setArr z (r.toList.zipIdx.foldl (fun a (pj:Keyed×Nat)=>a.setIfInBounds (sa+k+pj.2) pj.1) (arrOf z))
    return (failedOf (<- get)).isNone) Q st2:=by
  intro r st2 g2 mg
  rw [lx,ly] at mg
  have hrl:r.toList.length=na - k+m:=by rw [mg.1.length_eq,List.length_append,List.length_drop,List.length_take];omega
  refine wpS_bind (wpS_modify (wpS_bind (wpS_get (wpS_pure ?_))))
  have ha2:arrOf st2=arrOf st:=g2.ar.trans hs1
  have ef:=a8m (sa+k) r.toList 0 (arrOf st2) (by rw [ha2];omega)
  have el:(r.toList.zipIdx.foldl (fun a (pj:Keyed×Nat)=>a.setIfInBounds (sa+k+pj.2) pj.1) (arrOf st2)).toList=P++((X.take k++r.toList++Y.drop m)++S):=by
   rw [ef,ha2,Nat.add_zero,hrl]
   have t1:(arrOf st).toList.take (sa+k)=P++X.take k:=by
    rw [ea,List.take_append,List.take_of_length_le (by omega),<- hP,show P.length+k - P.length=k by omega,List.take_append_of_le_length (by omega)]
   have t2:(arrOf st).toList.drop (sa+k+(na - k+m))=Y.drop m++S:=by
    rw [eb,List.drop_append,List.drop_eq_nil_of_le (by rw [List.length_append];omega),List.nil_append,show sa+k+(na - k+m) - (P++X).length=m by rw [List.length_append];omega,List.drop_append_of_le_length (by omega)]
   rw [t1,t2]
   simp
  generalize hgz:r.toList.zipIdx.foldl (fun a (pj:Keyed×Nat)=>a.setIfInBounds (sa+k+pj.2) pj.1) (arrOf st2)=ar at el
  have hperm:(X.take k++r.toList++Y.drop m).Perm (X++Y):=by
   have:(X.take k++r.toList++Y.drop m).Perm (X.take k++(X.drop k++Y.take m)++Y.drop m):=(List.Perm.append_left _ mg.1).append_right _
   refine this.trans ?_
   have e:X.take k++(X.drop k++Y.take m)++Y.drop m=X++Y:=by
    rw [<- List.append_assoc,List.take_append_drop,List.append_assoc,List.take_append_drop]
   rw [e]
  have pm:ar.Perm (arrOf st):=by
   rw [Array.perm_iff_toList_perm,el,ea]
   refine List.Perm.append_left _ ?_
   rw [<- List.append_assoc (as:=X)]
   exact hperm.append_right _
  have hfl:failedOf (setArr st2 ar)=none:=g2.fl.trans B1.fl
  have B2:TB k0 a₀ (setArr st2 ar):=⟨pm.trans B.pm,g2.kd.trans B1.kd,hfl⟩
  rw [hfl]
  refine h _ _ B2 el (by rw [hperm.length_eq,List.length_append,hX,hY]) ?_ (g2.pe.trans hp1)
  have hr:∀ w∈r.toList,w∈X.drop k\/w∈Y.take m:=fun w hw=>List.mem_append.mp (mg.1.mem_iff.mp hw)
  refine List.pairwise_append.mpr ⟨List.pairwise_append.mpr ⟨a2C sX k,mg.2,fun x hx w hw=>?_⟩,a11 sY m,fun x hx y hy=>?_⟩
  ·obtain⟨q,hq,hk,rfl⟩:=a6R hx
   rcases hr w hw with hw | hw
   ·obtain⟨p,hp,hk2,rfl⟩:=a8o hw
    exact a3L sX (by omega) hp
   ·obtain⟨p,hp,hk2,rfl⟩:=a6R hw
    exact Int.le_trans (lo q hq hk) (a3L sY (Nat.zero_le _) hp)
  ·obtain⟨p,hp,hk2,rfl⟩:=a8o hy
   rcases List.mem_append.mp hx with hx | hx
   ·obtain⟨q,hq,hk,rfl⟩:=a6R hx
    exact Int.le_trans (lo q hq hk) (a3L sY (Nat.zero_le _) hp)
   ·rcases hr x hx with hx | hx
    ·obtain⟨q,hq,hk,rfl⟩:=a8o hx
     exact Int.le_trans (a3L sX (by omega) (by omega)) (up2 p hp hk2)
    ·obtain⟨q,hq,hk,rfl⟩:=a6R hx
     exact a3L sY (by omega) hp
 split
 ·exact wpS_bind (b0m C B1.kd fun r st2 g2 mg=>fin r st2 g2 mg)
 ·exact wpS_bind (b0n C B1.kd fun r st2 g2 mg=>fin r st2 g2 mg)
end
end Tim
namespace Tim
open PySem PyProof.Rows
def pr (p:Nat×Nat×Nat):Nat×Nat:=(p.1,p.2.1)
def offs:Nat->List (List Keyed)->List (Nat×Nat)
 | _,[]=>[]
 | o,R::Rs=>(o,R.length)::offs (o+R.length) Rs
theorem a2D:∀ (o:Nat) (U V:List (List Keyed)),offs o (U++V)=offs o U++offs (o+U.flatten.length) V
 | o,[],V=>by simp [offs]
 | o,R::U,V=>by
  rw [List.cons_append,offs,offs,a2D,List.cons_append,List.flatten_cons,List.length_append,Nat.add_assoc]
theorem a1T:∀ (o:Nat) (U:List (List Keyed)),(offs o U).length=U.length
 | _,[]=>rfl
 | o,R::U=>by rw [offs,List.length_cons,List.length_cons,a1T]
theorem a6S {α:Type} {q p1 p2:α} {pv:List α}:∀ pu:List α,((pu++p1::p2::pv).set pu.length q).eraseIdx (pu.length+1)=pu++q::pv
 | []=>rfl
 | x::pu=>by rw [List.cons_append,List.length_cons,List.set_cons_succ,List.eraseIdx_cons_succ,a6S pu,List.cons_append]
theorem a6T {α β:Type} {f:α->β}:∀ (l:List α) (k:Nat),(l.map f).eraseIdx k=(l.eraseIdx k).map f
 | [],_=>by simp
 | x::l,0=>by simp
 | x::l,k+1=>by rw [List.map_cons,List.eraseIdx_cons_succ,List.eraseIdx_cons_succ,List.map_cons,a6T l k]
theorem a8p:∀ {Rs:List (List Keyed)},(∀ R∈Rs,R≠[])->Rs.length≤Rs.flatten.length
 | [],_=>by simp
 | R::Rs,h=>by
  have:=a8p fun R hR=>h R (.tail _ hR)
  have h1:=List.length_pos_iff.mpr (h R (.head _))
  rw [List.flatten_cons,List.length_append,List.length_cons]
  omega
def Runs (κ:KF) (st:SortSt) (lo:Nat) (rest:List Keyed):Prop:=∃ Rs:List (List Keyed),(arrOf st).toList=Rs.flatten++rest/\(∀ R∈Rs,Srt κ R/\R≠[])/\Rs.flatten.length=lo/\(pendingOf st).toList.map pr=offs 0 Rs
section
variable {M:Model} {A:Around} {E:Value->Shared->Prop} {s:Shared} {κ:KF} {k0:SortKind} {a₀:Array Keyed} {st:SortSt}
theorem a3t {i lo:Nat} {rest:List Keyed} {Q:Bool->SortSt->Prop} (L:LtOk M A E s κ k0 a₀) (B:TB k0 a₀ st) (R:Runs κ st lo rest) (hi:i+1<(pendingOf st).size)
  (h:∀ st',TB k0 a₀ st'->Runs κ st' lo rest->(pendingOf st').size+1=(pendingOf st).size->Q true st'):wpS M A E s (mergeAt' i) Q st:=by
 obtain⟨Rs,e1,e2,e3,e4⟩:=R
 have hlen:(pendingOf st).size=Rs.length:=by
  have:=congrArg List.length e4
  rw [List.length_map,a1T] at this
  simpa using this
 obtain⟨U,X,Y,V,rfl,hU⟩:∃ U X Y V,Rs=U++X::Y::V/\U.length=i:=by
  refine⟨Rs.take i,Rs[i]'(by omega),Rs[i+1]'(by omega),Rs.drop (i+2),?_,by rw [List.length_take];omega⟩
  rw [<- List.drop_eq_getElem_cons,<- List.drop_eq_getElem_cons,List.take_append_drop]
 have sX:=e2 X (by simp)
 have sY:=e2 Y (by simp)
 rw [a2D] at e4
 simp only [offs,Nat.zero_add] at e4
 have get:∀ (j:Nat) (x:Nat×Nat),(offs 0 U++(U.flatten.length,X.length)::(U.flatten.length+X.length,Y.length)::offs (U.flatten.length+X.length+Y.length) V)[j]?=some x->∃ w,(pendingOf st)[j]?=some (x.1,x.2,w):=fun j x hx=>by
  rw [<- e4,List.getElem?_map] at hx
  rw [<- Array.getElem?_toList]
  cases e:(pendingOf st).toList[j]? with
  | none=>rw [e] at hx;cases hx
  | some p=>
   rw [e] at hx
   cases hx
   exact⟨p.2.2,rfl⟩
 have hol:(offs 0 U).length=i:=by rw [a1T,hU]
 obtain⟨w1,g1⟩:=get i (U.flatten.length,X.length) (by rw [List.getElem?_append_right (by omega),hol,Nat.sub_self];rfl)
 obtain⟨w2,g2⟩:=get (i+1) (U.flatten.length+X.length,Y.length) (by rw [List.getElem?_append_right (by omega),hol,show i+1 - i=1 by omega];rfl)
 have ea:(arrOf st).toList=U.flatten++(X++(Y++(V.flatten++rest))):=by rw [e1];simp
 refine b0p L B g1 g2 ea rfl rfl rfl rfl sX.1 sY.1 (List.length_pos_iff.mpr sX.2) (List.length_pos_iff.mpr sY.2) fun st' Z B' z1 z2 z3 z4=>?_
 have hpe:(pendingOf st').toList.map pr=offs 0 (U++Z::V):=by
  rw [z4,Array.toList_eraseIdxIfInBounds,Array.toList_setIfInBounds,<- a6T,List.map_set,e4,<- hol,a6S,a2D]
  simp only [offs,Nat.zero_add,pr]
  rw [z2,Nat.add_assoc]
 refine h st' B' ⟨U++Z::V,by rw [z1];simp,fun R hR=>?_,?_,hpe⟩ ?_
 ·rcases List.mem_append.mp hR with hR | hR
  ·exact e2 R (by simp [hR])
  ·rcases List.mem_cons.mp hR with rfl | hR
   ·exact⟨z3,fun z=>by rw [z] at z2;have:=List.length_pos_iff.mpr sX.2;simp at z2;omega⟩
   ·exact e2 R (by simp [hR])
 ·rw [<- e3]
  simp
  omega
 ·have:=congrArg List.length hpe
  rw [List.length_map,a1T] at this
  rw [hlen]
  simp at this ⊢
  omega
theorem Runs.ar {st':SortSt} {lo n:Nat} {rest:List Keyed} (R:Runs κ st lo rest) (q:Ar st st' lo) (hs:SR κ (arrOf st') lo n) (hn:lo+n≤(arrOf st').size) (h1:1≤n):∃ X rest',Srt κ X/\X.length=n/\Runs κ st' lo (X++rest'):=by
 obtain⟨Rs,e1,e2,e3,e4⟩:=R
 have hsz:(arrOf st').size=(arrOf st).size:=q.pm.size_eq
 have htake:(arrOf st').toList.take lo=Rs.flatten:=by
  refine List.ext_getElem? fun i=>?_
  by_cases hi:i<lo
  ·rw [List.getElem?_take,if_pos hi,Array.getElem?_toList,q.pre i hi,<- Array.getElem?_toList,e1,List.getElem?_append_left (by omega)]
  ·rw [List.getElem?_eq_none (by rw [List.length_take];omega),List.getElem?_eq_none (by omega)]
 refine⟨((arrOf st').toList.drop lo).take n,((arrOf st').toList.drop lo).drop n,?_,by rw [List.length_take,List.length_drop,a1N];omega,Rs,?_,e2,e3,by rw [q.pe];exact e4⟩
 ·refine List.pairwise_iff_getElem.mpr fun i j hi hj hij=>?_
  rw [List.length_take,List.length_drop,a1N] at hi hj
  have:=hs i j (by omega) (by omega)
  rw [a1S (show lo+i<(arrOf st').size by omega),a1S (show lo+j<(arrOf st').size by omega)] at this
  simpa using this
 ·rw [List.take_append_drop,<- htake,List.take_append_drop]
theorem Runs.push {st':SortSt} {lo n:Nat} {X rest:List Keyed} (R:Runs κ st lo (X++rest)) (sX:Srt κ X) (hX:X.length=n) (h1:1≤n) (ha:arrOf st'=arrOf st) (hp:(pendingOf st').toList.map pr=(pendingOf st).toList.map pr++[(lo,n)]):Runs κ st' (lo+n) rest:=by
 obtain⟨Rs,e1,e2,e3,e4⟩:=R
 refine⟨Rs++[X],by rw [ha,e1];simp,fun R hR=>?_,by simp [e3,hX],?_⟩
 ·rcases List.mem_append.mp hR with hR | hR
  ·exact e2 R hR
  ·rw [List.mem_singleton.mp hR];exact⟨sX,fun z=>by rw [z] at hX;simp at hX;omega⟩
 ·rw [hp,e4,a2D,Nat.zero_add,e3]
  simp [offs,hX]
theorem a84 {Q:Unit->SortSt->Prop} (L:LtOk M A E s κ k0 a₀) (B:TB k0 a₀ st) (hp:pendingOf st=#[])
  (h:∀ st',TB k0 a₀ st'->Srt κ (arrOf st').toList->Q () st'):wpS M A E s sortRuns' Q st:=by
 rw [sortRuns'_eq]
 refine wpS_bind (wpS_get ?_)
 dsimp only
 rw [B.sz]
 generalize minRun' a₀.size a₀.size 0=mr
 refine wpS_bind (wpS_mono (wpS_forRange (I:=fun x c z=>∃ lo rest,c=(none,lo)/\TB k0 a₀ z/\Runs κ z lo rest/\x≤lo)
  (Q:=fun c z=>∃ lo rest,c=(none,lo)/\TB k0 a₀ z/\Runs κ z lo rest/\a₀.size≤lo) ?step ?fin ⟨0,(arrOf st).toList,rfl,B,⟨[],by simp,fun R h=>by simp at h,rfl,by rw [hp];rfl⟩,Nat.le_refl _⟩) ?post)
 case fin=>
  rintro c z ⟨lo,rest,rfl,B1,R1,hx⟩
  exact⟨lo,rest,rfl,B1,R1,by omega⟩
 case step=>
  rintro x c z _ hx ⟨lo,rest,rfl,B1,R1,hxl⟩
  dsimp only
  by_cases c1:lo≥a₀.size
  ·rw [if_pos c1]
   exact wpS_pure ⟨lo,rest,rfl,B1,R1,c1⟩
  rw [if_neg c1]
  refine wpS_bind (b3A L B1 (by omega) (by omega) fun m z2 r2 m1 m2 m3=>?_)
  dsimp only
  by_cases c2:m<mr
  ·rw [if_pos c2]
   refine a5I ?_
   refine wpS_bind (b1T L (r2.tb B1) (by omega) (by omega) m3 fun z3 r3 n3=>?_)
   rw [if_neg (by decide)]
   have r3:=r2.trans r3
   have n1:1≤min (a₀.size - lo) mr:=by omega
   have n2:lo+min (a₀.size - lo) mr≤a₀.size:=by omega
   generalize min (a₀.size - lo) mr=n at n1 n2 n3 ⊢
   have B3:=r3.tb B1
   obtain⟨X,rest',sX,hX,R3⟩:=R1.ar r3 n3 (by rw [B3.sz];omega) n1
   refine wpS_bind (wpS_get ?_)
   cases hb:(pendingOf z3).back? with
   | none=>
    dsimp only
    refine wpS_bind (wpS_modify (wpS_pure ?_))
    exact⟨lo+n,rest',rfl,⟨B3.pm,B3.kd,B3.fl⟩,R3.push sX hX n1 rfl (by show (((pendingOf z3).push (lo,n,0)).toList).map pr=_;rw [Array.toList_push,List.map_append];rfl),by omega⟩
   | some p=>
    obtain⟨s1,n1',w1⟩:=p
    dsimp only
    generalize power' a₀.size (2*s1+n1') (2*s1+n1'+n1'+n) a₀.size=pw
    refine wpS_bind (wpS_mono (wpS_forRange (I:=fun _ c y=>c=(none,())/\TB k0 a₀ y/\Runs κ y lo (X++rest')) (Q:=fun c y=>c=(none,())/\TB k0 a₀ y/\Runs κ y lo (X++rest')) ?s1 (fun _ _ hh=>hh) ⟨rfl,B3,R3⟩) ?p1)
    case s1=>
     rintro x c y _ _ ⟨rfl,By,Ry⟩
     refine wpS_bind (wpS_get ?_)
     by_cases hgt:(pendingOf y).size > 1
     ·rw [if_pos hgt]
      have eo:(pendingOf y)[(pendingOf y).size - 2]?=some (pendingOf y)[(pendingOf y).size - 2]:=getElem?_pos ..
      rw [eo]
      dsimp only
      split
      ·exact wpS_pure ⟨rfl,By,Ry⟩
      ·refine wpS_bind (a3t L By Ry (by omega) fun y2 B2 R2 _=>?_)
       rw [if_neg (by decide)]
       exact wpS_pure ⟨rfl,B2,R2⟩
     ·rw [if_neg hgt]
      exact wpS_pure ⟨rfl,By,Ry⟩
    case p1=>
     rintro c y ⟨rfl,By,Ry⟩
     dsimp only
     refine wpS_bind (wpS_modify (wpS_bind (wpS_modify (wpS_pure ?_))))
     refine⟨lo+n,rest',rfl,⟨By.pm,By.kd,By.fl⟩,Ry.push sX hX n1 rfl ?_,by omega⟩
     have em:∀ (q:Array (Nat×Nat×Nat)) (k:Nat),(q.modify k fun (a,b,_)=>(a,b,pw)).toList.map pr=q.toList.map pr:=fun q k=>by
      refine List.ext_getElem? fun i=>?_
      rw [List.getElem?_map,List.getElem?_map,Array.getElem?_toList,Array.getElem?_toList,Array.getElem?_modify]
      split
      ·cases q[i]? with
       | none=>rfl
       | some p=>rfl
      ·rfl
     show ((((pendingOf y).modify ((pendingOf y).size - 1) fun (a,b,_)=>(a,b,pw)).push (lo,n,0)).toList).map pr=_
     rw [Array.toList_push,List.map_append,em]
     rfl
  ·rw [if_neg c2]
   have n2:lo+m≤a₀.size:=by omega
   have n1:=m1
   have n3:=m3
   have r3:=r2
   generalize m=n at n1 n2 n3 ⊢
   generalize z2=z3 at r3 n3 ⊢
   have B3:=r3.tb B1
   obtain⟨X,rest',sX,hX,R3⟩:=R1.ar r3 n3 (by rw [B3.sz];omega) n1
   refine wpS_bind (wpS_get ?_)
   cases hb:(pendingOf z3).back? with
   | none=>
    dsimp only
    refine wpS_bind (wpS_modify (wpS_pure ?_))
    exact⟨lo+n,rest',rfl,⟨B3.pm,B3.kd,B3.fl⟩,R3.push sX hX n1 rfl (by show (((pendingOf z3).push (lo,n,0)).toList).map pr=_;rw [Array.toList_push,List.map_append];rfl),by omega⟩
   | some p=>
    obtain⟨s1,n1',w1⟩:=p
    dsimp only
    generalize power' a₀.size (2*s1+n1') (2*s1+n1'+n1'+n) a₀.size=pw
    refine wpS_bind (wpS_mono (wpS_forRange (I:=fun _ c y=>c=(none,())/\TB k0 a₀ y/\Runs κ y lo (X++rest')) (Q:=fun c y=>c=(none,())/\TB k0 a₀ y/\Runs κ y lo (X++rest')) ?s1 (fun _ _ hh=>hh) ⟨rfl,B3,R3⟩) ?p1)
    case s1=>
     rintro x c y _ _ ⟨rfl,By,Ry⟩
     refine wpS_bind (wpS_get ?_)
     by_cases hgt:(pendingOf y).size > 1
     ·rw [if_pos hgt]
      have eo:(pendingOf y)[(pendingOf y).size - 2]?=some (pendingOf y)[(pendingOf y).size - 2]:=getElem?_pos ..
      rw [eo]
      dsimp only
      split
      ·exact wpS_pure ⟨rfl,By,Ry⟩
      ·refine wpS_bind (a3t L By Ry (by omega) fun y2 B2 R2 _=>?_)
       rw [if_neg (by decide)]
       exact wpS_pure ⟨rfl,B2,R2⟩
     ·rw [if_neg hgt]
      exact wpS_pure ⟨rfl,By,Ry⟩
    case p1=>
     rintro c y ⟨rfl,By,Ry⟩
     dsimp only
     refine wpS_bind (wpS_modify (wpS_bind (wpS_modify (wpS_pure ?_))))
     refine⟨lo+n,rest',rfl,⟨By.pm,By.kd,By.fl⟩,Ry.push sX hX n1 rfl ?_,by omega⟩
     have em:∀ (q:Array (Nat×Nat×Nat)) (k:Nat),(q.modify k fun (a,b,_)=>(a,b,pw)).toList.map pr=q.toList.map pr:=fun q k=>by
      refine List.ext_getElem? fun i=>?_
      rw [List.getElem?_map,List.getElem?_map,Array.getElem?_toList,Array.getElem?_toList,Array.getElem?_modify]
      split
      ·cases q[i]? with
       | none=>rfl
       | some p=>rfl
      ·rfl
     show ((((pendingOf y).modify ((pendingOf y).size - 1) fun (a,b,_)=>(a,b,pw)).push (lo,n,0)).toList).map pr=_
     rw [Array.toList_push,List.map_append,em]
     rfl
 case post=>
  rintro c z ⟨lo,rest,rfl,B1,R1,hlo⟩
  dsimp only
  have hsz:∀ y,Runs κ y lo rest->(pendingOf y).size≤lo:=fun y ⟨Rs,e1,e2,e3,e4⟩=>by
   have h1:=congrArg List.length e4
   rw [List.length_map,a1T] at h1
   have h2:=a8p fun R hR=>(e2 R hR).2
   simp at h1
   omega
  have hlo2:lo=a₀.size:=by
   obtain⟨Rs,e1,e2,e3,e4⟩:=R1
   have:=congrArg List.length e1
   rw [a1N,B1.sz,List.length_append] at this
   omega
  subst hlo2
  refine wpS_bind (wpS_mono (wpS_forRange (I:=fun x c y=>c=(none,())/\TB k0 a₀ y/\Runs κ y a₀.size rest/\((pendingOf y).size≤1\/(pendingOf y).size+x≤a₀.size)) (Q:=fun c y=>c=(none,())/\TB k0 a₀ y/\Runs κ y a₀.size rest/\(pendingOf y).size≤1) ?s2 ?f2 ⟨rfl,B1,R1,.inr (hsz z R1)⟩) ?p2)
  case f2=>
   rintro c y ⟨rfl,By,Ry,hc⟩
   exact⟨rfl,By,Ry,by omega⟩
  case s2=>
   rintro x c y _ hx ⟨rfl,By,Ry,hc⟩
   refine wpS_bind (wpS_get ?_)
   by_cases h1:(pendingOf y).size≤1
   ·rw [if_pos h1]
    exact wpS_pure ⟨rfl,By,Ry,h1⟩
   ·rw [if_neg h1]
    refine wpS_bind (a3t L By Ry ?_ fun y2 B2 R2 hy2=>?_)
    ·repeat' split
     all_goals omega
    ·rw [if_neg (by decide)]
     exact wpS_pure ⟨rfl,B2,R2,.inr (by omega)⟩
  case p2=>
   rintro c y ⟨rfl,By,Ry,hc⟩
   obtain⟨Rs,e1,e2,e3,e4⟩:=Ry
   have h1:=congrArg List.length e4
   rw [List.length_map,a1T] at h1
   have h2:=congrArg List.length e1
   rw [a1N,By.sz,List.length_append,e3] at h2
   have hr:rest=[]:=List.length_eq_zero_iff.mp (by omega)
   refine wpS_pure (h y By ?_)
   rw [e1,hr,List.append_nil]
   match Rs,e2,h1 with
   | [],_,_=>exact .nil
   | [R],e2,_=>simpa using (e2 R (by simp)).1
   | _::_::_,_,h1=>simp at h1;omega
end
end Tim
namespace Tim
open PySem PyProof.Rows
abbrev kN:KF:=fun p=>numOf p.1
theorem b50 (xs:Array Keyed) (i:Nat):K xs i=Kk kN xs i:=by
 unfold K Kk
 cases xs[i]?<;>rfl
theorem b51 {xs:Array Keyed} {n:Nat} (h:Srt kN xs.toList) (hn:n=xs.size):SortedTo xs n:=fun i j hij hj=>by
 rw [b50,b50]
 have:=a3J (i:=0) h (n:=xs.size) (by omega) i j hij (by omega)
 simpa using this
section
variable {prog:Program} {w:World} {A:Around} {E:Value->Shared->Prop} {s:Shared} {a₀:Array Keyed}
theorem b3B (h0:IntKeys a₀):LtOk (model prog w) A E s kN oneType' a₀:=fun x y hx hy st Q hk h=>by
 obtain⟨n,t,en⟩:=h0 x hx
 obtain⟨m,u,em⟩:=h0 y hy
 have h':Q (some (decide (n<m))) st:=by
  have:kN x<kN y↔n<m:=by show numOf x.1<numOf y.1↔n<m;rw [en,em];rfl
  rw [decide_eq_decide.mpr this] at h
  exact h
 rw [lt'_eq]
 refine wpS_bind (wpS_get ?_)
 rw [hk,keyLt'_oneType,en,em]
 exact wpS_bind (wpS_lift (wpAny_attempt (oneLt_int ⟨rfl,wpS_pure h'⟩)))
theorem sort_any {a:Addr} {vs:List Value} {ns:List Int} {n:Nat} {P:Fin->Shared->Prop} (ho:s.heap.get? a=some (seqObj "list" vs.toArray n)) (hI:IntsAre vs ns) (hz:vs.length≤1000)
  (h:∀ (out:Array Value) (ms:List Int),IntsAre out.toList ms->ms.Perm ns->ms.Pairwise (·≤·)->P (.done (.ret .none)) { s with heap:=sortedHeap s.heap a vs out }):wpAny (model prog w) A (Builtin.«list.sort» ⟨[.ref a],[]⟩) P E s:=by
 have hzz:vs.length≤sizeLine:=by rw [sizeLine_eq];omega
 have hzv:vs.toArray.size≤sizeLine:=by simpa using hzz
 have lt:=Heap.lt_size ho
 rw [list_sort_plain]
 refine wpAny_bind (listItems_at ho rfl (wpAny_bind (listUpdate_at ho rfl ?_ hzv (by simp))))
 obtain⟨u,hu⟩:∃ u,(s.heap.update a (Obj.mapSeq fun _=>#[])).get? a=some (seqObj "list" #[] u):=⟨_,get?_update_seq ho fun _=>#[]⟩
 refine wpAny_bind (seqEpoch_at hu rfl (wpAny_bind (wpAny_newTuple ?_ (by simpa using hzz))))
 refine wpAny_bind (wpAny_newList (wpAny_holding ?_))
 have hv:(((s.heap.update a (Obj.mapSeq fun _=>#[])).push (seqObj "tuple" vs.toArray 0)).push (seqObj "list" #[] 0)).get? a=some (seqObj "list" #[] u):=by
  rw [Heap.get?_push_ne,Heap.get?_push_ne]
  ·exact hu
  ·rw [Heap.size_update];exact Nat.ne_of_lt lt
  ·rw [size_push',Heap.size_update];exact Nat.ne_of_lt (Nat.lt_succ_of_lt lt)
 show wpAny (model prog w) A _ P E { s with heap:=((s.heap.update a (Obj.mapSeq fun _=>#[])).push (seqObj "tuple" vs.toArray 0)).push (seqObj "list" #[] 0) }
 dsimp only
 have last:∀ y:SortSt,(arrOf y).Perm (pairsOf vs)->Srt kN (arrOf y).toList->P (.done (.ret .none)) { s with heap:=sortedHeap s.heap a vs ((arrOf y).map (·.2)) }:=fun y p q=>by
  obtain⟨ms,m1,m2,m3⟩:=sorted_out hI p (b51 q p.size_eq.symm)
  exact h _ ms m1 m2 m3
 have room:∀ y:SortSt,(arrOf y).Perm (pairsOf vs)->((arrOf y).map (·.2)).size≤sizeLine+1:=fun y p=>by
  rw [Array.size_map,p.size_eq,pairsOf_size];omega
 by_cases c:vs.toArray.size<2
 ·rw [if_pos c,if_pos c]
  refine wpAny_bind (wpAny_pure ?_)
  rw [StateT.run_pure]
  refine wpAny_bind (wpAny_pure ?_)
  dsimp only
  have p0:(arrOf (SortSt.mk' general' (vs.toArray.zip vs.toArray) #[] 7 none)).Perm (pairsOf vs):=Array.Perm.refl _
  refine wpAny_bind (seqEpoch_at hv rfl (wpAny_bind (listUpdate_at hv rfl ?_ (by simp) (room _ p0))))
  simp only [bne_self_eq_false,Bool.false_eq_true,if_false]
  refine wpAny_pure (last _ p0 ?_)
  show Srt kN (pairsOf vs).toList
  rw [pairsOf_toList]
  have:vs.length<2:=by simpa using c
  match vs,this with
  | [],_=>exact .nil
  | [v],_=>exact List.pairwise_singleton _ _
 ·rw [if_neg c,if_neg c]
  obtain⟨v1,v2,vr,rfl⟩:∃ v1 v2 vr,vs=v1::v2::vr:=by
   have:¬ vs.length<2:=by simpa using c
   match vs,this with
   | [],q=>exact absurd (by simp) q
   | [_],q=>exact absurd (by simp) q
   | v1::v2::vr,_=>exact⟨v1,v2,vr,rfl⟩
  rw [keyKind_ints hI]
  refine wpAny_bind (wpAny_pure (wpAny_bind (wpAny_mono (a84 (a₀:=pairsOf (v1::v2::vr)) (κ:=kN) (k0:=oneType') (st:=SortSt.mk' oneType' ((v1::v2::vr).toArray.zip (v1::v2::vr).toArray) #[] 7 none)
   (Q:=fun _ y=>(arrOf y).Perm (pairsOf (v1::v2::vr))/\failedOf y=none/\Srt kN (arrOf y).toList) (b3B hI.intKeys) ⟨Array.Perm.refl _,rfl,rfl⟩ rfl fun y q1 q2=>⟨q1.pm,q1.fl,q2⟩) ?_ fun _ _ e=>e)))
  rintro⟨⟨⟩,y⟩ s' ⟨rfl,q1,q2,q3⟩
  dsimp only
  refine wpAny_bind (seqEpoch_at hv rfl (wpAny_bind (listUpdate_at hv rfl ?_ (by simp) (room y q1))))
  rw [q2]
  simp only [bne_self_eq_false,Bool.false_eq_true,if_false]
  exact wpAny_pure (last y q1 q3)
end
end Tim
namespace SetW
open PySem
def Up (xs:Array Nat):Prop:=xs.toList.Pairwise (·<·)
structure TOk (led:Bool) (t:SetTable):Prop where
 up:Up t.place
 dm:t.dummies=#[]
 ld:t.led=led
end SetW
namespace SetW
open PySem PyProof.Rows
def byT (w:World):Bool:=w.params.followText "set-order"
structure SO (prog:Program) (w:World) (h:Heap) (a:Addr) (es:Array (Int×Value)) (ep:Nat) (t:SetTable) (ms:List Int):Prop where
 at_:∃ o,h.get? a=some o/\o.ExactSet/\o.data=.set es ep t
 el:ElemsOf (intKind prog w) es.toList
 nums:IntsAre (es.toList.map (·.2)) ms
 sc:es.size<scanBound
 fit:t.fits es.size=true
 ok:TOk (!byT w) t
def SI (prog:Program) (w:World) (h:Heap) (a:Addr) (ms:List Int):Prop:=∃ es ep t,SO prog w h a es ep t ms
section
variable {prog:Program} {w:World} {A:Around} {E:Value->Shared->Prop} {s:Shared} {a:Addr} {es:Array (Int×Value)} {ep:Nat} {t:SetTable} {ms:List Int} {k:Int} {u:Tok}
theorem SO.mem (S:SO prog w s.heap a es ep t ms):(∃ e∈es.toList,(intKind prog w).is k e.2=true)↔k∈ms:=by
 have hn:=S.nums.nums
 constructor
 ·rintro⟨e,he,hk⟩
  rw [<- hn]
  obtain⟨n,tk,en⟩:=S.nums.all e.2 (List.mem_map_of_mem (f:=(·.2)) he)
  rw [en] at hk
  have:k=n:=by
   have:=hk
   simp [intKind,Value.isInt] at this
   exact this.symm
  exact List.mem_map.mpr ⟨e.2,List.mem_map_of_mem (f:=(·.2)) he,by rw [en,this];rfl⟩
 ·intro hk
  rw [<- hn,List.map_map] at hk
  obtain⟨e,he,e2⟩:=List.mem_map.mp hk
  obtain⟨n,tk,en⟩:=S.nums.all e.2 (List.mem_map_of_mem (f:=(·.2)) he)
  refine⟨e,he,?_⟩
  simp only [Function.comp] at e2
  rw [en] at e2 ⊢
  have:n=k:=e2
  rw [this]
  exact intKind_is _ _ _ _
theorem SO.stored {o:Obj} {es':Array (Int×Value)} {t':SetTable} {ms':List Int} {h:Heap} (ho:h.get? a=some o) (hx:o.ExactSet) (hd:o.data=.set es ep t) (hel:ElemsOf (intKind prog w) es'.toList) (hi:IntsAre (es'.toList.map (·.2)) ms') (hs:es'.size<scanBound) (hf:t'.fits es'.size=true) (hk:TOk (!byT w) t') :
  (h.update a (Obj.putSet es' t')).get? a=some { o with data:=.set es' (ep+1) t' }/\SO prog w (h.update a (Obj.putSet es' t')) a es' (ep+1) t' ms':=by
 have hg:(h.update a (Obj.putSet es' t')).get? a=some { o with data:=.set es' (ep+1) t' }:=by
  have q:=Heap.get?_update_self (Obj.putSet es' t') ho (by rw [putSet_of es' t' hd];rfl)
  rw [putSet_of es' t' hd] at q
  exact q
 exact⟨hg,⟨⟨_,hg,hx,rfl⟩,hel,hi,hs,hf,hk⟩⟩
theorem TOk.plain {led:Bool} {t:SetTable} {b:Bool} (h:TOk led t):TOk led ({ t with plain:=b }:SetTable):=⟨h.up,h.dm,h.ld⟩
end
end SetW
namespace SetW
open PySem PyProof.Rows
theorem SI.at {prog:Program} {w:World} {h h':Heap} {a:Addr} {ms:List Int} (S:SI prog w h a ms) (k:∀ o,h.get? a=some o->h'.get? a=some o):SI prog w h' a ms:=by
 obtain⟨es,ep,t,⟨o,g,x,d⟩,h1,h2,h3,h4,h5⟩:=S
 exact⟨es,ep,t,⟨o,k o g,x,d⟩,h1,h2,h3,h4,h5⟩
def Met (val:Nat->Int) (i:Nat) (ms:List Int):Prop:=ms.Nodup/\ms.length≤i/\∀ x,x∈ms↔∃ j,j<i/\val j=x
theorem Met.step {val:Nat->Int} {i:Nat} {ms ms':List Int} (h:Met val i ms) (p:ms'.Perm (if val i∈ms then ms else ms++[val i])):Met val (i+1) ms':=by
 obtain⟨h1,h2,h3⟩:=h
 have key:∀ x,(∃ j,j<i+1/\val j=x)↔(∃ j,j<i/\val j=x)\/x=val i:=fun x=>by
  constructor
  ·rintro⟨j,hj,e⟩
   by_cases c:j=i
   ·right;rw [<- e,c]
   ·left;exact⟨j,by omega,e⟩
  ·rintro (⟨j,hj,e⟩ | e)
   ·exact⟨j,by omega,e⟩
   ·exact⟨i,by omega,e.symm⟩
 by_cases c:val i∈ms
 ·rw [if_pos c] at p
  refine⟨p.nodup_iff.mpr h1,by rw [p.length_eq];omega,fun x=>?_⟩
  rw [p.mem_iff,key,h3]
  exact⟨.inl,fun z=>z.elim id fun e=>(h3 x).mp (e▸c)⟩
 ·rw [if_neg c] at p
  refine⟨p.nodup_iff.mpr ?_,by rw [p.length_eq];simp;exact h2,fun x=>?_⟩
  ·rw [List.nodup_append]
   exact⟨h1,by simp,fun x hx y hy=>by rw [List.mem_singleton.mp hy];rintro rfl;exact c hx⟩
  ·rw [p.mem_iff,key,List.mem_append,h3,List.mem_singleton]
section
variable {prog:Program} {w:World} {A:Around} {R:Result->Shared->Prop} {I:Addr} {fp wr:List Addr} {G:Array GenState->Array GenState->Prop} {n:Nat} {P:Nat->Value->Prop} {St:Nat->Shared->Prop}
end
section
variable {prog:Program} {w:World} {A:Around} {E:Value->Shared->Prop} {s:Shared}
abbrev b1V (w:World):Obj:={ cls:=.type "set",dict:=none,data:=.set #[] 0 (.fresh 0 0 (!byT w)) }
theorem SI.fresh {h:Heap} {a:Addr} (g:h.get? a=some (b1V w)):SI prog w h a []:=
 ⟨#[],0,.fresh 0 0 (!byT w),⟨_,g,⟨rfl,rfl,rfl⟩,rfl⟩,fun e he=>by simp at he,.nil,by decide,rfl,⟨.nil,rfl,rfl⟩⟩
end
end SetW
namespace SetW
open PySem PyProof.Rows
def SetIt (h:Heap) (it a:Addr) (first:Value) (i n ep:Nat):Prop:=∃ o,h.get? it=some o/\o.cls=.type "set_iterator"/\o.data=.fields #[first,.int i 0,.ref a,.int n 0,.int ep 0]
theorem SetIt.ty {s:Shared} {it a:Addr} {f:Value} {i n ep:Nat} (x:SetIt s.heap it a f i n ep):s.TypeIs (.ref it) "set_iterator":=let ⟨o,g,c,_⟩:=x;⟨o,g,c⟩
theorem SetIt.at {h h':Heap} {it a:Addr} {f:Value} {i n ep:Nat} (x:SetIt h it a f i n ep) (e:∀ o,h.get? it=some o->h'.get? it=some o):SetIt h' it a f i n ep:=let ⟨o,g,r⟩:=x;⟨o,e _ g,r⟩
section
variable {prog:Program} {w:World} {A:Around} {E:Value->Shared->Prop} {s:Shared} {it a:Addr} {f:Value} {i n ep:Nat} {o:Obj} {es:Array (Int×Value)} {t:SetTable}
end
end SetW
namespace SetW
open PySem PyProof.Rows
section
variable {prog:Program} {w:World} {A:Around} {E:Value->Shared->Prop} {s:Shared} {it a:Addr} {f:Value} {i n ep k:Nat} {o:Obj} {es:Array (Int×Value)} {t:SetTable} {ms:List Int}
end
end SetW
namespace SetW
open PySem PyProof.Rows
theorem SO.at {prog:Program} {w:World} {h h':Heap} {a:Addr} {es:Array (Int×Value)} {ep:Nat} {t:SetTable} {ms:List Int} (S:SO prog w h a es ep t ms) (k:∀ o,h.get? a=some o->h'.get? a=some o):SO prog w h' a es ep t ms:=by
 obtain⟨⟨o,g,x,d⟩,h1,h2,h3,h4,h5⟩:=S
 exact⟨⟨o,k o g,x,d⟩,h1,h2,h3,h4,h5⟩
section
variable {prog:Program} {w:World} {A:Around} {E:Value->Shared->Prop} {s:Shared} {it a T:Addr} {f:Value} {i n ep k:Nat} {o:Obj} {es:Array (Int×Value)} {t:SetTable} {ms:List Int} {ps:List Nat}
end
end SetW
namespace SetW
open PySem PyProof.Rows
section
variable {prog:Program} {w:World} {A:Around} {E:Value->Shared->Prop} {s:Shared} {it a T:Addr} {f:Value} {i n ep k:Nat} {o:Obj} {es:Array (Int×Value)} {t:SetTable} {ms:List Int} {ps:List Nat}
def PlacesAt (h:Heap) (T:Addr) (ps:List Nat):Prop:=∃ o c,h.get? T=some o/\o.data=.seq (ps.map fun (i:Nat)=>rawInt i).toArray c
theorem PlacesAt.at {h h':Heap} (x:PlacesAt h T ps) (k:∀ o,h.get? T=some o->h'.get? T=some o):PlacesAt h' T ps:=let ⟨o,c,g,d⟩:=x;⟨o,c,k _ g,d⟩
end
end SetW
namespace SetW
open PySem PyProof.Rows
section
variable {prog:Program} {w:World} {A:Around} {E:Value->Shared->Prop} {s:Shared} {it a T:Addr} {f:Value} {i n ep k:Nat} {o:Obj} {es:Array (Int×Value)} {t:SetTable} {ms:List Int} {ps:List Nat}
theorem SO.ty (S:SO prog w s.heap a es ep t ms):s.TypeIs (.ref a) "set":=let ⟨o,g,x,_⟩:=S.at_;⟨o,g,x.1⟩
theorem SO.len (S:SO prog w s.heap a es ep t ms):es.size=ms.length:=by
 have q:=congrArg List.length S.nums.nums
 simpa using q
end
end SetW
namespace SetW
open PySem PyProof.Rows
section
variable {prog:Program} {w:World} {A:Around} {E:Value->Shared->Prop} {s:Shared} {a:Addr} {ms:List Int}
end
end SetW
namespace L2
open PySem PySem.Spec PyProof.Rows
theorem a6b:∀ {vs:List Value} {ns:List Int},IntsAre vs ns->vs.length=ns.length
 | _,_,.nil=>rfl
 | _,_,.cons n t h=>by rw [List.length_cons,List.length_cons,a6b h]
theorem a6U:∀ {vs:List Value} {ns:List Int},IntsAre vs ns->Vals (ns.map V.int) vs
 | _,_,.nil=>.nil
 | _,_,.cons n t h=>.cons ⟨t,rfl⟩ (a6U h)
theorem b0q:∀ {vs:List Value} {ns:List Int},vs.length=ns.length->(∀ (i:Nat) v,vs[i]?=some v->∃ n t,ns[i]?=some n/\v=.int n t)->IntsAre vs ns
 | [],[],_,_=>.nil
 | [],_::_,h,_=>by simp at h
 | _::_,[],h,_=>by simp at h
 | v::vs,n::ns,h,q=>by
  obtain⟨m,t,e1,e2⟩:=q 0 v rfl
  simp at e1
  subst e1 e2
  exact .cons _ t (b0q (by simpa using h) fun i v e=>by simpa using q (i+1) v (by simpa using e))
section
variable {P:Program} {w:World} {A:Around} {E:Value->Shared->Prop} {s:Shared}
theorem b0r {r:Addr} {ns:List Int} {Q:Value->Shared->Prop} (hmx:ns.length≤1000)
  (hcol:∀ R:List Value->Shared->Prop,(∀ (g:Heap) (tk:Nat) (d:Drawn) (vs:List Value) (ks:List Int),(∀ b o,s.heap.get? b=some o->g.get? b=some o)->IntsAre vs ks->ks.Perm ns->R vs { s with heap:=g,drawn:=d,toks:=tk })->wpAny (model P w) A.in1 (collect (.ref r)) R E s)
  (h:∀ (g g':Heap) (tk:Nat) (d:Drawn) (out:List Value) (n:Nat) (ms:List Int),(∀ b o,s.heap.get? b=some o->g.get? b=some o)->(∀ b o,g.get? b=some o->g'.get? b=some o)->g'.get? g.objs.size=some { cls:=.type "list",data:=.seq out.toArray n } ->
   IntsAre out ms->ms.Perm ns->ms.Pairwise (·≤·)->Q (.ref g.objs.size) { s with heap:=g',drawn:=d,toks:=tk }):wpAny (model P w) A (call (.builtin "sorted") [.ref r]) Q E s:=by
 refine Calls.call_function_entry kind_sorted plain_sorted entry_sorted (args_sorted1 _) ?_
 unfold Builtin.«sorted»
 refine wpAny_bind (m:=checkCount "sorted" 1 1 _) (wpAny_pure (wpAny_bind (hcol _ fun g tk d vs ks kp hI hP=>?_)))
 have hl:vs.length=ns.length:=(a6b hI).trans hP.length_eq
 have hz:vs.length≤sizeLine:=by rw [sizeLine_eq];omega
 refine wpAny_bind (wpAny_newList ?_ hz)
 have ho:(g.push (seqObj "list" vs.toArray 0)).get? g.objs.size=some (seqObj "list" vs.toArray 0):=Heap.get?_push_size _ rfl
 refine wpAny_bind (wpAny_holding (wpAny_call_entry slot_list_sort ⟨_,ho,rfl⟩ entry_list_sort (Tim.sort_any ho hI (by omega) fun out ms a1 a2 a3=>⟨_,rfl,?_⟩) (args_list_sort _)))
 have hat:=sortedHeap_at (out:=out) ho
 obtain⟨n,hat⟩:=hat
 refine wpAny_pure ⟨_,rfl,h g _ tk d out.toList n ms kp (fun b o e=>?_) (by simpa using hat) a1 (a2.trans hP) a3⟩
 have hlt:=Heap.lt_size e
 rw [sortedHeap_old (Nat.ne_of_lt hlt) (by rw [Heap.size_push];exact Nat.lt_succ_of_lt hlt)]
 exact Heap.get?_push_of_some _ e
end
section
variable {X:Cx}
theorem Inv.drew {pins:List (Addr×Obj)} {σ:St} {H:Hp} {s:Shared} (I:Inv X pins σ H s) (d:Drawn):Inv X pins σ H { s with drawn:=d }:=
 I.step (h':=s.heap) (g':=s.gens) (t':=s.toks) (d':=d) (ch:=[]) (fun b hb=>nomatch hb) (fun b o _ _ _ e _=>e) (fun b o _ _ _ e _=>⟨o.slots,e⟩) (fun _ _ _ _ n=>n) (fun b o _ e=>⟨o,e⟩) (fun _ _ e=>e) (fun _ _ _ e=>e) (fun b ps e=>⟨#[],by rw [e];simp⟩) (fun m hm=>hm) I.hok I.bare
def b3C (K:Fg):List V->Hp->VK->Prop:=fun xs H Q=>∃ (p:Addr) (ns:List Int),xs=[.ref p]/\(SqL K H p (ns.map V.int)\/∃ kvs:List (Key×V),H p=some (.dK kvs)/\kvs.map (·.1)=ns.map Sum.inl)/\ns.length≤1000 /\
 ∀ (t:Addr) (ms:List Int),H t=none->ms.Perm ns->ms.Pairwise (·≤·)->Q (.ref t) (upd H t (.lst (ms.map V.int)))
theorem a7K (hc:X.calm=true):CallR X (.builtin "sorted") (b3C X.K):=by
 intro pins s σ H xs us Q I r h
 obtain⟨p,ns,rfl,hq,hmx,q⟩:=h
 obtain⟨u,rfl,rx⟩:=a4U r
 cases rx
 have hh:X.A.in1.handled=none:=I.ok.hd hc
 refine b0r (ns:=ns) hmx (fun R hR=>?_) fun g g' tk d out n ms k1 k2 e a1 a2 a3=>?_
 ·rcases hq with hq | ⟨kvs,hd,hk⟩
  ·obtain⟨its,rv,pl,_⟩:=I.list hq
   have hI:=a8W rv
   refine collect_list pl.isList ?_ (by rw [a6b hI,sizeLine_eq];omega)
   refine hR _ s.toks s.drawn its _ (fun b o e=>?_) hI (List.Perm.refl _)
   have hlt:=Heap.lt_size e
   rw [Heap.get?_update_ne _ _ _ _ (Nat.ne_of_lt hlt)]
   exact Heap.get?_push_of_some _ e
  ·obtain⟨z,lo,vs,rel,dd⟩:=b40 I.hok hd
   obtain⟨ep,hat⟩:=dd.dictAt
   have hl:vs.length=ns.length:=by rw [<- rel.length,<- List.length_map (f:=(·.1)) (as:=kvs),hk,List.length_map]
   refine PySem.W.kdu_collect (PySem.W.kdl_dict (knd:=a1d X.prog X.w) (kvs:=vs) (ep:=ep) lo) hh hat (by rw [hl,sizeLine_eq];omega) fun g tk acc kp hacc=>?_
   refine hR g tk s.drawn acc.toList ns kp (b0q (by rw [Array.length_toList,hacc.1,hl]) fun i v e=>?_) (List.Perm.refl _)
   obtain⟨k,x,e1,e2⟩:=hacc.2 i v (by rw [<- Array.getElem?_toList];exact e)
   have hkeys:vs.map (·.1)=ns.map Sum.inl:=by rw [<- rel.keys];exact hk
   have e3:(ns.map Sum.inl)[i]?=some k:=by rw [<- hkeys,List.getElem?_map,e1];rfl
   rw [List.getElem?_map] at e3
   cases hn:ns[i]? with
   | none=>rw [hn] at e3;cases e3
   | some n=>
    rw [hn] at e3
    cases e3
    have e4:Value.isInt n v=true:=e2
    cases v with
    | int m t=>exact⟨n,t,rfl,by simp [Value.isInt] at e4;rw [e4]⟩
    | _=>simp [Value.isInt] at e4
 ·have I1:Inv X pins σ H { s with heap:=g,drawn:=d,toks:=tk }:=(I.drew d).kept (t':=tk) k1
  exact⟨.ref g.objs.size,_,I1.laid (t':=tk) k2 (Nat.le_refl _) (show ObjOk X.prog X.w _ g' _ (.lst (ms.map V.int)) from ⟨by rw [List.length_map,a2.length_eq,sizeLine_eq];omega,out,n,a6U a1,e⟩),rfl,q _ ms (I1.hok.fresh (Nat.le_refl _)) a2 a3⟩
end
end L2
namespace L2
open PySem PySem.Spec PyProof.Rows
structure Zs where
 it:Addr
 tp:Bool
 l:Addr
def Zs.At (z:Zs) (k:Nat) (h:Heap):Prop:=if z.tp=true then h.IsTupleIter z.it z.l k else h.IsListIter z.it z.l k
def Zs.Has (z:Zs) (h:Heap) (xs:Array Value):Prop:=if z.tp=true then h.IsTuple z.l xs else h.IsList z.l xs
theorem Zs.At.keep {z:Zs} {k:Nat} {h h':Heap} (a:z.At k h) (q:∀ o,h.get? z.it=some o->h'.get? z.it=some o):z.At k h':=by
 unfold Zs.At at a ⊢
 split
 ·next e=>rw [if_pos e] at a;exact a.at q
 ·next e=>rw [if_neg e] at a;exact a.at q
theorem Zs.Has.keep {z:Zs} {h h':Heap} {xs:Array Value} (a:z.Has h xs) (q:∀ o,h.get? z.l=some o->h'.get? z.l=some o):z.Has h' xs:=by
 unfold Zs.Has at a ⊢
 split
 ·next e=>rw [if_pos e] at a;exact let ⟨o,ho,r⟩:=a;⟨o,q o ho,r⟩
 ·next e=>rw [if_neg e] at a;exact let ⟨o,ho,r⟩:=a;⟨o,q o ho,r⟩
theorem Zs.At.obj {z:Zs} {k:Nat} {h:Heap} (a:z.At k h):∃ o,h.get? z.it=some o/\∀ v,o.data≠.cell v:=by
 unfold Zs.At at a
 split at a<;>(obtain⟨o,e,_,d⟩:=a;exact⟨o,e,fun v q=>by rw [d] at q;cases q⟩)
section
variable {P:Program} {w:World} {A:Around} {E:Value->Shared->Prop} {s:Shared}
end
end L2
namespace L2
open PySem PySem.Spec PyProof.Rows
section
variable {P:Program} {w:World} {A:Around} {E:Value->Shared->Prop} {s:Shared}
end
end L2
namespace L2
open PySem PySem.Spec PyProof.Rows
section
variable {X:Cx} {pins:List (Addr×Obj)} {σ:St} {H:Hp} {s:Shared} {h':Heap}
end
def SrcV (K:Fg) (H:Hp) (y:Zs) (xs:List V):Prop:=if y.tp=true then SqT K H y.l xs else SqL K H y.l xs
theorem SrcV.has {X:Cx} {pins:List (Addr×Obj)} {σ:St} {H:Hp} {s:Shared} {y:Zs} {xs:List V} (I:Inv X pins σ H s) (h:SrcV X.K H y xs):∃ its:List Value,Vals xs its/\y.Has s.heap its.toArray:=by
 unfold SrcV at h
 unfold Zs.Has
 split at h
 ·next e=>obtain⟨its,r,p,_⟩:=I.tuple h;exact⟨its,r,by rw [if_pos e];exact p⟩
 ·next e=>obtain⟨its,r,p,_⟩:=I.list h;exact⟨its,r,by rw [if_neg e];exact p.isList⟩
theorem SrcV.inj {X:Cx} {pins:List (Addr×Obj)} {σ:St} {H:Hp} {s:Shared} {y:Zs} {xs xs':List V} (I:Inv X pins σ H s) (h:SrcV X.K H y xs) (h':SrcV X.K H y xs'):xs=xs':=by
 unfold SrcV at h h'
 split at h
 ·next e=>rw [if_pos e] at h';exact I.tuple_inj h h'
 ·next e=>rw [if_neg e] at h';exact I.list_inj h h'
end L2
namespace L2
open PySem PySem.Spec PyProof.Rows
def SrcP (K:Fg) (H:Hp) (p:Bool×Addr) (xs:List V):Prop:=if p.1=true then SqT K H p.2 xs else SqL K H p.2 xs
theorem Turn.imp {P:Program} {w:World} {K:Fg} {tg:Expr} {J J':It} {fp:List Addr} {it:Addr} {tn:Nat->Heap->Prop} (t:Turn P w K tg J fp it tn) (g:∀ i H,J'.go i H->J.go i H) (y:∀ i H x H',J'.go i H->J.yld i H x H'->J'.yld i H x H') (s:∀ i H,J'.stop i H->J.stop i H):Turn P w K tg J' fp it tn where
 mem:=t.mem
 obj:=t.obj
 keep:=t.keep
 item:=fun X h1 h2 h3 h4 i pins s σ H E I hf st hg=>wpAny_mono (t.item X h1 h2 h3 h4 i pins s σ H E I hf st (g i H hg)) (fun r s1 ⟨u,e,q⟩=>⟨u,e,wpAny_mono q (fun _ s2 ⟨x,H',a,b,c,d,e⟩=>⟨x,H',a,b,y i H x H' hg c,d,e⟩) fun _ _ z=>z⟩) fun _ _ z=>z
 done:=fun X h1 h2 h3 h4 i pins s' σ H E I hf st hg=>t.done X h1 h2 h3 h4 i pins s' σ H E I hf st (s i H hg)
 self:=t.self
end L2
namespace L2
open PySem PySem.Spec PyProof.Rows
def Itv (K:Fg) (a:Addr) (n:Nat):It:=
 ⟨fun i H=>i<n/\∃ xs,SqL K H a xs/\xs.length=n,fun i H x H'=>H'=H/\∀ xs,SqL K H a xs->xs[n - 1 - i]?=some x,fun i _=>i=n⟩
theorem b1W {P:Program} {w:World} {K:Fg} {tg:Expr} (a it:Addr) (n:Nat):Turn P w K tg (Itv K a n) [it] it (fun i h=>i≤n/\h.IsRevIter it a ((n:Int) - 1 - (i:Nat))) where
 mem:=by simp
 obj:=fun i h st b hb=>by
  have e:b=it:=by simpa using hb
  subst e
  obtain⟨o,e,c,d⟩:=st.2
  exact⟨o,e,fun v z=>by rw [d] at z;cases z⟩
 keep:=fun i h h' st k=>⟨st.1,st.2.at fun o e=>k it (by simp) o e⟩
 item:=by
  intro X hP hw hK hc i pins s σ H E I hf st hg
  subst hP hw hK
  obtain⟨hi,xs,hq,hx⟩:=hg
  obtain⟨its,rv,p,hz⟩:=I.list hq
  have hx':=List.getElem?_eq_getElem (show n - 1 - i<xs.length by omega)
  obtain⟨u,hu,ru⟩:=rv.get hx'
  obtain⟨f0,f1,f2,f3,f4,f5⟩:=hf it (by simp)
  have st':=st.2
  have e1:(n:Int) - 1 - (i:Nat)=((n - 1 - i:Nat):Int):=by omega
  rw [e1] at st'
  refine wpAny_pyNext_rev_item st' p.isList (x:=u) (by simpa using hu) fun h' s2 sb=>?_
  have I1:Inv X pins σ H { s with heap:=h' }:=I.turned (t':=s.toks) (fun b o hb e=>(sb.2 b hb).trans e) f0 f1 f3 f4 f5
  obtain⟨o,e,c,d⟩:=id s2
  refine⟨u,rfl,a8N (s:={ s with heap:=h' }) e c d (by decide) ⟨xs[n - 1 - i],H,I1,ru,⟨rfl,fun ys hy=>by rw [I.list_inj hy hq];exact hx'⟩,⟨by omega,?_⟩,fun b hb=>(hf b hb).1⟩⟩
  have e2:(n:Int) - 1 - ((i+1:Nat):Int)=((n - 1 - i:Nat):Int) - 1:=by omega
  rw [e2]
  exact s2
 done:=by
  intro X hP hw hK hc i pins s σ H E I hf st hg
  subst hP hw hK
  obtain⟨f0,f1,f2,f3,f4,f5⟩:=hf it (by simp)
  have hi:i=n:=hg
  have st':=st.2
  have e1:(n:Int) - 1 - (i:Nat)=-1:=by omega
  rw [e1] at st'
  exact wpAny_pyNext_rev_end (I.ok.hd hc) st' fun h' eb=>⟨rfl,I.turned (t':=s.toks) (fun b o hb e=>eb b o hb e) f0 f1 f3 f4 f5⟩
 self:=fun _ _ _ _ _ st h=>wpAny_pyIter_revIter st.2 h
def b71 (K:Fg) (ta:TA):TI:=fun σ H R=>ta σ H fun vs H1=>∃ a xs,vs=[.ref a]/\SqL K H1 a xs/\R (Itv K a xs.length) H1
theorem b52 {X:Cx} {tg e:Expr} {p pos:Pos} {ta:TA} (hg:Gl X "reversed") (hm:X.mg "reversed"=none) (ha:PA X [e] ta)
  (he:starEach [e] X.env=(false,eval e X.env)::starEach [] X.env:=by rfl):PI X tg (.Call (.Name "reversed" p) [e] [] pos) (b71 X.K ta):=by
 intro pins s σ H R I h
 refine Call_ (a6v I hg hm boot_reversed (PyProof.Rows.callWith_type1 (thn (ha pos pins s σ H _ I h) fun us s1 ⟨vs,H1,I1,r1,q1⟩=>?_) he rfl))
 obtain⟨a,xs,rfl,hq,q⟩:=q1
 obtain⟨u,rfl,r⟩:=a4U r1
 cases r
 obtain⟨its,rv,pl,hz⟩:=I1.list hq
 have hl:its.toArray.size=xs.length:=by rw [List.size_toArray,rv.length]
 refine call_reversed_list pl.isList ?_
 rw [hl]
 have rit:(s1.heap.push (revObj a ((xs.length:Int) - 1))).IsRevIter s1.heap.objs.size a ((xs.length:Int) - 1 - ((0:Nat):Int)):=⟨_,Heap.get?_push_size _ rfl,rfl,by simp [revObj]⟩
 refine wpAny_pyIter_revIter (s:={ s1 with heap:=s1.heap.push (revObj a ((xs.length:Int) - 1)) }) rit ?_
 refine⟨s1.heap.objs.size,[s1.heap.objs.size],_,_,H1,rfl,I1.kept (t':=s1.toks) fun b o e=>Heap.get?_push_of_some _ e,b1W a _ xs.length,⟨Nat.zero_le _,rit⟩,fun b hb=>?_,q⟩
 have e:b=s1.heap.objs.size:=by simpa using hb
 subst e
 exact I1.fpOk (Nat.le_refl _) (I1.hok.fresh (Nat.le_refl _))
def cnt3 (lo hi c:Int):Nat:=if lo<hi then ((hi - lo - 1) / c+1).toNat else 0
end L2
namespace L2
open PySem PySem.Spec PyProof.Rows
section
variable {X:Cx}
def a85 (x y:Str):Int:=match Builtin.Str.occurrences x y 0 x.length 1 with
 | i::_=>(i:Int)
 | []=>-1
theorem b3D:MtR X "str.find" (fun x vs H Q=>∃ (z y:Str),x=.str z/\vs=[.str y]/\Q (.int (a85 z y)) H):=by
 intro pins s σ H x xs v us Q I rx rs h
 obtain⟨z,y,rfl,rfl,q⟩:=h
 obtain⟨t,rfl⟩:=rx
 obtain⟨u,rfl,r1⟩:=a4U rs
 obtain⟨t',rfl⟩:=r1
 exact call_gives PySem.F.slot_str_find (typeIs_str _ _ _) PySem.F.entry_str_find (PySem.F.args_str_find_2 _ _) (gives_str_find z y t t') ⟨.int _,H,I.tok _,⟨_,rfl⟩,q⟩
end
end L2
namespace L3
open PySem PySem.Spec PyProof.Rows L2
section
variable {X:Cx}
def b53:Z->List Z->Hq->K3->Prop:=fun x xs G R=>match x,xs with
 | .str z,[.str y]=>R (.int (a85 z y)) G
 | _,_=>False
theorem b54:MtQ X "str.find" b53:=a8Y b3D fun x xs H Q hx=>hx.un fun w ws G R rw' rs hg h up=>by
 match w,ws,h with
 | .str z,[.str y],h=>
  rw [a0H] at rw'
  obtain⟨v,rfl,r⟩:=rs.one
  rw [a0H] at r
  exact⟨z,y,rw',by rw [r],up _ _ _ _ h (by rw [a0u]) hg (.refl _ _)⟩
theorem b55 {G:Hq} {R:K3} {z y:Str} (h:R (.int (a85 z y)) G):b53 (.str z) [.str y] G R:=h
def putZ (kvs:List (Key×Z)) (k:Key) (v:Z):List (Key×Z):=
 if (kvs.any fun kv=>decide (kv.1=k))=true then kvs.map (fun kv=>if kv.1=k then (kv.1,v) else kv) else kvs++[(k,v)]
theorem b0s {α β:Type} {k:Key}:∀ {kvs:List (Key×α)} {us:List (Key×β)},us.map (·.1)=kvs.map (·.1)->(us.any fun kv=>decide (kv.1=k))=kvs.any fun kv=>decide (kv.1=k)
 | [],[],_=>rfl
 | [],_::_,h=>by simp at h
 | _::_,[],h=>by simp at h
 | p::ps,q::qs,h=>by
  rw [List.map_cons,List.map_cons] at h
  injection h with h1 h2
  rw [List.any_cons,List.any_cons,b0s h2,h1]
theorem b1X {K:Fg} {H:Hp} {k:Key} {w:Z} {v:V} (rv:Rep K H w v) {kvs:List (Key×Z)} {us:List (Key×V)} (hk:us.map (·.1)=kvs.map (·.1)) (hr:Reps K H (kvs.map (·.2)) (us.map (·.2))) :
  (putK us k v).map (·.1)=(putZ kvs k w).map (·.1)/\Reps K H ((putZ kvs k w).map (·.2)) ((putK us k v).map (·.2)):=by
 unfold putK putZ
 rw [b0s hk]
 split
 ·have go:∀ {kvs:List (Key×Z)} {us:List (Key×V)},us.map (·.1)=kvs.map (·.1)->Reps K H (kvs.map (·.2)) (us.map (·.2))->((us.map fun kv=>if kv.1=k then (kv.1,v) else kv).map (·.1)=(kvs.map fun kv=>if kv.1=k then (kv.1,w) else kv).map (·.1)/\Reps K H ((kvs.map fun kv=>if kv.1=k then (kv.1,w) else kv).map (·.2)) ((us.map fun kv=>if kv.1=k then (kv.1,v) else kv).map (·.2))):=by
   intro kvs
   induction kvs with
   | nil=>intro us h1 h2;cases us with
    | nil=>exact⟨rfl,.nil⟩
    | cons _ _=>simp at h1
   | cons p ps ih=>
    intro us h1 h2
    cases us with
    | nil=>simp at h1
    | cons q qs=>
     rw [List.map_cons,List.map_cons] at h1 h2
     injection h1 with h3 h4
     rw [a0o] at h2
     obtain⟨a,b,e,r1,r2⟩:=h2
     injection e with e1 e2
     subst e1 e2
     have i:=ih h4 r2
     simp only [List.map_cons]
     by_cases e:p.1=k
     ·rw [if_pos e,if_pos (h3.trans e)]
      exact⟨by rw [i.1,h3],.cons rv i.2⟩
     ·rw [if_neg e,if_neg (fun z=>e (h3.symm.trans z))]
      exact⟨by rw [i.1,h3],.cons r1 i.2⟩
  exact go hk hr
 ·rw [List.map_append,List.map_append,hk,List.map_append,List.map_append]
  exact⟨rfl,hr.append (.cons rv .nil)⟩
def keyZ:Z->Option Key
 | .int i=>some (.inl i)
 | .str x=>some (.inr x)
 | _=>none
theorem a8q {K:Fg} {H:Hp} {i:Z} {v:V} {k:Key} (h:keyZ i=some k) (r:Rep K H i v):v=kV k:=by
 cases i with
 | int j=>rw [a0u] at r;cases h;exact r
 | str j=>rw [a0H] at r;cases h;exact r
 | _=>cases h
theorem b3E {α β:Type} {kvs:List (Key×α)} {us:List (Key×β)} (h:us.map (·.1)=kvs.map (·.1)):us.length=kvs.length:=by
 rw [<- List.length_map (f:=(·.1)) (as:=us),h,List.length_map]
def b3F:List Z->Hq->K3->Prop:=fun xs G R=>match xs with
 | [.ref p]=>∃ ns:List Int,(G p=some (.lst (ns.map Z.int))\/∃ kvs,G p=some (.dK kvs)/\kvs.map (·.1)=ns.map Sum.inl)/\ns.length≤1000/\∀ (t:Addr) (ms:List Int),G t=none->ms.Perm ns->ms.Pairwise (·≤·)->R (.ref t) (put G t (.lst (ms.map Z.int)))
 | _=>False
theorem b_sorted (hc:X.calm=true):a3F X (.builtin "sorted") b3F:=a2g (a7K hc) fun xs H Q hx=>hx.un fun ws G R rs hg h up=>by
 match ws,h with
 | [.ref p],h=>
  obtain⟨v,rfl,r⟩:=rs.one
  rw [a0p] at r
  obtain⟨ns,hq,hmx,h⟩:=h
  refine⟨p,ns,by rw [r],?_,hmx,fun t ms ht a2 a3=>up _ _ _ _ (h t ms (hg.out ht) a2 a3) (by rw [a0p]) (hg.set (.new ht) (a2A (a3D _) (.new ht))) (.new ht)⟩
  rcases hq with hq | ⟨kvs,hq,hk⟩
  ·obtain⟨vs,e',rs'⟩:=hg _ _ hq
   have:=a6H rs'
   subst this
   exact .inl (SqL.of e')
  ·obtain⟨us,e',hn,_⟩:=hg _ _ hq
   exact .inr ⟨us,e',hn.trans hk⟩
variable {tg:Expr} {t:A3}
def iRev (t:A3):I3:=fun σ G R=>t σ G fun ws G1=>∃ a xs,ws=[.ref a]/\G1 a=some (.lst xs)/\R xs.reverse (fun G=>G a=some (.lst xs)) G1
theorem b0t {K:Fg} {a:Addr} {ws:List Z} {H0:Hp}:a55 K ws.reverse (fun G=>G a=some (.lst ws)) (Itv K a ws.length) H0:=fun i G H hg t ok hi=>by
 obtain⟨vs,e,rs⟩:=hg a _ ok
 rw [List.length_reverse] at hi ⊢
 refine⟨fun h=>h,fun w hw=>?_⟩
 have hlt:i<ws.length:=by
  have:=(List.getElem?_eq_some_iff.mp hw).1
  rwa [List.length_reverse] at this
 rw [List.getElem?_reverse hlt] at hw
 obtain⟨v,ev,rv⟩:=rs.get hw
 refine⟨⟨hlt,vs,SqL.of e,rs.length.symm⟩,?_⟩
 rintro x H' ⟨rfl,y⟩
 have:=y vs (SqL.of e)
 rw [ev] at this
 cases this
 exact⟨rv,hg,.refl _ _⟩
theorem a7L {e:Expr} {p pos:Pos} (hg:Gl X "reversed") (hm:X.mg "reversed"=none) (ha:QA X [e] t)
  (he:starEach [e] X.env=(false,eval e X.env)::starEach [] X.env:=by rfl):QI X tg (.Call (.Name "reversed" p) [e] [] pos) (iRev t):=a80 (b52 hg hm ha.p he) fun τ H R2 hx=>hx.un fun σ G R hs hg h up=>by
 refine⟨σ,G,_,hs,hg,h,fun ws G1 vs H1 ⟨a,xs,e,ea,h1⟩ rv hg1 t1=>?_⟩
 subst e
 obtain⟨v,rfl,r⟩:=rv.one
 rw [a0p] at r
 subst r
 obtain⟨us,e',rs⟩:=hg1 a _ ea
 exact⟨a,us,rfl,SqL.of e',by rw [<- rs.length];exact up _ _ _ _ _ h1 b0t hg1 t1⟩
def rng3 (lo c:Int) (n:Nat):List Z:=(List.range n).map fun i:Nat=>.int (lo+(i:Int)*c)
def iR3 (t:A3):I3:=fun σ G R=>t σ G fun ws G1=>∃ i j c:Int,ws=[.int i,.int j,.int c]/\(-(2 ^ 60)≤i/\i<2 ^ 60/\-(2 ^ 60)≤j/\j<2 ^ 60/\0<c/\c<2 ^ 60)/\R (rng3 i c (cnt3 i j c)) (fun _=>True) G1
def srcZ (G:Hq):Z->Option (List Z)
 | .ref a=>match G a with
  | some (.lst ws)=>some ws
  | _=>none
 | .tup ws=>some ws
 | _=>none
def zipZ:List (List Z)->List Z
 | []=>[]
 | [xs]=>xs.map fun x=>.tup [x]
 | xs::rest=>List.zipWith (fun x r=>match r with | .tup ws=>.tup (x::ws) | r=>r) xs (zipZ rest)
def iZip (n:Nat) (t:A3):I3:=fun σ G R=>t σ G fun ws G1=>∃ xss:List (List Z),ws.map (srcZ G1)=xss.map some/\xss≠[]/\ws.length=n/\R (zipZ xss) (fun G=>ws.map (srcZ G)=xss.map some) G1
theorem SrcP.uniq {K:Fg} {H:Hp} {p:Bool×Addr} {xs ys:List V} (h:SrcP K H p xs) (g:(if p.1=true then H p.2=some (.tup ys) else H p.2=some (.lst ys))):SrcP K H p ys:=by
 unfold SrcP
 split
 ·next e=>rw [if_pos e] at g;exact SqT.of g
 ·next e=>rw [if_neg e] at g;exact SqL.of g
theorem b56 {σ:S3} {G:Hq} {Ri:List Z->(Hq->Prop)->Hq->Prop} (h:t σ G fun ws G1=>∃ a xs,ws=[.ref a]/\G1 a=some (.lst xs)/\Ri xs.reverse (fun G=>G a=some (.lst xs)) G1):iRev t σ G Ri:=h
theorem b72 {σ:S3} {G:Hq} {Ri:List Z->(Hq->Prop)->Hq->Prop} (h:t σ G fun ws G1=>∃ i j c:Int,ws=[.int i,.int j,.int c]/\(-(2 ^ 60)≤i/\i<2 ^ 60/\-(2 ^ 60)≤j/\j<2 ^ 60/\0<c/\c<2 ^ 60)/\Ri (rng3 i c (cnt3 i j c)) (fun _=>True) G1):iR3 t σ G Ri:=h
theorem b57 {n:Nat} {σ:S3} {G:Hq} {Ri:List Z->(Hq->Prop)->Hq->Prop} (h:t σ G fun ws G1=>∃ xss:List (List Z),ws.map (srcZ G1)=xss.map some/\xss≠[]/\ws.length=n/\Ri (zipZ xss) (fun G=>ws.map (srcZ G)=xss.map some) G1):iZip n t σ G Ri:=h
end
end L3
namespace L3
open PySem PySem.Spec PyProof.Rows L2
def putQ (f:Str) (y:Z):List (Str×Z)->List (Str×Z)
 | []=>[(f,y)]
 | (g,x)::r=>if g=f then (g,y)::r else (g,x)::putQ f y r
section
variable {K:Fg} {H:Hp}
theorem a3b {f:Str}:∀ {fs:List (Str×Z)} {gs:List (Str×V)},gs.map (·.1)=fs.map (·.1)->Reps K H (fs.map (·.2)) (gs.map (·.2))->(fs.lookup f=none->gs.lookup f=none)/\∀ z,fs.lookup f=some z->∃ v,gs.lookup f=some v/\Rep K H z v
 | [],[],_,_=>⟨fun _=>rfl,fun _ h=>by cases h⟩
 | [],_::_,h,_=>by simp at h
 | _::_,[],h,_=>by simp at h
 | (k,x)::fs,(k',v)::gs,h,r=>by
  simp only [List.map_cons,List.cons.injEq] at h
  obtain⟨rfl,h⟩:=h
  simp only [List.map_cons] at r
  rw [a0o] at r
  obtain⟨v',r',e,r1,r2⟩:=r
  obtain⟨rfl,rfl⟩:=List.cons.inj e
  have ih:=a3b (f:=f) h r2
  rw [List.lookup_cons,List.lookup_cons]
  cases c:f==k' with
  | true=>
   refine⟨fun e=>?_,fun z e=>?_⟩
   ·cases e
   ·cases e;exact⟨v,rfl,r1⟩
  | false=>exact ih
theorem a7M {f:Str} {y:Z} {u:V} (ry:Rep K H y u):∀ {fs:List (Str×Z)} {gs:List (Str×V)},gs.map (·.1)=fs.map (·.1)->Reps K H (fs.map (·.2)) (gs.map (·.2))->(putF f u gs).map (·.1)=(putQ f y fs).map (·.1)/\Reps K H ((putQ f y fs).map (·.2)) ((putF f u gs).map (·.2))
 | [],[],_,_=>⟨rfl,by show Reps K H [y] [u];rw [a0o];exact⟨u,[],rfl,ry,by rw [a0O]⟩⟩
 | [],_::_,h,_=>by simp at h
 | _::_,[],h,_=>by simp at h
 | (k,x)::fs,(k',v)::gs,h,r=>by
  simp only [List.map_cons,List.cons.injEq] at h
  obtain⟨rfl,h⟩:=h
  simp only [List.map_cons] at r
  rw [a0o] at r
  obtain⟨v',r',e,r1,r2⟩:=r
  obtain⟨rfl,rfl⟩:=List.cons.inj e
  have ih:=a7M (f:=f) ry h r2
  unfold putQ putF
  by_cases c:k'=f
  ·rw [if_pos c,if_pos c]
   exact⟨by simp [h],by show Reps K H (y::fs.map (·.2)) (u::gs.map (·.2));rw [a0o];exact⟨u,_,rfl,ry,r2⟩⟩
  ·rw [if_neg c,if_neg c]
   exact⟨by simp [ih.1],by show Reps K H (x::(putQ f y fs).map (·.2)) (v::(putF f u gs).map (·.2));rw [a0o];exact⟨v,_,rfl,r1,ih.2⟩⟩
end
section
variable {X:Cx} {C f:Addr} {fd:FuncData} {ps:List Str} {sp:P3} {k:Nat} {a m x:Str} {p pos pos' tpos apos:Pos} {e o value:Expr} {es:List Expr} {te to:E3} {t:A3}
def uFld (C:Addr) (te:E3) (a:Str):E3:=fun σ G R=>te σ G fun x G1=>∃ q dx fs v,x=.ref q/\G1 q=some (.ins C dx fs)/\fs.lookup a=some v/\R v G1
theorem a6V (hc:Cls X.K C) (hn:NoAttr X.K C a) (he:QE X e te) (hb:attributeBase e a X.env (eval e X.env)=eval e X.env:=by rfl):QE X (.Attribute e a pos) (uFld C te a):=⟨a1Z (b4L he.p hb) fun τ H Q hx=>hx.un fun σ G R hs hg h up=>
 ⟨σ,G,_,hs,hg,h,fun w G1 v H1 ⟨q,dx,fs,z,ew,ea,el,hq⟩ rv hg1 t1=>by
  subst ew
  rw [a0p] at rv
  obtain⟨gs,e1,e2,e3⟩:=hg1 _ _ ea
  obtain⟨v',l',r'⟩:=(a3b e2 e3).2 _ el
  exact⟨q,C,dx,gs,v',rv,e1,hc,hn,l',up _ _ _ _ hq r' hg1 t1⟩⟩⟩
def b0u (C:Addr) (to te:E3) (a:Str):X3:=fun nx _ _ _ σ G=>te σ G fun y G1=>to σ G1 fun x G2=>∃ q dx fs,x=.ref q/\G2 q=some (.ins C dx fs)/\fs.length<1000/\nx σ (put G2 q (.ins C dx (putQ a y fs)))
theorem b58 (hc:Cls X.K C) (hn:NoAttr X.K C a) (ho:QE X o to) (hv:QE X value te) (hs:swapsWith value (some (.Attribute o a pos')) pos.line X.env=pure false:=by rfl):QS X (.Assign [.Attribute o a pos'] value pos) (b0u C to te a):=⟨a3E (b4M ho.p hv.p hs) fun D τ H hx=>hx.un fun σ G nx rt bk ct hs hg h u1 u2 u3 u4=>
 ⟨σ,G,_,hs,hg,h,fun y G1 u H1 h1 ry hg1 t1=>⟨σ,G1,_,hs.mono t1,hg1,h1,fun w G2 v H2 ⟨q,dx,fs,ew,ea,hl,hq⟩ rv hg2 t2=>by
  subst ew
  rw [a0p] at rv
  obtain⟨gs,e1,e2,e3⟩:=hg2 _ _ ea
  have tk:TK X.K H2 (L2.upd H2 q (.ins C dx (putF a u gs))):=.ins e1
  have pq:=a7M (f:=a) (ry.mono t2) e2 e3
  exact⟨q,C,dx,gs,rv,e1,hc,hn,by have:=congrArg List.length e2;simp at this;omega,u1 _ _ _ _ hq (hs.mono ((t1.trans t2).trans tk)) (hg2.set tk ⟨_,a1a,pq.1,pq.2.mono tk⟩) ((t1.trans t2).trans tk)⟩⟩⟩⟩
def b0v (C:Addr) (to te:E3) (r:R3) (a:Str):X3:=fun nx _ _ _ σ G=>to σ G fun x G1=>∃ q dx fs v,x=.ref q/\G1 q=some (.ins C dx fs)/\fs.lookup a=some v/\te σ G1 fun y G2=>r v y G2 fun z G3=>∃ dx' fs',G3 q=some (.ins C dx' fs')/\fs'.length<1000/\nx σ (put G3 q (.ins C dx' (putQ a z fs')))
theorem b1Y {op:Operator} {r:R3} (hc:Cls X.K C) (hn:NoAttr X.K C a) (ho:QE X o to) (hv:QE X value te) (hop:OpQ X (inplaceOp op) r):QS X (.AugAssign (.Attribute o a tpos) op value pos) (b0v C to te r a):=⟨a3E (a9D ho.p hv.p hop) fun D τ H hx=>hx.un fun σ G nx rt bk ct hs hg h u1 u2 u3 u4=>
 ⟨σ,G,_,hs,hg,h,fun w G1 v H1 ⟨q,dx,fs,z,ew,ea,el,hq⟩ rv hg1 t1=>by
  subst ew
  rw [a0p] at rv
  obtain⟨gs,e1,e2,e3⟩:=hg1 _ _ ea
  obtain⟨v',l',r'⟩:=(a3b e2 e3).2 _ el
  refine⟨q,C,dx,gs,v',rv,e1,hc,hn,l',σ,G1,_,hs.mono t1,hg1,hq,fun y G2 u H2 h2 ry hg2 t2=>⟨z,y,G2,_,r'.mono t2,ry,hg2,h2,fun z2 G3 v3 H3 ⟨dx',fs',ea',hl,hq'⟩ rz hg3 t3=>?_⟩⟩
  obtain⟨gs',e1',e2',e3'⟩:=hg3 _ _ ea'
  have tk:TK X.K H3 (L2.upd H3 q (.ins C dx' (putF a v3 gs'))):=.ins e1'
  have pq:=a7M (f:=a) rz e2' e3'
  have tt:=((t1.trans t2).trans t3).trans tk
  exact⟨dx',gs',e1',by have:=congrArg List.length e2';simp at this;omega,u1 _ _ _ _ hq' (hs.mono tt) (hg3.set tk ⟨_,a1a,pq.1,pq.2.mono tk⟩) tt⟩⟩⟩
def b1Z (C:Addr) (m:Str) (sp:P3) (to:E3) (t:A3):E3:=fun σ G R=>to σ G fun x G1=>∃ q dx fs,x=.ref q/\G1 q=some (.ins C dx fs)/\fs.lookup m=none/\t σ G1 fun ws G2=>sp (.ref q::ws) G2 R
theorem b10 {τ:L2.St} {H:Hp} {Q:VK} {E:XK} {o':TE} {t':TA} (h:low X.K (b1Z C m sp to t) τ H Q) (h1:o'=low X.K to) (h2:t'=lowA X.K t):b3b C m (lowP X.K sp) [] E o' t' τ H Q:=by
 subst h1 h2
 obtain⟨σ,G,R,hs,hg,h,up⟩:=h
 refine⟨σ,G,_,hs,hg,h,fun w G1 v H1 ⟨q,dx,fs,ew,ea,el,hq⟩ rv hg1 t1=>?_⟩
 subst ew
 rw [a0p] at rv
 obtain⟨gs,e1,e2,e3⟩:=hg1 _ _ ea
 refine⟨q,dx,gs,rv,e1,(a3b e2 e3).1 el,σ,G1,_,hs.mono t1,hg1,hq,fun ws G2 vs H2 h2 rs hg2 t2=>?_⟩
 exact⟨.ref q::ws,G2,R,by rw [List.append_nil,a0o];exact⟨v,vs,rfl,by rw [a0p];exact rv,rs⟩,hg2,h2,up.mono (t1.trans t2)⟩
theorem a5J {pl:Sem Bool} (ho:QE X o to) (c:Cls X.K C) (hm:Meth X.K C m f) (F:FnOk X.prog X.w X.K X.mg X.base CX0 k f fd ps (lowP X.K sp)) (hr:Room k X.A) (hb:Binds X.K fd ps []) (ha:QA X (e::es) t)
  (hst:starEach (e::es) X.env=(false,eval e X.env)::starEach es X.env:=by rfl) (hpl:(backTo pos (starEach es X.env)).any (·.1)=false:=by rfl)
  (ht:eval (.Call (.Attribute o m apos) (e::es) [] pos) X.env=(do
   let ov <- eval o X.env
   standAt apos.atName
   let (f,first) <- holding [ov] (getMethod ov m pl)
   callWith pos f first (backTo pos (starEach (e::es) X.env)) (backToKw pos (keywordEach [] X.env))):=by rfl):QE X (.Call (.Attribute o m apos) (e::es) [] pos) (b1Z C m sp to t):=
 ⟨a1Z (a9H ho.p c hm F hr hb .nil b1w ha.p hst hpl ht) fun _ _ _ h=>b10 h rfl rfl⟩
theorem b0w {pl:Sem Bool} (ho:QE X o to) (c:Cls X.K C) (hm:Meth X.K C m f) (F:FnOk X.prog X.w X.K X.mg X.base CX0 k f fd ps (lowP X.K sp)) (hr:Room k X.A) (hb:Binds X.K fd ps [])
  (ht:eval (.Call (.Attribute o m apos) [] [] pos) X.env=(do
   let ov <- eval o X.env
   standAt apos.atName
   let (f,first) <- holding [ov] (getMethod ov m pl)
   callWith pos f first (backTo pos (starEach [] X.env)) (backToKw pos (keywordEach [] X.env))):=by rfl):QE X (.Call (.Attribute o m apos) [] [] pos) (b1Z C m sp to uNil):=
 ⟨a1Z (b1n ho.p c hm F hr hb .nil b1w ht) fun τ H Q hx=>hx.un fun σ G R hs hg h up=>by
  refine⟨σ,G,_,hs,hg,h,fun w G1 v H1 ⟨q,dx,fs,ew,ea,el,hq⟩ rv hg1 t1=>?_⟩
  subst ew
  rw [a0p] at rv
  obtain⟨gs,e1,e2,e3⟩:=hg1 _ _ ea
  exact⟨q,dx,gs,rv,e1,(a3b e2 e3).1 el,[.ref q],G1,R,by rw [List.append_nil,a0o];exact⟨v,[],rfl,by rw [a0p];exact rv,by rw [a0O]⟩,hg1,hq,up.mono t1⟩⟩
def b59 (C:Addr) (sp:P3) (t:A3):E3:=fun σ G R=>t σ G fun ws G1=>∀ q dx,G1 q=none->sp (.ref q::ws) (put G1 q (.ins C dx [])) fun v G2=>v=.non/\R (.ref q) G2
theorem made {G1:Hq} {H1:Hp} {E:XK} {R:K3} {Q:VK} {ws:List Z} {vs:List V} (h1:∀ q dx,G1 q=none->sp (.ref q::ws) (put G1 q (.ins C dx [])) fun v G2=>v=.non/\R (.ref q) G2) (rs:Reps X.K H1 ws vs) (hg1:RH X.K G1 H1) (up:UpV X.K H1 R Q) (q dx:Addr) (n1:H1 q=none) (n2:H1 dx=none) (ne:dx≠q) :
  lowP X.K sp (.ref q::(vs++[])) (L2.upd (L2.upd H1 dx (.own q)) q (.ins C dx [])) (fun v H2=>v=.non/\Q (.ref q) H2) E:=by
 have n1':L2.upd H1 dx (.own q) q=none:=by rw [a1c (Ne.symm ne)];exact n1
 have tk:TK X.K H1 (L2.upd (L2.upd H1 dx (.own q)) q (.ins C dx [])):=(TK.new n2).trans (TK.new n1')
 refine⟨.ref q::ws,put G1 q (.ins C dx []),_,?_,?_,h1 q dx (hg1.out n1),?_⟩
 ·rw [List.append_nil,a0o]
  exact⟨_,vs,rfl,by rw [a0p],rs.mono tk⟩
 ·exact (hg1.hid n2).set (TK.new n1') ⟨[],a1a,rfl,by rw [List.map_nil,a0O];rfl⟩
 ·rintro w G2 v H2 ⟨ew,hq⟩ rv hg2 t2
  subst ew
  rw [a1H] at rv
  exact⟨rv,up _ _ _ _ hq (by rw [a0p]) hg2 (tk.trans t2)⟩
theorem b3G (M:Mk X.K C f) (F:FnOk X.prog X.w X.K X.mg X.base CX0 k f fd ps (lowP X.K sp)) (hr:Room (k+1) X.A) (hg:Gl X x) (hm:X.mg x=some (.ref C)) (hb:Binds X.K fd ps [])
  (hdb:(x==("__debug__":Str))=false:=by decide):QE X (.Call (.Name x p) [] [] pos) (b59 C sp uNil):=
 ⟨a1Z (b1p M F hr hg hm hb .nil b1w hdb) fun τ H Q ⟨σ,G,R,hs,hg,h,up⟩ q dx n1 n2 ne=>made (vs:=[]) h (by rw [a0O]) hg up q dx n1 n2 ne⟩
variable {σ:S3} {G:Hq} {R:K3} {nx bk ct:C3} {rt:K3} {q dx:Addr} {fs:List (Str×Z)} {v:Z} {Ra:List Z->Hq->Prop}
theorem b6a (h:te σ G fun x G1=>∃ q dx fs v,x=.ref q/\G1 q=some (.ins C dx fs)/\fs.lookup a=some v/\R v G1):uFld C te a σ G R:=h
theorem b6b (h:te σ G fun y G1=>to σ G1 fun x G2=>∃ q dx fs,x=.ref q/\G2 q=some (.ins C dx fs)/\fs.length<1000/\nx σ (put G2 q (.ins C dx (putQ a y fs)))):b0u C to te a nx rt bk ct σ G:=h
theorem b3H (h:to σ G fun x G1=>∃ q dx fs,x=.ref q/\G1 q=some (.ins C dx fs)/\fs.lookup m=none/\t σ G1 fun ws G2=>sp (.ref q::ws) G2 R):b1Z C m sp to t σ G R:=h
theorem b3I (h:t σ G fun ws G1=>∀ q dx,G1 q=none->sp (.ref q::ws) (put G1 q (.ins C dx [])) fun v G2=>v=.non/\R (.ref q) G2):b59 C sp t σ G R:=h
theorem b6c {r:R3} (h:to σ G fun x G1=>∃ q dx fs v,x=.ref q/\G1 q=some (.ins C dx fs)/\fs.lookup a=some v/\te σ G1 fun y G2=>r v y G2 fun z G3=>∃ dx' fs',G3 q=some (.ins C dx' fs')/\fs'.length<1000/\nx σ (put G3 q (.ins C dx' (putQ a z fs')))):b0v C to te r a nx rt bk ct σ G:=h
end
end L3
namespace L2
open PySem PySem.Spec PyProof.Rows
section
variable {X:Cx} {pins:List (Addr×Obj)} {σ:St} {H:Hp} {s:Shared} {a:Addr} {kvs:List (Key×V)} {k:Key} {d:V} {u r:Value} {A:Around} {E:Value->Shared->Prop}
theorem b6d {Q:Value->Shared->Prop} (I:Inv X pins σ H s) (e:H a=some (.dK kvs)) (ry:RelV (kV k) u) (rd:RelV d r) (hz:kvs.length<sizeLine)
  (h1:∀ v w' s',valV kvs k=some v->Inv X pins σ H s'->RelV v w'->Q w' s') (h2:valV kvs k=none->∀ s',Inv X pins σ (upd H a (.dK (putK kvs k d))) s'->Q r s') :
  wpAny (model X.prog X.w) A (call (.builtin "dict.setdefault") [.ref a,u,r]) Q E s:=by
 obtain⟨z,hd,vs,rel,dd⟩:=b40 I.hok e
 have hl:(putK kvs k d).length≤sizeLine:=by have:=a7w kvs k d;omega
 refine call_meetsIn PySem.F.slot_dict_setdefault dd.typeIs PySem.F.entry_dict_setdefault (PySem.F.args_dict_setdefault_3 _ _ _) (kt_meets_setdefault (a1d X.prog X.w) a (b3h ry) hd r) ⟨vs,dd,by rw [<- rel.length];exact z,fun w' hw=>?_,fun hn h' dd' hs=>?_⟩
 ·cases hv:valV kvs k with
  | none=>
   have:=(rel.val k).isSome_eq
   rw [hv,hw] at this
   cases this
  | some v=>
   have rv:=rel.val k
   rw [hv,hw] at rv
   exact h1 v w' _ hv (I.tok _) rv
 ·have hn':valV kvs k=none:=by
   have:=(rel.val k).isSome_eq
   rw [hn] at this
   cases hv:valV kvs k with
   | none=>rfl
   | some v=>rw [hv] at this;cases this
  have he:∃ q,h'.get? a=some q:=let ⟨q,_,_,hq,_⟩:=dd';⟨q,hq⟩
  exact h2 hn' _ (b3i I (by rw [e];exact True.intro) hs he (b41 hl hd (rel.put k rd) dd'))
end
section
variable {X:Cx}
theorem b3J (hu:X.A.units+66<cLine):MtR X "dict.get" (fun x vs H Q=>∃ a y d o,x=.ref a/\vs=[y,d]/\DGet H a y o/\Q (o.getD d) H):=by
 intro pins s σ H x vs v us Q I rx rv ⟨a,y,d,o,ex,ev,g,q⟩
 subst ex ev
 cases rx
 obtain⟨u,r,rfl,ru,rr⟩:=a8R rv
 exact b44 (by omega) I g ru rr fun w' s' I' rw'=>⟨_,H,I',rw',q⟩
theorem b3K:MtR X "dict.setdefault" (fun x vs H Q=>∃ a kvs k d,x=.ref a/\vs=[kV k,d]/\H a=some (.dK kvs)/\kvs.length<sizeLine/\(∀ v,valV kvs k=some v->Q v H)/\(valV kvs k=none->Q d (upd H a (.dK (putK kvs k d))))):=by
 intro pins s σ H x vs v us Q I rx rv ⟨a,kvs,k,d,ex,ev,e,hz,h1,h2⟩
 subst ex ev
 cases rx
 obtain⟨u,r,rfl,ru,rr⟩:=a8R rv
 exact b6d I e ru rr hz (fun v w' s' hv I' rw'=>⟨v,H,I',rw',h1 v hv⟩) fun hn s' I'=>⟨d,_,I',rr,h2 hn⟩
end
end L2
namespace L3
open PySem PySem.Spec PyProof.Rows L2
def valZ (kvs:List (Key×Z)) (k:Key):Option Z:=(kvs.find? fun kv=>decide (kv.1=k)).map (·.2)
theorem a3c {K:Fg} {H:Hp} {k:Key}:∀ {kvs:List (Key×Z)} {us:List (Key×V)},us.map (·.1)=kvs.map (·.1)->Reps K H (kvs.map (·.2)) (us.map (·.2))->(valZ kvs k=none->valV us k=none)/\∀ z,valZ kvs k=some z->∃ v,valV us k=some v/\Rep K H z v
 | [],[],_,_=>⟨fun _=>rfl,fun _ h=>by cases h⟩
 | [],_::_,h,_=>by simp at h
 | _::_,[],h,_=>by simp at h
 | (c,x)::fs,(c',v)::gs,h,r=>by
  simp only [List.map_cons,List.cons.injEq] at h
  obtain⟨rfl,h⟩:=h
  simp only [List.map_cons] at r
  rw [a0o] at r
  obtain⟨v',r',e,r1,r2⟩:=r
  obtain⟨rfl,rfl⟩:=List.cons.inj e
  have ih:=a3c (k:=k) h r2
  unfold valZ valV
  rw [List.find?_cons,List.find?_cons]
  cases q:decide (c'=k) with
  | true=>
   refine⟨fun e=>?_,fun z e=>?_⟩
   ·cases e
   ·cases e;exact⟨v,rfl,r1⟩
  | false=>exact ih
section
variable {X:Cx}
def b6e:Z->List Z->Hq->K3->Prop:=fun x xs G R=>match x,xs with
 | .ref p,[y,d]=>∃ kvs k,(G p=some (.dK kvs)\/G p=some (.dF kvs))/\keyZ y=some k/\R ((valZ kvs k).getD d) G
 | _,_=>False
theorem b6f (hu:X.A.units+66<cLine):MtQ X "dict.get" b6e:=a8Y (b3J hu) fun x xs H Q hx=>hx.un fun w ws G R rw' rs hg h up=>by
 match w,ws,h with
 | .ref p,[y,d],h=>
  rw [a0p] at rw'
  obtain⟨v,v',rfl,r1,r2⟩:=rs.two
  obtain⟨kvs,k,e,hk,h⟩:=h
  obtain⟨us,e',hn,rr⟩:∃ us,Rd H p (.dK us)/\us.map (·.1)=kvs.map (·.1)/\Reps X.K H (kvs.map (·.2)) (us.map (·.2)):=by
   rcases e with e | e
   ·obtain⟨us,e',hn,rr⟩:=hg _ _ e;exact⟨us,.inl e',hn,rr⟩
   ·obtain⟨ob,us,e',hn,rr⟩:=hg _ _ e;exact⟨us,.inr ⟨ob,e'⟩,hn,rr⟩
  refine⟨p,v,v',valV us k,rw',rfl,by rw [a8q hk r1];exact .inl ⟨us,k,e',rfl,rfl⟩,?_⟩
  cases hz:valZ kvs k with
  | none=>
   rw [hz] at h
   rw [(a3c hn rr).1 hz]
   exact up _ _ _ _ h r2 hg (.refl _ _)
  | some z=>
   rw [hz] at h
   obtain⟨u,e1,e2⟩:=(a3c hn rr).2 z hz
   rw [e1]
   exact up _ _ _ _ h e2 hg (.refl _ _)
def b6g:Z->List Z->Hq->K3->Prop:=fun x xs G R=>match x,xs with
 | .ref p,[y,d]=>∃ kvs k,G p=some (.dK kvs)/\keyZ y=some k/\kvs.length<sizeLine/\(∀ z,valZ kvs k=some z->R z G)/\(valZ kvs k=none->R d (put G p (.dK (putZ kvs k d))))
 | _,_=>False
theorem a6W:MtQ X "dict.setdefault" b6g:=a8Y b3K fun x xs H Q hx=>hx.un fun w ws G R rw' rs hg h up=>by
 match w,ws,h with
 | .ref p,[y,d],h=>
  rw [a0p] at rw'
  obtain⟨v,v',rfl,r1,r2⟩:=rs.two
  obtain⟨kvs,k,e,hk,hz,h1,h2⟩:=h
  obtain⟨us,e',hn,rr⟩:=hg _ _ e
  refine⟨p,us,k,v',rw',by rw [a8q hk r1],e',by rw [b3E hn];exact hz,fun u hu=>?_,fun hu=>?_⟩
  ·cases hq:valZ kvs k with
   | none=>rw [(a3c hn rr).1 hq] at hu;cases hu
   | some z=>
    obtain⟨u',e1,e2⟩:=(a3c hn rr).2 z hq
    rw [e1] at hu
    cases hu
    exact up _ _ _ _ (h1 z hq) e2 hg (.refl _ _)
  ·cases hq:valZ kvs k with
   | some z=>
    obtain⟨u',e1,e2⟩:=(a3c hn rr).2 z hq
    rw [e1] at hu
    cases hu
   | none=>
    have hp:=b1X (k:=k) r2 hn rr
    exact up _ _ _ _ (h2 hq) (r2.mono (.dK e')) (hg.set (o:=.dK (putZ kvs k d)) (.dK e') ⟨_,a1a,hp.1,hp.2.mono (.dK e')⟩) (.dK e')
theorem b3L {p:Addr} {kvs:List (Key×Z)} {k:Key} {y d:Z} {G:Hq} {R:K3} (e:G p=some (.dK kvs)\/G p=some (.dF kvs)) (a:keyZ y=some k) (h:R ((valZ kvs k).getD d) G):b6e (.ref p) [y,d] G R:=⟨kvs,k,e,a,h⟩
theorem b6h {p:Addr} {kvs:List (Key×Z)} {k:Key} {y d:Z} {G:Hq} {R:K3} (e:G p=some (.dK kvs)) (a:keyZ y=some k) (z:kvs.length<sizeLine) (h1:∀ z,valZ kvs k=some z->R z G) (h2:valZ kvs k=none->R d (put G p (.dK (putZ kvs k d)))):b6g (.ref p) [y,d] G R:=⟨kvs,k,e,a,z,h1,h2⟩
theorem b73 {p:Addr} {kvs:List (Key×Z)} {G:Hq} {P:Prop} (e:G p=some (.dK kvs)) (h:P):tyZ "dict" (.ref p) G/\P:=⟨.inr ⟨rfl,kvs,.inl e⟩,h⟩
theorem b74 {p:Addr} {kvs:List (Key×Z)} {G:Hq} {P:Prop} (e:G p=some (.dK kvs)\/G p=some (.dF kvs)) (h:P):tyZ "dict" (.ref p) G/\P:=⟨.inr ⟨rfl,kvs,e⟩,h⟩
end
end L3
namespace L3
open PySem PySem.Spec PyProof.Rows L2
def a5K:List (E3×E3)->S3->Hq->(List (Z×Z)->Hq->Prop)->Prop
 | [],_,G,R=>R [] G
 | (tk,tv)::r,σ,G,R=>tk σ G fun x G1=>tv σ G1 fun y G2=>a5K r σ G2 fun ps G3=>R ((x,y)::ps) G3
def b0x:List (Z×Z)->Option (List (Key×Z))
 | []=>some []
 | (x,y)::r=>match keyZ x,b0x r with
  | some k,some kvs=>some ((k,y)::kvs)
  | _,_=>none
def b2K (kvs more:List (Key×Z)):List (Key×Z):=more.foldl (fun acc kv=>putZ acc kv.1 kv.2) kvs
def PReps (K:Fg) (H:Hp):List (Z×Z)->List (V×V)->Prop:=Paired fun p q=>Rep K H p.1 q.1/\Rep K H p.2 q.2
theorem PReps.mono {K:Fg} {H H':Hp} (t:TK K H H'):∀ {ps:List (Z×Z)} {vs:List (V×V)},PReps K H ps vs->PReps K H' ps vs
 | _,_,.nil=>.nil
 | _,_,.cons r s=>.cons ⟨r.1.mono t,r.2.mono t⟩ (PReps.mono t s)
section
variable {X:Cx}
def b75 (trs:List (E3×E3)):E3:=fun σ G R=>∀ p,G p=none->a5K trs σ (put G p (.dK [])) fun ps G2=>G2 p=some (.dK [])/\∃ kvs,b0x ps=some kvs/\kvs.length≤15/\R (.ref p) (put G2 p (.dK (b2K [] kvs)))
theorem b6i {trs:List (E3×E3)} {σ:S3} {G:Hq} {R:K3} (h:∀ p,G p=none->a5K trs σ (put G p (.dK [])) fun ps G2=>G2 p=some (.dK [])/\∃ kvs,b0x ps=some kvs/\kvs.length≤15/\R (.ref p) (put G2 p (.dK (b2K [] kvs)))):b75 trs σ G R:=h
theorem b6j {σ:S3} {G:Hq} {R:List (Z×Z)->Hq->Prop} (h:R [] G):a5K [] σ G R:=h
theorem b3M {tk tv:E3} {r:List (E3×E3)} {σ:S3} {G:Hq} {R:List (Z×Z)->Hq->Prop} (h:tk σ G fun x G1=>tv σ G1 fun y G2=>a5K r σ G2 fun ps G3=>R ((x,y)::ps) G3):a5K ((tk,tv)::r) σ G R:=h
end
end L3
namespace L3
theorem ln0 {α:Type} {C:List α->Prop} (h:C []):∀ us:List α,us.length=0->C us
 | [],_=>h
theorem lnS {α:Type} {C:List α->Prop} {n:Nat} (h:∀ a,∀ us:List α,us.length=n->C (a::us)):∀ us:List α,us.length=n+1->C us
 | a::us,e=>h a us (Nat.succ.inj e)
end L3
namespace L2
open PySem PySem.Spec PyProof.Rows
section
variable {X:Cx}
end
end L2
namespace L3
open PySem PySem.Spec PyProof.Rows L2
section
variable {X:Cx} {e:Expr} {es:List Expr} {t:A3} {x y:Str} {p p2 pos pos2:Pos}
def uSS (t:A3):E3:=fun σ G R=>t σ G fun ws G1=>∃ (p:Addr) (ns:List Int),ws=[.ref p]/\G1 p=some (.lst (ns.map Z.int))/\ns.length≤1000 /\
 ∀ (t:Addr) (ks:List Int),G1 t=none->ks.Pairwise (·<·)->(∀ x,x∈ks↔x∈ns)->ks.length≤ns.length->R (.ref t) (put G1 t (.lst (ks.map Z.int)))
end
end L3
namespace L3
open PySem PySem.Spec PyProof.Rows L2
inductive Refs (G:Hq):List Z->List (List Z)->Prop
 | nil:Refs G [] []
 | cons {a:Addr} {ws:List Z} {xs:List Z} {xss:List (List Z)}:G a=some (.lst xs)->xs.all (flat 8)=true->Refs G ws xss->Refs G (.ref a::ws) (xs::xss)
def dLs (xss:List (List Z)):List PyData:=xss.map fun xs=>.list (dZs xs)
def zEqL (f:Bool->Bool):R3:=fun x y G R=>∃ (p q:Addr) (ws us:List Z) (xss yss:List (List Z)),x=.ref p/\y=.ref q/\G p=some (.lst ws)/\G q=some (.lst us)/\Refs G ws xss/\Refs G us yss/\R (.bl (f (decide (xss=yss)))) G
theorem a3M {G:Hq} {ws:List Z} {xss:List (List Z)} (h:Refs G ws xss):∀ xs∈xss,xs.all (flat 8)=true:=by
 induction h with
 | nil=>intro xs hx;cases hx
 | cons _ f _ ih=>
  intro xs hx
  rcases List.mem_cons.mp hx with e | hx
  ·rw [e];exact f
  ·exact ih xs hx
theorem a8r {K:Fg} {G:Hq} {H:Hp} (hg:RH K G H) {ws:List Z} {xss:List (List Z)} (h:Refs G ws xss):∀ {vs:List V},Reps K H ws vs->DVs H (dLs xss) vs:=by
 induction h with
 | nil=>intro vs r;rw [a0O] at r;unfold dLs List.map DVs;exact r
 | @cons a ws xs xss g f _ ih=>
  intro vs r
  rw [a0o] at r
  obtain⟨v,r',e,r1,r2⟩:=r
  rw [a0p] at r1
  obtain⟨us,e',rs⟩:=hg _ _ g
  show DVs H (.list (dZs xs)::dLs xss) vs
  unfold DVs
  refine⟨v,r',e,?_,ih r2⟩
  unfold DV
  exact⟨a,us,r1,e',a8g 8 _ _ f rs⟩
theorem b0y:∀ {xss:List (List Z)},(∀ xs∈xss,xs.all (flat 8)=true)->PyData.canLayAll0 (dLs xss)=true/\PyData.depthAll (dLs xss)≤9
 | [],_=>by simp [dLs,PyData.canLayAll0,PyData.depthAll]
 | xs::xss,h=>by
  have q:=b0c 8 xs (h xs (.head _))
  have r:=b0y (xss:=xss) fun ys hy=>h ys (.tail _ hy)
  show PyData.canLayAll0 (.list (dZs xs)::dLs xss)=true/\PyData.depthAll (.list (dZs xs)::dLs xss)≤9
  simp only [PyData.canLayAll0,PyData.depthAll,PyData.canLay0,PyData.depth,q.1,r.1,Bool.true_and,true_and]
  omega
theorem a5L {xss:List (List Z)} (h:∀ xs∈xss,xs.all (flat 8)=true):SeqAt.shaped (.list (dLs xss))=true:=by
 have q:=b0y h
 unfold SeqAt.shaped
 simp only [PyData.canLay0,PyData.depth,q.1,Bool.true_and]
 exact decide_eq_true (by omega)
theorem b0z:∀ {xss yss:List (List Z)},(∀ xs∈xss,xs.all (flat 8)=true)->(∀ xs∈yss,xs.all (flat 8)=true)->(PyData.eqvAll (dLs xss) (dLs yss)=true↔xss=yss)
 | [],[],_,_=>by simp [dLs,PyData.eqvAll]
 | [],_::_,_,_=>by simp [dLs,PyData.eqvAll]
 | _::_,[],_,_=>by simp [dLs,PyData.eqvAll]
 | xs::xss,ys::yss,h1,h2=>by
  have q:=b0d 8 8 xs ys (h1 xs (.head _)) (h2 ys (.head _))
  have r:=b0z (xss:=xss) (yss:=yss) (fun z hz=>h1 z (.tail _ hz)) fun z hz=>h2 z (.tail _ hz)
  show PyData.eqvAll (.list (dZs xs)::dLs xss) (.list (dZs ys)::dLs yss)=true↔_
  simp only [PyData.eqvAll,PyData.eqv,Bool.and_eq_true,q,r,List.cons.injEq]
section
variable {X:Cx}
theorem b3N {f:Bool->Bool} {K:Fg} {x y:V} {H:Hp} {Q:VK} (h:low2 K (zEqL f) x y H Q) :
  ∃ d e,DV H d x/\DV H e y/\SeqAt.shaped d=true/\SeqAt.shaped e=true/\Q (.bl (f (PyData.eqv d e))) H:=by
 obtain⟨a,b,G,R,ra,rb,hg,h,up⟩:=h
 obtain⟨p,q,ws,us,xss,yss,rfl,rfl,e1,e2,f1,f2,h⟩:=h
 rw [a0p] at ra rb
 obtain⟨vs,e1',r1⟩:=hg _ _ e1
 obtain⟨vs2,e2',r2⟩:=hg _ _ e2
 refine⟨.list (dLs xss),.list (dLs yss),?_,?_,a5L (a3M f1),a5L (a3M f2),?_⟩
 ·unfold DV;exact⟨_,vs,ra,e1',a8r hg f1 r1⟩
 ·unfold DV;exact⟨_,vs2,rb,e2',a8r hg f2 r2⟩
 ·simp only [PyData.eqv]
  rw [a7C (b0z (a3M f1) (a3M f2))]
  exact up _ _ _ _ h (by rw [a06]) hg (.refl _ _)
theorem b76 (hu:X.A.units+66<cLine):OpQ X (compareOp .Eq) (zEqL id):=a5m (b2u hu) fun x y H Q h=>b3N h
theorem b6k {f:Bool->Bool} {p q:Addr} {ws us:List Z} {xss yss:List (List Z)} {G:Hq} {R:K3} (e1:G p=some (.lst ws)) (e2:G q=some (.lst us)) (f1:Refs G ws xss) (f2:Refs G us yss) (h:R (.bl (f (decide (xss=yss)))) G):zEqL f (.ref p) (.ref q) G R:=
 ⟨p,q,ws,us,xss,yss,rfl,rfl,e1,e2,f1,f2,h⟩
end
end L3
namespace L2
open PySem PySem.Spec PyProof.Rows
section
variable {X:Cx}
theorem a86:CallR X (.type "str") (fun xs H Q=>(∃ i:Int,xs=[.int i]/\i.natAbs.log2<1920/\Q (.str (Str.ofString (toString i))) H)\/∃ x,xs=[.str x]/\Q (.str x) H):=by
 intro pins s σ H xs us Q I r h
 rcases h with ⟨i,rfl,hi,q⟩ | ⟨x,rfl,q⟩
 ·obtain⟨u,rfl,rx⟩:=a4U r
  obtain⟨t,rfl⟩:=rx
  exact PySem.P.str_of_int hi ⟨.str _,H,I.tok _,⟨_,rfl⟩,q⟩
 ·obtain⟨u,rfl,rx⟩:=a4U r
  obtain⟨t,rfl⟩:=rx
  exact PySem.P.str_of_str ⟨.str _,H,I,⟨_,rfl⟩,q⟩
theorem a87:CallR X (.type "int") (fun xs H Q=>∃ (x:Str) (n:Int),xs=[.str x]/\intText? x=some n/\x.length≤640/\Q (.int n) H):=by
 intro pins s σ H xs us Q I r h
 obtain⟨x,n,rfl,hn,hl,q⟩:=h
 obtain⟨u,rfl,rx⟩:=a4U r
 obtain⟨t,rfl⟩:=rx
 exact PySem.W.KIN.call_text hn hl ⟨.int n,H,I.tok _,⟨_,rfl⟩,q⟩
def KD (X:Cx) (a:Addr) (kvs:List (Key×V)):Prop:=kvs.length≤sizeLine/\(a==sysModules)=false/\∃ vs,KV kvs vs/\∀ h:Heap,X.K.In h->h.DictOf (a1d X.prog X.w) a vs
end
end L2
namespace L3
open PySem PySem.Spec PyProof.Rows L2
section
variable {X:Cx}
theorem a1l {a:Addr} {e:Expr} (h:PE X e (tC (.ref a))):QE X e (uC (.ref a)):=a7x h fun _=>by rw [a0p]
theorem a0G {x:Str} {a:Addr} {pos:Pos} (hg:Gl X x) (hm:X.mg x=some (.ref a)) (hd:(x==("__debug__":Str))=false:=by decide):PE X (.Name x pos) (tC (.ref a)):=a9p hg hm rfl hd
def zStr:List Z->Hq->K3->Prop:=fun xs G R=>match xs with
 | [.int i]=>i.natAbs.log2<1920/\R (.str (Str.ofString (toString i))) G
 | [.str x]=>R (.str x) G
 | _=>False
theorem b_str:a3F X (.type "str") zStr:=a2g a86 fun xs H Q hx=>hx.un fun ws G R rs hg h up=>by
 match ws,h with
 | [.int i],h=>
  obtain⟨v,rfl,r⟩:=rs.one
  rw [a0u] at r
  exact .inl ⟨i,by rw [r],h.1,up _ _ _ _ h.2 (by rw [a0H]) hg (.refl _ _)⟩
 | [.str x],h=>
  obtain⟨v,rfl,r⟩:=rs.one
  rw [a0H] at r
  exact .inr ⟨x,by rw [r],up _ _ _ _ h (by rw [a0H]) hg (.refl _ _)⟩
def b77:List Z->Hq->K3->Prop:=fun xs G R=>match xs with
 | [.str x]=>∃ n,intText? x=some n/\x.length≤640/\R (.int n) G
 | _=>False
theorem b_int:a3F X (.type "int") b77:=a2g a87 fun xs H Q hx=>hx.un fun ws G R rs hg h up=>by
 match ws,h with
 | [.str x],h=>
  obtain⟨v,rfl,r⟩:=rs.one
  rw [a0H] at r
  obtain⟨n,h1,h2,h⟩:=h
  exact⟨x,n,by rw [r],h1,h2,up _ _ _ _ h (by rw [a0u]) hg (.refl _ _)⟩
def zV:Z->V
 | .str x=>.str x
 | .ref a=>.ref a
 | .int i=>.int i
 | _=>.non
def b6l:Z->Bool
 | .str _=>true
 | .ref _=>true
 | .int _=>true
 | _=>false
def KDZ (X:Cx) (a:Addr) (kvs:List (Key×Z)):Prop:=(∀ kv∈kvs,b6l kv.2=true)/\KD X a (kvs.map fun kv=>(kv.1,zV kv.2))
def KTup (K:Fg) (a:Addr) (ss:List Str):Prop:=∃ (o:Obj) (its:Array Value) (n:Nat),K.lookup a=some o/\o.cls=.type "tuple"/\o.data=.seq its n/\its.size≤sizeLine/\Vals (ss.map V.str) its.toList
theorem KTup.sq {K:Fg} {H:Hp} {a:Addr} {ss:List Str} (h:KTup K a ss):SqT K H a (ss.map V.str):=.inr h
variable {t:A3}
end
end L3
namespace L3
open PySem PySem.Spec PyProof.Rows L2
def KDk (w:World) (K:Fg) (a:Addr) (kvs:List (Key×Z)):Prop:=(∀ kv∈kvs,b6l kv.2=true)/\kvs.length≤sizeLine/\(a==sysModules)=false/\∃ vs:List (Key×Value),KV (kvs.map fun kv=>(kv.1,zV kv.2)) vs/\∀ (P:Program) (h:Heap),K.In h->h.DictOf (a1d P w) a vs
theorem KDk.at {X:Cx} {a:Addr} {kvs:List (Key×Z)} (h:KDk X.w X.K a kvs):KDZ X a kvs:=⟨h.1,by rw [List.length_map];exact h.2.1,h.2.2.1,let ⟨vs,r,q⟩:=h.2.2.2;⟨vs,r,q X.prog⟩⟩
end L3
namespace L2
open PySem PySem.W
theorem b0A {K:Frag} {D:Addr} (ea:hasDictIn K D=true) (eb:findIn K (.ref D) "__getattribute__"=some (some (.builtin "BaseException.__getattribute__"))) (ec:findIn K (.ref D) "__getattr__"=some none) (ed:findIn K (.ref D) "__class__"=some (some (.builtin "object.__class__")))
  (ee:specialIn K (.builtin "object.__class__") "__get__"=some (some (.builtin "getset_descriptor.__get__"))) (ef:takesIn K (.builtin "object.__class__")=some true) (eg:mroIn K D (.type "object")=some true) (eh:mroIn K D (.type "BaseException")=some true):ExK K D:=
 ⟨by obtain⟨cd,hc,_⟩:=any_some ea;rw [hc];rfl,eb,ec,ed,ee,ef,eg,eh⟩
theorem b0B {K:Frag} {C D:Addr} (xb:subIn K (.ref D) (.type "BaseException")=some true) (xt:typeIn K (.ref D)=some (.type "type")) (xs:subIn K (.ref C) (.ref D)=some true) (xh:hasDictIn K D=true):exmOne K (.ref C) (.ref D)=some true:=by
 obtain⟨cd,hc,_⟩:=any_some xh
 unfold exmOne
 rw [if_pos (by rw [xb];rfl)]
 show (if ((clsIn K D).isSome&&typeIn K (.ref D)==some (.type "type"))=true then subIn K (.ref C) (.ref D) else none)=some true
 rw [if_pos (by rw [hc,xt];rfl)]
 exact xs
end L2
namespace L2
open PySem PySem.Spec PyProof.Rows
section
variable {X:Cx} {e:Addr} {oe:Obj} {C:Addr}
def rIsX (K:Fg) (C e:Addr):List V->Hp->VK->Prop:=fun xs H Q=>∃ y b,xs=[.ref e,y]/\((∃ D,y=.ref D/\PySem.W.kitOne K (.ref C) (.ref D)=some b)\/(∃ T,y=.ty T/\PySem.W.kitOne K (.ref C) (.type T)=some b) \/
 ∃ (p:Addr) (ds:List Addr),y=.ref p/\SqT K H p (ds.map V.ref)/\PySem.W.kitAny K (.ref C) (ds.map Value.ref)=some b)/\Q (.bl b) H
theorem b0C:∀ {ds:List Addr} {us:List Value},Vals (ds.map V.ref) us->us=ds.map Value.ref
 | [],us,r=>by rw [List.map_nil] at r;cases r;rfl
 | T::Ts,us,r=>by
  rw [List.map_cons] at r
  cases r with
  | cons r1 r2=>rw [b0C r2,show _=Value.ref T from r1];rfl
theorem b11 (hc:oe.cls=.ref C) (hd:oe.dict=none) (hn:PySem.W.notCls oe=true) (k:ExK X.K C):CallR (X.hnd e oe) (.builtin "isinstance") (rIsX X.K C e):=by
 intro pins s σ H xs us Q I r h
 obtain⟨y,b,rfl,hy,q⟩:=h
 obtain⟨u,w',rfl,r1,r2⟩:=a8R r
 cases (show u=Value.ref e from r1)
 have J:PySem.W.InstAt s.heap e oe C none:=⟨(I.pin (e,oe) (.head _)).1,hc,hn,by rw [hd];exact True.intro⟩
 rcases hy with ⟨D,rfl,e1⟩ | ⟨T,rfl,e1⟩ | ⟨p,ds,rfl,hq,e1⟩
 ·cases (show w'=Value.ref D from r2)
  exact PySem.W.kia_one (a52 k) I.kIn J e1 (fun z=>nomatch z) fun tk=>⟨.bl b,H,I.tok tk,rfl,q⟩
 ·cases (show w'=Value.type T from r2)
  exact PySem.W.kia_one (a52 k) I.kIn J e1 (fun z=>nomatch z) fun tk=>⟨.bl b,H,I.tok tk,rfl,q⟩
 ·cases (show w'=Value.ref p from r2)
  obtain⟨its,rv,pl,_⟩:=I.tuple hq
  have ei:=b0C rv
  subst ei
  obtain⟨⟨cl,dd,dt,sl⟩,ho,hc',n,hd'⟩:=pl
  cases hc'
  cases hd'
  exact PySem.W.kia_tup (a52 k) I.kIn J ho e1 (fun z=>nomatch z) fun tk=>⟨.bl b,H,I.tok tk,rfl,q⟩
end
end L2
namespace L3
open PySem PySem.Spec PyProof.Rows L2
abbrev PX3:=List Z->Hq->K3->(Addr->Hq->Prop)->Prop
def UpX (K:Fg) (H:Hp) (EE:Addr->Hq->Prop) (E:XK):Prop:=∀ C G H',EE C G->RH K G H'->TK K H H'->E (.ref C) none H'
def a2Z (K:Fg) (sp:PX3):Sp:=fun vs H Q E=>∃ ws G R EE,Reps K H ws vs/\RH K G H/\sp ws G R EE/\UpV K H R Q/\UpX K H EE E
theorem b6m {K:Fg} {H H':Hp} (t:TKs H H'):TK K H H':=⟨t.tup,fun a xs h=>by
 rcases h with ⟨o,h⟩ | h
 ·exact .inl ⟨o,t.frz _ _ _ h⟩
 ·exact .inr h,t.frz⟩
def UpN (K:Fg) (EE:Addr->Hq->Prop) (E:XK):Prop:=∀ C G H',EE C G->RH K G H'->E (.ref C) none H'
theorem UpX.since {K:Fg} {H:Hp} {EE:Addr->Hq->Prop} {E:XK} (h:UpX K H EE E):UpN K EE (since H E):=fun C G H' q r t=>h C G H' q r (b6m t)
abbrev EE0:Addr->Hq->Prop:=fun _ _=>False
theorem up0 {K:Fg}:UpN K EE0 E0:=fun _ _ _ z _=>z.elim
theorem a13 {X:Cx}:a2V (CXx X.prog X.w) X E0:=by
 rintro pins σ H s ev s' _ ⟨_,_,_,_,_,_,_,_,_,q⟩
 exact q.elim
section
variable {X:Cx} {E:XK} {EE:Addr->Hq->Prop} {e e0:Expr} {es:List Expr} {x n:Str} {p pos np cpos hpos tpos:Pos} {t:A3} {te:E3} {k:Nat} {f C D:Addr} {fd:FuncData} {ps:List Str} {sp:PX3}
def b2L (sp:PX3) (EE:Addr->Hq->Prop) (t:A3):E3:=fun σ G R=>t σ G fun ws G1=>sp ws G1 R EE
theorem a1L (hp:a2V (CXx X.prog X.w) X E) (hU:UpN X.K EE E) (F:FnOk X.prog X.w X.K X.mg X.base (CXx X.prog X.w) k f fd ps (a2Z X.K sp)) (hr:Room k X.A) (hg:Gl X x) (hm:X.mg x=some (.ref f)) (hk:PySem.W.keepIn X.K (.ref f)=true) (hb:Binds X.K fd ps []) (ha:QA X (e::es) t)
  (hdb:(x==("__debug__":Str))=false:=by decide) (he:starEach (e::es) X.env=(false,eval e X.env)::starEach es X.env:=by rfl) (hpl:(backTo pos (starEach es X.env)).any (·.1)=false:=by rfl) :
  QE X (.Call (.Name x p) (e::es) [] pos) (b2L sp EE t):=⟨a1Z (a9G F hr hg hm hk hb .nil hp ha.p hdb he hpl) fun τ H Q hx=>hx.un fun σ G R hs hg h up=>⟨σ,G,_,hs,hg,h,fun ws G1 vs H1 h1 rs hg1 t1=>⟨ws,G1,R,EE,by rw [List.append_nil];exact rs,hg1,h1,up.mono t1,fun C G H' z r _=>hU C G H' z r⟩⟩⟩
def b2M (EE:Addr->Hq->Prop) (C:Addr) (te:E3):X3:=fun _ _ _ _ σ G=>te σ G fun _ G1=>EE C G1
theorem a6c (O:Outs X E) (hU:UpX X.K X.H₀ EE E) (hc:X.calm=true) (hg:Gl X x) (hm:X.mg x=some (.ref C)) (hq:PySem.W.excIn X.K C veM "ValueError.__new__"=true) (he:QE X e0 te)
  (hs:starEach [e0] X.env=(false,eval e0 X.env)::starEach [] X.env:=by rfl) (hp:(backTo cpos (starEach [] X.env)).any (·.1)=false:=by rfl) (hd:(x==("__debug__":Str))=false:=by decide) :
  QS X (.Raise (some (.Call (.Name x np) [e0] [] cpos)) none pos) (b2M EE C te):=⟨a3E (b1J O hc hg hm hq he.p hs hp hd) fun D τ H hx=>hx.un fun σ G nx rt bk ct hs hg h u1 u2 u3 u4=>⟨σ,G,_,hs,hg,h,fun w G1 v H1 h1 rv hg1 t1=>fun t=>hU _ _ _ h1 hg1 (b6m t)⟩⟩
theorem RSt.unset {K:Fg} {H:Hp}:∀ {σ:S3} {τ:L2.St},RSt K H σ τ->∀ i:Nat,RSt K H (σ.set i none) (τ.set i none)
 | _,_,.nil,_=>by rw [List.set_nil,List.set_nil];exact .nil
 | _,_,.cons r h,0=>.cons (fun _ z=>nomatch z) h
 | _,_,.cons r h,i+1=>.cons r (RSt.unset h i)
variable {o:Expr} {m:Str} {apos:Pos} {to:E3} {PC:Addr->Prop}
def b2N (C:Addr) (m:Str) (sp:PX3) (EE:Addr->Hq->Prop) (to:E3) (t:A3):E3:=fun σ G R=>to σ G fun x G1=>∃ q dx fs,x=.ref q/\G1 q=some (.ins C dx fs)/\fs.lookup m=none/\t σ G1 fun ws G2=>sp (.ref q::ws) G2 R EE
theorem a2i {pl:Sem Bool} (hp:a2V (CXx X.prog X.w) X E) (hU:UpN X.K EE E) (ho:QE X o to) (c:Cls X.K C) (hm:Meth X.K C m f) (F:FnOk X.prog X.w X.K X.mg X.base (CXx X.prog X.w) k f fd ps (a2Z X.K sp)) (hr:Room k X.A) (hb:Binds X.K fd ps []) (ha:QA X (e::es) t)
  (hst:starEach (e::es) X.env=(false,eval e X.env)::starEach es X.env:=by rfl) (hpl:(backTo pos (starEach es X.env)).any (·.1)=false:=by rfl)
  (ht:eval (.Call (.Attribute o m apos) (e::es) [] pos) X.env=(do
   let ov <- eval o X.env
   standAt apos.atName
   let (f,first) <- holding [ov] (getMethod ov m pl)
   callWith pos f first (backTo pos (starEach (e::es) X.env)) (backToKw pos (keywordEach [] X.env))):=by rfl):QE X (.Call (.Attribute o m apos) (e::es) [] pos) (b2N C m sp EE to t):=
 ⟨a1Z (a9H ho.p c hm F hr hb .nil hp ha.p hst hpl ht) fun τ H Q hx=>hx.un fun σ G R hs hg h up=>by
  refine⟨σ,G,_,hs,hg,h,fun w G1 v H1 ⟨q,dx,fs,ew,ea,el,hq⟩ rv hg1 t1=>?_⟩
  subst ew
  rw [a0p] at rv
  obtain⟨gs,e1,e2,e3⟩:=hg1 _ _ ea
  refine⟨q,dx,gs,rv,e1,(a3b e2 e3).1 el,σ,G1,_,hs.mono t1,hg1,hq,fun ws G2 vs H2 h2 rs hg2 t2=>?_⟩
  exact⟨.ref q::ws,G2,R,EE,by rw [List.append_nil,a0o];exact⟨v,vs,rfl,by rw [a0p];exact rv,rs⟩,hg2,h2,up.mono (t1.trans t2),fun C G H' z r _=>hU C G H' z r⟩⟩
def b78 (PC:Addr->Prop) (i:Nat) (C:Addr) (m:Str) (sp:PX3) (to:E3) (t:A3) (th:Addr->Addr->X3):X3:=fun nx rt bk ct σ G=>to σ G fun x G1=>∃ q dx fs,x=.ref q/\G1 q=some (.ins C dx fs)/\fs.lookup m=none/\t σ G1 fun ws G2=>
 sp (.ref q::ws) G2 (fun _ G3=>nx σ G3) fun C' G3=>PC C'/\∀ e,th C' e (fun σ' G'=>nx (σ'.set i none) G') rt (fun σ' G'=>bk (σ'.set i none) G') (fun σ' G'=>ct (σ'.set i none) G') (σ.set i (some (.ref e))) G3
def zIsX (K:Fg) (C e:Addr):List Z->Hq->K3->Prop:=fun xs G R=>∃ y b,xs=[.ref e,y]/\((∃ D,y=.ref D/\PySem.W.kitOne K (.ref C) (.ref D)=some b)\/(∃ T,y=.ty T/\PySem.W.kitOne K (.ref C) (.type T)=some b) \/
 ∃ ds:List Addr,y=.tup (ds.map Z.ref)/\PySem.W.kitAny K (.ref C) (ds.map Value.ref)=some b)/\R (.bl b) G
theorem a6X {K:Fg} {H:Hp}:∀ {bs:List Addr} {vs:List V},Reps K H (bs.map Z.ref) vs->vs=bs.map V.ref
 | [],vs,h=>by rw [List.map_nil,a0O] at h;subst h;rfl
 | n::ns,vs,h=>by
  rw [List.map_cons,a0o] at h
  obtain⟨v,r,rfl,h1,h2⟩:=h
  rw [a0p] at h1
  rw [h1,a6X h2];rfl
theorem a6d {e:Addr} {oe:Obj} (hc:oe.cls=.ref C) (hd:oe.dict=none) (hn:PySem.W.notCls oe=true) (k:ExK X.K C):a3F (X.hnd e oe) (.builtin "isinstance") (zIsX X.K C e):=a2g (b11 hc hd hn k) fun xs H Q hx=>hx.un fun ws G R rs hg h up=>by
 obtain⟨y,b,rfl,hy,q⟩:=h
 obtain⟨v,v',rfl,r,r'⟩:=rs.two
 rw [a0p] at r
 subst r
 refine⟨v',b,rfl,?_,up _ _ _ _ q (by rw [a06]) hg (.refl _ _)⟩
 rcases hy with ⟨D,rfl,e1⟩ | ⟨T,rfl,e1⟩ | ⟨ds,rfl,e1⟩
 ·rw [a0p] at r';exact .inl ⟨D,r',e1⟩
 ·rw [a6G] at r';exact .inr (.inl ⟨T,r',e1⟩)
 ·rw [a1w] at r'
  obtain⟨p,vs,rfl,e',rs'⟩:=r'
  have:=a6X rs'
  subst this
  exact .inr (.inr ⟨p,ds,rfl,SqT.of e',e1⟩)
end
section
variable {X:Cx} {EW:XK} {N':List Str} {sc:Scope} {cap:List (Option Nat)} {tg iter elt:Expr} {ifs:List Expr} {wi:I3} {pt:Pt} {tt:T3} {te:E3} {pos:Pos}
end
section
variable {P:Program} {w:World} {K:Fg} {mg:Str->Option Value} {base:Heap}
theorem fn3x {x qual:Str} {st:Stmt} {f:Addr} {fd:FuncData} {N ps:List Str} {k:Nat} {sp:PX3} (F:Fun K x qual st f fd) (S:FnScope N ps (a0c st)) (len:∀ ws G R EE,sp ws G R EE->ws.length=ps.length)
  (hbody:∀ (cdv:Value) (A:Around) (outer:List Env) (s:Shared) (H:Hp) (E:XK) (ws:List Z) (G:Hq) (R:K3) (EE:Addr->Hq->Prop),Room k (A.deeper (envOfC qual (a0c st) s.heap.objs.size f cdv))->sp ws G R EE->UpX K H EE E ->
   ∃ t,QSs (cxOf (CXx P w) P w K mg base N qual (a0c st) f cdv A outer s H E) (a0h st) t/\t (fun _ G'=>R .non G') R (fun _ _=>False) (fun _ _=>False) (a4t N ws) G):FnOk P w K mg base (CXx P w) (k+1) f fd ps (a2Z K sp):=by
 obtain⟨oc,od,kV,doc,pm,an,cdv,ct,osl,rfl,lk,hcd⟩:=F.ex
 refine b4R lk hcd S (fun vs H Q E ⟨ws,G,R,EE,rs,hg,h,up,ux⟩=>by rw [<- rs.length];exact len _ _ _ _ h) ?_
 rintro A outer s H vs Q E hr ⟨ws,G,R,EE,rs,hg,h,up,ux⟩
 obtain⟨t,ht,hq⟩:=hbody cdv A outer s H E ws G R EE hr h ux
 exact⟨_,ht.p,a4t N ws,G,_,R,_,_,.start rs,hg,hq,fun σ' G' τ' H' h' hs' hg' t'=>up _ _ _ _ h' (by rw [a1H]) hg' t',up,fun _ _ _ _ h _ _ _=>h.elim,fun _ _ _ _ h _ _ _=>h.elim⟩
end
end L3
namespace L3
open PySem PySem.Spec PyProof.Rows L2
mutual
def DZ (G:Hq):PyData->Z->Prop
 | .none,x=>x=.non
 | .bool b,x=>x=.bl b
 | .int i,x=>x=.int i
 | .str s,x=>x=.str s
 | .list ds,x=>∃ p ws,x=.ref p/\G p=some (.lst ws)/\DZs G ds ws
 | .tuple ds,x=>∃ ws,x=.tup ws/\DZs G ds ws
 | .dict _,_=>False
def DZs (G:Hq):List PyData->List Z->Prop
 | [],ws=>ws=[]
 | d::ds,ws=>∃ w r,ws=w::r/\DZ G d w/\DZs G ds r
end
mutual
theorem DZ.dv {K:Fg} {G:Hq} {H:Hp} (hg:RH K G H):∀ {d:PyData} {w:Z} {v:V},DZ G d w->Rep K H w v->DV H d v
 | .none,w,v,q,r=>by unfold DZ at q;subst q;rw [a1H] at r;unfold DV;exact r
 | .bool b,w,v,q,r=>by unfold DZ at q;subst q;rw [a06] at r;unfold DV;exact r
 | .int i,w,v,q,r=>by unfold DZ at q;subst q;rw [a0u] at r;unfold DV;exact r
 | .str s,w,v,q,r=>by unfold DZ at q;subst q;rw [a0H] at r;unfold DV;exact r
 | .list ds,w,v,q,r=>by
  unfold DZ at q
  obtain⟨p,ws,e,hp,q⟩:=q
  subst e
  rw [a0p] at r
  obtain⟨vs,e',rs⟩:=hg _ _ hp
  unfold DV
  exact⟨p,vs,r,e',DZs.dv hg q rs⟩
 | .tuple ds,w,v,q,r=>by
  unfold DZ at q
  obtain⟨ws,e,q⟩:=q
  subst e
  rw [a1w] at r
  obtain⟨p,vs,e1,e2,rs⟩:=r
  unfold DV
  exact⟨p,vs,e1,e2,DZs.dv hg q rs⟩
 | .dict _,w,v,q,r=>by unfold DZ at q;exact q.elim
theorem DZs.dv {K:Fg} {G:Hq} {H:Hp} (hg:RH K G H):∀ {ds:List PyData} {ws:List Z} {vs:List V},DZs G ds ws->Reps K H ws vs->DVs H ds vs
 | [],ws,vs,q,r=>by unfold DZs at q;subst q;rw [a0O] at r;unfold DVs;exact r
 | d::ds,ws,vs,q,r=>by
  unfold DZs at q
  obtain⟨w,ws',e,q1,q2⟩:=q
  subst e
  rw [a0o] at r
  obtain⟨v,vs',e,r1,r2⟩:=r
  unfold DVs
  exact⟨v,vs',e,DZ.dv hg q1 r1,DZs.dv hg q2 r2⟩
end
mutual
theorem DZ.sm {G G':Hq} (s:Sm G G'):∀ {d:PyData} {w:Z},DZ G d w->DZ G' d w
 | .none,w,q=>by unfold DZ at q ⊢;exact q
 | .bool b,w,q=>by unfold DZ at q ⊢;exact q
 | .int i,w,q=>by unfold DZ at q ⊢;exact q
 | .str _,w,q=>by unfold DZ at q ⊢;exact q
 | .list ds,w,q=>by
  unfold DZ at q ⊢
  obtain⟨p,ws,e,hp,q⟩:=q
  exact⟨p,ws,e,s _ _ hp,DZs.sm s q⟩
 | .tuple ds,w,q=>by
  unfold DZ at q ⊢
  obtain⟨ws,e,q⟩:=q
  exact⟨ws,e,DZs.sm s q⟩
 | .dict _,w,q=>by unfold DZ at q;exact q.elim
theorem DZs.sm {G G':Hq} (s:Sm G G'):∀ {ds:List PyData} {ws:List Z},DZs G ds ws->DZs G' ds ws
 | [],ws,q=>by unfold DZs at q ⊢;exact q
 | d::ds,ws,q=>by
  unfold DZs at q ⊢
  obtain⟨w,r,e,q1,q2⟩:=q
  exact⟨w,r,e,DZ.sm s q1,DZs.sm s q2⟩
end
theorem b3O {G:Hq} {ds:List PyData} {p:Addr} {ws:List Z} (e:G p=some (.lst ws)) (h:DZs G ds ws):DZ G (.list ds) (.ref p):=by unfold DZ;exact⟨p,ws,rfl,e,h⟩
theorem b6n {G:Hq} {b:Bool}:DZ G (.bool b) (.bl b):=by unfold DZ;rfl
theorem b3P {G:Hq}:DZs G [] []:=by unfold DZs;rfl
theorem a6e {G:Hq} {d:PyData} {ds:List PyData} {w:Z} {ws:List Z} (h:DZ G d w) (hs:DZs G ds ws):DZs G (d::ds) (w::ws):=by unfold DZs;exact⟨w,ws,rfl,h,hs⟩
def zEqN (f:Bool->Bool):R3:=fun x y G R=>∃ d e,DZ G d x/\DZ G e y/\SeqAt.shaped d=true/\SeqAt.shaped e=true/\R (.bl (f (PyData.eqv d e))) G
section
variable {X:Cx}
theorem b3Q {f:Bool->Bool} {K:Fg} {x y:V} {H:Hp} {Q:VK} (h:low2 K (zEqN f) x y H Q):∃ d e,DV H d x/\DV H e y/\SeqAt.shaped d=true/\SeqAt.shaped e=true/\Q (.bl (f (PyData.eqv d e))) H:=by
 obtain⟨a,b,G,R,ra,rb,hg,⟨d,e,h1,h2,s1,s2,h⟩,up⟩:=h
 exact⟨d,e,h1.dv hg ra,h2.dv hg rb,s1,s2,up _ _ _ _ h (by rw [a06]) hg (.refl _ _)⟩
theorem b79 (hu:X.A.units+66<cLine):OpQ X (compareOp .NotEq) (zEqN not):=a5m (b2v hu) fun x y H Q h=>b3Q h
end
theorem b8a {f:Bool->Bool} {G:Hq} {R:K3} {d e:PyData} {x y:Z} (h1:DZ G d x) (h2:DZ G e y) (s1:SeqAt.shaped d=true) (s2:SeqAt.shaped e=true) (h:R (.bl (f (PyData.eqv d e))) G):zEqN f x y G R:=⟨d,e,h1,h2,s1,s2,h⟩
def b6o:List Z->Hq->K3->Prop:=fun xs G R=>match xs with
 | [.bl b]=>R (.int (if b then 1 else 0)) G
 | _=>False
end L3
namespace L2
open PySem PySem.Spec PyProof.Rows
theorem b0D {X:Cx}:CallR X (.type "int") (fun xs H Q=>∃ b:Bool,xs=[.bl b]/\Q (.int (if b then 1 else 0)) H):=by
 intro pins s σ H xs us Q I r h
 obtain⟨b,rfl,q⟩:=h
 obtain⟨u,rfl,rx⟩:=a4U r
 cases (show u=Value.bool b from rx)
 exact PySem.call_int_bool ⟨.int _,H,I.tok _,⟨_,rfl⟩,q⟩
end L2
namespace L3
open PySem PySem.Spec PyProof.Rows L2
theorem a8s {X:Cx}:a3F X (.type "int") b6o:=a2g b0D fun xs H Q hx=>hx.un fun ws G R rs hg h up=>by
 match ws,h with
 | [.bl b],h=>
  obtain⟨v,rfl,r⟩:=rs.one
  rw [a06] at r
  exact⟨b,by rw [r],up _ _ _ _ h (by rw [a0u]) hg (.refl _ _)⟩
theorem b6p {b:Bool} {G:Hq} {R:K3} (h:R (.int (if b then 1 else 0)) G):b6o [.bl b] G R:=h
section
variable {X:Cx} {E:XK} {e:Expr} {es:List Expr} {x n:Str} {p pos np hpos tpos:Pos} {t:A3} {k:Nat} {f D:Addr} {fd:FuncData} {ps:List Str} {sp:PX3}
end
end L3
namespace L2
open PySem PySem.Spec PyProof.Rows
def ItD (o:Obj) (a:Addr) (kvs:List (Key×V)):It:=
 ⟨fun i H=>H a=some (.frz o (.dK kvs))/\i<kvs.length,fun i H x H'=>H'=H/\∃ p,kvs[i]?=some p/\x=kV p.1,fun i H=>H a=some (.frz o (.dK kvs))/\kvs.length≤i⟩
theorem b8b {P:Program} {w:World} {k:Key} {u:Value} (h:(a1d P w).is k u=true):RelV (kV k) u:=by
 rcases a1h (k:=k) (v:=u) h with ⟨i,t,rfl,rfl⟩ | ⟨x,t,rfl,rfl⟩
 ·exact⟨t,rfl⟩
 ·exact⟨t,rfl⟩
theorem a8t:∀ {kvs:List (Key×V)} {vs:List (Key×Value)},KV kvs vs->vs.length=kvs.length
 | [],vs,h=>by cases h;rfl
 | p::kvs,vs,h=>by
  cases h with
  | cons h1 h2=>rw [List.length_cons,List.length_cons,a8t h2]
theorem b2O:∀ {kvs:List (Key×V)} {vs:List (Key×Value)} {i:Nat} {p:Key×V},KV kvs vs->kvs[i]?=some p->∃ q,vs[i]?=some q/\p.1=q.1
 | [],vs,i,p,h,e=>by simp at e
 | p0::kvs,vs,i,p,h,e=>by
  cases h with
  | cons h1 h2=>
   cases i with
   | zero=>cases e;exact⟨_,rfl,h1.1⟩
   | succ i=>exact b2O (i:=i) h2 (by simpa using e)
theorem b0E {P:Program} {w:World} {K:Fg} {tg:Expr} (a it:Addr) {o:Obj} (kvs:List (Key×V)) {es:Array DictEntry} {ep:Nat} (hd:o.data=.dict es ep):Turn P w K tg (ItD o a kvs) [it] it (fun i h=>h.IsKeyIter it a i kvs.length ep) where
 mem:=by simp
 obj:=fun i h st b hb=>by
  have e:b=it:=by simpa using hb
  subst e
  obtain⟨o,e,c,d⟩:=st
  exact⟨o,e,fun v z=>by rw [d] at z;cases z⟩
 keep:=fun i h h' st k=>st.at fun o e=>k it (by simp) o e
 item:=by
  intro X hP hw hK hc i pins s σ H E I hf st hg
  subst hP hw hK
  obtain⟨ha,hi⟩:=hg
  obtain⟨g,hz,hsm,vs,kv,dof⟩:=(show ObjOk X.prog X.w H s.heap a (.frz o (.dK kvs)) from I.hok a _ ha)
  obtain⟨f0,f1,f2,f3,f4,f5⟩:=hf it (by simp)
  have hl:=a8t kv
  have dat:s.heap.DictAt (a1d X.prog X.w) a vs ep:=by
   obtain⟨o',es',ep',h1,h2,h3,h4⟩:=dof
   rw [g] at h1
   cases h1
   rw [hd] at h3
   cases h3
   exact⟨o,es,g,h2,hd,h4⟩
  obtain⟨p,hp⟩:∃ p,kvs[i]?=some p:=⟨kvs[i],List.getElem?_eq_getElem hi⟩
  obtain⟨⟨k,v⟩,hq,e1⟩:=b2O kv hp
  refine wpAny_pyNext_dict_item (by rw [hl];exact st) dat hq fun key h' hk st' sb=>?_
  have I1:Inv X pins σ H { s with heap:=h' }:=I.turned (t':=s.toks) (fun b o hb e=>(sb.2 b hb).trans e) f0 f1 f3 f4 f5
  rw [hl] at st'
  obtain⟨oi,e,c,d⟩:=id st'
  exact⟨key,rfl,a8N (s:={ s with heap:=h' }) e c d (by decide) ⟨kV p.1,H,I1,by rw [e1];exact b8b hk,⟨rfl,p,hp,rfl⟩,st',fun b hb=>(hf b hb).1⟩⟩
 done:=by
  intro X hP hw hK hc i pins s σ H E I hf st hg
  subst hP hw hK
  obtain⟨ha,hi⟩:=hg
  obtain⟨g,hz,hsm,vs,kv,dof⟩:=(show ObjOk X.prog X.w H s.heap a (.frz o (.dK kvs)) from I.hok a _ ha)
  obtain⟨f0,f1,f2,f3,f4,f5⟩:=hf it (by simp)
  have hl:=a8t kv
  have dat:s.heap.DictAt (a1d X.prog X.w) a vs ep:=by
   obtain⟨o',es',ep',h1,h2,h3,h4⟩:=dof
   rw [g] at h1
   cases h1
   rw [hd] at h3
   cases h3
   exact⟨o,es,g,h2,hd,h4⟩
  exact wpAny_pyNext_dict_end (I.ok.hd hc) (by rw [hl];exact st) dat (List.getElem?_eq_none (by omega)) fun h' eb=>⟨rfl,I.turned (t':=s.toks) (fun b o hb e=>eb b o hb e) f0 f1 f3 f4 f5⟩
 self:=fun _ _ _ _ _ st h=>wpAny_pyIter_keyiter st h
section
variable {X:Cx} {pins:List (Addr×Obj)} {σ:St} {H:Hp} {s:Shared} {a:Addr} {kvs:List (Key×V)} {tg:Expr}
theorem Inv.freeze (I:Inv X pins σ H s) (e:H a=some (.dK kvs)):∃ o,Inv X pins σ (upd H a (.frz o (.dK kvs))) s:=by
 obtain⟨hz,hsm,vs,kv,dof⟩:=(show ObjOk X.prog X.w H s.heap a (.dK kvs) from I.hok a _ e)
 have dof':=dof
 obtain⟨o,es,ep,g,r⟩:=dof'
 refine⟨o,?_⟩
 have nn:∀ b,H b=none->b≠a:=fun b q z=>by rw [z,e] at q;cases q
 have nt:∀ b xs,H b=some (.tup xs)->b≠a:=fun b xs q z=>by rw [z,e] at q;cases q
 have nf:∀ b o u,H b=some (.frz o u)->b≠a:=fun b o u q z=>by rw [z,e] at q;cases q
 have nb:∀ b ps,H b=some (.tbl ps)->b≠a:=fun b ps q z=>by rw [z,e] at q;cases q
 have no:∀ b c,H b=some (.own c)->b≠a:=fun b c q z=>by rw [z,e] at q;cases q
 refine I.un (t':=s.toks) (h':=s.heap) ⟨fun b o q _ _ _=>q,fun b o q _ _ _=>⟨o.slots,q⟩,fun b o q n _=>by rw [a1c (nn b n)];exact n,fun b o q _=>⟨o,q⟩,fun b xs q=>by rw [a1c (nt b xs q)];exact q,fun b o u q=>by rw [a1c (nf b o u q)];exact q,fun b ps q=>⟨#[],by rw [a1c (nb b ps q),Array.append_empty];exact q⟩⟩ fun b u q=>?_
 by_cases hb:b=a
 ·subst hb
  rw [a1a] at q
  cases q
  exact⟨g,hz,hsm,vs,kv,dof⟩
 ·rw [a1c hb] at q
  exact (I.hok b u q).stay (fun c v _ r=>r) (fun c r=>by rw [a1c (no c b r)];exact r) fun c xs r=>by rw [a1c (nt c xs r)];exact r
def iDct (tl:TE):TI:=fun σ H R=>tl σ H fun x H1=>∃ a kvs,x=.ref a/\((H1 a=some (.dK kvs)/\∀ o,R (ItD o a kvs) (upd H1 a (.frz o (.dK kvs))))\/∃ o,H1 a=some (.frz o (.dK kvs))/\R (ItD o a kvs) H1)
theorem b3R {l:Expr} {tl:TE} (hl:PE X l tl):PI X tg l (iDct tl):=by
 intro pins s σ H R I h
 refine thn (hl pins s σ H _ I h) fun v s1 ⟨x,H1,I1,r1,q1⟩=>?_
 obtain⟨a,kvs,e,q⟩:=q1
 subst e
 cases r1
 have core:∀ o H2,Inv X pins σ H2 s1->H2 a=some (.frz o (.dK kvs))->R (ItD o a kvs) H2->wpAny (model X.prog X.w) X.A (pyIter (.ref a)) (PIE X pins σ tg R) X.xe s1:=fun o H2 I2 ea q=>by
  obtain⟨g,hz,hsm,vs,kv,dof⟩:=(show ObjOk X.prog X.w H2 s1.heap a (.frz o (.dK kvs)) from I2.hok a _ ea)
  obtain⟨ep,dat⟩:=dof.dictAt
  have dat':=dat
  obtain⟨o',es,g',_,hd,_⟩:=dat'
  rw [g] at g'
  cases g'
  refine wpAny_pyIter_dict hsm dat ?_
  refine⟨s1.heap.objs.size,[s1.heap.objs.size],_,_,H2,rfl,I2.kept (t':=s1.toks) fun b o e=>Heap.get?_push_of_some _ e,b0E a _ kvs hd,⟨_,Heap.get?_push_size _ rfl,rfl,by rw [a8t kv];rfl⟩,fun b hb=>?_,q⟩
  have e:b=s1.heap.objs.size:=by simpa using hb
  subst e
  exact I2.fpOk (Nat.le_refl _) (I2.hok.fresh (Nat.le_refl _))
 rcases q with ⟨ea,q⟩ | ⟨o,ea,q⟩
 ·obtain⟨o,I2⟩:=I1.freeze ea
  exact core o _ I2 a1a (q o)
 ·exact core o H1 I1 ea q
end
end L2
namespace L3
open PySem PySem.Spec PyProof.Rows L2
def keyW:Key->Z
 | .inl i=>.int i
 | .inr s=>.str s
theorem b12 {K:Fg} {H:Hp}:∀ k:Key,Rep K H (keyW k) (kV k)
 | .inl i=>by show Rep K H (.int i) (.int i);rw [a0u]
 | .inr s=>by show Rep K H (.str s) (.str s);rw [a0H]
def wkD (x:Z) (G:Hq) (R:List Z->(Hq->Prop)->Hq->Prop):Prop:=match x with
 | .ref a=>∃ kvs,(G a=some (.dK kvs)\/G a=some (.dF kvs))/\R (kvs.map fun p=>keyW p.1) (fun _=>True) (put G a (.dF kvs))
 | _=>False
def iD (tl:E3):I3:=fun σ G R=>tl σ G fun x G1=>wkD x G1 R
theorem a5M {K:Fg} {a:Addr} {o:Obj} {us:List (Key×V)} {kvs:List (Key×Z)} {H0:Hp} (e:H0 a=some (.frz o (.dK us))) (hn:us.map (·.1)=kvs.map (·.1)):a55 K (kvs.map fun p=>keyW p.1) (fun _=>True) (ItD o a us) H0:=fun i G H hg t ok hi=>by
 have e1:=t.frd _ _ _ e
 have hl:us.length=kvs.length:=by have:=congrArg List.length hn;simpa using this
 rw [List.length_map] at hi
 refine⟨fun h=>⟨e1,by rw [List.length_map] at h;omega⟩,fun w hw=>?_⟩
 rw [List.getElem?_map] at hw
 cases hk:kvs[i]? with
 | none=>rw [hk] at hw;cases hw
 | some p=>
  rw [hk] at hw
  cases hw
  have hlt:=(List.getElem?_eq_some_iff.mp hk).1
  refine⟨⟨e1,by omega⟩,?_⟩
  rintro x H' ⟨rfl,q,hq,rfl⟩
  have:q.1=p.1:=by
   have h1:(us.map (·.1))[i]?=some q.1:=by rw [List.getElem?_map,hq];rfl
   rw [hn,List.getElem?_map,hk] at h1
   exact (Option.some.inj h1).symm
  rw [this]
  exact⟨b12 _,hg,.refl _ _⟩
section
variable {X:Cx} {tg l:Expr} {tl:E3}
theorem b3S (hl:QE X l tl):QI X tg l (iD tl):=a80 (b3R hl.p) fun τ H R2 hx=>hx.un fun σ G R hs hg h up=>by
 refine⟨σ,G,_,hs,hg,h,fun w G1 v H1 h1 rv hg1 t1=>?_⟩
 cases w with
 | ref a=>
  rw [a0p] at rv
  obtain⟨kvs,e,h1⟩:=h1
  rcases e with e | e
  ·obtain⟨us,e',hn,rr⟩:=hg1 _ _ e
   refine⟨a,us,rv,.inl ⟨e',fun o=>?_⟩⟩
   have tk:TK X.K H1 (L2.upd H1 a (.frz o (.dK us))):=.dK e'
   exact up _ _ _ _ _ h1 (a5M a1a hn) (hg1.set (o:=.dF kvs) tk ⟨o,us,a1a,hn,rr.mono tk⟩) (t1.trans tk)
  ·have e0:=e
   obtain⟨o,us,e',hn,rr⟩:=hg1 _ _ e
   refine⟨a,us,rv,.inr ⟨o,e',?_⟩⟩
   have eG:put G1 a (.dF kvs)=G1:=by
    funext b
    unfold put
    split
    ·next hb=>rw [hb,e0]
    ·rfl
   rw [eG] at h1
   exact up _ _ _ _ _ h1 (a5M e' hn) hg1 t1
 | _=>exact False.elim h1
theorem i_iD {tl:E3} {σ:S3} {G:Hq} {R:List Z->(Hq->Prop)->Hq->Prop} (h:tl σ G fun x G1=>wkD x G1 R):iD tl σ G R:=h
theorem b8c {p:Addr} {kvs:List (Key×Z)} {G:Hq} {R:List Z->(Hq->Prop)->Hq->Prop} (e:G p=some (.dK kvs)\/G p=some (.dF kvs)) (h:R (kvs.map fun p=>keyW p.1) (fun _=>True) (put G p (.dF kvs))):wkD (.ref p) G R:=⟨kvs,e,h⟩
end
end L3
namespace L2
open PySem PySem.Spec PyProof.Rows
theorem b0F:∀ {ss:List Str} {us:List Value},Vals (ss.map V.str) us->StrsAre us ss
 | [],us,r=>by rw [List.map_nil] at r;cases r;exact .nil
 | s::ss,us,r=>by
  rw [List.map_cons] at r
  cases r with
  | cons r1 r2=>obtain⟨t,rfl⟩:=r1;exact .cons s t (b0F r2)
theorem a6Y:∀ {vs:List Value} {ss:List Str},StrsAre vs ss->Vals (ss.map V.str) vs
 | _,_,.nil=>.nil
 | _,_,.cons s t h=>.cons ⟨t,rfl⟩ (a6Y h)
def b13 (K:Fg):List V->Hp->VK->Prop:=fun xs H Q=>∃ (p:Addr) (ss:List Str),xs=[.ref p]/\SqL K H p (ss.map V.str)/\ss.length<64 /\
 ∀ (t:Addr) (ts:List Str),H t=none->ts.Perm ss->sortedS ts=true->Q (.ref t) (upd H t (.lst (ts.map V.str)))
theorem a6Z {X:Cx}:CallR X (.builtin "sorted") (b13 X.K):=by
 intro pins s σ H xs us Q I r h
 obtain⟨p,ss,rfl,hq,h64,q⟩:=h
 obtain⟨u,rfl,rx⟩:=a4U r
 cases rx
 obtain⟨its,rv,pl,_⟩:=I.list hq
 have hS:=b0F rv
 have hl:=hS.length
 refine sorted_strs pl.isList hS (by omega) fun out ts a1 a2 a3=>?_
 obtain⟨e,he⟩:=sortedAll_at s.heap its out
 exact⟨.ref (s.heap.objs.size+1),_,I.laid (t':=s.toks) (fun _ _=>sortedAll_old) (Nat.le_succ _) (show ObjOk X.prog X.w _ _ _ (.lst (ts.map V.str)) from ⟨by rw [List.length_map,a2.length_eq,sizeLine_eq];omega,out.toList,e,a6Y a1,by simpa [seqObj] using he⟩),rfl,q _ ts (I.hok.fresh (Nat.le_succ _)) a2 a3⟩
end L2
namespace L3
open PySem PySem.Spec PyProof.Rows L2
theorem a5N {K:Fg} {H:Hp}:∀ ss:List Str,Reps K H (ss.map Z.str) (ss.map V.str)
 | []=>by rw [List.map_nil,List.map_nil,a0O]
 | s::ss=>by
  rw [List.map_cons,List.map_cons,a0o]
  exact⟨_,_,rfl,by rw [a0H],a5N ss⟩
theorem a5O {K:Fg} {H:Hp}:∀ {ss:List Str} {vs:List V},Reps K H (ss.map Z.str) vs->vs=ss.map V.str
 | [],vs,h=>by rw [List.map_nil,a0O] at h;subst h;rfl
 | s::ss,vs,h=>by
  rw [List.map_cons,a0o] at h
  obtain⟨v,r,rfl,h1,h2⟩:=h
  rw [a0H] at h1
  rw [h1,a5O h2];rfl
def a8u:List Z->Hq->K3->Prop:=fun xs G R=>match xs with
 | [.ref p]=>∃ ss:List Str,G p=some (.lst (ss.map Z.str))/\ss.length<64/\∀ (t:Addr) (ts:List Str),G t=none->ts.Perm ss->sortedS ts=true->R (.ref t) (put G t (.lst (ts.map Z.str)))
 | _=>False
theorem a60 {X:Cx}:a3F X (.builtin "sorted") a8u:=a2g a6Z fun xs H Q hx=>hx.un fun ws G R rs hg h up=>by
 match ws,h with
 | [.ref p],h=>
  obtain⟨v,rfl,r⟩:=rs.one
  rw [a0p] at r
  obtain⟨ss,e,h64,h⟩:=h
  obtain⟨vs,e',r'⟩:=hg _ _ e
  have:=a5O r'
  subst this
  exact⟨p,ss,by rw [r],SqL.of e',h64,fun t ts ht h1 h2=>up _ _ _ _ (h t ts (hg.out ht) h1 h2) (by rw [a0p]) (hg.set (o:=.lst (ts.map Z.str)) (.new ht) ⟨_,a1a,a5N ts⟩) (.new ht)⟩
theorem a61 {G:Hq} {R:K3} {p:Addr} {ss:List Str} (e:G p=some (.lst (ss.map Z.str))) (z:ss.length<64) (h:∀ (t:Addr) (ts:List Str),G t=none->ts.Perm ss->sortedS ts=true->R (.ref t) (put G t (.lst (ts.map Z.str)))):a8u [.ref p] G R:=⟨ss,e,z,h⟩
end L3
namespace L2
open PySem PySem.Spec PyProof.Rows
structure Cl where
 x:Str
 np:Pos
 b₀:Stmt
 suite:List Stmt
 hp:Pos
def Cl.h (n:Str) (c:Cl):ExceptHandler:=.ExceptHandler (some (.Name c.x c.np)) (some n) (c.b₀::c.suite) c.hp
inductive Picks (X:Cx) (C:Addr) (th:Addr->TS):List Cl->Prop
 | here {c:Cl} {cs:List Cl} {D:Addr} (hg:Gl X c.x) (hm:X.mg c.x=some (.ref D)) (hd:(c.x==("__debug__":Str))=false) (hD:PySem.W.exmOne X.K (.ref C) (.ref D)=some true)
   (hh:∀ e oe,oe.cls=.ref C->oe.dict=none->PySem.W.notCls oe=true->PSs (X.hnd e oe) (c.b₀::c.suite) (th e)):Picks X C th (c::cs)
 | next {c:Cl} {cs:List Cl} {D:Addr} (hg:Gl X c.x) (hm:X.mg c.x=some (.ref D)) (hd:(c.x==("__debug__":Str))=false) (hD:PySem.W.exmOne X.K (.ref C) (.ref D)=some false) (hp:Picks X C th cs):Picks X C th (c::cs)
section
variable {X:Cx} {n:Str} {pos tpos:Pos} {ce:Expr}
def b8d (R:Addr->(Addr->TS)->Prop) (i:Nat) (tc:XK->TE):TS:=fun D σ H=>∃ E:XK,tc E σ H (fun _ H1=>D.nx σ H1)/\∀ c H',E c none H'->∃ C th,c=.ref C/\R C th/\∀ e,H' e=none ->
 th e { nx:=fun σ' H''=>D.nx (σ'.set i none) H'',rt:=D.rt,bk:=fun σ' H''=>D.bk (σ'.set i none) H'',ct:=fun σ' H''=>D.ct (σ'.set i none) H'' } (σ.set i (some (.ref e))) H'
theorem b3T {cs:List Cl} {i:Nat} {tc:XK->TE} {R:Addr->(Addr->TS)->Prop} (hst:X.stack=X.env::X.outer) (hex:X.ex=[]) (hfm:X.env.frame=some X.env.locals) (hb:PX X ce tc)
  (hN:X.N.Nodup) (hi:X.N[i]?=some n) (hl:X.env.scope.names.lookup n=some .local) (hh:∀ C th,R C th->Picks X C th cs) (hne:cs≠[])
  (hs:swapsWith ce none pos.line X.env=pure false:=by rfl) :
  PS X (.Try [.Expr ce pos] (cs.map (Cl.h n)) [] [] tpos) (b8d R i tc):=by
 intro pins s σ H D' I ⟨E,hc,hE⟩
 obtain⟨c0,cr,rfl⟩:∃ c0 cr,cs=c0::cr:=by
  cases cs with
  | nil=>exact absurd rfl hne
  | cons a b=>exact⟨a,b,rfl⟩
 rw [List.map_cons]
 refine wpAny_Try_except (wpAny_execs_cons (wpAny_Expr_any (wpAny_mono (hb pins s σ H _ E I hc) (fun v s1 ⟨y,H1,I1,r1,q1⟩=>wpAny_execs_nil (wpAny_execs_nil ⟨σ,H1,I1,q1⟩)) fun ev s' q=>?_) I.quiet hs))
 rw [<- List.map_cons]
 generalize c0::cr=cs at hh
 obtain⟨H1,s1,I1,e,C,H',rfl,os,bare,un,hok,⟨⟨T,f,nT,fT⟩,ne,fe⟩,q⟩:=q
 obtain⟨C0,th,hC,hPC,hth⟩:=hE _ _ q
 cases hC
 have I2:Inv X pins σ H' s':=I1.call' (ch:=[]) os un hok bare fun _ z=>nomatch z
 have fr:X.A.frames=some (X.env::X.outer):=by rw [<- hst];exact I.ok.frames
 have fl:s'.heap.FunFrames X.base (X.env::X.outer):=by rw [<- hst];exact I2.stack
 have young:∀ b,s1.heap.get? b=none->H' b=none->X.s₀.heap.get? b=none/\H' b=none/\b≠X.env.locals/\(∀ x c,X.env.cells.lookup x=some c->c≠b)/\∀ p∈X.pn++pins,p.1≠b:=fun b h1 h2=>by
  refine⟨?_,h2,fun z=>?_,fun x c hx z=>?_,fun p hp z=>?_⟩
  ·cases q0:X.s₀.heap.get? b with
   | none=>rfl
   | some o=>
    obtain⟨o',e'⟩:=I1.base.there b o q0 (by rw [hex];exact List.not_mem_nil)
    rw [h1] at e';cases e'
  ·obtain⟨m,⟨o,_,_,e',_⟩,_⟩:=I1.loc
   rw [z,e'] at h1;cases h1
  ·obtain⟨v,o,e',_⟩:=I1.cell x c hx
   rw [z,h1] at e';cases e'
  ·have e':=(I1.pin p hp).1
   rw [z,h1] at e';cases e'
 refine b2t (base:=X.base) fr fl hfm f fun h1 T1 k1 f1 z1=>b1z (s:={ s' with heap:=h1 }) f1 fun h2 k2 f2=>?_
 have yT:∀ b,b=e\/b=T->X.s₀.heap.get? b=none/\H' b=none/\b≠X.env.locals/\(∀ x c,X.env.cells.lookup x=some c->c≠b)/\∀ p∈X.pn++pins,p.1≠b:=fun b hb=>by
  rcases hb with rfl | rfl
  ·exact young _ ne fe
  ·exact young _ nT fT
 have tk:∀ b,b=T1->(b=e\/b=T)\/s'.heap.objs.size≤b:=fun b hb=>by
  rw [hb]
  rcases z1 with z | z
  ·exact .inl (.inr z)
  ·exact .inr z
 have k12:=k1.trans (k2 _) tk
 have I3:Inv X pins σ H' { s' with heap:=h2 }:=I2.lk0 (by rw [hst];exact k12) yT
 have mk:∀ {h:Heap},FlyT e (.ref C) T1 .none h->Inv X pins σ H' { s' with heap:=h }->∃ oe,oe.cls=.ref C/\oe.dict=none/\PySem.W.notCls oe=true/\Inv (X.hnd e oe) pins σ H' { s' with heap:=h }:=fun {h} f I=>by
  obtain⟨oe,vs,_,_,g1,g2,g3,_⟩:=f
  refine⟨oe,g2.1,g2.2,by unfold PySem.W.notCls;rw [g3],I.hnd g1 fe (young e ne fe).2.2.1 (fun z=>?_) (fun v=>by rw [g3];exact fun z=>nomatch z)⟩
  obtain⟨_,ob,hob,no⟩:=I.funs.mem z
  have hob':h.get? e=some ob:=hob
  rw [g1] at hob'
  cases hob'
  exact no vs g3
 obtain⟨oe,c1,c2,c3,J3⟩:=mk f2 I3
 have LT:PySem.W.Looks (model X.prog X.w) h2 (typeOf (.ref e)) (.ref C):=by
  have he:=(J3.pin (e,oe) (.head _)).1
  exact c1▸(PySem.W.Looks.ld he).andThen .now
 have pk:=hh C th hPC
 clear hh
 induction pk with
 | next hg hm hd hD _ ih=>
  rw [List.map_cons]
  refine wpAny_handleBy_cons (codeAny_handlers_test (a3o (X:=X.hnd e oe) J3 hg hm ?_ hd)) (by intro q;cases q)
  refine (PySem.W.exm_one I3.kIn LT hD).at ?_
  exact ih
 | here hg hm hd hD hh=>
  rw [List.map_cons]
  refine wpAny_handleBy_cons (codeAny_handlers_test (a3o (X:=X.hnd e oe) J3 hg hm ?_ hd)) (by intro q;cases q)
  refine (PySem.W.exm_one I3.kIn LT hD).at ?_
  refine codeAny_handlers_suite_as ?_
  refine b1z (s:={ s' with heap:=h2 }) f2 fun h3 k3 f3=>?_
  have I4:Inv X pins σ H' { s' with heap:=h3 }:=I2.lk0 (by rw [hst];exact k12.trans (k3 _) tk) yT
  obtain⟨oe,c1,c2,c3,J4⟩:=mk f3 I4
  refine a4L (X:=X.hnd e oe) J4 hN hi (.inl hl) (v:=.ref e) rfl (fun s5 J5=>?_) (.inr hl)
  refine wpAny_mono (hh e oe c1 c2 c3 pins s5 _ H' _ J5 (hth e fe)) (fun fl s6 q6=>?_) fun _ _ z=>False.elim z
  cases fl with
  | next=>
   obtain⟨σ6,H6,J6,q⟩:=q6
   exact a3C (J6.unhnd I.ok) hN hi hl fun s7 I7=>⟨_,H6,I7,q⟩
  | brk=>
   obtain⟨σ6,H6,J6,q⟩:=q6
   exact a3C (J6.unhnd I.ok) hN hi hl fun s7 I7=>⟨_,H6,I7,q⟩
  | cont=>
   obtain⟨σ6,H6,J6,q⟩:=q6
   exact a3C (J6.unhnd I.ok) hN hi hl fun s7 I7=>⟨_,H6,I7,q⟩
  | ret u=>
   obtain⟨v,σ6,H6,J6,r6,q⟩:=q6
   exact a3C (J6.unhnd I.ok) hN hi hl fun s7 I7=>⟨v,_,H6,I7,r6,q⟩
end
end L2
namespace L3
open PySem PySem.Spec PyProof.Rows L2
inductive Alt (X:Cx) (cs:List Cl):List (Addr×(Addr->X3))->Prop
 | nil:Alt X cs []
 | cons {C:Addr} {th:Addr->X3} {l:List (Addr×(Addr->X3))} (h:Picks X C (fun e=>lowS X.K (th e)) cs) (hs:Alt X cs l):Alt X cs ((C,th)::l)
theorem a7N {X:Cx} {C:Addr} {th:Addr->X3} {c:Cl} {cs:List Cl} {D:Addr} (hg:Gl X c.x) (hm:X.mg c.x=some (.ref D)) (hd:(c.x==("__debug__":Str))=false) (hD:PySem.W.exmOne X.K (.ref C) (.ref D)=some true)
  (hh:∀ e oe,oe.cls=.ref C->oe.dict=none->PySem.W.notCls oe=true->QSs (X.hnd e oe) (c.b₀::c.suite) (th e)):Picks X C (fun e=>lowS X.K (th e)) (c::cs):=.here hg hm hd hD fun e oe h1 h2 h3=>(hh e oe h1 h2 h3).p
theorem Alt.get {X:Cx} {cs:List Cl}:∀ {l:List (Addr×(Addr->X3))},Alt X cs l->∀ p∈l,Picks X p.1 (fun e=>lowS X.K (p.2 e)) cs
 | _,.nil,p,h=>by simp at h
 | _,.cons h hs,p,hp=>by
  rcases List.mem_cons.mp hp with rfl | hp
  ·exact h
  ·exact hs.get p hp
def b6q (l:List (Addr×(Addr->X3))) (i:Nat) (sp:PX3) (t:A3):X3:=fun nx rt bk ct σ G=>t σ G fun ws G1=>sp ws G1 (fun _ G2=>nx σ G2) fun C' G2=>∃ p∈l,C'=p.1/\∀ e,p.2 e (fun σ' G'=>nx (σ'.set i none) G') rt (fun σ' G'=>bk (σ'.set i none) G') (fun σ' G'=>ct (σ'.set i none) G') (σ.set i (some (.ref e))) G2
section
variable {X:Cx} {e:Expr} {es:List Expr} {n:Str} {p pos tpos:Pos} {t:A3} {k:Nat} {f:Addr} {fd:FuncData} {ps:List Str} {sp:PX3}
theorem b6r {cs:List Cl} {hds:List ExceptHandler} {l:List (Addr×(Addr->X3))} {i:Nat} {y:Str} {cp:Pos} (hcs:hds=cs.map (Cl.h n)) (hne:cs≠[]) (hst:X.stack=X.env::X.outer) (hex:X.ex=[]) (hfm:X.env.frame=some X.env.locals)
  (F:FnOk X.prog X.w X.K X.mg X.base (CXx X.prog X.w) k f fd ps (a2Z X.K sp)) (hr:Room k X.A) (hgf:Gl X y) (hmf:X.mg y=some (.ref f)) (hk:PySem.W.keepIn X.K (.ref f)=true) (hb:Binds X.K fd ps []) (ha:QA X.nox (e::es) t)
  (hN:X.N.Nodup) (hi:X.N[i]?=some n) (hl:X.env.scope.names.lookup n=some .local) (al:Alt X cs l)
  (he:starEach (e::es) X.env=(false,eval e X.env)::starEach es X.env:=by rfl) (hpl:(backTo cp (starEach es X.env)).any (·.1)=false:=by rfl) (hdb:(y==("__debug__":Str))=false:=by decide)
  (hs:swapsWith (.Call (.Name y p) (e::es) [] cp) none pos.line X.env=pure false:=by rfl) :
  QS X (.Try [.Expr (.Call (.Name y p) (e::es) [] cp) pos] hds [] [] tpos) (b6q l i sp t):=
 ⟨by
  rw [hcs]
  refine a3E (b3T (R:=fun C th=>∃ q∈l,C=q.1/\th=fun e=>lowS X.K (q.2 e)) (tpos:=tpos) hst hex hfm (b3k F hr hgf hmf hk hb ha.p hdb he hpl) hN hi hl (fun C th ⟨q,hq,e1,e2⟩=>by rw [e1,e2];exact al.get q hq) hne hs) fun D τ H hx=>hx.un fun σ G nx rt bk ct hs hg h u1 u2 u3 u4=>?_
  refine⟨fun c _ H'=>∃ C' G',c=.ref C'/\(∃ q∈l,C'=q.1/\∀ e,q.2 e (fun σ' G'=>nx (σ'.set i none) G') rt (fun σ' G'=>bk (σ'.set i none) G') (fun σ' G'=>ct (σ'.set i none) G') (σ.set i (some (.ref e))) G')/\RH X.K G' H'/\TK X.K H H',?_,?_⟩
  ·exact⟨σ,G,_,hs,hg,h,fun ws G1 vs H1 h1 rs hg1 t1=>⟨ws,G1,_,_,by rw [List.append_nil];exact rs,hg1,h1,fun w G2 v H2 h2 _ hg2 t2=>u1 _ _ _ _ h2 (hs.mono (t1.trans t2)) hg2 (t1.trans t2),fun C' G2 H2 h2 r2 t2=>⟨C',G2,rfl,h2,r2,t1.trans t2⟩⟩⟩
  ·rintro c H' ⟨C',G',rfl,⟨q,hq,hC',hth⟩,hg',t'⟩
   refine⟨C',_,rfl,⟨q,hq,hC',rfl⟩,fun e _=>⟨σ.set i (some (.ref e)),G',_,_,_,_,(hs.mono t').set (by rw [a0p]) i,hg',hth e,?_,u2.mono t',?_,?_⟩⟩
   ·exact fun σ2 G2 τ2 H2 h2 hs2 hg2 t2=>u1 _ _ _ _ h2 (RSt.unset hs2 i) hg2 (t'.trans t2)
   ·exact fun σ2 G2 τ2 H2 h2 hs2 hg2 t2=>u3 _ _ _ _ h2 (RSt.unset hs2 i) hg2 (t'.trans t2)
   ·exact fun σ2 G2 τ2 H2 h2 hs2 hg2 t2=>u4 _ _ _ _ h2 (RSt.unset hs2 i) hg2 (t'.trans t2)⟩
theorem b6s {l:List (Addr×(Addr->X3))} {i:Nat} {nx:C3} {rt:K3} {bk ct:C3} {σ:S3} {G:Hq} (h:t σ G fun ws G1=>sp ws G1 (fun _ G2=>nx σ G2) fun C' G2=>∃ p∈l,C'=p.1/\∀ e,p.2 e (fun σ' G'=>nx (σ'.set i none) G') rt (fun σ' G'=>bk (σ'.set i none) G') (fun σ' G'=>ct (σ'.set i none) G') (σ.set i (some (.ref e))) G2):b6q l i sp t nx rt bk ct σ G:=h
end
end L3
namespace L2
open PySem PySem.W
theorem a7O {K:Frag} {C D:Addr} (xb:subIn K (.ref D) (.type "BaseException")=some true) (xt:typeIn K (.ref D)=some (.type "type")) (xs:subIn K (.ref C) (.ref D)=some false) (xh:hasDictIn K D=true):exmOne K (.ref C) (.ref D)=some false:=by
 obtain⟨cd,hc,_⟩:=any_some xh
 unfold exmOne
 rw [if_pos (by rw [xb];rfl)]
 show (if ((clsIn K D).isSome&&typeIn K (.ref D)==some (.type "type"))=true then subIn K (.ref C) (.ref D) else none)=some false
 rw [if_pos (by rw [hc,xt];rfl)]
 exact xs
end L2
set_option maxHeartbeats 4000000
namespace L3
set_option genInjectivity false in
inductive Ex4 {α0 α1 α2 α3:Type} (p:α0->α1->α2->α3->Prop):Prop
 | mk (a0:α0) (a1:α1) (a2:α2) (a3:α3) (h:p a0 a1 a2 a3):Ex4 p
set_option genInjectivity false in
inductive Ex5 {α0 α1 α2 α3 α4:Type} (p:α0->α1->α2->α3->α4->Prop):Prop
 | mk (a0:α0) (a1:α1) (a2:α2) (a3:α3) (a4:α4) (h:p a0 a1 a2 a3 a4):Ex5 p
set_option genInjectivity false in
inductive Ex6 {α0 α1 α2 α3 α4 α5:Type} (p:α0->α1->α2->α3->α4->α5->Prop):Prop
 | mk (a0:α0) (a1:α1) (a2:α2) (a3:α3) (a4:α4) (a5:α5) (h:p a0 a1 a2 a3 a4 a5):Ex6 p
set_option genInjectivity false in
inductive Ex8 {α0 α1 α2 α3 α4 α5 α6 α7:Type} (p:α0->α1->α2->α3->α4->α5->α6->α7->Prop):Prop
 | mk (a0:α0) (a1:α1) (a2:α2) (a3:α3) (a4:α4) (a5:α5) (a6:α6) (a7:α7) (h:p a0 a1 a2 a3 a4 a5 a6 a7):Ex8 p
set_option genInjectivity false in
inductive Ex9 {α0 α1 α2 α3 α4 α5 α6 α7 α8:Type} (p:α0->α1->α2->α3->α4->α5->α6->α7->α8->Prop):Prop
 | mk (a0:α0) (a1:α1) (a2:α2) (a3:α3) (a4:α4) (a5:α5) (a6:α6) (a7:α7) (a8:α8) (h:p a0 a1 a2 a3 a4 a5 a6 a7 a8):Ex9 p
set_option genInjectivity false in
inductive Ex10 {α0 α1 α2 α3 α4 α5 α6 α7 α8 α9:Type} (p:α0->α1->α2->α3->α4->α5->α6->α7->α8->α9->Prop):Prop
 | mk (a0:α0) (a1:α1) (a2:α2) (a3:α3) (a4:α4) (a5:α5) (a6:α6) (a7:α7) (a8:α8) (a9:α9) (h:p a0 a1 a2 a3 a4 a5 a6 a7 a8 a9):Ex10 p
end L3
namespace Lw
open PySem L2 L3
def top (i:Nat):Stmt:=PySem.Challenge.pw_twotimes_k33_asks_refused.main.body.getD i (.Pass ⟨0,0,0,0⟩)
abbrev a08:Stmt:=top 14
abbrev a0W:Stmt:=top 15
abbrev a0R:Stmt:=top 16
abbrev a0L:Stmt:=top 17
abbrev a0S:Stmt:=top 19
abbrev a0C:Stmt:=top 20
abbrev a0w:Stmt:=top 21
abbrev a0v:Stmt:=top 22
abbrev a1i:Stmt:=top 29
abbrev a0X:Stmt:=top 28
abbrev a03:Stmt:=top 24
abbrev a0Y:Stmt:=top 26
abbrev a0q:Stmt:=top 30
abbrev a09:Stmt:=top 27
abbrev a1p:Stmt:=top 25
abbrev a0r:Stmt:=a2u (top 38) 7
abbrev a0s:Stmt:=a2u (top 38) 9
abbrev a0B:Stmt:=a2u (top 38) 6
abbrev a0D:Stmt:=a2u (top 38) 4
abbrev a1e:Stmt:=top 32
abbrev a0M:Stmt:=a2u (top 38) 5
abbrev a1M:Stmt:=top 33
abbrev a2j:Stmt:=top 34
abbrev a0x:Stmt:=top 36
abbrev a0N:Stmt:=top 37
abbrev a1B:Stmt:=top 40
abbrev a1C:Stmt:=top 41
abbrev a14:Stmt:=top 42
abbrev a1D:Stmt:=top 43
abbrev a1j:Stmt:=top 44
abbrev a1E:Stmt:=top 45
abbrev a1V:Stmt:=top 46
abbrev a2k:Stmt:=top 47
abbrev a5o:Stmt:=top 48
abbrev a0E:Stmt:=a2u (top 38) 0
abbrev a0F:Stmt:=a2u (top 38) 2
abbrev a0y:Stmt:=a2u (top 38) 8
abbrev a04:Stmt:=a2u (top 38) 1
abbrev a3u:Stmt:=top 49
theorem a62:FnScope ["thing"] ["thing"] (a0c a08):=⟨rfl,rfl,rfl,by decide +kernel,rfl,by decide +kernel,by decide +kernel⟩
theorem a5p:FnScope ["thing"] ["thing"] (a0c a0W):=⟨rfl,rfl,rfl,by decide +kernel,rfl,by decide +kernel,by decide +kernel⟩
theorem a5a:FnScope ["begin","end"] ["begin","end"] (a0c a0R):=⟨rfl,rfl,rfl,by decide +kernel,rfl,by decide +kernel,by decide +kernel⟩
theorem a4D:FnScope ["end","other"] ["end","other"] (a0c a0L):=⟨rfl,rfl,rfl,by decide +kernel,rfl,by decide +kernel,by decide +kernel⟩
theorem a5b:FnScope ["thing"] ["thing"] (a0c a0S):=⟨rfl,rfl,rfl,by decide +kernel,rfl,by decide +kernel,by decide +kernel⟩
theorem a4a:FnScope ["thing"] ["thing"] (a0c a0C):=⟨rfl,rfl,rfl,by decide +kernel,rfl,by decide +kernel,by decide +kernel⟩
theorem a3N:FnScope ["begin","end"] ["begin","end"] (a0c a0w):=⟨rfl,rfl,rfl,by decide +kernel,rfl,by decide +kernel,by decide +kernel⟩
theorem a3v:FnScope ["knowing","last"] ["knowing","last"] (a0c a0v):=⟨rfl,rfl,rfl,by decide +kernel,rfl,by decide +kernel,by decide +kernel⟩
theorem a63:FnScope ["stretch","moment"] ["stretch","moment"] (a0c a1i):=⟨rfl,rfl,rfl,by decide +kernel,rfl,by decide +kernel,by decide +kernel⟩
theorem sc_p_worths_in:FnScope ["line","moments","worths","at","moment"] ["line","moments"] (a0c a0X):=⟨rfl,rfl,rfl,by decide +kernel,rfl,by decide +kernel,by decide +kernel⟩
theorem a6f:FnScope ["line","moment"] ["line","moment"] (a0c a03):=⟨rfl,rfl,rfl,by decide +kernel,rfl,by decide +kernel,by decide +kernel⟩
theorem a6g:FnScope ["line","moment"] ["line","moment"] (a0c a0Y):=⟨rfl,rfl,rfl,by decide +kernel,rfl,by decide +kernel,by decide +kernel⟩
theorem sc_p_with_alike_joined:FnScope ["pieces","told","piece"] ["pieces"] (a0c a0q):=⟨rfl,rfl,rfl,by decide +kernel,rfl,by decide +kernel,by decide +kernel⟩
theorem a64:FnScope ["line","moment"] ["line","moment"] (a0c a09):=⟨rfl,rfl,rfl,by decide +kernel,rfl,by decide +kernel,by decide +kernel⟩
theorem sc_p_put_on:FnScope ["line","begin","end","worth","pieces"] ["line","begin","end","worth"] (a0c a1p):=⟨rfl,rfl,rfl,by decide +kernel,rfl,by decide +kernel,by decide +kernel⟩
theorem a2R:FnScope ["self","knowing"] ["self","knowing"] (a0c a0r):=⟨rfl,rfl,rfl,by decide +kernel,rfl,by decide +kernel,by decide +kernel⟩
theorem sc_Sheet_known_line:FnScope ["self","key","knowing","since","line"] ["self","key","knowing"] (a0c a0s):=⟨rfl,rfl,rfl,by decide +kernel,rfl,by decide +kernel,by decide +kernel⟩
theorem a4E:FnScope ["self","knowing"] ["self","knowing"] (a0c a0B):=⟨rfl,rfl,rfl,by decide +kernel,rfl,by decide +kernel,by decide +kernel⟩
theorem a4b:FnScope ["self","key","moment","knowing"] ["self","key","moment","knowing"] (a0c a0D):=⟨rfl,rfl,rfl,by decide +kernel,rfl,by decide +kernel,by decide +kernel⟩
theorem sc_p_all_at:FnScope ["sheet","moment","knowing","keys","worths"] ["sheet","moment","knowing"] (a0c a1e):=⟨rfl,rfl,rfl,by decide +kernel,rfl,by decide +kernel,by decide +kernel⟩
theorem a4F:FnScope ["self","key","knowing"] ["self","key","knowing"] (a0c a0M):=⟨rfl,rfl,rfl,by decide +kernel,rfl,by decide +kernel,by decide +kernel⟩
theorem sc_p_when:FnScope ["sheet","key","worth","knowing","line"] ["sheet","key","worth","knowing"] (a0c a1M):=⟨rfl,rfl,rfl,by decide +kernel,rfl,by decide +kernel,by decide +kernel⟩
theorem sc_p_who:FnScope ["sheet","worth","knowing","keys","told","key","begin","end"] ["sheet","worth","knowing"] (a0c a2j):=⟨rfl,rfl,rfl,by decide +kernel,rfl,by decide +kernel,by decide +kernel⟩
theorem sc_p_check_telling:FnScope ["telling","name"] ["telling"] (a0c a0x):=⟨rfl,rfl,rfl,by decide +kernel,rfl,by decide +kernel,by decide +kernel⟩
theorem sc_p_line_behind:FnScope ["line","telling","worth"] ["line","telling"] (a0c a0N):=⟨rfl,rfl,rfl,by decide +kernel,rfl,by decide +kernel,by decide +kernel⟩
theorem a88:FnScope ["script","k"] ["script","k"] (a0c a1B):=⟨rfl,rfl,rfl,by decide +kernel,rfl,by decide +kernel,by decide +kernel⟩
theorem sc_tumbled:FnScope ["cell","k","stir"] ["cell","k"] (a0c a1C):=⟨rfl,rfl,rfl,by decide +kernel,rfl,by decide +kernel,by decide +kernel⟩
theorem sc_words:FnScope ["cell","letters","word","at","first","last","moved"] ["cell"] (a0c a14):=⟨rfl,rfl,rfl,by decide +kernel,rfl,by decide +kernel,by decide +kernel⟩
theorem sc_stretch:FnScope ["cell","kind","begin"] ["cell"] (a0c a1D):=⟨rfl,rfl,rfl,by decide +kernel,rfl,by decide +kernel,by decide +kernel⟩
theorem sc_by_digits:FnScope ["cell","keys","worths","begin","end"] ["cell","keys","worths"] (a0c a1j):=⟨rfl,rfl,rfl,by decide +kernel,rfl,by decide +kernel,by decide +kernel⟩
theorem sc_telling:FnScope ["cell","keys","worths","key","begin","end"] ["cell","keys","worths"] (a0c a1E):=⟨rfl,rfl,rfl,by decide +kernel,rfl,by decide +kernel,by decide +kernel⟩
theorem b0G:FnScope ["sheet","way","key","worth","moment","knowing"] ["sheet","way","key","worth","moment","knowing"] (a0c a1V):=⟨rfl,rfl,rfl,by decide +kernel,rfl,by decide +kernel,by decide +kernel⟩
theorem sc_asked:FnScope ["sheet","way","key","worth","moment","knowing","caught","e","other"] ["sheet","way","key","worth","moment","knowing"] (a0c a2k):=⟨rfl,rfl,rfl,by decide +kernel,rfl,by decide +kernel,by decide +kernel⟩
theorem b6t:FnScope ["way","goods"] ["way","goods"] (a0c a5o):=⟨rfl,rfl,rfl,by decide +kernel,rfl,by decide +kernel,by decide +kernel⟩
theorem a4c:FnScope ["self"] ["self"] (a0c a0E):=⟨rfl,rfl,rfl,by decide +kernel,rfl,by decide +kernel,by decide +kernel⟩
theorem a4d:FnScope ["self"] ["self"] (a0c a0F):=⟨rfl,rfl,rfl,by decide +kernel,rfl,by decide +kernel,by decide +kernel⟩
theorem a3O:FnScope ["self","key","line"] ["self","key","line"] (a0c a0y):=⟨rfl,rfl,rfl,by decide +kernel,rfl,by decide +kernel,by decide +kernel⟩
theorem sc_Sheet_tell:FnScope ["self","telling","key","line"] ["self","telling"] (a0c a04):=⟨rfl,rfl,rfl,by decide +kernel,rfl,by decide +kernel,by decide +kernel⟩
theorem sc_law:FnScope ["script","keys","worths","sheet","cell","last","lines","k","xs","goods","odd","key","worth","moment","knowing","way","there"] ["script"] (a0c a3u):=⟨rfl,rfl,rfl,by decide +kernel,rfl,by decide +kernel,by decide +kernel⟩
set_option genInjectivity false in
structure Ad where
 f_p_is_name:Addr
 d_p_is_name:FuncData
 f_p_is_moment:Addr
 d_p_is_moment:FuncData
 f_p_is_stretch:Addr
 d_p_is_stretch:FuncData
 f_p_earlier_end:Addr
 d_p_earlier_end:FuncData
 f_p_check_name:Addr
 d_p_check_name:FuncData
 f_p_check_moment:Addr
 d_p_check_moment:FuncData
 f_p_check_stretch:Addr
 d_p_check_stretch:FuncData
 f_p_check_in_reach:Addr
 d_p_check_in_reach:FuncData
 f_p_is_over:Addr
 d_p_is_over:FuncData
 f_p_worths_in:Addr
 d_p_worths_in:FuncData
 f_p_worth_in:Addr
 d_p_worth_in:FuncData
 f_p_ahead_of:Addr
 d_p_ahead_of:FuncData
 f_p_with_alike_joined:Addr
 d_p_with_alike_joined:FuncData
 f_p_from_on:Addr
 d_p_from_on:FuncData
 f_p_put_on:Addr
 d_p_put_on:FuncData
 f_Sheet_check_knowing:Addr
 d_Sheet_check_knowing:FuncData
 f_Sheet_known_line:Addr
 d_Sheet_known_line:FuncData
 f_Sheet_keys_at:Addr
 d_Sheet_keys_at:FuncData
 f_Sheet_worth_at:Addr
 d_Sheet_worth_at:FuncData
 f_p_all_at:Addr
 d_p_all_at:FuncData
 f_Sheet_line_at:Addr
 d_Sheet_line_at:FuncData
 f_p_when:Addr
 d_p_when:FuncData
 f_p_who:Addr
 d_p_who:FuncData
 f_p_check_telling:Addr
 d_p_check_telling:FuncData
 f_p_line_behind:Addr
 d_p_line_behind:FuncData
 f_cell_at:Addr
 d_cell_at:FuncData
 f_tumbled:Addr
 d_tumbled:FuncData
 f_words:Addr
 d_words:FuncData
 f_stretch:Addr
 d_stretch:FuncData
 f_by_digits:Addr
 d_by_digits:FuncData
 f_telling:Addr
 d_telling:FuncData
 f_called:Addr
 d_called:FuncData
 f_asked:Addr
 d_asked:FuncData
 f_due:Addr
 d_due:FuncData
 f_Sheet___init__:Addr
 d_Sheet___init__:FuncData
 f_Sheet_knowings:Addr
 d_Sheet_knowings:FuncData
 f_Sheet_keep_line:Addr
 d_Sheet_keep_line:FuncData
 f_Sheet_tell:Addr
 d_Sheet_tell:FuncData
 f_law:Addr
 d_law:FuncData
 c_Sheet:Addr
 x_NoName:Addr
 x_NoStretch:Addr
 x_NoKnowing:Addr
 x_Broken:Addr
 x_Forgotten:Addr
 x_NoFit:Addr
 x_NoLog:Addr
 x_NoRow:Addr
 x_NoSheet:Addr
 x_TimesError:Addr
structure Fns (K:Fg) (a:Ad):Prop where
 p_is_name:Fun K "is_name" "is_name" a08 a.f_p_is_name a.d_p_is_name
 p_is_moment:Fun K "is_moment" "is_moment" a0W a.f_p_is_moment a.d_p_is_moment
 p_is_stretch:Fun K "is_stretch" "is_stretch" a0R a.f_p_is_stretch a.d_p_is_stretch
 p_earlier_end:Fun K "earlier_end" "earlier_end" a0L a.f_p_earlier_end a.d_p_earlier_end
 p_check_name:Fun K "check_name" "check_name" a0S a.f_p_check_name a.d_p_check_name
 p_check_moment:Fun K "check_moment" "check_moment" a0C a.f_p_check_moment a.d_p_check_moment
 p_check_stretch:Fun K "check_stretch" "check_stretch" a0w a.f_p_check_stretch a.d_p_check_stretch
 p_check_in_reach:Fun K "check_in_reach" "check_in_reach" a0v a.f_p_check_in_reach a.d_p_check_in_reach
 p_is_over:Fun K "is_over" "is_over" a1i a.f_p_is_over a.d_p_is_over
 p_worths_in:Fun K "worths_in" "worths_in" a0X a.f_p_worths_in a.d_p_worths_in
 p_worth_in:Fun K "worth_in" "worth_in" a03 a.f_p_worth_in a.d_p_worth_in
 p_ahead_of:Fun K "ahead_of" "ahead_of" a0Y a.f_p_ahead_of a.d_p_ahead_of
 p_with_alike_joined:Fun K "with_alike_joined" "with_alike_joined" a0q a.f_p_with_alike_joined a.d_p_with_alike_joined
 p_from_on:Fun K "from_on" "from_on" a09 a.f_p_from_on a.d_p_from_on
 p_put_on:Fun K "put_on" "put_on" a1p a.f_p_put_on a.d_p_put_on
 Sheet_check_knowing:Fun K "check_knowing" "Sheet.check_knowing" a0r a.f_Sheet_check_knowing a.d_Sheet_check_knowing
 Sheet_known_line:Fun K "known_line" "Sheet.known_line" a0s a.f_Sheet_known_line a.d_Sheet_known_line
 Sheet_keys_at:Fun K "keys_at" "Sheet.keys_at" a0B a.f_Sheet_keys_at a.d_Sheet_keys_at
 Sheet_worth_at:Fun K "worth_at" "Sheet.worth_at" a0D a.f_Sheet_worth_at a.d_Sheet_worth_at
 p_all_at:Fun K "all_at" "all_at" a1e a.f_p_all_at a.d_p_all_at
 Sheet_line_at:Fun K "line_at" "Sheet.line_at" a0M a.f_Sheet_line_at a.d_Sheet_line_at
 p_when:Fun K "when" "when" a1M a.f_p_when a.d_p_when
 p_who:Fun K "who" "who" a2j a.f_p_who a.d_p_who
 p_check_telling:Fun K "check_telling" "check_telling" a0x a.f_p_check_telling a.d_p_check_telling
 p_line_behind:Fun K "line_behind" "line_behind" a0N a.f_p_line_behind a.d_p_line_behind
 cell_at:Fun K "_law_cell_at" "_law_cell_at" a1B a.f_cell_at a.d_cell_at
 tumbled:Fun K "_law_tumbled" "_law_tumbled" a1C a.f_tumbled a.d_tumbled
 words:Fun K "_law_words" "_law_words" a14 a.f_words a.d_words
 stretch:Fun K "_law_stretch" "_law_stretch" a1D a.f_stretch a.d_stretch
 by_digits:Fun K "_law_by_digits" "_law_by_digits" a1j a.f_by_digits a.d_by_digits
 telling:Fun K "_law_telling" "_law_telling" a1E a.f_telling a.d_telling
 called:Fun K "_law_called" "_law_called" a1V a.f_called a.d_called
 asked:Fun K "_law_asked" "_law_asked" a2k a.f_asked a.d_asked
 due:Fun K "_law_due" "_law_due" a5o a.f_due a.d_due
 Sheet___init__:Fun K "__init__" "Sheet.__init__" a0E a.f_Sheet___init__ a.d_Sheet___init__
 Sheet_knowings:Fun K "knowings" "Sheet.knowings" a0F a.f_Sheet_knowings a.d_Sheet_knowings
 Sheet_keep_line:Fun K "keep_line" "Sheet.keep_line" a0y a.f_Sheet_keep_line a.d_Sheet_keep_line
 Sheet_tell:Fun K "tell" "Sheet.tell" a04 a.f_Sheet_tell a.d_Sheet_tell
 law:Fun K "law" "law" a3u a.f_law a.d_law
theorem a7P {K:Fg} {a:Ad} (F:Fns K a):Binds K a.d_p_is_name ["thing"] []:=F.p_is_name.binds (ps:=["thing"]) fun _ _ _ _ _ _=>lnS fun _=>ln0 rfl
theorem a2E {K:Fg} {a:Ad} (F:Fns K a):Binds K a.d_p_is_moment ["thing"] []:=F.p_is_moment.binds (ps:=["thing"]) fun _ _ _ _ _ _=>lnS fun _=>ln0 rfl
theorem a5q {K:Fg} {a:Ad} (F:Fns K a):Binds K a.d_p_is_stretch ["begin","end"] []:=F.p_is_stretch.binds (ps:=["begin","end"]) fun _ _ _ _ _ _=>lnS fun _=>lnS fun _=>ln0 rfl
theorem a5c {K:Fg} {a:Ad} (F:Fns K a):Binds K a.d_p_earlier_end ["end","other"] []:=F.p_earlier_end.binds (ps:=["end","other"]) fun _ _ _ _ _ _=>lnS fun _=>lnS fun _=>ln0 rfl
theorem a1F {K:Fg} {a:Ad} (F:Fns K a):Binds K a.d_p_check_name ["thing"] []:=F.p_check_name.binds (ps:=["thing"]) fun _ _ _ _ _ _=>lnS fun _=>ln0 rfl
theorem a2J {K:Fg} {a:Ad} (F:Fns K a):Binds K a.d_p_check_moment ["thing"] []:=F.p_check_moment.binds (ps:=["thing"]) fun _ _ _ _ _ _=>lnS fun _=>ln0 rfl
theorem a4e {K:Fg} {a:Ad} (F:Fns K a):Binds K a.d_p_check_stretch ["begin","end"] []:=F.p_check_stretch.binds (ps:=["begin","end"]) fun _ _ _ _ _ _=>lnS fun _=>lnS fun _=>ln0 rfl
theorem a3P {K:Fg} {a:Ad} (F:Fns K a):Binds K a.d_p_check_in_reach ["knowing","last"] []:=F.p_check_in_reach.binds (ps:=["knowing","last"]) fun _ _ _ _ _ _=>lnS fun _=>lnS fun _=>ln0 rfl
theorem a7Q {K:Fg} {a:Ad} (F:Fns K a):Binds K a.d_p_is_over ["stretch","moment"] []:=F.p_is_over.binds (ps:=["stretch","moment"]) fun _ _ _ _ _ _=>lnS fun _=>lnS fun _=>ln0 rfl
theorem a6h {K:Fg} {a:Ad} (F:Fns K a):Binds K a.d_p_worths_in ["line","moments"] []:=F.p_worths_in.binds (ps:=["line","moments"]) fun _ _ _ _ _ _=>lnS fun _=>lnS fun _=>ln0 rfl
theorem a65 {K:Fg} {a:Ad} (F:Fns K a):Binds K a.d_p_worth_in ["line","moment"] []:=F.p_worth_in.binds (ps:=["line","moment"]) fun _ _ _ _ _ _=>lnS fun _=>lnS fun _=>ln0 rfl
theorem a66 {K:Fg} {a:Ad} (F:Fns K a):Binds K a.d_p_ahead_of ["line","moment"] []:=F.p_ahead_of.binds (ps:=["line","moment"]) fun _ _ _ _ _ _=>lnS fun _=>lnS fun _=>ln0 rfl
theorem a20 {K:Fg} {a:Ad} (F:Fns K a):Binds K a.d_p_with_alike_joined ["pieces"] []:=F.p_with_alike_joined.binds (ps:=["pieces"]) fun _ _ _ _ _ _=>lnS fun _=>ln0 rfl
theorem a7R {K:Fg} {a:Ad} (F:Fns K a):Binds K a.d_p_from_on ["line","moment"] []:=F.p_from_on.binds (ps:=["line","moment"]) fun _ _ _ _ _ _=>lnS fun _=>lnS fun _=>ln0 rfl
theorem a89 {K:Fg} {a:Ad} (F:Fns K a):Binds K a.d_p_put_on ["line","begin","end","worth"] []:=F.p_put_on.binds (ps:=["line","begin","end","worth"]) fun _ _ _ _ _ _=>lnS fun _=>lnS fun _=>lnS fun _=>lnS fun _=>ln0 rfl
theorem a1y {K:Fg} {a:Ad} (F:Fns K a):Binds K a.d_Sheet_check_knowing ["self","knowing"] []:=F.Sheet_check_knowing.binds (ps:=["self","knowing"]) fun _ _ _ _ _ _=>lnS fun _=>lnS fun _=>ln0 rfl
theorem a1u {K:Fg} {a:Ad} (F:Fns K a):Binds K a.d_Sheet_known_line ["self","key","knowing"] []:=F.Sheet_known_line.binds (ps:=["self","key","knowing"]) fun _ _ _ _ _ _=>lnS fun _=>lnS fun _=>lnS fun _=>ln0 rfl
theorem a15 {K:Fg} {a:Ad} (F:Fns K a):Binds K a.d_Sheet_keys_at ["self","knowing"] []:=F.Sheet_keys_at.binds (ps:=["self","knowing"]) fun _ _ _ _ _ _=>lnS fun _=>lnS fun _=>ln0 rfl
theorem a4G {K:Fg} {a:Ad} (F:Fns K a):Binds K a.d_Sheet_worth_at ["self","key","moment","knowing"] []:=F.Sheet_worth_at.binds (ps:=["self","key","moment","knowing"]) fun _ _ _ _ _ _=>lnS fun _=>lnS fun _=>lnS fun _=>lnS fun _=>ln0 rfl
theorem a9a {K:Fg} {a:Ad} (F:Fns K a):Binds K a.d_p_all_at ["sheet","moment","knowing"] []:=F.p_all_at.binds (ps:=["sheet","moment","knowing"]) fun _ _ _ _ _ _=>lnS fun _=>lnS fun _=>lnS fun _=>ln0 rfl
theorem a16 {K:Fg} {a:Ad} (F:Fns K a):Binds K a.d_Sheet_line_at ["self","key","knowing"] []:=F.Sheet_line_at.binds (ps:=["self","key","knowing"]) fun _ _ _ _ _ _=>lnS fun _=>lnS fun _=>lnS fun _=>ln0 rfl
theorem a8v {K:Fg} {a:Ad} (F:Fns K a):Binds K a.d_p_when ["sheet","key","worth","knowing"] []:=F.p_when.binds (ps:=["sheet","key","worth","knowing"]) fun _ _ _ _ _ _=>lnS fun _=>lnS fun _=>lnS fun _=>lnS fun _=>ln0 rfl
theorem b3U {K:Fg} {a:Ad} (F:Fns K a):Binds K a.d_p_who ["sheet","worth","knowing"] []:=F.p_who.binds (ps:=["sheet","worth","knowing"]) fun _ _ _ _ _ _=>lnS fun _=>lnS fun _=>lnS fun _=>ln0 rfl
theorem a4f {K:Fg} {a:Ad} (F:Fns K a):Binds K a.d_p_check_telling ["telling"] []:=F.p_check_telling.binds (ps:=["telling"]) fun _ _ _ _ _ _=>lnS fun _=>ln0 rfl
theorem a5d {K:Fg} {a:Ad} (F:Fns K a):Binds K a.d_p_line_behind ["line","telling"] []:=F.p_line_behind.binds (ps:=["line","telling"]) fun _ _ _ _ _ _=>lnS fun _=>lnS fun _=>ln0 rfl
theorem a5e {K:Fg} {a:Ad} (F:Fns K a):Binds K a.d_cell_at ["script","k"] []:=F.cell_at.binds (ps:=["script","k"]) fun _ _ _ _ _ _=>lnS fun _=>lnS fun _=>ln0 rfl
theorem a0Z {K:Fg} {a:Ad} (F:Fns K a):Binds K a.d_tumbled ["cell","k"] []:=F.tumbled.binds (ps:=["cell","k"]) fun _ _ _ _ _ _=>lnS fun _=>lnS fun _=>ln0 rfl
theorem b0H {K:Fg} {a:Ad} (F:Fns K a):Binds K a.d_words ["cell"] []:=F.words.binds (ps:=["cell"]) fun _ _ _ _ _ _=>lnS fun _=>ln0 rfl
theorem b0I {K:Fg} {a:Ad} (F:Fns K a):Binds K a.d_stretch ["cell"] []:=F.stretch.binds (ps:=["cell"]) fun _ _ _ _ _ _=>lnS fun _=>ln0 rfl
theorem a7S {K:Fg} {a:Ad} (F:Fns K a):Binds K a.d_by_digits ["cell","keys","worths"] []:=F.by_digits.binds (ps:=["cell","keys","worths"]) fun _ _ _ _ _ _=>lnS fun _=>lnS fun _=>lnS fun _=>ln0 rfl
theorem b0J {K:Fg} {a:Ad} (F:Fns K a):Binds K a.d_telling ["cell","keys","worths"] []:=F.telling.binds (ps:=["cell","keys","worths"]) fun _ _ _ _ _ _=>lnS fun _=>lnS fun _=>lnS fun _=>ln0 rfl
theorem b14 {K:Fg} {a:Ad} (F:Fns K a):Binds K a.d_called ["sheet","way","key","worth","moment","knowing"] []:=F.called.binds (ps:=["sheet","way","key","worth","moment","knowing"]) fun _ _ _ _ _ _=>lnS fun _=>lnS fun _=>lnS fun _=>lnS fun _=>lnS fun _=>lnS fun _=>ln0 rfl
theorem b3V {K:Fg} {a:Ad} (F:Fns K a):Binds K a.d_asked ["sheet","way","key","worth","moment","knowing"] []:=F.asked.binds (ps:=["sheet","way","key","worth","moment","knowing"]) fun _ _ _ _ _ _=>lnS fun _=>lnS fun _=>lnS fun _=>lnS fun _=>lnS fun _=>lnS fun _=>ln0 rfl
theorem b8e {K:Fg} {a:Ad} (F:Fns K a):Binds K a.d_due ["way","goods"] []:=F.due.binds (ps:=["way","goods"]) fun _ _ _ _ _ _=>lnS fun _=>lnS fun _=>ln0 rfl
theorem a4H {K:Fg} {a:Ad} (F:Fns K a):Binds K a.d_Sheet___init__ ["self"] []:=F.Sheet___init__.binds (ps:=["self"]) fun _ _ _ _ _ _=>lnS fun _=>ln0 rfl
theorem a2K {K:Fg} {a:Ad} (F:Fns K a):Binds K a.d_Sheet_knowings ["self"] []:=F.Sheet_knowings.binds (ps:=["self"]) fun _ _ _ _ _ _=>lnS fun _=>ln0 rfl
theorem a4g {K:Fg} {a:Ad} (F:Fns K a):Binds K a.d_Sheet_keep_line ["self","key","line"] []:=F.Sheet_keep_line.binds (ps:=["self","key","line"]) fun _ _ _ _ _ _=>lnS fun _=>lnS fun _=>lnS fun _=>ln0 rfl
theorem a67 {K:Fg} {a:Ad} (F:Fns K a):Binds K a.d_Sheet_tell ["self","telling"] []:=F.Sheet_tell.binds (ps:=["self","telling"]) fun _ _ _ _ _ _=>lnS fun _=>lnS fun _=>ln0 rfl
structure Txt (K:Fg) (mg:Str->Option Value) (a:Ad):Prop where
 m_p_is_name:mg "is_name"=some (.ref a.f_p_is_name)
 k_p_is_name:PySem.W.keepIn K (.ref a.f_p_is_name)=true
 m_p_is_moment:mg "is_moment"=some (.ref a.f_p_is_moment)
 k_p_is_moment:PySem.W.keepIn K (.ref a.f_p_is_moment)=true
 m_p_is_stretch:mg "is_stretch"=some (.ref a.f_p_is_stretch)
 k_p_is_stretch:PySem.W.keepIn K (.ref a.f_p_is_stretch)=true
 m_p_earlier_end:mg "earlier_end"=some (.ref a.f_p_earlier_end)
 k_p_earlier_end:PySem.W.keepIn K (.ref a.f_p_earlier_end)=true
 m_p_check_name:mg "check_name"=some (.ref a.f_p_check_name)
 k_p_check_name:PySem.W.keepIn K (.ref a.f_p_check_name)=true
 m_p_check_moment:mg "check_moment"=some (.ref a.f_p_check_moment)
 k_p_check_moment:PySem.W.keepIn K (.ref a.f_p_check_moment)=true
 m_p_check_stretch:mg "check_stretch"=some (.ref a.f_p_check_stretch)
 k_p_check_stretch:PySem.W.keepIn K (.ref a.f_p_check_stretch)=true
 m_p_check_in_reach:mg "check_in_reach"=some (.ref a.f_p_check_in_reach)
 k_p_check_in_reach:PySem.W.keepIn K (.ref a.f_p_check_in_reach)=true
 m_p_is_over:mg "is_over"=some (.ref a.f_p_is_over)
 k_p_is_over:PySem.W.keepIn K (.ref a.f_p_is_over)=true
 m_p_worths_in:mg "worths_in"=some (.ref a.f_p_worths_in)
 k_p_worths_in:PySem.W.keepIn K (.ref a.f_p_worths_in)=true
 m_p_worth_in:mg "worth_in"=some (.ref a.f_p_worth_in)
 k_p_worth_in:PySem.W.keepIn K (.ref a.f_p_worth_in)=true
 m_p_ahead_of:mg "ahead_of"=some (.ref a.f_p_ahead_of)
 k_p_ahead_of:PySem.W.keepIn K (.ref a.f_p_ahead_of)=true
 m_p_with_alike_joined:mg "with_alike_joined"=some (.ref a.f_p_with_alike_joined)
 k_p_with_alike_joined:PySem.W.keepIn K (.ref a.f_p_with_alike_joined)=true
 m_p_from_on:mg "from_on"=some (.ref a.f_p_from_on)
 k_p_from_on:PySem.W.keepIn K (.ref a.f_p_from_on)=true
 m_p_put_on:mg "put_on"=some (.ref a.f_p_put_on)
 k_p_put_on:PySem.W.keepIn K (.ref a.f_p_put_on)=true
 mt_Sheet_check_knowing:Meth K a.c_Sheet "check_knowing" a.f_Sheet_check_knowing
 k_Sheet_check_knowing:PySem.W.keepIn K (.ref a.f_Sheet_check_knowing)=true
 mt_Sheet_known_line:Meth K a.c_Sheet "known_line" a.f_Sheet_known_line
 k_Sheet_known_line:PySem.W.keepIn K (.ref a.f_Sheet_known_line)=true
 mt_Sheet_keys_at:Meth K a.c_Sheet "keys_at" a.f_Sheet_keys_at
 k_Sheet_keys_at:PySem.W.keepIn K (.ref a.f_Sheet_keys_at)=true
 mt_Sheet_worth_at:Meth K a.c_Sheet "worth_at" a.f_Sheet_worth_at
 k_Sheet_worth_at:PySem.W.keepIn K (.ref a.f_Sheet_worth_at)=true
 m_p_all_at:mg "all_at"=some (.ref a.f_p_all_at)
 k_p_all_at:PySem.W.keepIn K (.ref a.f_p_all_at)=true
 mt_Sheet_line_at:Meth K a.c_Sheet "line_at" a.f_Sheet_line_at
 k_Sheet_line_at:PySem.W.keepIn K (.ref a.f_Sheet_line_at)=true
 m_p_when:mg "when"=some (.ref a.f_p_when)
 k_p_when:PySem.W.keepIn K (.ref a.f_p_when)=true
 m_p_who:mg "who"=some (.ref a.f_p_who)
 k_p_who:PySem.W.keepIn K (.ref a.f_p_who)=true
 m_p_check_telling:mg "check_telling"=some (.ref a.f_p_check_telling)
 k_p_check_telling:PySem.W.keepIn K (.ref a.f_p_check_telling)=true
 m_p_line_behind:mg "line_behind"=some (.ref a.f_p_line_behind)
 k_p_line_behind:PySem.W.keepIn K (.ref a.f_p_line_behind)=true
 m_cell_at:mg "_law_cell_at"=some (.ref a.f_cell_at)
 k_cell_at:PySem.W.keepIn K (.ref a.f_cell_at)=true
 m_tumbled:mg "_law_tumbled"=some (.ref a.f_tumbled)
 k_tumbled:PySem.W.keepIn K (.ref a.f_tumbled)=true
 m_words:mg "_law_words"=some (.ref a.f_words)
 k_words:PySem.W.keepIn K (.ref a.f_words)=true
 m_stretch:mg "_law_stretch"=some (.ref a.f_stretch)
 k_stretch:PySem.W.keepIn K (.ref a.f_stretch)=true
 m_by_digits:mg "_law_by_digits"=some (.ref a.f_by_digits)
 k_by_digits:PySem.W.keepIn K (.ref a.f_by_digits)=true
 m_telling:mg "_law_telling"=some (.ref a.f_telling)
 k_telling:PySem.W.keepIn K (.ref a.f_telling)=true
 m_called:mg "_law_called"=some (.ref a.f_called)
 k_called:PySem.W.keepIn K (.ref a.f_called)=true
 m_asked:mg "_law_asked"=some (.ref a.f_asked)
 k_asked:PySem.W.keepIn K (.ref a.f_asked)=true
 m_due:mg "_law_due"=some (.ref a.f_due)
 k_due:PySem.W.keepIn K (.ref a.f_due)=true
 mt_Sheet___init__:Meth K a.c_Sheet "__init__" a.f_Sheet___init__
 k_Sheet___init__:PySem.W.keepIn K (.ref a.f_Sheet___init__)=true
 mt_Sheet_knowings:Meth K a.c_Sheet "knowings" a.f_Sheet_knowings
 k_Sheet_knowings:PySem.W.keepIn K (.ref a.f_Sheet_knowings)=true
 mt_Sheet_keep_line:Meth K a.c_Sheet "keep_line" a.f_Sheet_keep_line
 k_Sheet_keep_line:PySem.W.keepIn K (.ref a.f_Sheet_keep_line)=true
 mt_Sheet_tell:Meth K a.c_Sheet "tell" a.f_Sheet_tell
 k_Sheet_tell:PySem.W.keepIn K (.ref a.f_Sheet_tell)=true
 m_law:mg "law"=some (.ref a.f_law)
 k_law:PySem.W.keepIn K (.ref a.f_law)=true
 b_all:mg "all"=none
 b_isinstance:mg "isinstance"=none
 b_str:mg "str"=none
 b_len:mg "len"=none
 b_bool:mg "bool"=none
 b_int:mg "int"=none
 b_min:mg "min"=none
 b_max:mg "max"=none
 b_reversed:mg "reversed"=none
 b_sorted:mg "sorted"=none
 b_range:mg "range"=none
 b_ValueError:mg "ValueError"=none
 cl_Sheet:Cls K a.c_Sheet
 mg_Sheet:mg "Sheet"=some (.ref a.c_Sheet)
 mk_Sheet:Mk K a.c_Sheet a.f_Sheet___init__
 na_last:NoAttr K a.c_Sheet "last"
 na_kept:NoAttr K a.c_Sheet "kept"
 x_NoName:mg "NoName"=some (.ref a.x_NoName)
 x_NoStretch:mg "NoStretch"=some (.ref a.x_NoStretch)
 x_NoKnowing:mg "NoKnowing"=some (.ref a.x_NoKnowing)
 x_Broken:mg "Broken"=some (.ref a.x_Broken)
 x_Forgotten:mg "Forgotten"=some (.ref a.x_Forgotten)
 x_NoFit:mg "NoFit"=some (.ref a.x_NoFit)
 x_NoLog:mg "NoLog"=some (.ref a.x_NoLog)
 x_NoRow:mg "NoRow"=some (.ref a.x_NoRow)
 x_NoSheet:mg "NoSheet"=some (.ref a.x_NoSheet)
 x_TimesError:mg "TimesError"=some (.ref a.x_TimesError)
 xi_NoName:PySem.W.excIn K a.x_NoName veM "ValueError.__new__"=true
 xi_NoStretch:PySem.W.excIn K a.x_NoStretch veM "ValueError.__new__"=true
 xi_NoKnowing:PySem.W.excIn K a.x_NoKnowing veM "ValueError.__new__"=true
 xm_NoKnowing_NoKnowing:PySem.W.exmOne K (.ref a.x_NoKnowing) (.ref a.x_NoKnowing)=some true
 xm_NoName_NoKnowing:PySem.W.exmOne K (.ref a.x_NoName) (.ref a.x_NoKnowing)=some false
 xm_NoName_NoName:PySem.W.exmOne K (.ref a.x_NoName) (.ref a.x_NoName)=some true
 xm_NoStretch_NoKnowing:PySem.W.exmOne K (.ref a.x_NoStretch) (.ref a.x_NoKnowing)=some false
 xm_NoStretch_NoName:PySem.W.exmOne K (.ref a.x_NoStretch) (.ref a.x_NoName)=some false
 xm_NoStretch_NoStretch:PySem.W.exmOne K (.ref a.x_NoStretch) (.ref a.x_NoStretch)=some true
 xk_NoKnowing:ExK K a.x_NoKnowing
 xk_NoName:ExK K a.x_NoName
 xk_NoStretch:ExK K a.x_NoStretch
 kt_NoKnowing_TimesError:PySem.W.kitOne K (.ref a.x_NoKnowing) (.ref a.x_TimesError)=some true
 kt_NoKnowing_ValueError:PySem.W.kitOne K (.ref a.x_NoKnowing) (.type "ValueError")=some true
 kt_NoName_TimesError:PySem.W.kitOne K (.ref a.x_NoName) (.ref a.x_TimesError)=some true
 kt_NoName_ValueError:PySem.W.kitOne K (.ref a.x_NoName) (.type "ValueError")=some true
 kt_NoStretch_TimesError:PySem.W.kitOne K (.ref a.x_NoStretch) (.ref a.x_TimesError)=some true
 kt_NoStretch_ValueError:PySem.W.kitOne K (.ref a.x_NoStretch) (.type "ValueError")=some true
 ka_NoKnowing_0:PySem.W.kitAny K (.ref a.x_NoKnowing) [.ref a.x_Broken,.ref a.x_Forgotten,.ref a.x_NoFit,.ref a.x_NoLog,.ref a.x_NoName,.ref a.x_NoRow,.ref a.x_NoSheet,.ref a.x_NoStretch]=some false
 ka_NoName_1:PySem.W.kitAny K (.ref a.x_NoName) [.ref a.x_Broken,.ref a.x_Forgotten,.ref a.x_NoFit,.ref a.x_NoLog,.ref a.x_NoKnowing,.ref a.x_NoRow,.ref a.x_NoSheet,.ref a.x_NoStretch]=some false
 ka_NoStretch_2:PySem.W.kitAny K (.ref a.x_NoStretch) [.ref a.x_Broken,.ref a.x_Forgotten,.ref a.x_NoFit,.ref a.x_NoLog,.ref a.x_NoName,.ref a.x_NoRow,.ref a.x_NoSheet,.ref a.x_NoKnowing]=some false
 c_LONGEST_NAME:∃ t,mg "LONGEST_NAME"=some (.int 8 t)
 c_LAST_MOMENT:∃ t,mg "LAST_MOMENT"=some (.int 1000000000000 t)
theorem a8w {X:Cx} {x:Str} {i:Int} {pos:Pos} (hg:Gl X x) (hm:∃ t,X.mg x=some (.int i t)) (hd:(x==("__debug__":Str))=false:=by decide):PE X (.Name x pos) (tC (.int i)):=by
 obtain⟨t,h⟩:=hm
 exact a9p hg h ⟨t,rfl⟩ hd
theorem b8f {t:A3} {σ:S3} {G:Hq} {R:K3} (h:t σ G fun ws G1=>∃ (p:Addr) (ns:List Int),ws=[.ref p]/\G1 p=some (.lst (ns.map Z.int))/\ns.length≤1000 /\
  ∀ (t:Addr) (ks:List Int),G1 t=none->ks.Pairwise (·<·)->(∀ x,x∈ks↔x∈ns)->ks.length≤ns.length->R (.ref t) (put G1 t (.lst (ks.map Z.int)))):uSS t σ G R:=h
def a5P:P3:=fun ws G R=>∃ a ns,ws=[.scr a ns]/\ns.length≤63/\∀ G',R (.bl true) G'
theorem b0K {K:Fg} {H:Hp} {E:XK} (a:Addr) (ns:List Int) (hl:ns.length≤63) (f:Fz K H a (ns.map V.int)):lowP K a5P [.ref a] H (fun v _=>v=.bl true) E:=
 ⟨[.scr a ns],fun _=>none,fun w _=>w=.bl true,.cons (by rw [a2x];exact⟨rfl,f⟩) .nil,fun _ _ e=>(nomatch e),⟨a,ns,rfl,hl,fun _=>rfl⟩,fun w G v H' e r _ _=>by subst e;rw [a06] at r;exact r⟩
theorem lenK {n:Nat} (h:Nat.ble n 1000=true):n≤sizeLine:=Nat.le_of_lt (a0P (Nat.le_of_ble_eq_true h))
theorem a2L {n:Nat} (h:n≤1000):n≤sizeLine:=Nat.le_of_lt (a0P h)
def b6u (x w:Int):Prop:=w=0\/(w=1/\0≤x/\x<536870909)
abbrev RowO (x w:Int):O:=.lst [.int x,.int w]
def RowAt (G:Hq) (r:Addr):Prop:=∃ x w,G r=some (RowO x w)/\b6u x w
local macro_rules | `(tactic| walk_at "sd")=>`(tactic| first | assumption | (exact a2L (by first | decide | omega | (simp;done) | (simp;omega))) | (exact a0P (by first | decide | omega | (simp;done) | (simp;omega))) | decide | omega)
local macro_rules | `(tactic| walk_at "hp")=>`(tactic| first | assumption | exact a0f | (refine a0I ?_ (by assumption);walk_at "hp") | (refine Sm.get (by assumption) ?_;walk_at "hp"))
local macro_rules | `(tactic| walk_at "go1")=>`(tactic| with_reducible (first
 | refine b7x ?_ | refine b7o (by with_unfolding_all rfl) ?_ | refine i_c ?_ | refine i_op ?_ | refine i_un ?_ | refine b5z ?_ | refine b3w ?_ | refine b7p ?_ | refine i_or ?_ | refine b7q ?_ | refine b5A ?_ | refine b7r ?_ | refine b5B ?_ | refine i_if ?_
 | refine b7s ?_ | refine b5C ?_ | refine b5D ?_ | refine i_sl ?_ | refine b1P ?_ | refine b5E ?_ | refine b7t ?_ | refine b5F ?_ | refine b7u ?_ | refine b7v ?_ | refine i_cb ?_ | refine b8f ?_ | refine b7w ?_ | refine i_bm ?_ | refine b5G ?_
 | refine b5H ?_ | refine b5I ?_ | refine b7y ?_ | refine b5J ?_ | refine b7z ?_ | refine b7A ?_ | refine b7B ?_ | refine b7C (by with_unfolding_all rfl) ?_ | refine b3x ?_ | refine b5K ?_ | refine b5U ?_ | refine b7O ?_ | refine i_iL ?_ | refine i_iT ?_ | refine i_iS ?_ | refine b7P ?_ | refine b7Q ?_ | refine b7R ?_ | refine b7S ?_ | refine b7T ?_ | refine i_tt ?_
 | refine b5L ?_ | refine i_I0 ?_ | refine b7D ?_ | refine i_CI ?_ | refine i_CS ?_ | refine b7E ?_ | refine b7F ?_ | refine b5N ?_ | refine b7G ?_ | refine b5O ?_ | refine b7H ?_ | refine b7N ?_ | refine b5Q ?_ | refine i_nm ?_ | refine a3H (by with_unfolding_all rfl) ?_ | refine b5R ?_ | refine b5S ?_ | refine i_mm ?_ | refine b7M ?_
 | refine ifT ?_ | refine ifF ?_ | refine ifNN ?_ | refine ifNI ?_ | refine ifNS ?_ | refine ifNU ?_ | refine ifMN ?_ | refine ifMI ?_ | refine ifMS ?_ | refine ifMU ?_ | refine a3H at0 ?_ | refine a3H at1 ?_ | refine a3H at2 ?_ | refine b55 ?_ | refine b56 ?_ | refine b72 ?_ | refine b57 ?_ | refine b6a ?_ | refine b3H ?_ | refine b3I ?_ | refine b6b ?_ | refine b6c ?_ | refine b6i ?_ | refine b3M ?_ | refine b6j ?_ | refine⟨_,rfl,?_⟩))
local macro_rules | `(tactic| walk_at "go")=>`(tactic| repeat walk_at "go1")
def a5Q:P3:=fun ws G R=>∃ p ns k,ws=[.scr p ns,.int k]/\0≤k/\∀ i,R (.int i) G
theorem a7T {ws:List Z} {G:Hq} {R:K3} (h:a5Q ws G R):ws.length=2:=by obtain⟨_,_,_,rfl,_⟩:=h;rfl
variable {P:Program} {w:World} {K:Fg} {mg:Str->Option Value} {base:Heap} {a:Ad}
theorem a9b (F:Fns K a) (T:Txt K mg a):FnOk P w K mg base CX0 1 a.f_cell_at a.d_cell_at ["script","k"] (lowP K a5Q):=by
 refine fn3 F.cell_at a88 (fun ws G R h=>(by exact a7T h)) (fun cdv A outer s H E ws G R hr h=>?_)
 have hu:(A.deeper (PyProof.Rows.envOfC "_law_cell_at" (a0c a1B) s.heap.objs.size a.f_cell_at cdv)).units+66<cLine:=by have:=hr.un;omega
 refine⟨_,(a0n (z_if (a0J o_lt (a0d (pv 1)) (a01 b_len rfl T.b_len PySem.boot_len (a0b (a0d (pv 0)) a0k a0a) (he:=a0a) (hpl:=a0l)) (a0z _))
  (a0t (a02 (q_ix x_ix (a0d (pv 0)) (a0d (pv 1)) (fun _ _=>rfl))))
  a1J)
  (a0t (a02 a0g))),?_⟩
 obtain⟨p,ns,k,rfl,hk,q⟩:=h
 walk_at "go"
 refine ifD (fun c=>?_) fun _=>?_
 ·obtain⟨j,rfl⟩:=Int.eq_ofNat_of_zero_le hk
  have hj:j<ns.length:=by omega
  walk_at "go"
  exact b7I (a1P (List.getElem?_eq_getElem hj)) (q _)
 ·walk_at "go"
  exact q _
theorem m9 (x:Int):0≤x % 536870909/\x % 536870909<536870909:=⟨Int.emod_nonneg _ (by decide),Int.emod_lt_of_pos _ (by decide)⟩
theorem RowAt.new {G:Hq} {r p:Addr} {o:O} (h:RowAt G r) (n:G p=none):RowAt (put G p o) r:=by
 obtain⟨x,w,e,k⟩:=h
 exact⟨x,w,a0I e n,k⟩
theorem RowAt.at {G:Hq} {r:Addr} {x w:Int} (k:b6u x w):RowAt (put G r (RowO x w)) r:=⟨x,w,a0f,k⟩
structure Rw where
 b:Int
 e:Option Int
 w:List Z
@[reducible] def oz:Option Int->Z
 | none=>.non
 | some i=>.int i
def Rw.z (r:Rw):Z:=.tup (.int r.b::oz r.e::r.w)
def bef (t:Int):Option Int->Bool
 | none=>true
 | some e=>decide (t<e)
def Rw.has (r:Rw) (t:Int):Bool:=decide (r.b≤t)&&bef t r.e
def Rw.good (r:Rw):Prop:=bef r.b r.e=true
def val (l:List Rw) (t:Int):Option (List Z):=(l.find? (·.has t)).map (·.w)
theorem a21 {t:Int}:val [] t=none:=rfl
theorem a1b {r:Rw} {l:List Rw} {t:Int}:val (r::l) t=if r.has t=true then some r.w else val l t:=by
 unfold val
 rw [List.find?_cons]
 cases h:r.has t<;>simp
theorem a1U {l m:List Rw} {t:Int}:val (l++m) t=(val l t).or (val m t):=by
 unfold val
 rw [List.find?_append]
 cases h:l.find? (·.has t)<;>simp
def Lt (r s:Rw):Prop:=∃ e,r.e=some e/\e≤s.b
def Lt2 (r s:Rw):Prop:=∃ e,r.e=some e/\e≤s.b/\(e=s.b->r.w≠s.w)
def Rise (l:List Rw):Prop:=(∀ r∈l,r.good)/\l.Pairwise Lt
def Can (l:List Rw):Prop:=(∀ r∈l,r.good)/\l.Pairwise Lt2
theorem Lt2.lt {r s:Rw} (h:Lt2 r s):Lt r s:=let ⟨e,a,b,_⟩:=h;⟨e,a,b⟩
theorem Can.rise {l:List Rw} (h:Can l):Rise l:=⟨h.1,h.2.imp Lt2.lt⟩
theorem Can.nil:Can []:=⟨fun _ h=>by simp at h,.nil⟩
theorem Rise.nil:Rise []:=Can.nil.rise
theorem Can.tail {r:Rw} {l:List Rw} (h:Can (r::l)):Can l:=⟨fun s hs=>h.1 s (.tail _ hs),(List.pairwise_cons.mp h.2).2⟩
theorem Rise.tail {r:Rw} {l:List Rw} (h:Rise (r::l)):Rise l:=⟨fun s hs=>h.1 s (.tail _ hs),(List.pairwise_cons.mp h.2).2⟩
theorem b0L {r:Rw} (h:r.good):r.has r.b=true:=by
 unfold Rw.has
 rw [show bef r.b r.e=true from h]
 simp
theorem Lt.has {r s:Rw} {t:Int} (h:Lt r s) (a:r.has t=true):s.has t=false:=by
 obtain⟨e,h1,h2⟩:=h
 unfold Rw.has at a ⊢
 rw [h1] at a
 simp only [bef,Bool.and_eq_true,decide_eq_true_eq] at a
 have:decide (s.b≤t)=false:=decide_eq_false (by omega)
 rw [this,Bool.false_and]
theorem Lt.b {r s:Rw} (g:r.good) (h:Lt r s):r.b<s.b:=by
 obtain⟨e,h1,h2⟩:=h
 have:bef r.b r.e=true:=g
 rw [h1] at this
 simp only [bef,decide_eq_true_eq] at this
 omega
theorem a4R {l:List Rw} {t:Int} (h:∀ r∈l,r.has t=false):val l t=none:=by
 induction l with
 | nil=>rfl
 | cons r l ih=>
  rw [a1b,h r (.head _),if_neg (by decide)]
  exact ih fun s hs=>h s (.tail _ hs)
theorem b15 {l:List Rw} {t:Int} {w:List Z} (h:val l t=some w):∃ r∈l,r.has t=true/\r.w=w:=by
 induction l with
 | nil=>cases h
 | cons r l ih=>
  rw [a1b] at h
  split at h
  ·next e=>cases h;exact⟨r,.head _,e,rfl⟩
  ·obtain⟨s,h1,h2⟩:=ih h;exact⟨s,.tail _ h1,h2⟩
theorem b0M {r:Rw} {t:Int} (h:t<r.b):r.has t=false:=by
 unfold Rw.has
 rw [decide_eq_false (by omega),Bool.false_and]
theorem b6v {r s:Rw} {l m:List Rw} (h:Can (r::l)) (h':Can (s::m)) (q:∀ t,val (r::l) t=val (s::m) t):¬ r.b<s.b:=fun hlt=>by
 have h1:=q r.b
 rw [a1b,b0L (h.1 r (.head _)),if_pos rfl,a4R] at h1
 ·cases h1
 ·intro x hx
  refine b0M ?_
  rcases List.mem_cons.mp hx with rfl | hx
  ·exact hlt
  ·have:=(((List.pairwise_cons.mp h'.2).1 x hx).lt).b (h'.1 s (.head _))
   omega
theorem b3W {r s:Rw} {l m:List Rw} (h:Can (r::l)) (hb:r.b=s.b) (hw:r.w=s.w) (q:∀ t,val (r::l) t=val (s::m) t) {e:Int} (he:r.e=some e):bef e s.e=false:=by
 cases hc:bef e s.e with
 | false=>rfl
 | true=>
  exfalso
  have h0:bef r.b r.e=true:=h.1 r (.head _)
  rw [he] at h0
  simp only [bef,decide_eq_true_eq] at h0
  have h1:=q e
  have hs:s.has e=true:=by unfold Rw.has;rw [hc,decide_eq_true (show s.b≤e by omega)];rfl
  have hr:r.has e=false:=by unfold Rw.has;rw [he];simp [bef]
  rw [a1b,a1b,hs,hr,if_pos rfl,if_neg (by decide)] at h1
  obtain⟨x,hx,hx1,hx2⟩:=b15 h1
  obtain⟨e',a1,a2,a3⟩:=(List.pairwise_cons.mp h.2).1 x hx
  rw [he] at a1
  cases a1
  have hxb:x.b≤e:=by unfold Rw.has at hx1;simp only [Bool.and_eq_true,decide_eq_true_eq] at hx1;exact hx1.1
  exact a3 (by omega) (by rw [hw,hx2])
theorem b2P:∀ {l m:List Rw},Can l->Can m->(∀ t,val l t=val m t)->l=m
 | [],[],_,_,_=>rfl
 | [],s::m,_,h',q=>by
  have:=q s.b
  rw [a21,a1b,b0L (h'.1 s (.head _)),if_pos rfl] at this
  cases this
 | r::l,[],h,_,q=>by
  have:=q r.b
  rw [a21,a1b,b0L (h.1 r (.head _)),if_pos rfl] at this
  cases this
 | r::l,s::m,h,h',q=>by
  have hb:r.b=s.b:=by
   have h1:=b6v h h' q
   have h2:=b6v h' h fun t=>(q t).symm
   omega
  have hw:r.w=s.w:=by
   have h1:=q r.b
   have h2:s.has r.b=true:=by rw [hb];exact b0L (h'.1 s (.head _))
   rw [a1b,a1b,b0L (h.1 r (.head _)),h2,if_pos rfl,if_pos rfl] at h1
   exact Option.some.inj h1
  have he:r.e=s.e:=by
   cases e1:r.e with
   | none=>
    cases e2:s.e with
    | none=>rfl
    | some e=>
     have:=b3W h' hb.symm hw.symm (fun t=>(q t).symm) e2
     rw [e1] at this
     cases this
   | some e=>
    have:=b3W h hb hw q e1
    cases e2:s.e with
    | none=>rw [e2] at this;cases this
    | some e'=>
     have h3:=b3W h' hb.symm hw.symm (fun t=>(q t).symm) e2
     rw [e1] at h3
     rw [e2] at this
     simp only [bef,decide_eq_false_iff_not] at this h3
     congr 1
     omega
  have hrs:r=s:=by
   obtain⟨_,_,_⟩:=r
   obtain⟨_,_,_⟩:=s
   simp only at hb hw he
   rw [hb,hw,he]
  subst hrs
  congr 1
  refine b2P h.tail h'.tail fun t=>?_
  cases ht:r.has t with
  | true=>
   rw [a4R fun x hx=>((List.pairwise_cons.mp h.2).1 x hx).lt.has ht,a4R fun x hx=>((List.pairwise_cons.mp h'.2).1 x hx).lt.has ht]
  | false=>
   have:=q t
   rw [a1b,a1b,ht,if_neg (by decide),if_neg (by decide)] at this
   exact this
def jn (told:List Rw) (p:Rw):List Rw:=match told.getLast? with
 | some l=>if l.e=some p.b/\l.w=p.w then told.dropLast++[⟨l.b,p.e,p.w⟩] else told++[p]
 | none=>told++[p]
def join (ps:List Rw):List Rw:=ps.foldl jn []
theorem a3Q {α:Type} {l:List α} {x:α} (h:l.getLast?=some x):l=l.dropLast++[x]:=by
 obtain⟨ys,rfl⟩:=List.getLast?_eq_some_iff.mp h
 simp
theorem b8g {told:List Rw} {p:Rw} (h:Can told) (g:p.good) (hlt:∀ r∈told,Lt r p):Can (jn told p)/\(∀ t,val (jn told p) t=(val told t).or (val [p] t))/\(∀ x,(∀ r∈told,Lt r x)->Lt p x->∀ r∈jn told p,Lt r x)/\(jn told p).length≤told.length+1/\∀ r∈jn told p,r.w=p.w\/∃ r'∈told,r.w=r'.w:=by
 unfold jn
 cases hl:told.getLast? with
 | none=>
  have:told=[]:=List.getLast?_eq_none_iff.mp hl
  subst this
  exact⟨⟨fun r hr=>by simp at hr;rw [hr];exact g,by simp⟩,fun t=>by simp [a21],fun x _ hp r hr=>by simp at hr;rw [hr];exact hp,by simp,fun r hr=>by simp at hr;rw [hr];exact .inl rfl⟩
 | some l=>
  have hs:=a3Q hl
  generalize told.dropLast=init at hs
  subst hs
  have hlm:l∈init++[l]:=by simp
  have pw:=List.pairwise_append.mp h.2
  dsimp only
  split
  ·next hc=>
   obtain⟨h1,h2⟩:=hc
   have gl:l.b<p.b:=by
    have:bef l.b l.e=true:=h.1 l hlm
    rw [h1] at this
    simpa [bef] using this
   have gn:(⟨l.b,p.e,p.w⟩:Rw).good:=by
    show bef l.b p.e=true
    have:bef p.b p.e=true:=g
    cases hpe:p.e with
    | none=>rfl
    | some e=>
     rw [hpe] at this
     simp only [bef,decide_eq_true_eq] at this ⊢
     omega
   refine⟨⟨fun r hr=>?_,?_⟩,fun t=>?_,fun x hx hp r hr=>?_,by simp,fun r hr=>?_⟩
   ·rcases List.mem_append.mp hr with hr | hr
    ·exact h.1 r (by simp [hr])
    ·rw [List.mem_singleton.mp hr];exact gn
   ·refine List.pairwise_append.mpr ⟨pw.1,by simp,fun r hr s hs=>?_⟩
    rw [List.mem_singleton.mp hs]
    obtain⟨e,a1,a2,a3⟩:=pw.2.2 r hr l (by simp)
    exact⟨e,a1,a2,fun z=>by rw [<- h2];exact a3 z⟩
   ·rw [a1U,a1U]
    cases val init t with
    | some w=>rfl
    | none=>
     have e1:(⟨l.b,p.e,p.w⟩:Rw).has t=(l.has t||p.has t):=by
      unfold Rw.has
      rw [h1]
      have:bef p.b p.e=true:=g
      cases hpe:p.e with
      | none=>
       simp only [bef,Bool.and_true]
       by_cases c1:l.b≤t<;>by_cases c2:t<p.b<;>by_cases c3:p.b≤t<;>simp [c1,c2,c3]<;>omega
      | some e=>
       rw [hpe] at this
       simp only [bef,decide_eq_true_eq] at this ⊢
       by_cases c1:l.b≤t<;>by_cases c2:t<p.b<;>by_cases c3:p.b≤t<;>by_cases c4:t<e<;>simp [c1,c2,c3,c4]<;>omega
     simp only [a1b,a21,e1,h2,Option.none_or]
     cases l.has t<;>cases p.has t<;>simp
   ·rcases List.mem_append.mp hr with hr | hr
    ·exact hx r (by simp [hr])
    ·rw [List.mem_singleton.mp hr]
     obtain⟨e,a1,a2⟩:=hp
     exact⟨e,a1,a2⟩
   ·rcases List.mem_append.mp hr with hr | hr
    ·exact .inr ⟨r,by simp [hr],rfl⟩
    ·rw [List.mem_singleton.mp hr];exact .inl rfl
  ·next hc=>
   refine⟨⟨fun r hr=>?_,?_⟩,fun t=>a1U,fun x hx hp r hr=>?_,by simp,fun r hr=>?_⟩
   ·rcases List.mem_append.mp hr with hr | hr
    ·exact h.1 r hr
    ·rw [List.mem_singleton.mp hr];exact g
   ·refine List.pairwise_append.mpr ⟨h.2,by simp,fun r hr s hs=>?_⟩
    rw [List.mem_singleton.mp hs]
    obtain⟨e,a1,a2⟩:=hlt r hr
    refine⟨e,a1,a2,fun z hw=>?_⟩
    rcases List.mem_append.mp hr with hr' | hr'
    ·obtain⟨e',b1,b2,_⟩:=pw.2.2 r hr' l (by simp)
     rw [a1] at b1
     cases b1
     have:=(hlt l hlm).b (h.1 l hlm)
     omega
    ·rw [List.mem_singleton.mp hr'] at a1 hw
     exact hc ⟨by rw [a1,z],hw⟩
   ·rcases List.mem_append.mp hr with hr | hr
    ·exact hx r hr
    ·rw [List.mem_singleton.mp hr];exact hp
   ·rcases List.mem_append.mp hr with hr | hr
    ·exact .inr ⟨r,hr,rfl⟩
    ·rw [List.mem_singleton.mp hr];exact .inl rfl
theorem b0N:∀ (ps told:List Rw),Can told->Rise ps->(∀ r∈told,∀ p∈ps,Lt r p)->Can (ps.foldl jn told)/\(∀ t,val (ps.foldl jn told) t=(val told t).or (val ps t))/\(ps.foldl jn told).length≤told.length+ps.length/\∀ r∈ps.foldl jn told,∃ r'∈told++ps,r.w=r'.w
 | [],told,h,_,_=>⟨h,fun t=>by simp [a21],by simp,fun r hr=>⟨r,by simpa using hr,rfl⟩⟩
 | p::ps,told,h,hr,hlt=>by
  have pc:=List.pairwise_cons.mp hr.2
  have a:=b8g h (hr.1 p (.head _)) fun r q=>hlt r q p (.head _)
  have b:=b0N ps (jn told p) a.1 hr.tail fun r q x hx=>a.2.2.1 x (fun r' q'=>hlt r' q' x (.tail _ hx)) (pc.1 x hx) r q
  refine⟨b.1,fun t=>?_,?_,fun r hr'=>?_⟩
  ·show val (ps.foldl jn (jn told p)) t=_
   rw [b.2.1 t,a.2.1 t,show p::ps=[p]++ps from rfl,a1U,Option.or_assoc]
  ·have h1:=b.2.2.1
   have h2:=a.2.2.2.1
   show (ps.foldl jn (jn told p)).length≤_
   rw [List.length_cons]
   omega
  ·obtain⟨r',hr1,hr2⟩:=b.2.2.2 r hr'
   rcases List.mem_append.mp hr1 with hr1 | hr1
   ·rcases a.2.2.2.2 r' hr1 with e | ⟨r2,e1,e2⟩
    ·exact⟨p,by simp,hr2.trans e⟩
    ·exact⟨r2,by simp [e1],hr2.trans e2⟩
   ·exact⟨r',by simp [hr1],hr2⟩
theorem b3X {ps:List Rw} (h:Rise ps):Can (join ps)/\(∀ t,val (join ps) t=val ps t)/\(join ps).length≤ps.length/\∀ r∈join ps,∃ r'∈ps,r.w=r'.w:=by
 have:=b0N ps [] .nil h fun r hr=>by simp at hr
 unfold join
 exact⟨this.1,fun t=>by rw [this.2.1 t];rfl,by simpa using this.2.2.1,by simpa using this.2.2.2⟩
def emin:Option Int->Option Int->Option Int
 | none,o=>o
 | some e,none=>some e
 | some e,some o=>some (if o<e then o else e)
def a3l (m:Option Int) (r:Rw):Option Rw:=if bef r.b m=true then some ⟨r.b,emin r.e m,r.w⟩ else none
def ahead (m:Option Int) (l:List Rw):List Rw:=l.filterMap (a3l m)
def a6i (m:Int) (r:Rw):Option Rw:=if bef m r.e=true then some ⟨if m > r.b then m else r.b,r.e,r.w⟩ else none
def fromOn (m:Int) (l:List Rw):List Rw:=l.filterMap (a6i m)
theorem b0O {f:Rw->Option Rw} {t:Int} {c:Bool} (h1:∀ r r',f r=some r'->r'.has t=(r.has t&&c)/\r'.w=r.w) (h2:∀ r,f r=none->(r.has t&&c)=false):∀ l:List Rw,val (l.filterMap f) t=if c=true then val l t else none
 | []=>by simp [a21]
 | r::l=>by
  have ih:=b0O h1 h2 l
  rw [List.filterMap_cons]
  cases hf:f r with
  | none=>
   have:=h2 r hf
   rw [ih,a1b]
   cases c with
   | true=>rw [Bool.and_true] at this;rw [this];rfl
   | false=>rfl
  | some r'=>
   obtain⟨a1,a2⟩:=h1 r r' hf
   rw [a1b,ih,a1,a2,a1b]
   cases c<;>cases r.has t<;>rfl
theorem a8x {t:Int} {x y:Option Int}:bef t (emin x y)=(bef t x&&bef t y):=by
 cases x with
 | none=>cases y<;>simp [bef,emin]
 | some a=>
  cases y with
  | none=>simp [bef,emin]
  | some b=>
   simp only [bef,emin]
   rw [<- Bool.decide_and]
   apply a1m
   rw [eq_iff_iff]
   split<;>omega
theorem a68 (m:Option Int) (l:List Rw) (t:Int):val (ahead m l) t=if bef t m=true then val l t else none:=by
 refine b0O (fun r r' h=>?_) (fun r h=>?_) l
 ·unfold a3l at h
  split at h
  ·cases h
   refine⟨?_,rfl⟩
   unfold Rw.has
   simp only [a8x,Bool.and_assoc]
  ·cases h
 ·unfold a3l at h
  split at h
  ·cases h
  ·next hc=>
   unfold Rw.has
   cases m with
   | none=>exact absurd rfl hc
   | some m=>
    simp only [bef,decide_eq_true_eq] at hc ⊢
    by_cases c1:r.b≤t
    ·rw [decide_eq_false (show ¬ t<m by omega),Bool.and_false]
    ·rw [decide_eq_false c1];rfl
theorem b16 (m:Int) (l:List Rw) (t:Int):val (fromOn m l) t=if m≤t then val l t else none:=by
 have:(if m≤t then val l t else none)=if decide (m≤t)=true then val l t else none:=by simp
 rw [this]
 refine b0O (fun r r' h=>?_) (fun r h=>?_) l
 ·unfold a6i at h
  split at h
  ·cases h
   refine⟨?_,rfl⟩
   unfold Rw.has
   simp only
   have:decide ((if m > r.b then m else r.b)≤t)=(decide (r.b≤t)&&decide (m≤t)):=by
    rw [<- Bool.decide_and]
    apply a1m
    rw [eq_iff_iff]
    split<;>omega
   rw [this]
   cases decide (r.b≤t)<;>cases decide (m≤t)<;>simp
  ·cases h
 ·unfold a6i at h
  split at h
  ·cases h
  ·next hc=>
   unfold Rw.has
   cases he:r.e with
   | none=>rw [he] at hc;exact absurd rfl hc
   | some e=>
    rw [he] at hc
    simp only [bef,decide_eq_true_eq] at hc ⊢
    by_cases c1:m≤t
    ·rw [decide_eq_false (show ¬ t<e by omega),Bool.and_false];rfl
    ·rw [decide_eq_false c1,Bool.and_false]
theorem a3R {m:Option Int} {l:List Rw} {x:Rw} (h:x∈ahead m l):∃ r∈l,bef r.b m=true/\x=⟨r.b,emin r.e m,r.w⟩:=by
 obtain⟨r,h1,h2⟩:=List.mem_filterMap.mp h
 unfold a3l at h2
 split at h2
 ·next c=>cases h2;exact⟨r,h1,c,rfl⟩
 ·cases h2
theorem a4S {m:Int} {l:List Rw} {x:Rw} (h:x∈fromOn m l):∃ r∈l,bef m r.e=true/\x=⟨if m > r.b then m else r.b,r.e,r.w⟩:=by
 obtain⟨r,h1,h2⟩:=List.mem_filterMap.mp h
 unfold a6i at h2
 split at h2
 ·next c=>cases h2;exact⟨r,h1,c,rfl⟩
 ·cases h2
theorem b3Y {R:Rw->Rw->Prop} {f:Rw->Option Rw} (hf:∀ r s r' s',R r s->f r=some r'->f s=some s'->R r' s'):∀ {l:List Rw},l.Pairwise R->(l.filterMap f).Pairwise R
 | [],_=>by simp
 | r::l,h=>by
  have pc:=List.pairwise_cons.mp h
  have ih:=b3Y hf pc.2
  rw [List.filterMap_cons]
  cases e:f r with
  | none=>exact ih
  | some r'=>
   refine List.pairwise_cons.mpr ⟨fun s hs=>?_,ih⟩
   obtain⟨s0,h1,h2⟩:=List.mem_filterMap.mp hs
   exact hf r s0 r' s (pc.1 s0 h1) e h2
theorem b3Z {x:Int} {m:Option Int}:∃ e,emin (some x) m=some e/\e≤x:=by
 cases m with
 | none=>exact⟨x,rfl,Int.le_refl _⟩
 | some o=>
  refine⟨_,rfl,?_⟩
  split<;>omega
theorem a9c (m:Option Int) {l:List Rw} (h:Rise l):Rise (ahead m l):=by
 refine⟨fun x hx=>?_,b3Y (fun r s r' s' hlt hr hs=>?_) h.2⟩
 ·obtain⟨r,h1,h2,rfl⟩:=a3R hx
  show bef r.b (emin r.e m)=true
  rw [a8x,h2,Bool.and_true]
  exact h.1 r h1
 ·unfold a3l at hr hs
  split at hr
  ·split at hs
   ·cases hr
    cases hs
    obtain⟨e,a1,a2⟩:=hlt
    obtain⟨e',b1,b2⟩:=@b3Z e m
    exact⟨e',by rw [<- b1,<- a1],by show e'≤s.b;omega⟩
   ·cases hs
  ·cases hr
theorem b0P (m:Int) {l:List Rw} (h:Rise l):Rise (fromOn m l):=by
 refine⟨fun x hx=>?_,b3Y (fun r s r' s' hlt hr hs=>?_) h.2⟩
 ·obtain⟨r,h1,h2,rfl⟩:=a4S hx
  show bef (if m > r.b then m else r.b) r.e=true
  split
  ·exact h2
  ·exact h.1 r h1
 ·unfold a6i at hr hs
  split at hr
  ·split at hs
   ·cases hr
    cases hs
    obtain⟨e,a1,a2⟩:=hlt
    exact⟨e,a1,by show e≤(if m > s.b then m else s.b);split<;>omega⟩
   ·cases hs
  ·cases hr
theorem a69 (m:Option Int) (l:List Rw):(ahead m l).length≤l.length:=List.length_filterMap_le _ _
theorem b17 (m:Int) (l:List Rw):(fromOn m l).length≤l.length:=List.length_filterMap_le _ _
theorem a8y {b e:Int} (hbe:b≤e):∀ {l:List Rw},Rise l->(ahead (some b) l).length+(fromOn e l).length≤l.length+1
 | [],_=>by simp [ahead,fromOn]
 | r::l,h=>by
  have ih:=a8y hbe h.tail
  have pc:=(List.pairwise_cons.mp h.2).1
  have la:(ahead (some b) (r::l)).length=(if bef r.b (some b)=true then 1 else 0)+(ahead (some b) l).length:=by
   unfold ahead
   rw [List.filterMap_cons]
   unfold a3l
   split
   ·next q=>
         split at q
         ·cases q
         ·next hc=>rw [if_neg hc];simp
   ·next q=>
         split at q
         ·next hc=>rw [if_pos hc,List.length_cons];omega
         ·cases q
  have lf:(fromOn e (r::l)).length=(if bef e r.e=true then 1 else 0)+(fromOn e l).length:=by
   unfold fromOn
   rw [List.filterMap_cons]
   unfold a6i
   split
   ·next q=>
         split at q
         ·cases q
         ·next hc=>rw [if_neg hc];simp
   ·next q=>
         split at q
         ·next hc=>rw [if_pos hc,List.length_cons];omega
         ·cases q
  rw [la,lf,List.length_cons]
  by_cases c1:bef r.b (some b)=true
  ·by_cases c2:bef e r.e=true
   ·have:ahead (some b) l=[]:=by
     unfold ahead
     rw [List.filterMap_eq_nil_iff]
     intro s hs
     unfold a3l
     obtain⟨e',a1,a2⟩:=pc s hs
     rw [a1] at c2
     simp only [bef,decide_eq_true_eq] at c1 c2 ⊢
     rw [if_neg (by omega)]
    have:=b17 e l
    rw [if_pos c1,if_pos c2]
    simp_all
    omega
   ·rw [if_pos c1,if_neg c2];omega
  ·rw [if_neg c1];split<;>omega
def a2a (l:List Rw) (b:Int) (e:Option Int) (w:Option (List Z)):List Rw:=
 ahead (some b) l++(match w with | some w=>[⟨b,e,w⟩] | none=>[])++(match e with | some e=>fromOn e l | none=>[])
theorem a7a {l:List Rw} {b:Int} {e:Option Int} {w:Option (List Z)} (h:Rise l) (g:bef b e=true):Rise (a2a l b e w)/\(∀ t,val (a2a l b e w) t=if (decide (b≤t)&&bef t e)=true then w else val l t)/\(a2a l b e w).length≤l.length+2:=by
 have hA:=a9c (some b) h
 have eA:∀ r∈ahead (some b) l,∃ x,r.e=some x/\x≤b:=fun r hr=>by
  obtain⟨r0,_,_,rfl⟩:=a3R hr
  show ∃ x,emin r0.e (some b)=some x/\x≤b
  cases r0.e with
  | none=>exact⟨b,rfl,Int.le_refl _⟩
  | some x=>refine⟨_,rfl,?_⟩;split<;>omega
 have hM:Rise (match w with | some w=>[(⟨b,e,w⟩:Rw)] | none=>[]):=by
  cases w with
  | none=>exact .nil
  | some w=>exact⟨fun r hr=>by rw [List.mem_singleton.mp hr];exact g,by simp⟩
 have mM:∀ r∈(match w with | some w=>[(⟨b,e,w⟩:Rw)] | none=>[]),r.b=b/\r.e=e:=fun r hr=>by
  cases w with
  | none=>simp at hr
  | some w=>rw [List.mem_singleton.mp hr];exact⟨rfl,rfl⟩
 have vM:∀ t,val (match w with | some w=>[(⟨b,e,w⟩:Rw)] | none=>[]) t=if (decide (b≤t)&&bef t e)=true then w else none:=fun t=>by
  cases w with
  | none=>simp [a21]
  | some w=>rw [a1b,a21];rfl
 have app:∀ {A B:List Rw},Rise A->Rise B->(∀ r∈A,∀ s∈B,Lt r s)->Rise (A++B):=fun ha hb hab=>⟨fun r hr=>(List.mem_append.mp hr).elim (ha.1 r) (hb.1 r),List.pairwise_append.mpr ⟨ha.2,hb.2,hab⟩⟩
 unfold a2a
 cases e with
 | none=>
  dsimp only
  rw [List.append_nil]
  refine⟨app hA hM fun r hr s hs=>?_,fun t=>?_,?_⟩
  ·obtain⟨x,a1,a2⟩:=eA r hr
   exact⟨x,a1,by rw [(mM s hs).1];exact a2⟩
  ·rw [a1U,a68,vM]
   simp only [bef,Bool.and_true,decide_eq_true_eq]
   by_cases c:b≤t
   ·rw [if_neg (by omega),if_pos c,if_pos c];rfl
   ·rw [if_pos (by omega),if_neg c,if_neg c];simp
  ·rw [List.length_append]
   have:=a69 (some b) l
   cases w<;>simp<;>omega
 | some e=>
  have hbe:b<e:=by simpa [bef] using g
  have hF:=b0P e h
  have bF:∀ s∈fromOn e l,e≤s.b:=fun s hs=>by
   obtain⟨r0,_,_,rfl⟩:=a4S hs
   show e≤(if e > r0.b then e else r0.b)
   split<;>omega
  dsimp only
  refine⟨app (app hA hM fun r hr s hs=>?_) hF fun r hr s hs=>?_,fun t=>?_,?_⟩
  ·obtain⟨x,a1,a2⟩:=eA r hr
   exact⟨x,a1,by rw [(mM s hs).1];exact a2⟩
  ·have hs':=bF s hs
   rcases List.mem_append.mp hr with hr | hr
   ·obtain⟨x,a1,a2⟩:=eA r hr
    exact⟨x,a1,by omega⟩
   ·exact⟨e,(mM r hr).2,hs'⟩
  ·rw [a1U,a1U,a68,vM,b16]
   simp only [bef,Bool.and_eq_true,decide_eq_true_eq]
   by_cases c1:b≤t
   ·by_cases c2:t<e
    ·rw [if_neg (by omega),if_pos ⟨c1,c2⟩,if_neg (by omega),if_pos ⟨c1,c2⟩];simp
    ·rw [if_neg (by omega),if_neg (by omega),if_pos (by omega),if_neg (by omega)];rfl
   ·rw [if_pos (by omega),if_neg (by omega),if_neg (by omega),if_neg (by omega)];simp
  ·rw [List.length_append,List.length_append]
   have:=a8y (b:=b) (e:=e) (by omega) h
   cases w<;>simp<;>omega
def a4v (puts:List Rw) (t:Int):Z:=match puts.reverse.find? (·.has t) with
 | some r=>r.w.headD .non
 | none=>.non
def optW (z:Z):Option (List Z):=if z=.non then none else some [z]
theorem a7U (puts:List Rw) (p:Rw) (t:Int):a4v (puts++[p]) t=if p.has t=true then p.w.headD .non else a4v puts t:=by
 unfold a4v
 rw [List.reverse_append,List.reverse_cons,List.reverse_nil,List.nil_append,List.singleton_append,List.find?_cons]
 cases p.has t<;>rfl
def a6j (l:List Rw) (b:Int) (e:Option Int) (w:Option (List Z)):List Rw:=join (a2a l b e w)
theorem b18 {l:List Rw} {b:Int} {e:Option Int} {w:Option (List Z)} (h:Rise l) (g:bef b e=true):Can (a6j l b e w)/\(∀ t,val (a6j l b e w) t=if (decide (b≤t)&&bef t e)=true then w else val l t)/\(a6j l b e w).length≤l.length+2:=by
 have a:=a7a (w:=w) h g
 have j:=b3X a.1
 exact⟨j.1,fun t=>by rw [<- a.2.1 t];exact j.2.1 t,Nat.le_trans j.2.2.1 a.2.2⟩
def okW (w:List Z):Prop:=w≠[]/\w.length≤4/\w.all (flat 4)=true
def OkR (l:List Rw):Prop:=∀ r∈l,okW r.w
theorem a22:∀ {n m:Nat} {z:Z},n≤m->flat n z=true->flat m z=true:=by
 intro n
 induction n with
 | zero=>intro m z _ h;cases z<;>first | (simp [flat] at h;done) | (cases m<;>simp_all [flat])
 | succ n ih=>
  intro m z hm h
  cases m with
  | zero=>omega
  | succ m=>
   cases z with
   | tup ws=>
    simp only [flat,List.all_eq_true] at h ⊢
    exact fun x hx=>ih (by omega) (h x hx)
   | _=>first | (simp [flat];done) | (simp [flat] at h;done) | (simp only [flat] at h ⊢;exact h)
theorem b19 {n m:Nat} {ws:List Z} (hm:n≤m) (h:ws.all (flat n)=true):ws.all (flat m)=true:=by
 rw [List.all_eq_true] at h ⊢
 exact fun x hx=>a22 hm (h x hx)
theorem b2a {n:Nat} {i:Int}:flat n (.int i)=true:=by cases n<;>rfl
theorem b2b {n:Nat}:flat n .non=true:=by cases n<;>rfl
def wz:Option (List Z)->Z
 | none=>.non
 | some w=>w.headD .non
theorem b6w {G:Hq} {R:K3} {e:Option Int} {b:Int} (h:R (.bl (decide (e=some b))) G):zEq id (oz e) (.int b) G R:=by
 cases e with
 | none=>
  refine (show flat 8 (Z.non)=true/\flat 8 (Z.int b)=true/\R (.bl (id (decide (Z.non=Z.int b)))) G from ⟨b2b,b2a,?_⟩)
  have:decide (Z.non=Z.int b)=decide (none=some b):=by simp
  rw [this];exact h
 | some e=>
  refine b5O ?_
  have:decide (e=b)=decide (some e=some b):=a1m (by simp)
  rw [this];exact h
theorem b8h {f:Bool->Bool} {G:Hq} {R:K3} {xs ys:List Z} (h1:flat 8 (.tup xs)=true) (h2:flat 8 (.tup ys)=true) (h:R (.bl (f (decide (xs=ys)))) G):zEq f (.tup xs) (.tup ys) G R:=by
 refine (show flat 8 (.tup xs)=true/\flat 8 (.tup ys)=true/\R (.bl (f (decide (Z.tup xs=Z.tup ys)))) G from ⟨h1,h2,?_⟩)
 rw [a1m (Z.tup.injEq _ _)];exact h
def a2M:P3:=fun ws G R=>∃ x y,ws=[oz x,oz y]/\R (oz (emin x y)) G
theorem a4h {ws:List Z} {G:Hq} {R:K3} (h:a2M ws G R):ws.length=2:=by obtain⟨_,_,rfl,_⟩:=h;rfl
theorem a4I (F:Fns K a) (T:Txt K mg a):FnOk P w K mg base CX0 1 a.f_p_earlier_end a.d_p_earlier_end ["end","other"] (lowP K a2M):=by
 refine fn3 F.p_earlier_end a4D (fun ws G R h=>(by exact a4h h)) (fun cdv A outer s H E ws G R hr h=>?_)
 have hu:(A.deeper (PyProof.Rows.envOfC "earlier_end" (a0c a0L) s.heap.objs.size a.f_p_earlier_end cdv)).units+66<cLine:=by have:=hr.un;omega
 refine⟨_,(a0n (z_if (a0J o_is (a0d (pv 0)) a35 (a0z _))
  (a0t (a02 (a0d (pv 1))))
  a1J)
  (a0n (z_if (a0J o_is (a0d (pv 1)) a35 (a0z _))
  (a0t (a02 (a0d (pv 0))))
  a1J)
  (a0t (a02 (a01 (b_min rfl) rfl T.b_min rfl (a0b (a0d (pv 0)) (a0b (a0d (pv 1)) a0k a0a) a0a) (he:=a0a) (hpl:=(a0i a0a a0l))))))),?_⟩
 obtain⟨x,y,rfl,q⟩:=h
 cases x with
 | none=>
  walk_at "go"
  cases y<;>exact q
 | some x=>
  cases y with
  | none=>
   walk_at "go"
   exact q
  | some y=>
   walk_at "go"
   exact q
def over (r:Rw) (m:Int):Bool:=match r.e with
 | none=>false
 | some e=>decide (e≤m)
def a4w:P3:=fun ws G R=>∃ r m,ws=[Rw.z r,.int m]/\R (.bl (over r m)) G
theorem a6k {ws:List Z} {G:Hq} {R:K3} (h:a4w ws G R):ws.length=2:=by obtain⟨_,_,rfl,_⟩:=h;rfl
theorem a7b (F:Fns K a) (T:Txt K mg a):FnOk P w K mg base CX0 1 a.f_p_is_over a.d_p_is_over ["stretch","moment"] (lowP K a4w):=by
 refine fn3 F.p_is_over a63 (fun ws G R h=>(by exact a6k h)) (fun cdv A outer s H E ws G R hr h=>?_)
 have hu:(A.deeper (PyProof.Rows.envOfC "is_over" (a0c a1i) s.heap.objs.size a.f_p_is_over cdv)).units+66<cLine:=by have:=hr.un;omega
 refine⟨_,(a0t (a02 (a6J (a9Y a57 (q_ix x_ix (a0d (pv 0)) a0g (fun _ _=>rfl)) a35 (a0z _)) (a92 (a9Y o_le (q_ix x_ix (a0d (pv 0)) a0g (fun _ _=>rfl)) (a0d (pv 1)) (a0z _)))))),?_⟩
 obtain⟨⟨b,e,w⟩,m,rfl,q⟩:=h
 cases e with
 | none=>
  walk_at "go"
  exact a3H at1 (by walk_at "go";exact q)
 | some e=>
  walk_at "go"
  refine a3H at1 ?_
  walk_at "go"
  refine a3H at1 ?_
  walk_at "go"
  exact q
theorem a5f {α β:Type} {l:List α} {g:α->Z} {g':β->Z} {ok:Hq->Prop} {cap:List (Option Nat)} {pt:Pt} {tt:T3} {te:E3} {σ:S3} {R:K3} {D:Addr} {G1:Hq} (f:α->Option β) (hok:∀ ys,ok (put G1 D (.lst ys))) (hz:l.length≤1000)
  (turn:∀ x,x∈l->∀ (ys:List Z) (K1:K3) (K2:Hq->Prop),(∀ y,f x=some y->K1 (g' y) (put G1 D (.lst ys)))->(f x=none->K2 (put G1 D (.lst ys)))->∃ σ',a5n pt (g x) (cap3 cap σ)=some σ'/\tt σ' (put G1 D (.lst ys)) fun b G4=>if b=true then te σ' G4 K1 else K2 G4)
  (fin:R (.ref D) (put G1 D (.lst ((l.filterMap f).map g')))):LCB (l.map g) ok cap pt tt te σ R D G1:=by
 refine a56 (fun i ys G=>ys=((l.take i).filterMap f).map g'/\G=put G1 D (.lst ys)) ⟨by simp,rfl⟩ ?_ ?_ ?_
 ·rintro i ys G _ ⟨_,rfl⟩;exact hok ys
 ·rintro i x ys G hx ⟨e,rfl⟩
  rw [List.getElem?_map] at hx
  cases hx':l[i]? with
  | none=>rw [hx'] at hx;cases hx
  | some a=>
   rw [hx'] at hx
   cases hx
   refine turn a (List.mem_of_getElem? hx') ys _ _ (fun y hy=>⟨a0f,?_,?_,?_⟩) fun hn=>⟨?_,rfl⟩
   ·rw [e,List.length_map]
    exact Nat.lt_of_le_of_lt (Nat.le_trans (List.length_filterMap_le _ _) (by rw [List.length_take];omega)) (a0P (Nat.le_refl 1000))
   ·rw [a19 hx',hy,e,List.map_append];rfl
   ·rw [a2y]
   ·rw [a19 hx',hn,e];simp
 ·rintro ys G ⟨e,rfl⟩
  rw [List.length_map,List.take_length] at e
  rw [e];exact fin
def One (l:List Rw):Prop:=∀ r∈l,∃ x,r.w=[x]
def a3S:P3:=fun ws G R=>∃ p l m,ws=[.ref p,oz m]/\G p=some (.lst (l.map Rw.z))/\One l/\l.length≤1000/\∀ t,G t=none->R (.ref t) (put G t (.lst ((ahead m l).map Rw.z)))
theorem a5r {ws:List Z} {G:Hq} {R:K3} (h:a3S ws G R):ws.length=2:=by obtain⟨_,_,_,rfl,_⟩:=h;rfl
theorem a6l (F:Fns K a) (T:Txt K mg a):FnOk P w K mg base CX0 2 a.f_p_ahead_of a.d_p_ahead_of ["line","moment"] (lowP K a3S):=by
 have G_p_earlier_end:=a4I (P:=P) (w:=w) (base:=base) F T
 refine fn3 F.p_ahead_of a6g (fun ws G R h=>(by exact a5r h)) (fun cdv A outer s H E ws G R hr h=>?_)
 have hu:(A.deeper (PyProof.Rows.envOfC "ahead_of" (a0c a0Y) s.heap.objs.size a.f_p_ahead_of cdv)).units+66<cLine:=by have:=hr.un;omega
 refine⟨_,(a0t (a02 (q_lc (N₀:=["line","moment"]) (so:=a0c a0Y) (N':=["begin","end","worth","moment"]) (cap:=[none,none,none,some 1]) (pt:=(.tp [0,1,2])) rfl rfl rfl (by decide +kernel) rfl (a1R (a0d (pv 0))) (fun _ _ _ _=>(show QP _ _ (.tp [0,1,2]) from (a4s rfl (a00 (a0A (i:=0) (show List.Nodup (α:=Str) ["begin","end","worth","moment"] from by decide +kernel) rfl (Or.inl rfl)) (a00 (a0A (i:=1) (show List.Nodup (α:=Str) ["begin","end","worth","moment"] from by decide +kernel) rfl (Or.inl rfl)) (a00 (a0A (i:=2) (show List.Nodup (α:=Str) ["begin","end","worth","moment"] from by decide +kernel) rfl (Or.inl rfl)) a2U)))))) (fun _ _ _ _=>(a37 (QW.qt (q_or (a0J o_is (a0d (pv 3)) a35 (a0z _)) (a53 (a0J o_lt (a0d (pv 0)) (a0d (pv 3)) (a0z _))))))) (fun _ _ _ _=>(a2m (a0b (a0d (pv 0)) (a0b (a0Q G_p_earlier_end (hr.mono (by decide)) rfl T.m_p_earlier_end T.k_p_earlier_end (a5c F) (a0b (a0d (pv 1)) (a0b (a0d (pv 3)) a0k a0a) a0a) (he:=a0a) (hpl:=(a0i a0a a0l))) (a0b (a0d (pv 2)) a0k a0a) a1q) a0a)))))),?_⟩
 obtain⟨p,l,m,rfl,hp,h1,hz,q⟩:=h
 walk_at "go"
 refine a39 hp ?_
 intro D hD
 refine a5f (a3l m) (fun ys=>a0I hp hD) hz ?_ (q D hD)
 intro r hr ys K1 K2 k1 k2
 obtain⟨x,hx⟩:=h1 r hr
 obtain⟨b,e,w⟩:=r
 cases hx
 refine⟨_,rfl,?_⟩
 cases m with
 | none=>
  walk_at "go"
  refine⟨e,none,rfl,?_⟩
  walk_at "go"
  refine⟨lenK rfl,?_⟩
  exact k1 _ rfl
 | some m=>
  walk_at "go"
  refine ifD (fun c=>?_) fun c=>?_
  ·walk_at "go"
   refine⟨e,some m,rfl,?_⟩
   walk_at "go"
   refine⟨lenK rfl,?_⟩
   refine k1 ⟨b,emin e (some m),[x]⟩ ?_
   unfold a3l
   rw [if_pos (by simpa [bef] using c)]
  ·refine k2 ?_
   unfold a3l
   rw [if_neg (by simpa [bef] using c)]
def a4x:P3:=fun ws G R=>∃ p l m,ws=[.ref p,.int m]/\G p=some (.lst (l.map Rw.z))/\One l/\l.length≤1000/\∀ t,G t=none->R (.ref t) (put G t (.lst ((fromOn m l).map Rw.z)))
theorem a6m {ws:List Z} {G:Hq} {R:K3} (h:a4x ws G R):ws.length=2:=by obtain⟨_,_,_,rfl,_⟩:=h;rfl
theorem a7c (F:Fns K a) (T:Txt K mg a):FnOk P w K mg base CX0 1 a.f_p_from_on a.d_p_from_on ["line","moment"] (lowP K a4x):=by
 refine fn3 F.p_from_on a64 (fun ws G R h=>(by exact a6m h)) (fun cdv A outer s H E ws G R hr h=>?_)
 have hu:(A.deeper (PyProof.Rows.envOfC "from_on" (a0c a09) s.heap.objs.size a.f_p_from_on cdv)).units+66<cLine:=by have:=hr.un;omega
 refine⟨_,(a0t (a02 (q_lc (N₀:=["line","moment"]) (so:=a0c a09) (N':=["begin","end","worth","moment"]) (cap:=[none,none,none,some 1]) (pt:=(.tp [0,1,2])) rfl rfl rfl (by decide +kernel) rfl (a1R (a0d (pv 0))) (fun _ _ _ _=>(show QP _ _ (.tp [0,1,2]) from (a4s rfl (a00 (a0A (i:=0) (show List.Nodup (α:=Str) ["begin","end","worth","moment"] from by decide +kernel) rfl (Or.inl rfl)) (a00 (a0A (i:=1) (show List.Nodup (α:=Str) ["begin","end","worth","moment"] from by decide +kernel) rfl (Or.inl rfl)) (a00 (a0A (i:=2) (show List.Nodup (α:=Str) ["begin","end","worth","moment"] from by decide +kernel) rfl (Or.inl rfl)) a2U)))))) (fun _ _ _ _=>(a37 (QW.qt (q_or (a0J o_is (a0d (pv 1)) a35 (a0z _)) (a53 (a0J o_lt (a0d (pv 3)) (a0d (pv 1)) (a0z _))))))) (fun _ _ _ _=>(a2m (a0b (a01 (b_max rfl) rfl T.b_max rfl (a0b (a0d (pv 0)) (a0b (a0d (pv 3)) a0k a0a) a0a) (he:=a0a) (hpl:=(a0i a0a a0l))) (a0b (a0d (pv 1)) (a0b (a0d (pv 2)) a0k a0a) a0a) a1q)))))),?_⟩
 obtain⟨p,l,m,rfl,hp,h1,hz,q⟩:=h
 walk_at "go"
 refine a39 hp ?_
 intro D hD
 refine a5f (a6i m) (fun ys=>a0I hp hD) hz ?_ (q D hD)
 intro r hr ys K1 K2 k1 k2
 obtain⟨x,hx⟩:=h1 r hr
 obtain⟨b,e,w⟩:=r
 cases hx
 refine⟨_,rfl,?_⟩
 cases e with
 | none=>
  walk_at "go"
  refine⟨lenK rfl,?_⟩
  exact k1 ⟨if m > b then m else b,none,[x]⟩ rfl
 | some e=>
  walk_at "go"
  refine ifD (fun c=>?_) fun c=>?_
  ·walk_at "go"
   refine⟨lenK rfl,?_⟩
   refine k1 ⟨if m > b then m else b,some e,[x]⟩ ?_
   unfold a6i
   rw [if_pos (by simpa [bef] using c)]
  ·refine k2 ?_
   unfold a6i
   rw [if_neg (by simpa [bef] using c)]
theorem b0Q {n:Nat} (h:0<n):ixN n (-1)=some (n - 1):=by
 unfold ixN
 rw [if_neg (by decide),if_pos (by omega)]
 congr 1
 omega
theorem a7V {α:Type} {l:List α} {x:α} (h:l.getLast?=some x):atI l (-1)=some x:=by
 have hne:l≠[]:=fun z=>by subst z;simp at h
 unfold atI
 rw [b0Q (List.length_pos_iff.mpr hne)]
 show l[l.length - 1]?=some x
 rw [<- List.getLast?_eq_getElem?]
 exact h
theorem b2c {α:Type} {l:List α} {x y:α} (h:l.getLast?=some x):l.set (l.length - 1) y=l.dropLast++[y]:=by
 have hs:=a3Q h
 generalize l.dropLast=i at hs
 subst hs
 simp
theorem sIx2 {a b:Z} {w:List Z}:HT.sIx (a::b::w).length 0 (some 2)=2:=by
 have:=HT.sIx_nat (a::b::w).length 0 2
 rw [show ((2:Nat):Int)=2 from rfl] at this
 rw [this]
 simp
theorem cut2 {a b:Z} {w:List Z}:cutZ (a::b::w) (some 2) none=w:=by
 unfold cutZ
 rw [sIx2,HT.sIx_none]
 simp
theorem b0R {a b:Z} {w:List Z}:¬ (HT.sIx (a::b::w).length 0 (some 2)=0/\HT.sIx (a::b::w).length (a::b::w).length none=(a::b::w).length):=by
 rw [sIx2]
 intro h
 exact absurd h.1 (by decide)
def a1s:P3:=fun ws G R=>∃ p ps,ws=[.ref p]/\G p=some (.lst (ps.map Rw.z))/\OkR ps/\ps.length≤1000/\∀ t,G t=none->R (.ref t) (put G t (.lst ((join ps).map Rw.z)))
theorem a2F {ws:List Z} {G:Hq} {R:K3} (h:a1s ws G R):ws.length=1:=by obtain⟨_,_,rfl,_⟩:=h;rfl
theorem b30 {G:Hq} {R:K3} {a b:Z} {w:List Z} (h:R (.tup w) G):zSl (.tup (a::b::w)) (some 2) none G R:=b3z b0R (by rw [cut2];exact h)
theorem b0S {w:List Z} (h:okW w):flat 8 (.tup w)=true:=b19 (n:=4) (m:=7) (by decide) h.2.2
theorem a8z:∀ (ps told:List Rw),OkR told->OkR ps->OkR (ps.foldl jn told)
 | [],_,h,_=>h
 | p::ps,told,h,h'=>by
  refine a8z ps (jn told p) (fun r hr=>?_) fun r hr=>h' r (.tail _ hr)
  unfold jn at hr
  split at hr
  ·next l hl=>
   split at hr
   ·rcases List.mem_append.mp hr with hr | hr
    ·exact h r (List.dropLast_subset _ hr)
    ·rw [List.mem_singleton.mp hr];exact h' p (.head _)
   ·rcases List.mem_append.mp hr with hr | hr
    ·exact h r hr
    ·rw [List.mem_singleton.mp hr];exact h' p (.head _)
  ·rcases List.mem_append.mp hr with hr | hr
   ·exact h r hr
   ·rw [List.mem_singleton.mp hr];exact h' p (.head _)
theorem b6x (told:List Rw) (p:Rw):(jn told p).length≤told.length+1:=by
 unfold jn
 split
 ·split<;>simp
 ·simp
theorem a8A:∀ (ps told:List Rw),(ps.foldl jn told).length≤told.length+ps.length
 | [],told=>by simp
 | p::ps,told=>by
  have h1:=a8A ps (jn told p)
  have h2:=b6x told p
  show (ps.foldl jn (jn told p)).length≤_
  rw [List.length_cons]
  omega
theorem b0T {ps:List Rw} {i:Nat} {p:Rw} (h:ps[i]?=some p):(ps.take (i+1)).foldl jn []=jn ((ps.take i).foldl jn []) p:=by
 rw [List.take_add_one,h]
 simp [List.foldl_append]
theorem a2S (F:Fns K a) (T:Txt K mg a):FnOk P w K mg base CX0 1 a.f_p_with_alike_joined a.d_p_with_alike_joined ["pieces"] (lowP K a1s):=by
 refine fn3 F.p_with_alike_joined sc_p_with_alike_joined (fun ws G R h=>(by exact a2F h)) (fun cdv A outer s H E ws G R hr h=>?_)
 have hu:(A.deeper (PyProof.Rows.envOfC "with_alike_joined" (a0c a0q) s.heap.objs.size a.f_p_with_alike_joined cdv)).units+66<cLine:=by have:=hr.un;omega
 refine⟨_,(a0n (a05 (i:=1) sc_p_with_alike_joined.nd rfl (Or.inl rfl) (a1X a0k))
  (a0n (a6M (pt:=(.nm 2)) PassesOwn.never rfl (a1R (a0d (pv 0))) (show QP _ _ (.nm 2) from (a0A (i:=2) sc_p_with_alike_joined.nd rfl (Or.inl rfl)))
  (a0t (z_if (QW.qt (a6I (a8Z (a0d (pv 1)) (fun _=>rfl)) (a6I (a0J (o_eq hu) (q_ix x_ix (q_ix x_ix (a0d (pv 1)) (q_un a38 a0g) (fun _ _=>rfl)) a0g (fun _ _=>rfl)) (q_ix x_ix (a0d (pv 2)) a0g (fun _ _=>rfl)) (a0z _)) (a41 (a0J (o_eq hu) (a2X x_sl (q_ix x_ix (a0d (pv 1)) (q_un a38 a0g) (fun _ _=>rfl)) (a3j a0g) a26) (a2X x_sl (a0d (pv 2)) (a3j a0g) a26) (a0z _))))))
  (a0t (b5n (q_op a1r (a2m (a0b (q_ix x_ix (q_ix x_ix (a0d (pv 1)) (q_un a38 a0g) (fun _ _=>rfl)) a0g (fun _ _=>rfl)) (a0b (q_ix x_ix (a0d (pv 2)) a0g (fun _ _=>rfl)) a0k a0m) a0m)) (a2X x_sl (a0d (pv 2)) (a3j a0g) a26)) (a0d (pv 1)) (q_un a38 a0g) b7n))
  (a0t (a1o (q_bm PySem.F.plainAttrs_list PySem.F.slot_list_append PySem.F.type_list_append a27 (a0d (pv 1)) (a0b (a0d (pv 2)) a0k a0a)))))))
  (a0t (a02 (a0d (pv 1)))))),?_⟩
 obtain⟨p,ps,rfl,hp,hok,hz,q⟩:=h
 walk_at "go"
 refine⟨lenK rfl,fun t ht=>?_⟩
 walk_at "go"
 refine a39 (a0I hp ht) ?_
 refine a3k (fun i σ G'=>∃ v,σ=[some (.ref p),some (.ref t),v]/\G'=put G t (.lst (((ps.take i).foldl jn []).map Rw.z))) ⟨_,rfl,by simp⟩ (by rintro i σ G' _ ⟨v,_,e⟩;exact by rw [e];exact a0I hp ht) ?_ ?_
 ·rintro i x σ G' hx ⟨v,rfl,rfl⟩
  rw [List.getElem?_map] at hx
  cases hx':ps[i]? with
  | none=>rw [hx'] at hx;cases hx
  | some r=>
   rw [hx'] at hx
   cases hx
   have hr:=hok r (List.mem_of_getElem? hx')
   have hot:OkR ((ps.take i).foldl jn []):=a8z _ _ (fun r hr=>by simp at hr) fun r hr=>hok r (List.mem_of_mem_take hr)
   have hlt:=a8A (ps.take i) []
   rw [List.length_take] at hlt
   have hi:=(List.getElem?_eq_some_iff.mp hx').1
   rw [b0T hx']
   generalize (ps.take i).foldl jn []=told at hot hlt ⊢
   simp only [List.length_nil] at hlt
   refine⟨_,rfl,?_⟩
   have app:∀ G',G'=put G t (.lst (told.map Rw.z))->jn told r=told++[r]->a58 (.ref t) [r.z] G' (fun _ G1=>∃ v,([some (.ref p),some (.ref t),some r.z]:S3)=[some (.ref p),some (.ref t),v]/\G1=put G t (.lst ((jn told r).map Rw.z))):=by
    rintro _ rfl e
    refine a28 a0f (by rw [List.length_map];exact a0P (by omega)) ⟨_,rfl,?_⟩
    rw [a2y,e,List.map_append]
    rfl
   walk_at "go"
   refine b2D a0f ?_
   cases hl:told.getLast? with
   | none=>
    have e0:told=[]:=List.getLast?_eq_none_iff.mp hl
    subst e0
    refine ifF ?_
    walk_at "go"
    refine a46 a0f ?_
    walk_at "go"
    exact app _ rfl (by unfold jn;rw [hl])
   | some k=>
    have hne:told≠[]:=fun z=>by subst z;simp at hl
    have hlm:(told.map Rw.z).getLast?=some k.z:=by rw [List.getLast?_map,hl];rfl
    have he:(told.map Rw.z).isEmpty=false:=by cases told with | nil=>exact absurd rfl hne | cons _ _=>rfl
    have hk:=hot k (List.mem_of_getLast? hl)
    rw [he]
    refine ifT ?_
    walk_at "go"
    refine a1A a0f (a7V hlm) ?_
    walk_at "go"
    refine a3H at1 ?_
    walk_at "go"
    refine a3H at0 ?_
    refine b6w ?_
    walk_at "go"
    refine ifD (fun c1=>?_) fun c1=>?_
    ·walk_at "go"
     refine a1A a0f (a7V hlm) ?_
     walk_at "go"
     refine b30 ?_
     walk_at "go"
     refine b30 ?_
     refine b8h (b0S hk) (b0S hr) ?_
     walk_at "go"
     refine ifD (fun c2=>?_) fun c2=>?_
     ·walk_at "go"
      refine a1A a0f (a7V hlm) ?_
      walk_at "go"
      refine a3H at0 ?_
      walk_at "go"
      refine a3H at1 ?_
      walk_at "go"
      refine⟨lenK rfl,?_⟩
      walk_at "go"
      refine b30 ?_
      refine b5M (by simp) (a2L (by have:=hr.2.1;simp;omega)) ?_
      walk_at "go"
      refine b7K a0f (b0Q (by rw [List.length_map];exact List.length_pos_iff.mpr hne)) ?_
      refine⟨_,rfl,?_⟩
      rw [a2y,b2c hlm]
      congr 1
      unfold jn
      rw [hl]
      dsimp only
      rw [if_pos ⟨c1,c2⟩,List.map_append,List.map_dropLast]
      rfl
     ·walk_at "go"
      refine a46 a0f ?_
      walk_at "go"
      exact app _ rfl (by unfold jn;rw [hl];dsimp only;rw [if_neg fun z=>c2 z.2])
    ·refine ifF ?_
     walk_at "go"
     refine a46 a0f ?_
     walk_at "go"
     exact app _ rfl (by unfold jn;rw [hl];dsimp only;rw [if_neg fun z=>c1 z.1])
 ·rintro σ G' ⟨v,rfl,rfl⟩
  walk_at "go"
  rw [List.length_map,List.take_length]
  exact q t ht
theorem b2d {r:Rw} {m:Int} (h:over r m=true):r.has m=false:=by
 unfold over at h
 unfold Rw.has
 cases he:r.e with
 | none=>rw [he] at h;cases h
 | some e=>
  rw [he] at h
  simp only [decide_eq_true_eq] at h
  simp only [bef]
  rw [decide_eq_false (show ¬ m<e by omega),Bool.and_false]
theorem b0U {r:Rw} {m m':Int} (h:m≤m') (o:over r m=true):over r m'=true:=by
 unfold over at o ⊢
 cases he:r.e with
 | none=>rw [he] at o;cases o
 | some e=>rw [he] at o;simp only [decide_eq_true_eq] at o ⊢;omega
theorem a8B:∀ {l:List Rw} {m:Int} {k:Nat},(∀ (i:Nat) r,i<k->l[i]?=some r->over r m=true)->val l m=val (l.drop k) m
 | l,m,0,_=>rfl
 | [],m,k+1,_=>rfl
 | r::l,m,k+1,h=>by
  rw [a1b,b2d (h 0 r (by omega) rfl),if_neg (by decide),List.drop_succ_cons]
  exact a8B fun i s hi e=>h (i+1) s (by omega) (by simpa using e)
theorem b2e {r:Rw} {l:List Rw} {m:Int} (h:Rise (r::l)) (o:over r m=false):val (r::l) m=if r.b≤m then some r.w else none:=by
 rw [a1b]
 have hb:bef m r.e=true:=by
  unfold over at o
  cases he:r.e with
  | none=>rfl
  | some e=>rw [he] at o;simp only [decide_eq_false_iff_not] at o;simp only [bef,decide_eq_true_eq];omega
 by_cases c:r.b≤m
 ·have:r.has m=true:=by unfold Rw.has;rw [hb,decide_eq_true c];rfl
  rw [this,if_pos rfl,if_pos c]
 ·rw [b0M (by omega),if_neg (by decide),if_neg c]
  refine a4R fun s hs=>b0M ?_
  have:=((List.pairwise_cons.mp h.2).1 s hs).b (h.1 r (.head _))
  omega
theorem Rise.drop {l:List Rw} (h:Rise l) (k:Nat):Rise (l.drop k):=⟨fun r hr=>h.1 r (List.mem_of_mem_drop hr),h.2.sublist (List.drop_sublist _ _)⟩
theorem drop_get {α:Type} {l:List α} {k:Nat} {x:α} (h:l[k]?=some x):l.drop k=x::l.drop (k+1):=by
 obtain⟨h1,h2⟩:=List.getElem?_eq_some_iff.mp h
 rw [List.drop_eq_getElem_cons h1,h2]
def a3m:P3:=fun ws G R=>Ex4 fun (p q:Addr) (l:List Rw) (ms:List Int)=>ws=[.ref p,.ref q]/\G p=some (.lst (l.map Rw.z))/\G q=some (.lst (ms.map Z.int))/\Rise l/\OkR l/\l.length≤1000/\ms.Pairwise (·≤·)/\ms.length≤1000 /\
 ∀ t,G t=none->R (.ref t) (put G t (.lst (ms.map fun m=>wz (val l m))))
theorem a5g {ws:List Z} {G:Hq} {R:K3} (h:a3m ws G R):ws.length=2:=by obtain⟨_,_,_,_,rfl,_⟩:=h;rfl
theorem a7W {l:List Rw} {k:Nat} {r:Rw} (h:l[k]?=some r):atI (l.map Rw.z) (k:Int)=some r.z:=a1P (by rw [List.getElem?_map,h];rfl)
theorem take_snoc {α:Type} {l:List α} {i:Nat} {x:α} (h:l[i]?=some x):l.take (i+1)=l.take i++[x]:=by rw [List.take_add_one,h];rfl
theorem a5s (F:Fns K a) (T:Txt K mg a):FnOk P w K mg base CX0 2 a.f_p_worths_in a.d_p_worths_in ["line","moments"] (lowP K a3m):=by
 have G_p_is_over:=a7b (P:=P) (w:=w) (base:=base) F T
 refine fn3 F.p_worths_in sc_p_worths_in (fun ws G R h=>(by exact a5g h)) (fun cdv A outer s H E ws G R hr h=>?_)
 have hu:(A.deeper (PyProof.Rows.envOfC "worths_in" (a0c a0X) s.heap.objs.size a.f_p_worths_in cdv)).units+66<cLine:=by have:=hr.un;omega
 refine⟨_,(a0n (a05 (i:=2) sc_p_worths_in.nd rfl (Or.inl rfl) (a1X a0k))
  (a0n (a05 (i:=3) sc_p_worths_in.nd rfl (Or.inl rfl) a0g)
  (a0n (a6M (pt:=(.nm 4)) PassesOwn.never rfl (a1R (a0d (pv 1))) (show QP _ _ (.nm 4) from (a0A (i:=4) sc_p_worths_in.nd rfl (Or.inl rfl)))
  (a7y (b3n PassesOwn.never (QW.qt (a6I (a0J o_lt (a0d (pv 3)) (a01 b_len rfl T.b_len PySem.boot_len (a0b (a0d (pv 0)) a0k a0a) (he:=a0a) (hpl:=a0l)) (a0z _)) (a41 (a6K (a0Q G_p_is_over (hr.mono (by decide)) rfl T.m_p_is_over T.k_p_is_over (a7Q F) (a0b (q_ix x_ix (a0d (pv 0)) (a0d (pv 3)) (fun _ _=>rfl)) (a0b (a0d (pv 4)) a0k a0a) a0m) (he:=a0m) (hpl:=(a0i a0a a0l)))))))
  (a0t (b5o (i:=3) sc_p_worths_in.nd rfl (Or.inl rfl) a0g b2z)))
  (a0t (z_if (QW.qt (a6I (a0J o_lt (a0d (pv 3)) (a01 b_len rfl T.b_len PySem.boot_len (a0b (a0d (pv 0)) a0k a0a) (he:=a0a) (hpl:=a0l)) (a0z _)) (a41 (a0J o_le (q_ix x_ix (q_ix x_ix (a0d (pv 0)) (a0d (pv 3)) (fun _ _=>rfl)) a0g (fun _ _=>rfl)) (a0d (pv 4)) (a0z _)))))
  (a0t (a1o (q_bm PySem.F.plainAttrs_list PySem.F.slot_list_append PySem.F.type_list_append a27 (a0d (pv 2)) (a0b (q_ix x_ix (q_ix x_ix (a0d (pv 0)) (a0d (pv 3)) (fun _ _=>rfl)) a0g (fun _ _=>rfl)) a0k a0m))))
  (a0t (a1o (q_bm PySem.F.plainAttrs_list PySem.F.slot_list_append PySem.F.type_list_append a27 (a0d (pv 2)) (a0b a35 a0k a0e))))))))
  (a0t (a02 (a0d (pv 2))))))),?_⟩
 obtain⟨p,q,l,ms,rfl,hp,hq,hr,hok,hz,hm,hmz,fin⟩:=h
 walk_at "go"
 refine⟨lenK rfl,fun t ht=>?_⟩
 walk_at "go"
 refine a39 (a0I hq ht) ?_
 refine a3k (fun i σ G'=>∃ (k:Nat) (v:Option Z),k≤l.length/\(∀ (j:Nat) r m,j<k->l[j]?=some r->ms[i]?=some m->over r m=true)/\σ=[some (.ref p),some (.ref q),some (.ref t),some (.int k),v]/\G'=put G t (.lst ((ms.take i).map fun m=>wz (val l m)))) ⟨0,_,Nat.zero_le _,fun j r m hj=>by omega,rfl,by simp⟩ (by rintro i σ G' _ ⟨_,_,_,_,_,e⟩;exact by rw [e];exact a0I hq ht) ?_ ?_
 ·rintro i x σ G' hx ⟨k,v,hk,hov,rfl,rfl⟩
  rw [List.getElem?_map] at hx
  cases hx':ms[i]? with
  | none=>rw [hx'] at hx;cases hx
  | some m=>
   rw [hx'] at hx
   cases hx
   refine⟨_,rfl,?_⟩
   walk_at "go"
   have hp':put G t (.lst ((ms.take i).map fun m=>wz (val l m))) p=some (.lst (l.map Rw.z)):=a0I hp ht
   generalize hG:put G t (.lst ((ms.take i).map fun m=>wz (val l m)))=G1 at hp' ⊢
   refine a7E (fun σ' G'=>∃ k':Nat,k'≤l.length/\(∀ (j:Nat) r,j<k'->l[j]?=some r->over r m=true)/\(∀ r,l[k']?=some r->over r m=false)/\σ'=[some (.ref p),some (.ref q),some (.ref t),some (.int k'),some (.int m)]/\G1=G') ?_ ?_
   ·refine⟨fun n σ' G'=>∃ k':Nat,n+k'=l.length/\(∀ (j:Nat) r,j<k'->l[j]?=some r->over r m=true)/\σ'=[some (.ref p),some (.ref q),some (.ref t),some (.int k'),some (.int m)]/\G1=G',⟨l.length - k,k,by omega,fun j r hj e=>hov j r m hj e hx',rfl,rfl⟩,?_⟩
    rintro n σ' G' ⟨k',hn,ho,rfl,rfl⟩
    walk_at "go"
    refine b2E hp' ?_
    walk_at "go"
    refine ifD (fun c=>?_) fun c=>?_
    ·rw [List.length_map] at c
     have hlt:k'<l.length:=by omega
     have hg:=List.getElem?_eq_getElem hlt
     walk_at "go"
     refine a1A hp' (a7W hg) ?_
     walk_at "go"
     refine⟨_,_,rfl,?_⟩
     walk_at "go"
     refine ifB (fun c2=>?_) fun c2=>?_
     ·walk_at "go"
      refine⟨n - 1,by omega,k'+1,by omega,fun j r hj e=>?_,rfl,rfl⟩
      by_cases hjk:j<k'
      ·exact ho j r hjk e
      ·have:j=k':=by omega
       subst this
       rw [hg] at e
       cases e
       exact c2
     ·exact⟨k',by omega,ho,fun r e=>by rw [hg] at e;cases e;exact c2,rfl,rfl⟩
    ·rw [List.length_map] at c
     refine ifF ?_
     exact⟨k',by omega,ho,fun r e=>by have:=(List.getElem?_eq_some_iff.mp e).1;omega,rfl,rfl⟩
   ·rintro σ' G' ⟨k',hk',ho,hn,rfl,rfl⟩
    have hv:val l m=val (l.drop k') m:=a8B ho
    have nxt:∀ w:Z,w=wz (val l m)->a58 (.ref t) [w] G1 (fun _ G2=>∃ (k:Nat) (v:Option Z),k≤l.length/\(∀ (j:Nat) r m,j<k->l[j]?=some r->ms[i+1]?=some m->over r m=true)/\([some (.ref p),some (.ref q),some (.ref t),some (.int k'),some (.int m)]:S3)=[some (.ref p),some (.ref q),some (.ref t),some (.int k),v]/\G2=put G t (.lst ((ms.take (i+1)).map fun m=>wz (val l m)))):=by
     rintro w rfl
     subst hG
     have hi:=(List.getElem?_eq_some_iff.mp hx').1
     refine a28 a0f (by rw [List.length_map,List.length_take];exact a0P (by omega)) ⟨k',_,hk',fun j r m' hj e e'=>b0U ?_ (ho j r hj e),rfl,?_⟩
     ·obtain⟨h1,e1⟩:=List.getElem?_eq_some_iff.mp hx'
      obtain⟨h2,e2⟩:=List.getElem?_eq_some_iff.mp e'
      rw [<- e1,<- e2]
      exact List.pairwise_iff_getElem.mp hm _ _ h1 h2 (by omega)
     ·rw [a2y,take_snoc hx',List.map_append];rfl
    have ht1:∃ ws,G1 t=some (.lst ws):=by rw [<- hG];exact⟨_,a0f⟩
    obtain⟨wt,ht1⟩:=ht1
    walk_at "go"
    refine b2E hp' ?_
    walk_at "go"
    refine ifD (fun c=>?_) fun c=>?_
    ·rw [List.length_map] at c
     have hlt:k'<l.length:=by omega
     have hg:=List.getElem?_eq_getElem hlt
     have hv2:=b2e (by rw [<- drop_get hg];exact hr.drop k') (hn _ hg)
     rw [<- drop_get hg,<- hv] at hv2
     walk_at "go"
     refine a1A hp' (a7W hg) ?_
     walk_at "go"
     refine a3H at0 ?_
     walk_at "go"
     refine ifD (fun c2=>?_) fun c2=>?_
     ·walk_at "go"
      refine a46 ht1 ?_
      walk_at "go"
      refine a1A hp' (a7W hg) ?_
      walk_at "go"
      have hw:=hok _ (List.getElem_mem hlt)
      obtain⟨x,xs,ex⟩:∃ x xs,(l[k']).w=x::xs:=by
       cases e:(l[k']).w with
       | nil=>exact absurd e hw.1
       | cons x xs=>exact⟨x,xs,rfl⟩
      refine a3H (w:=x) (by show atI (_::_::(l[k']).w) 2=some x;rw [ex];exact at2) ?_
      walk_at "go"
      refine nxt x ?_
      rw [hv2,if_pos c2,ex];rfl
     ·walk_at "go"
      refine a46 ht1 ?_
      walk_at "go"
      refine nxt .non ?_
      rw [hv2,if_neg c2];rfl
    ·rw [List.length_map] at c
     refine ifF ?_
     walk_at "go"
     refine a46 ht1 ?_
     walk_at "go"
     refine nxt .non ?_
     rw [hv,List.drop_eq_nil_of_le (by omega)];rfl
 ·rintro σ G' ⟨k,v,_,_,rfl,rfl⟩
  walk_at "go"
  rw [List.length_map,List.take_length]
  exact fin t ht
def a3T:P3:=fun ws G R=>∃ p l m,ws=[.ref p,.int m]/\G p=some (.lst (l.map Rw.z))/\Rise l/\OkR l/\l.length≤1000/\∀ G',Sm G G'->R (wz (val l m)) G'
theorem a5t {ws:List Z} {G:Hq} {R:K3} (h:a3T ws G R):ws.length=2:=by obtain⟨_,_,_,rfl,_⟩:=h;rfl
theorem a6n (F:Fns K a) (T:Txt K mg a):FnOk P w K mg base CX0 3 a.f_p_worth_in a.d_p_worth_in ["line","moment"] (lowP K a3T):=by
 have G_p_worths_in:=a5s (P:=P) (w:=w) (base:=base) F T
 refine fn3 F.p_worth_in a6f (fun ws G R h=>(by exact a5t h)) (fun cdv A outer s H E ws G R hr h=>?_)
 have hu:(A.deeper (PyProof.Rows.envOfC "worth_in" (a0c a03) s.heap.objs.size a.f_p_worth_in cdv)).units+66<cLine:=by have:=hr.un;omega
 refine⟨_,(a0t (a02 (q_ix x_ix (a0Q G_p_worths_in (hr.mono (by decide)) rfl T.m_p_worths_in T.k_p_worths_in (a6h F) (a0b (a0d (pv 0)) (a0b (a1X (a0b (a0d (pv 1)) a0k a0a)) a0k a54) a0a) (he:=a0a) (hpl:=(a0i a54 a0l))) a0g (fun _ _=>rfl)))),?_⟩
 obtain⟨p,l,m,rfl,hp,hr,hok,hz,q⟩:=h
 walk_at "go"
 refine⟨lenK rfl,fun a ha=>?_⟩
 walk_at "go"
 refine⟨p,a,l,[m],rfl,a0I hp ha,a0f,hr,hok,hz,by simp,by simp,fun t ht=>?_⟩
 walk_at "go"
 exact a1A a0f at0 (q _ ((Sm.new (o:=.lst [.int m]) ha).trans (Sm.new ht)))
theorem b0V {m:Option Int} {l:List Rw} (h:OkR l):OkR (ahead m l):=fun x hx=>by
 obtain⟨r,h1,_,rfl⟩:=a3R hx
 exact h r h1
theorem b2f {m:Int} {l:List Rw} (h:OkR l):OkR (fromOn m l):=fun x hx=>by
 obtain⟨r,h1,_,rfl⟩:=a4S hx
 exact h r h1
def okV (z:Z):Prop:=flat 4 z=true
theorem b6y {z:Z} (h:okV z):okW [z]:=⟨by simp,by simp,by rw [List.all_cons,show flat 4 z=true from h];rfl⟩
theorem a9d {l:List Rw} {b:Int} {e:Option Int} {z:Z} (h:OkR l) (hz:okV z):OkR (a2a l b e (optW z)):=by
 intro r hr
 unfold a2a at hr
 rcases List.mem_append.mp hr with hr | hr
 ·rcases List.mem_append.mp hr with hr | hr
  ·exact b0V h r hr
  ·unfold optW at hr
   split at hr
   ·next w e=>
          split at e
          ·cases e
          ·cases e;rw [List.mem_singleton.mp hr];exact b6y hz
   ·simp at hr
 ·cases e with
  | none=>simp at hr
  | some e=>exact b2f h r hr
def a5h:P3:=fun ws G R=>Ex5 fun p l b e z=>ws=[.ref p,.int b,oz e,z]/\G p=some (.lst (l.map Rw.z))/\Rise l/\OkR l/\One l/\l.length≤900/\bef b e=true/\okV z /\
 ∀ t G',G t=none->Sm G G'->G' t=some (.lst ((a6j l b e (optW z)).map Rw.z))->R (.ref t) G'
theorem a7d {ws:List Z} {G:Hq} {R:K3} (h:a5h ws G R):ws.length=4:=by obtain⟨_,_,_,_,_,rfl,_⟩:=h;rfl
theorem a7X (F:Fns K a) (T:Txt K mg a):FnOk P w K mg base CX0 3 a.f_p_put_on a.d_p_put_on ["line","begin","end","worth"] (lowP K a5h):=by
 have G_p_ahead_of:=a6l (P:=P) (w:=w) (base:=base) F T
 have G_p_with_alike_joined:=a2S (P:=P) (w:=w) (base:=base) F T
 have G_p_from_on:=a7c (P:=P) (w:=w) (base:=base) F T
 refine fn3 F.p_put_on sc_p_put_on (fun ws G R h=>(by exact a7d h)) (fun cdv A outer s H E ws G R hr h=>?_)
 have hu:(A.deeper (PyProof.Rows.envOfC "put_on" (a0c a1p) s.heap.objs.size a.f_p_put_on cdv)).units+66<cLine:=by have:=hr.un;omega
 refine⟨_,(a0n (a05 (i:=4) sc_p_put_on.nd rfl (Or.inl rfl) (a0Q G_p_ahead_of (hr.mono (by decide)) rfl T.m_p_ahead_of T.k_p_ahead_of (a66 F) (a0b (a0d (pv 0)) (a0b (a0d (pv 1)) a0k a0a) a0a) (he:=a0a) (hpl:=(a0i a0a a0l))))
  (a7y (z_if (a0J a57 (a0d (pv 3)) a35 (a0z _))
  (a0t (a1o (q_bm PySem.F.plainAttrs_list PySem.F.slot_list_append PySem.F.type_list_append a27 (a0d (pv 4)) (a0b (a2m (a0b (a0d (pv 1)) (a0b (a0d (pv 2)) (a0b (a0d (pv 3)) a0k a0a) a0a) a0a)) a0k a10))))
  a1J)
  (a7y (z_if (a0J a57 (a0d (pv 2)) a35 (a0z _))
  (a0t (a1o (q_bm PySem.F.plainAttrs_list PySem.F.slot_list_extend PySem.F.type_list_extend b1O (a0d (pv 4)) (a0b (a0Q G_p_from_on (hr.mono (by decide)) rfl T.m_p_from_on T.k_p_from_on (a7R F) (a0b (a0d (pv 0)) (a0b (a0d (pv 2)) a0k a0a) a0a) (he:=a0a) (hpl:=(a0i a0a a0l))) a0k a1q))))
  a1J)
  (a0t (a02 (a0Q G_p_with_alike_joined (hr.mono (by decide)) rfl T.m_p_with_alike_joined T.k_p_with_alike_joined (a20 F) (a0b (a0d (pv 4)) a0k a0a) (he:=a0a) (hpl:=a0l))))))),?_⟩
 obtain⟨p,l,b,e,z,rfl,hp,hr,hok,h1,hz,g,hv,q⟩:=h
 have hpc:=(a7a (w:=optW z) hr g).2.2
 walk_at "go"
 refine⟨p,l,some b,rfl,hp,h1,by omega,fun t ht=>?_⟩
 walk_at "go"
 have la:=a69 (some b) l
 refine a7E (fun σ' G'=>σ'=[some (.ref p),some (.int b),some (oz e),some z,some (.ref t)]/\G'=put G t (.lst ((ahead (some b) l++(match optW z with | some w=>[(⟨b,e,w⟩:Rw)] | none=>[])).map Rw.z))) ?_ ?_
 ·walk_at "go"
  refine ifN (fun c=>?_) fun c=>?_
  ·walk_at "go"
   refine a46 a0f ?_
   walk_at "go"
   refine⟨lenK rfl,?_⟩
   walk_at "go"
   refine a28 a0f (by rw [List.length_map];exact a0P (by omega)) ⟨rfl,?_⟩
   rw [a2y,optW,if_neg c,List.map_append];rfl
  ·walk_at "go"
   refine⟨rfl,?_⟩
   rw [optW,if_pos c];simp
 ·rintro σ' G' ⟨rfl,rfl⟩
  have hp1:∀ o,put G t o p=some (.lst (l.map Rw.z)):=fun o=>a0I hp ht
  have fin:∀ G' ,Sm G G'->G' t=some (.lst ((a2a l b e (optW z)).map Rw.z))->a1s [.ref t] G' R:=fun G' s ht'=>by
   refine⟨t,_,rfl,ht',a9d hok hv,by omega,fun u hu=>?_⟩
   exact q u _ (s.free hu) (s.trans (Sm.new hu)) a0f
  refine a7E (fun σ' G'=>σ'=[some (.ref p),some (.int b),some (oz e),some z,some (.ref t)]/\Sm G G'/\G' t=some (.lst ((a2a l b e (optW z)).map Rw.z))) ?_ ?_
  ·cases e with
   | none=>
    walk_at "go"
    refine⟨rfl,Sm.new ht,?_⟩
    unfold a2a
    rw [List.append_nil]
    exact a0f
   | some e=>
    walk_at "go"
    refine a46 a0f ?_
    walk_at "go"
    refine⟨p,l,e,rfl,hp1 _,h1,by omega,fun u hu=>?_⟩
    have hut:t≠u:=fun z=>by subst z;rw [a0f] at hu;cases hu
    have hpl:(a2a l b (some e) (optW z)).length=(ahead (some b) l++(match optW z with | some w=>[(⟨b,some e,w⟩:Rw)] | none=>[])).length+(fromOn e l).length:=by
     unfold a2a
     exact List.length_append
    generalize hA:(ahead (some b) l++(match optW z with | some w=>[(⟨b,some e,w⟩:Rw)] | none=>[]))=A at hu hpl ⊢
    have e1:put (put G t (.lst (A.map Rw.z))) u (.lst ((fromOn e l).map Rw.z)) t=some (.lst (A.map Rw.z)):=by rw [a07 hut];exact a0f
    walk_at "go"
    refine b1Q e1 a0f (by rw [List.length_map,List.length_map];exact a2L (by omega)) ?_
    refine⟨rfl,?_,?_⟩
    ·exact ((Sm.new ht).trans (Sm.new hu)).put ht
    ·rw [a0f,<- List.map_append,<- hA]
     rfl
  ·rintro σ' G' ⟨rfl,s,ht'⟩
   walk_at "go"
   exact fin G' s ht'
def okS (s:Str):Prop:=s.length≤1000/\PyData.strOk s=true
def Th (G:Hq):Z->Prop
 | .non=>True
 | .bl _=>True
 | .int _=>True
 | .str s=>okS s
 | .tup _=>True
 | .ref p=>(∃ ws,G p=some (.lst ws))\/∃ kvs,G p=some (.dK kvs)
 | _=>False
theorem Th.sm {G G':Hq} (s:Sm G G') {x:Z} (h:Th G x):Th G' x:=by
 cases x with
 | ref p=>
  rcases h with ⟨ws,e⟩ | ⟨ws,e⟩
  ·exact .inl ⟨ws,s _ _ e⟩
  ·exact .inr ⟨ws,s _ _ e⟩
 | _=>exact h
structure Kd (G:Hq) (x:Z) (n:String):Prop where
 ty:tyN G x=some n
 is:n="NoneType"\/n="bool"\/n="int"\/n="str"\/n="tuple"\/n="list"\/n="dict"
theorem Th.kd {G:Hq} {x:Z} (h:Th G x):∃ n,Kd G x n:=by
 cases x with
 | non=>exact⟨_,rfl,.inl rfl⟩
 | bl _=>exact⟨_,rfl,.inr (.inl rfl)⟩
 | int _=>exact⟨_,rfl,.inr (.inr (.inl rfl))⟩
 | str _=>exact⟨_,rfl,.inr (.inr (.inr (.inl rfl)))⟩
 | tup _=>exact⟨_,rfl,.inr (.inr (.inr (.inr (.inl rfl))))⟩
 | ref p=>
  rcases h with ⟨ws,e⟩ | ⟨ws,e⟩
  ·exact⟨"list",by simp [tyN,e],.inr (.inr (.inr (.inr (.inr (.inl rfl)))))⟩
  ·exact⟨"dict",by simp [tyN,e],.inr (.inr (.inr (.inr (.inr (.inr rfl)))))⟩
 | _=>exact False.elim h
theorem b31 {n:String} (h:n="NoneType"\/n="bool"\/n="int"\/n="str"\/n="tuple"\/n="list"\/n="dict"):kit0 n "str"=some (decide (n="str")):=by
 rcases h with rfl | rfl | rfl | rfl | rfl | rfl | rfl<;>decide +kernel
theorem b2g {n:String} (h:n="NoneType"\/n="bool"\/n="int"\/n="str"\/n="tuple"\/n="list"\/n="dict"):kit0 n "bool"=some (decide (n="bool")):=by
 rcases h with rfl | rfl | rfl | rfl | rfl | rfl | rfl<;>decide +kernel
theorem b32 {n:String} (h:n="NoneType"\/n="bool"\/n="int"\/n="str"\/n="tuple"\/n="list"\/n="dict"):kit0 n "int"=some (decide (n="int")||decide (n="bool")):=by
 rcases h with rfl | rfl | rfl | rfl | rfl | rfl | rfl<;>decide +kernel
def isS:Z->Bool
 | .str _=>true
 | _=>false
def isB:Z->Bool
 | .bl _=>true
 | _=>false
def isI:Z->Bool
 | .int _=>true
 | .bl _=>true
 | _=>false
theorem b8i {G:Hq} {R:K3} {x:Z} (h:Th G x) (q:R (.bl (isS x)) G):zIsT [x,.ty "str"] G R:=by
 obtain⟨n,k⟩:=h.kd
 refine⟨n,_,k.ty,b31 k.is,?_⟩
 have e:decide (n="str")=isS x:=by
  have:=k.ty
  cases x with
  | ref p=>rcases h with ⟨ws,e⟩ | ⟨ws,e⟩<;>(simp [tyN,e] at this;subst this;show _=false;decide)
  | _=>first | (cases this;show _=false;decide;done) | (cases this;show _=true;decide;done) | exact False.elim h
 rw [e];exact q
theorem b6z {G:Hq} {R:K3} {x:Z} (h:Th G x) (q:R (.bl (isB x)) G):zIsT [x,.ty "bool"] G R:=by
 obtain⟨n,k⟩:=h.kd
 refine⟨n,_,k.ty,b2g k.is,?_⟩
 have e:decide (n="bool")=isB x:=by
  have:=k.ty
  cases x with
  | ref p=>rcases h with ⟨ws,e⟩ | ⟨ws,e⟩<;>(simp [tyN,e] at this;subst this;show _=false;decide)
  | _=>first | (cases this;show _=false;decide;done) | (cases this;show _=true;decide;done) | exact False.elim h
 rw [e];exact q
theorem b6A {G:Hq} {R:K3} {x:Z} (h:Th G x) (q:R (.bl (isI x)) G):zIsT [x,.ty "int"] G R:=by
 obtain⟨n,k⟩:=h.kd
 refine⟨n,_,k.ty,b32 k.is,?_⟩
 have e:(decide (n="int")||decide (n="bool"))=isI x:=by
  have:=k.ty
  cases x with
  | ref p=>rcases h with ⟨ws,e⟩ | ⟨ws,e⟩<;>(simp [tyN,e] at this;subst this;show _=false;decide)
  | _=>first | (cases this;show _=false;decide;done) | (cases this;show _=true;decide;done) | exact False.elim h
 rw [e];exact q
def okC (c:Nat):Bool:=decide (97≤c)&&decide (c≤122)
def a1g:Z->Bool
 | .str s=>decide (1≤s.length)&&decide (s.length≤8)&&s.cps.toList.all okC
 | _=>false
def momB:Z->Bool
 | .int i=>decide (0≤i)&&decide (i≤1000000000000)
 | _=>false
theorem a4i {i:Int}:momB (.int i)=(decide (0≤i)&&decide (i≤1000000000000)):=rfl
def strB (x y:Z):Bool:=momB x&&match y with
 | .non=>true
 | .int j=>momB (.int j)&&match x with | .int i=>decide (i<j) | _=>false
 | _=>false
def spB1 (f:Z->Bool):P3:=fun ws G R=>∃ x,ws=[x]/\Th G x/\∀ G',Sm G G'->R (.bl (f x)) G'
theorem b6B {f:Z->Bool} {ws:List Z} {G:Hq} {R:K3} (h:spB1 f ws G R):ws.length=1:=by obtain⟨_,rfl,_⟩:=h;rfl
def spB2 (f:Z->Z->Bool):P3:=fun ws G R=>∃ x y,ws=[x,y]/\Th G x/\Th G y/\∀ G',Sm G G'->R (.bl (f x y)) G'
theorem b8j {f:Z->Z->Bool} {ws:List Z} {G:Hq} {R:K3} (h:spB2 f ws G R):ws.length=2:=by obtain⟨_,_,rfl,_⟩:=h;rfl
abbrev a7e:P3:=spB1 a1g
abbrev a5u:P3:=spB1 momB
abbrev a5i:P3:=spB2 strB
theorem b0W (a b:Nat):ltS ⟨#[a]⟩ ⟨#[b]⟩=decide (a<b):=by
 show decide ([a]<[b])=decide (a<b)
 by_cases h:a<b
 ·rw [decide_eq_true h];exact decide_eq_true (List.cons_lt_cons_iff.mpr (.inl h))
 ·rw [decide_eq_false h]
  refine decide_eq_false fun q=>?_
  rcases List.cons_lt_cons_iff.mp q with q | q
  ·exact h q
  ·exact absurd q.2 (List.not_lt_nil _)
theorem strA:(Str.ofString "a")=⟨#[97]⟩:=by decide +kernel
theorem strZ:(Str.ofString "z")=⟨#[122]⟩:=by decide +kernel
theorem b2h (x:Str) (g:Nat->Option Z) (f:Z->Option Z) (h:∀ c,f (.str ⟨#[c]⟩)=g c):(a4C x).filterMap f=x.cps.toList.filterMap g:=by
 unfold a4C
 rw [List.filterMap_map]
 congr 1
 funext c
 exact h c
theorem b0X {x:Str} (h:x.length≤1000):(a4C x).length≤1000:=by unfold a4C;rw [List.length_map,Array.length_toList];exact h
theorem b6C (l:List Nat):(l.filterMap fun c=>some (Z.bl (okC c)))=(l.map okC).map Z.bl:=by
 induction l with
 | nil=>rfl
 | cons c l ih=>simp [List.filterMap_cons,ih]
theorem b33 (l:List Nat):(l.map okC).all id=l.all okC:=by
 induction l with
 | nil=>rfl
 | cons c l ih=>simp [List.all_cons,ih]
theorem a2G {s:Str}:a1g (.str s)=(decide (1≤s.length)&&decide (s.length≤8)&&s.cps.toList.all okC):=rfl
theorem a7f (F:Fns K a) (T:Txt K mg a):FnOk P w K mg base CX0 1 a.f_p_is_name a.d_p_is_name ["thing"] (lowP K a7e):=by
 refine fn3 F.p_is_name a62 (fun ws G R h=>(by exact b6B h)) (fun cdv A outer s H E ws G R hr h=>?_)
 have hu:(A.deeper (PyProof.Rows.envOfC "is_name" (a0c a08) s.heap.objs.size a.f_p_is_name cdv)).units+66<cLine:=by have:=hr.un;omega
 refine⟨_,(a0n (z_if (a3i (a6K (a01 b3v rfl T.b_isinstance rfl (a0b (a0d (pv 0)) (a0b (q_ty (a33 (v:=.ty "str") rfl T.b_str rfl rfl)) a0k a0a) a0a) (he:=a0a) (hpl:=(a0i a0a a0l)))))
  (a0t (a02 q_bl))
  a1J)
  (a0n (z_if (QW.qt (q_or (a0J o_lt (a01 b_len rfl T.b_len PySem.boot_len (a0b (a0d (pv 0)) a0k a0a) (he:=a0a) (hpl:=a0l)) a0g (a0z _)) (a53 (a0J o_gt (a01 b_len rfl T.b_len PySem.boot_len (a0b (a0d (pv 0)) a0k a0a) (he:=a0a) (hpl:=a0l)) (b2w (a8w rfl T.c_LONGEST_NAME)) (a0z _)))))
  (a0t (a02 q_bl))
  a1J)
  (a0t (a02 (a01 (b_all rfl) rfl T.b_all rfl (a0b (q_lc (N₀:=["thing"]) (so:=a0c a08) (N':=["sign"]) (cap:=[none]) (pt:=(.nm 0)) rfl rfl rfl (by decide +kernel) rfl (b5y (a0d (pv 0))) (fun _ _ _ _=>(show QP _ _ (.nm 0) from (a0A (i:=0) (show List.Nodup (α:=Str) ["sign"] from by decide +kernel) rfl (Or.inl rfl)))) (fun _ _ _ _=>a2Y) (fun _ _ _ _=>(a91 o_le o_le a1Q (a0d (pv 0)) a1Q))) a0k a1I) (he:=a1I) (hpl:=a0l)))))),?_⟩
 obtain⟨x,rfl,hx,q⟩:=h
 walk_at "go"
 refine b8i hx ?_
 walk_at "go"
 refine ifNB (fun c=>?_) fun c=>?_
 ·walk_at "go"
  have e:a1g x=false:=by cases x<;>first | rfl | cases c
  have:=q G (Sm.refl G)
  rw [e] at this
  exact this
 ·obtain⟨s,rfl⟩:∃ s,x=.str s:=by cases x<;>first | exact⟨_,rfl⟩ | cases c
  have hs:okS s:=hx
  walk_at "go"
  refine b0k (a2L hs.1) ?_
  walk_at "go"
  have no:a1g (.str s)=false->R (.bl false) G:=fun e=>by have:=q G (Sm.refl G);rw [e] at this;exact this
  refine ifD (fun c1=>?_) fun c1=>?_
  ·walk_at "go"
   exact no (by rw [a2G,decide_eq_false (show ¬ 1≤s.length by omega)];rfl)
  ·walk_at "go"
   refine b0k (a2L hs.1) ?_
   walk_at "go"
   refine ifD (fun c2=>?_) fun c2=>?_
   ·walk_at "go"
    exact no (by rw [a2G,decide_eq_false (show ¬ s.length≤8 by omega),Bool.and_false];rfl)
   ·walk_at "go"
    intro D hD
    refine b3p (fun x=>match x with | .str z=>some (.bl (!ltS z (Str.ofString "a")&&!ltS (Str.ofString "z") z)) | _=>none) (fun _=>True.intro) (b0X hs.1) ?_ ?_
    ·intro x hm ys K1 K2 k1 k2
     unfold a4C at hm
     obtain⟨c,_,rfl⟩:=List.mem_map.mp hm
     refine⟨_,rfl,?_⟩
     walk_at "go"
     refine ifB (fun z=>?_) fun z=>?_
     ·walk_at "go"
      refine k1 _ ?_
      dsimp only
      rw [z];rfl
     ·refine k1 _ ?_
      dsimp only
      rw [z];rfl
    ·have e:(a4C s).filterMap (fun x=>match x with | .str z=>some (.bl (!ltS z (Str.ofString "a")&&!ltS (Str.ofString "z") z)) | _=>none)=(s.cps.toList.map okC).map Z.bl:=by
      rw [b2h s (fun c=>some (.bl (okC c))) _ fun c=>?_,b6C]
      dsimp only
      rw [strA,strZ,b0W,b0W]
      unfold okC
      congr 2
      by_cases h1:c<97<;>by_cases h2:122<c<;>simp [h1,h2]<;>omega
     have e2:a1g (.str s)=s.cps.toList.all okC:=by rw [a2G,decide_eq_true (show 1≤s.length by omega),decide_eq_true (show s.length≤8 by omega),Bool.true_and,Bool.true_and]
     refine b7L (by rw [e];exact a0f) ?_
     rw [b33,<- e2]
     exact q _ (Sm.new hD)
theorem a3n (F:Fns K a) (T:Txt K mg a):FnOk P w K mg base CX0 1 a.f_p_is_moment a.d_p_is_moment ["thing"] (lowP K a5u):=by
 refine fn3 F.p_is_moment a5p (fun ws G R h=>(by exact b6B h)) (fun cdv A outer s H E ws G R hr h=>?_)
 have hu:(A.deeper (PyProof.Rows.envOfC "is_moment" (a0c a0W) s.heap.objs.size a.f_p_is_moment cdv)).units+66<cLine:=by have:=hr.un;omega
 refine⟨_,(a0n (z_if (QW.qt (q_or (a6K (a01 b3v rfl T.b_isinstance rfl (a0b (a0d (pv 0)) (a0b (q_ty (a33 (v:=.ty "bool") rfl T.b_bool rfl rfl)) a0k a0a) a0a) (he:=a0a) (hpl:=(a0i a0a a0l)))) (a53 (a3i (a6K (a01 b3v rfl T.b_isinstance rfl (a0b (a0d (pv 0)) (a0b (q_ty (a33 (v:=.ty "int") rfl T.b_int rfl rfl)) a0k a0a) a0a) (he:=a0a) (hpl:=(a0i a0a a0l))))))))
  (a0t (a02 q_bl))
  a1J)
  (a0t (a02 (a91 o_le o_le a0g (a0d (pv 0)) (b2w (a8w rfl T.c_LAST_MOMENT)))))),?_⟩
 obtain⟨x,rfl,hx,q⟩:=h
 have no:momB x=false->R (.bl false) G:=fun e=>by have:=q G (Sm.refl G);rw [e] at this;exact this
 walk_at "go"
 refine b6z hx ?_
 walk_at "go"
 refine ifB (fun c=>?_) fun c=>?_
 ·walk_at "go"
  exact no (by cases x<;>first | rfl | cases c)
 ·walk_at "go"
  refine b6A hx ?_
  walk_at "go"
  refine ifNB (fun c2=>?_) fun c2=>?_
  ·walk_at "go"
   exact no (by cases x<;>first | rfl | cases c2)
  ·obtain⟨i,rfl⟩:∃ i,x=.int i:=by cases x<;>first | exact⟨_,rfl⟩ | (cases c;done) | (cases c2;done)
   walk_at "go"
   refine ifD (fun z=>?_) fun z=>?_
   ·walk_at "go"
    have:=q G (Sm.refl G)
    rw [a4i,decide_eq_true z,Bool.true_and] at this
    exact this
   ·exact no (by rw [a4i,decide_eq_false z];rfl)
theorem a5j (F:Fns K a) (T:Txt K mg a):FnOk P w K mg base CX0 2 a.f_p_is_stretch a.d_p_is_stretch ["begin","end"] (lowP K a5i):=by
 have G_p_is_moment:=a3n (P:=P) (w:=w) (base:=base) F T
 refine fn3 F.p_is_stretch a5a (fun ws G R h=>(by exact b8j h)) (fun cdv A outer s H E ws G R hr h=>?_)
 have hu:(A.deeper (PyProof.Rows.envOfC "is_stretch" (a0c a0R) s.heap.objs.size a.f_p_is_stretch cdv)).units+66<cLine:=by have:=hr.un;omega
 refine⟨_,(a0n (z_if (a3i (a6K (a0Q G_p_is_moment (hr.mono (by decide)) rfl T.m_p_is_moment T.k_p_is_moment (a2E F) (a0b (a0d (pv 0)) a0k a0a) (he:=a0a) (hpl:=a0l))))
  (a0t (a02 q_bl))
  a1J)
  (a0n (z_if (a0J o_is (a0d (pv 1)) a35 (a0z _))
  (a0t (a02 q_bl))
  a1J)
  (a0t (a02 (a6J (a0Q G_p_is_moment (hr.mono (by decide)) rfl T.m_p_is_moment T.k_p_is_moment (a2E F) (a0b (a0d (pv 1)) a0k a0a) (he:=a0a) (hpl:=a0l)) (a92 (a9Y o_lt (a0d (pv 0)) (a0d (pv 1)) (a0z _)))))))),?_⟩
 obtain⟨x,y,rfl,hx,hy,q⟩:=h
 walk_at "go"
 refine⟨x,rfl,hx,fun G1 s1=>?_⟩
 have no:∀ G',Sm G G'->strB x y=false->R (.bl false) G':=fun G' s e=>by have:=q G' s;rw [e] at this;exact this
 walk_at "go"
 refine ifNB (fun c=>?_) fun c=>?_
 ·walk_at "go"
  exact no _ s1 (by unfold strB;rw [c];rfl)
 ·walk_at "go"
  refine ifD (fun z=>?_) fun z=>?_
  ·walk_at "go"
   have:=q _ s1
   unfold strB at this
   rw [c,z] at this
   exact this
  ·walk_at "go"
   refine⟨y,rfl,hy.sm s1,fun G2 s2=>?_⟩
   have s12:=s1.trans s2
   walk_at "go"
   refine ifB (fun c2=>?_) fun c2=>?_
   ·obtain⟨i,rfl⟩:∃ i,x=.int i:=by cases x<;>first | exact⟨_,rfl⟩ | cases c
    obtain⟨j,rfl⟩:∃ j,y=.int j:=by cases y<;>first | exact⟨_,rfl⟩ | cases c2
    walk_at "go"
    have:=q _ s12
    unfold strB at this
    rw [c] at this
    dsimp only at this
    rw [c2,Bool.true_and,Bool.true_and] at this
    exact this
   ·refine no _ s12 ?_
    unfold strB
    rw [c,Bool.true_and]
    cases y<;>first | rfl | exact absurd rfl z | (dsimp only;rw [c2];rfl)
def isL (c:Nat):Prop:=97≤c/\c≤122
def nmOk (s:Str):Prop:=1≤s.cps.toList.length/\s.cps.toList.length≤8/\∀ c∈s.cps.toList,isL c
theorem a2o (s:Str):s.length=s.cps.toList.length:=by rw [Array.length_toList];rfl
theorem a8C {s:Str} (h:∀ c∈s.cps.toList,isL c):PyData.strOk s=true:=by
 unfold PyData.strOk
 rw [Array.all_eq_true_iff_forall_mem]
 intro c hc
 have:=(h c (by simpa using hc)).2
 exact decide_eq_true (by omega)
theorem a7Y {s:Str} (h:nmOk s) {n:Nat}:flat n (.str s)=true:=by
 have:=a8C h.2.2
 cases n<;>exact this
theorem a4j {G:Hq} {s:Str} (h:nmOk s):Th G (.str s):=⟨by rw [a2o];have:=h.2.1;omega,a8C h.2.2⟩
theorem nm_b {s:Str} (h:nmOk s):a1g (.str s)=true:=by
 rw [a2G,decide_eq_true (by rw [a2o];exact h.1),decide_eq_true (by rw [a2o];exact h.2.1)]
 rw [Bool.true_and,Bool.true_and,List.all_eq_true]
 intro c hc
 obtain⟨h1,h2⟩:=h.2.2 c hc
 unfold okC
 rw [decide_eq_true h1,decide_eq_true h2];rfl
def T12:Int:=1000000000000
def stOk (b:Int) (e:Option Int):Prop:=0≤b/\b≤T12/\∀ x,e=some x->b<x/\x≤T12
theorem stOk.bef {b:Int} {e:Option Int} (h:stOk b e):bef b e=true:=by
 cases e with
 | none=>rfl
 | some x=>simp only [Lw.bef,decide_eq_true_eq];exact (h.2.2 x rfl).1
theorem st_b {b:Int} {e:Option Int} (h:stOk b e):strB (.int b) (oz e)=true:=by
 obtain⟨h1,h2,h3⟩:=h
 unfold T12 at *
 unfold strB
 rw [a4i,decide_eq_true h1,decide_eq_true h2]
 cases e with
 | none=>rfl
 | some x=>
  obtain⟨h4,h5⟩:=h3 x rfl
  show (true&&(momB (.int x)&&decide (b<x)))=true
  rw [a4i,decide_eq_true (show 0≤x by omega),decide_eq_true h5,decide_eq_true h4];rfl
def Plain (l:List Rw):Prop:=∀ r∈l,∃ x,r.w=[x]/\flat 0 x=true
theorem Plain.one {l:List Rw} (h:Plain l):One l:=fun r hr=>let ⟨x,e,_⟩:=h r hr;⟨x,e⟩
theorem Plain.okR {l:List Rw} (h:Plain l):OkR l:=fun r hr=>by
 obtain⟨x,e,f⟩:=h r hr
 rw [e]
 exact b6y (a22 (by decide) f)
theorem Plain.nil:Plain []:=fun r hr=>by simp at hr
theorem b34 (z:Z):wz (optW z)=z:=by
 unfold optW
 split
 ·next h=>rw [h];rfl
 ·rfl
theorem b0Y {L:List Rw} {b:Int} {e:Option Int} {z:Z} (h:Plain L) (f:flat 0 z=true):Plain (a6j L b e (optW z)):=fun r hr=>by
 unfold a6j at hr
 have hp:Plain (a2a L b e (optW z)):=fun r hr=>by
  unfold a2a at hr
  rcases List.mem_append.mp hr with hr | hr
  ·rcases List.mem_append.mp hr with hr | hr
   ·obtain⟨r0,h1,_,rfl⟩:=a3R hr
    exact h r0 h1
   ·unfold optW at hr
    split at hr
    ·next w e=>
           split at e
           ·cases e
           ·cases e;rw [List.mem_singleton.mp hr];exact⟨z,rfl,f⟩
    ·simp at hr
  ·cases e with
   | none=>simp at hr
   | some e=>
    obtain⟨r0,h1,_,rfl⟩:=a4S hr
    exact h r0 h1
 have key:∀ (ps told:List Rw),Plain told->Plain ps->Plain (ps.foldl jn told):=by
  intro ps
  induction ps with
  | nil=>exact fun _ h _=>h
  | cons p ps ih=>
   intro told ht hps
   refine ih (jn told p) (fun r hr=>?_) fun r hr=>hps r (.tail _ hr)
   have:=hps p (.head _)
   unfold jn at hr
   split at hr
   ·split at hr
    ·rcases List.mem_append.mp hr with hr | hr
     ·exact ht r (List.dropLast_subset _ hr)
     ·rw [List.mem_singleton.mp hr];exact this
    ·rcases List.mem_append.mp hr with hr | hr
     ·exact ht r hr
     ·rw [List.mem_singleton.mp hr];exact this
   ·rcases List.mem_append.mp hr with hr | hr
    ·exact ht r hr
    ·rw [List.mem_singleton.mp hr];exact this
 exact key _ [] Plain.nil hp r hr
theorem b35 {f:Bool->Bool} {G:Hq} {R:K3} {x y:Z} (h1:flat 8 x=true) (h2:flat 8 y=true) (h:R (.bl (f (decide (x=y)))) G):zEq f x y G R:=by
 cases x<;>cases y<;>first
  | exact⟨h1,h2,h⟩
  | (simp [flat] at h1;done)
  | (simp [flat] at h2;done)
  | (rw [a1m (Z.int.injEq _ _)] at h;exact h)
  | (rw [a1m (Z.str.injEq _ _)] at h;exact h)
structure Tl where
 key:Str
 w:Option Str
 b:Int
 e:Option Int
abbrev sPut:Str:=Str.ofString "put"
abbrev b2Q:Str:=Str.ofString "clear"
def Tl.z (τ:Tl):Z:=match τ.w with
 | some w=>.tup [.str sPut,.str τ.key,.str w,.int τ.b,oz τ.e]
 | none=>.tup [.str b2Q,.str τ.key,.int τ.b,oz τ.e]
def Tl.v (τ:Tl):Z:=match τ.w with
 | some w=>.str w
 | none=>.non
structure Tl.Ok (τ:Tl):Prop where
 k:nmOk τ.key
 w:∀ s,τ.w=some s->nmOk s
 st:stOk τ.b τ.e
theorem Tl.Ok.v {τ:Tl} (h:τ.Ok):flat 0 τ.v=true:=by
 unfold Tl.v
 cases e:τ.w with
 | none=>rfl
 | some w=>exact a7Y (h.w w e)
def Tl.rw (τ:Tl):Rw:=⟨τ.b,τ.e,[τ.v]⟩
def a2H (T:List Tl) (k:Str):List Rw:=(T.filter fun τ=>decide (τ.key=k)).map Tl.rw
theorem a9e {T:List Tl} {τ:Tl} {k:Str}:a2H (T++[τ]) k=a2H T k++(if τ.key=k then [τ.rw] else []):=by
 unfold a2H
 rw [List.filter_append,List.map_append]
 congr 1
 by_cases c:τ.key=k<;>simp [c]
def OkT (T:List Tl):Prop:=∀ τ∈T,τ.Ok
structure IsLine (T:List Tl) (k:Str) (L:List Rw):Prop where
 can:Can L
 pl:Plain L
 len:L.length≤2*T.length
 v:∀ t,val L t=optW (a4v (a2H T k) t)
theorem IsLine.nil {T:List Tl} {k:Str} (h:a2H T k=[]):IsLine T k []:=⟨Can.nil,Plain.nil,by simp,fun t=>by rw [h];rfl⟩
theorem IsLine.snoc {T:List Tl} {τ:Tl} {L:List Rw} (h:IsLine T τ.key L) (o:τ.Ok):IsLine (T++[τ]) τ.key (a6j L τ.b τ.e (optW τ.v)):=by
 have po:=b18 (w:=optW τ.v) h.can.rise o.st.bef
 refine⟨po.1,b0Y h.pl o.v,by have:=po.2.2;have:=h.len;simp;omega,fun t=>?_⟩
 rw [a9e,if_pos rfl,a7U,po.2.1 t,h.v t]
 unfold Rw.has
 show _=optW (if (decide (τ.b≤t)&&bef t τ.e)=true then τ.v else a4v (a2H T τ.key) t)
 split<;>rfl
def ixF (k:Str):Nat->List Tl->List Int
 | _,[]=>[]
 | n,τ::T=>(if τ.key=k then [(n:Int)+1] else [])++ixF k (n+1) T
def ix (T:List Tl) (k:Str):List Int:=ixF k 0 T
theorem a8D {k:Str} {τ:Tl}:∀ (n:Nat) (T:List Tl),ixF k n (T++[τ])=ixF k n T++(if τ.key=k then [(n+T.length:Int)+1] else [])
 | n,[]=>by simp [ixF]
 | n,σ::T=>by
  rw [List.cons_append,ixF,a8D,ixF,List.append_assoc]
  congr 2
  split
  ·congr 1;rw [List.length_cons];omega
  ·rfl
theorem a4k {k:Str} {τ:Tl} {T:List Tl}:ix (T++[τ]) k=ix T k++(if τ.key=k then [(T.length:Int)+1] else []):=by
 unfold ix
 rw [a8D]
 simp
theorem a8E {k:Str}:∀ {n:Nat} {T:List Tl} {i:Int},i∈ixF k n T->(n:Int)+1≤i/\i≤n+T.length
 | _,[],i,h=>by simp [ixF] at h
 | n,τ::T,i,h=>by
  rw [ixF] at h
  rw [List.length_cons]
  rcases List.mem_append.mp h with h | h
  ·split at h
   ·rw [List.mem_singleton.mp h];omega
   ·simp at h
  ·have:=a8E h;omega
theorem b6D {k:Str} {T:List Tl} {i:Int} (h:i∈ix T k):1≤i/\i≤T.length:=by
 have:=a8E h
 simpa using this
theorem b0Z {k:Str}:∀ (n:Nat) (T:List Tl),(ixF k n T).length≤T.length
 | _,[]=>by simp [ixF]
 | n,τ::T=>by
  have:=b0Z (k:=k) (n+1) T
  rw [ixF,List.length_append,List.length_cons]
  split<;>simp<;>omega
theorem b6E (T:List Tl) (k:Str):(ix T k).length≤T.length:=b0Z 0 T
theorem a5R {k:Str}:∀ (n:Nat) (T:List Tl),(ixF k n T).Pairwise (·<·)
 | _,[]=>.nil
 | n,τ::T=>by
  rw [ixF]
  refine List.pairwise_append.mpr ⟨by split<;>simp,a5R (n+1) T,fun x hx y hy=>?_⟩
  have:=a8E hy
  split at hx
  ·rw [List.mem_singleton.mp hx];omega
  ·simp at hx
theorem b00 (T:List Tl) (k:Str):(ix T k).Pairwise (·<·):=a5R 0 T
theorem a4T {k:Str}:∀ (n:Nat) (T:List Tl) (s q:Nat),s≤q->(∀ i∈ixF k n T,(i:Int)≤n+s\/(n+q:Int)<i)->a2H (T.take q) k=a2H (T.take s) k
 | n,[],s,q,_,_=>by simp
 | n,τ::T,s,0,hs,_=>by
  have:s=0:=by omega
  subst this;rfl
 | n,τ::T,0,q+1,hs,h=>by
  have hk:¬ τ.key=k:=fun e=>by
   have:=h ((n:Int)+1) (by rw [ixF,if_pos e];simp)
   omega
  have ih:=a4T (k:=k) (n+1) T 0 q (by omega) fun i hi=>by
   rcases h i (by rw [ixF];simp [hi]) with c | c
   ·have:=a8E hi;omega
   ·right;omega
  rw [List.take_succ_cons]
  unfold a2H at ih ⊢
  rw [List.filter_cons,if_neg (by simpa using hk),ih]
  simp
 | n,τ::T,s+1,q+1,hs,h=>by
  have ih:=a4T (k:=k) (n+1) T s q (by omega) fun i hi=>by
   rcases h i (by rw [ixF];simp [hi]) with c | c
   ·left;omega
   ·right;omega
  rw [List.take_succ_cons,List.take_succ_cons]
  unfold a2H at ih ⊢
  rw [List.filter_cons,List.filter_cons]
  split
  ·rw [List.map_cons,List.map_cons,ih]
  ·exact ih
theorem IsLine.cut {T:List Tl} {k:Str} {L:List Rw} {s q:Nat} (h:IsLine (T.take s) k L) (hs:s≤q) (hi:∀ i∈ix T k,i≤(s:Int)\/(q:Int)<i):IsLine (T.take q) k L:=by
 have e:=a4T (k:=k) 0 T s q hs fun i h=>by have:=hi i h;simpa using this
 exact⟨h.can,h.pl,by have:=h.len;rw [List.length_take] at this ⊢;omega,fun t=>by rw [e];exact h.v t⟩
abbrev a7g:Str:=Str.ofString "last"
abbrev a9f:Str:=Str.ofString "kept"
def shF (n:Int) (d:Addr):List (Str×Z):=[(a7g,.int n),(a9f,.ref d)]
theorem b8k:¬ (a7g=a9f):=by decide +kernel
theorem b36 {n:Int} {d:Addr}:putQ a9f (.ref d) [(a7g,.int n)]=shF n d:=by
 unfold putQ
 rw [if_neg b8k];rfl
theorem b37 {n m:Int} {d:Addr}:putQ a7g (.int m) (shF n d)=shF m d:=by
 unfold shF putQ
 rw [if_pos rfl]
theorem a3w {n:Int} {d:Addr}:(shF n d).lookup a7g=some (.int n):=by
 unfold shF
 rw [List.lookup_cons,beq_self_eq_true]
theorem a7Z {n:Int} {d:Addr}:(shF n d).lookup a9f=some (.ref d):=by
 unfold shF
 rw [List.lookup_cons,show (a9f==a7g)=false by decide +kernel,List.lookup_cons,beq_self_eq_true]
theorem a2T {n:Int} {d:Addr} {m:Str} (h1:(m==a7g)=false) (h2:(m==a9f)=false):(shF n d).lookup m=none:=by
 unfold shF
 rw [List.lookup_cons,h1,List.lookup_cons,h2];rfl
abbrev enZ (e:Int×Addr):Z:=.tup [.int e.1,.ref e.2]
structure Hist (G:Hq) (S:Addr->Prop) (T:List Tl) (k:Str) (h:Addr) (es:List (Int×Addr)):Prop where
 s:S h
 at_:G h=some (.lst (es.map enZ))
 ix:es.map (·.1)=ix T k
 ne:es≠[]
 ln:∀ e∈es,S e.2/\∃ L,G e.2=some (.lst (L.map Rw.z))/\IsLine (T.take e.1.toNat) k L
structure ShM (C:Addr) (G:Hq) (p:Addr) (S:Addr->Prop) (T:List Tl) (n:Int) (dx d:Addr) (kvs:List (Key×Z)):Prop where
 ob:G p=some (.ins C dx (shF n d))
 sp:S p
 sd:S d
 dc:G d=some (.dK kvs)
 len:kvs.length≤T.length
 no:∀ k,valZ kvs (.inr k)=none->ix T k=[]
 hs:∀ k z,valZ kvs (.inr k)=some z->∃ h es,z=.ref h/\Hist G S T k h es
 inj:∀ k k' z,valZ kvs (.inr k)=some z->valZ kvs (.inr k')=some z->k=k'
 al:∀ b,S b->∃ o,G b=some o
 nd:(kvs.map (·.1)).Nodup
 sk:∀ q∈kvs,∃ s,q.1=Sum.inr s
def Sheet (C:Addr) (G:Hq) (p:Addr) (S:Addr->Prop) (T:List Tl):Prop:=∃ dx d kvs,ShM C G p S T T.length dx d kvs
def KS (S:Addr->Prop) (G G':Hq):Prop:=∀ b o,S b->G b=some o->G' b=some o
def KN (S:Addr->Prop) (G G':Hq):Prop:=∀ b o,¬ S b->G b=some o->G' b=some o
theorem Sm.ks {S:Addr->Prop} {G G':Hq} (s:Sm G G'):KS S G G':=fun b o _ e=>s b o e
theorem Sm.kn {S:Addr->Prop} {G G':Hq} (s:Sm G G'):KN S G G':=fun b o _ e=>s b o e
theorem KN.trans {S:Addr->Prop} {G G1 G2:Hq} (a:KN S G G1) (b:KN S G1 G2):KN S G G2:=fun c o n e=>b c o n (a c o n e)
theorem Hist.keep {G G':Hq} {S:Addr->Prop} {T:List Tl} {k:Str} {h:Addr} {es:List (Int×Addr)} (H:Hist G S T k h es) (q:KS S G G'):Hist G' S T k h es:=
 ⟨H.s,q _ _ H.s H.at_,H.ix,H.ne,fun e he=>let ⟨s,L,a,b⟩:=H.ln e he;⟨s,L,q _ _ s a,b⟩⟩
theorem ShM.keep {C:Addr} {G G':Hq} {p:Addr} {S:Addr->Prop} {T:List Tl} {n:Int} {dx d:Addr} {kvs:List (Key×Z)} (H:ShM C G p S T n dx d kvs) (q:KS S G G'):ShM C G' p S T n dx d kvs:=
 ⟨q _ _ H.sp H.ob,H.sp,H.sd,q _ _ H.sd H.dc,H.len,H.no,fun k z e=>let ⟨h,es,a,b⟩:=H.hs k z e;⟨h,es,a,b.keep q⟩,H.inj,(fun b hb=>let ⟨o,e⟩:=H.al b hb;⟨o,q b o hb e⟩),H.nd,H.sk⟩
theorem Sheet.keep {C:Addr} {G G':Hq} {p:Addr} {S:Addr->Prop} {T:List Tl} (H:Sheet C G p S T) (q:KS S G G'):Sheet C G' p S T:=let ⟨dx,d,kvs,h⟩:=H;⟨dx,d,kvs,h.keep q⟩
structure ShV (C:Addr) (G:Hq) (p:Addr) (S:Addr->Prop) (T:List Tl) (n:Int) (dx d:Addr) (kvs:List (Key×Z)):Prop where
 ob:G p=some (.ins C dx (shF n d))
 sp:S p
 sd:S d
 dc:G d=some (.dK kvs)\/G d=some (.dF kvs)
 len:kvs.length≤T.length
 no:∀ k,valZ kvs (.inr k)=none->ix T k=[]
 hs:∀ k z,valZ kvs (.inr k)=some z->∃ h es,z=.ref h/\Hist G S T k h es
 al:∀ b,S b->∃ o,G b=some o
 nd:(kvs.map (·.1)).Nodup
 sk:∀ q∈kvs,∃ s,q.1=Sum.inr s
theorem ShM.v {C:Addr} {G:Hq} {p:Addr} {S:Addr->Prop} {T:List Tl} {n:Int} {dx d:Addr} {kvs:List (Key×Z)} (H:ShM C G p S T n dx d kvs):ShV C G p S T n dx d kvs:=⟨H.ob,H.sp,H.sd,.inl H.dc,H.len,H.no,H.hs,H.al,H.nd,H.sk⟩
theorem ShV.keep {C:Addr} {G G':Hq} {p:Addr} {S:Addr->Prop} {T:List Tl} {n:Int} {dx d:Addr} {kvs:List (Key×Z)} (H:ShV C G p S T n dx d kvs) (q:KS S G G'):ShV C G' p S T n dx d kvs:=
 ⟨q _ _ H.sp H.ob,H.sp,H.sd,H.dc.imp (q _ _ H.sd) (q _ _ H.sd),H.len,H.no,fun k z e=>let ⟨h,es,a,b⟩:=H.hs k z e;⟨h,es,a,b.keep q⟩,(fun b hb=>let ⟨o,e⟩:=H.al b hb;⟨o,q b o hb e⟩),H.nd,H.sk⟩
def SheetV (C:Addr) (G:Hq) (p:Addr) (S:Addr->Prop) (T:List Tl):Prop:=∃ dx d kvs,ShV C G p S T T.length dx d kvs
theorem Sheet.v {C:Addr} {G:Hq} {p:Addr} {S:Addr->Prop} {T:List Tl} (H:Sheet C G p S T):SheetV C G p S T:=let ⟨dx,d,kvs,h⟩:=H;⟨dx,d,kvs,h.v⟩
theorem SheetV.keep {C:Addr} {G G':Hq} {p:Addr} {S:Addr->Prop} {T:List Tl} (H:SheetV C G p S T) (q:KS S G G'):SheetV C G' p S T:=let ⟨dx,d,kvs,h⟩:=H;⟨dx,d,kvs,h.keep q⟩
theorem b38 {sp:PX3} {EE:Addr->Hq->Prop} {t:A3} {σ:S3} {G:Hq} {R:K3} (h:t σ G fun ws G1=>sp ws G1 R EE):b2L sp EE t σ G R:=h
theorem b39 {EE:Addr->Hq->Prop} {C:Addr} {te:E3} {nx:C3} {rt:K3} {bk ct:C3} {σ:S3} {G:Hq} (h:te σ G fun _ G1=>EE C G1):b2M EE C te nx rt bk ct σ G:=h
theorem b4a {C:Addr} {m:Str} {sp:PX3} {EE:Addr->Hq->Prop} {to:E3} {t:A3} {σ:S3} {G:Hq} {R:K3} (h:to σ G fun x G1=>∃ q dx fs,x=.ref q/\G1 q=some (.ins C dx fs)/\fs.lookup m=none/\t σ G1 fun ws G2=>sp (.ref q::ws) G2 R EE):b2N C m sp EE to t σ G R:=h
theorem b6F {PC:Addr->Prop} {i:Nat} {C:Addr} {m:Str} {sp:PX3} {to:E3} {t:A3} {th:Addr->Addr->X3} {nx:C3} {rt:K3} {bk ct:C3} {σ:S3} {G:Hq} (h:to σ G fun x G1=>∃ q dx fs,x=.ref q/\G1 q=some (.ins C dx fs)/\fs.lookup m=none/\t σ G1 fun ws G2=>
 sp (.ref q::ws) G2 (fun _ G3=>nx σ G3) fun C' G3=>PC C'/\∀ e,th C' e (fun σ' G'=>nx (σ'.set i none) G') rt (fun σ' G'=>bk (σ'.set i none) G') (fun σ' G'=>ct (σ'.set i none) G') (σ.set i (some (.ref e))) G3):b78 PC i C m sp to t th nx rt bk ct σ G:=h
local macro_rules | `(tactic| walk_at "go1")=>`(tactic| with_reducible (first | refine b38 ?_ | refine b39 ?_ | refine b4a ?_ | refine b6F ?_))
def a23 (a:Ad):PX3:=fun ws G R EE=>∃ x,ws=[x]/\Th G x/\∀ G',Sm G G'->if a1g x=true then R .non G' else EE a.x_NoName G'
theorem a4J {a:Ad} {ws:List Z} {G:Hq} {R:K3} {EE:Addr->Hq->Prop} (h:a23 a ws G R EE):ws.length=1:=by obtain⟨_,rfl,_⟩:=h;rfl
theorem a1z (F:Fns K a) (T:Txt K mg a):FnOk P w K mg base (CXx P w) 2 a.f_p_check_name a.d_p_check_name ["thing"] (a2Z K (a23 a)):=by
 have G_p_is_name:=a7f (P:=P) (w:=w) (base:=base) F T
 refine fn3x F.p_check_name a5b (fun ws G R EE h=>(by exact a4J h)) (fun cdv A outer s H E ws G R EE hr h ux=>?_)
 have hu:(A.deeper (PyProof.Rows.envOfC "check_name" (a0c a0S) s.heap.objs.size a.f_p_check_name cdv)).units+66<cLine:=by have:=hr.un;omega
 refine⟨_,(a0t (z_if (a3i (a6K (a0Q G_p_is_name (hr.mono (by decide)) rfl T.m_p_is_name T.k_p_is_name (a7P F) (a0b (a0d (pv 0)) a0k a0a) (he:=a0a) (hpl:=a0l))))
  (a0t (a6c Outs.of ux rfl rfl T.x_NoName T.xi_NoName a1Q a0e a0l))
  a1J)),?_⟩
 obtain⟨x,rfl,hx,q⟩:=h
 walk_at "go"
 refine⟨_,rfl,hx,fun G' s1=>?_⟩
 have q':=q G' s1
 walk_at "go"
 refine ifNB (fun c=>?_) fun c=>?_
 ·rw [c] at q'
  walk_at "go"
  exact q'
 ·rw [c] at q'
  walk_at "go"
  exact q'
def a2b (a:Ad):PX3:=fun ws G R EE=>∃ x y,ws=[x,y]/\Th G x/\Th G y/\∀ G',Sm G G'->if strB x y=true then R .non G' else EE a.x_NoStretch G'
theorem a3x {a:Ad} {ws:List Z} {G:Hq} {R:K3} {EE:Addr->Hq->Prop} (h:a2b a ws G R EE):ws.length=2:=by obtain⟨_,_,rfl,_⟩:=h;rfl
theorem a3U (F:Fns K a) (T:Txt K mg a):FnOk P w K mg base (CXx P w) 3 a.f_p_check_stretch a.d_p_check_stretch ["begin","end"] (a2Z K (a2b a)):=by
 have G_p_is_stretch:=a5j (P:=P) (w:=w) (base:=base) F T
 refine fn3x F.p_check_stretch a3N (fun ws G R EE h=>(by exact a3x h)) (fun cdv A outer s H E ws G R EE hr h ux=>?_)
 have hu:(A.deeper (PyProof.Rows.envOfC "check_stretch" (a0c a0w) s.heap.objs.size a.f_p_check_stretch cdv)).units+66<cLine:=by have:=hr.un;omega
 refine⟨_,(a0t (z_if (a3i (a6K (a0Q G_p_is_stretch (hr.mono (by decide)) rfl T.m_p_is_stretch T.k_p_is_stretch (a5q F) (a0b (a0d (pv 0)) (a0b (a0d (pv 1)) a0k a0a) a0a) (he:=a0a) (hpl:=(a0i a0a a0l)))))
  (a0t (a6c Outs.of ux rfl rfl T.x_NoStretch T.xi_NoStretch a1Q a0e a0l))
  a1J)),?_⟩
 obtain⟨x,y,rfl,hx,hy,q⟩:=h
 walk_at "go"
 refine⟨_,_,rfl,hx,hy,fun G' s1=>?_⟩
 have q':=q G' s1
 walk_at "go"
 refine ifNB (fun c=>?_) fun c=>?_
 ·rw [c] at q'
  walk_at "go"
  exact q'
 ·rw [c] at q'
  walk_at "go"
  exact q'
structure Tel (G:Hq) (z:Z) (h:Z) (nm:List Z) (x y:Z):Prop where
 e:z=.tup (h::(nm++[x,y]))
 l:(∃ k,nm=[k])\/∃ k w,nm=[k,w]
 n:∀ z∈nm,Th G z
 x:Th G x
 y:Th G y
theorem Tel.sm {G G':Hq} {z h:Z} {nm:List Z} {x y:Z} (T:Tel G z h nm x y) (s:Sm G G'):Tel G' z h nm x y:=⟨T.e,T.l,fun z hz=>(T.n z hz).sm s,T.x.sm s,T.y.sm s⟩
def a2c (a:Ad):PX3:=fun ws G R EE=>Ex5 fun (z h:Z) (nm:List Z) (x y:Z)=>ws=[z]/\Tel G z h nm x y/\∀ G',Sm G G'->if nm.all a1g=true then (if strB x y=true then R .non G' else EE a.x_NoStretch G') else EE a.x_NoName G'
theorem a3y {a:Ad} {ws:List Z} {G:Hq} {R:K3} {EE:Addr->Hq->Prop} (h:a2c a ws G R EE):ws.length=1:=by obtain⟨_,_,_,_,_,rfl,_⟩:=h;rfl
theorem b8l {h k x y:Z}:cutZ [h,k,x,y] (some 1) (some (-2))=[k]:=rfl
theorem b8m {h k w x y:Z}:cutZ [h,k,w,x,y] (some 1) (some (-2))=[k,w]:=rfl
theorem a7h {l:List Z} {f:Z->Bool} {x:Z} (h:x∈l) (c:f x=false):l.all f=false:=List.all_eq_false.mpr ⟨x,h,by rw [c];decide⟩
theorem a8F {l:List Z} {f:Z->Bool} {i:Nat} {x:Z} (h:(l.take i).all f=true) (e:l[i]?=some x) (c:f x=true):(l.take (i+1)).all f=true:=by
 rw [List.take_add_one,List.all_append,h,e]
 show (true&&([x].all f))=true
 rw [List.all_cons,c];rfl
theorem a3V (F:Fns K a) (T:Txt K mg a):FnOk P w K mg base (CXx P w) 4 a.f_p_check_telling a.d_p_check_telling ["telling"] (a2Z K (a2c a)):=by
 have G_p_check_stretch:=a3U (P:=P) (w:=w) (base:=base) F T
 have G_p_check_name:=a1z (P:=P) (w:=w) (base:=base) F T
 refine fn3x F.p_check_telling sc_p_check_telling (fun ws G R EE h=>(by exact a3y h)) (fun cdv A outer s H E ws G R EE hr h ux=>?_)
 have hu:(A.deeper (PyProof.Rows.envOfC "check_telling" (a0c a0x) s.heap.objs.size a.f_p_check_telling cdv)).units+66<cLine:=by have:=hr.un;omega
 refine⟨_,(a0n (a6M (pt:=(.nm 1)) PassesOwn.leaving rfl (b5p (a2X x_sl (a0d (pv 0)) (a3j a0g) (a3j (q_un a38 a0g)))) (show QP _ _ (.nm 1) from (a0A (i:=1) sc_p_check_telling.nd rfl (Or.inl rfl)))
  (a0t (a1o (a1L (a1f Outs.of) ux.since G_p_check_name (hr.mono (by decide)) rfl T.m_p_check_name T.k_p_check_name (a1F F) (a0b (a0d (pv 1)) a0k a0a) (he:=a0a) (hpl:=a0l)))))
  (a0t (a1o (a1L (a1f Outs.of) ux.since G_p_check_stretch (hr.mono (by decide)) rfl T.m_p_check_stretch T.k_p_check_stretch (a4e F) (a0b (q_ix x_ix (a0d (pv 0)) (q_un a38 a0g) (fun _ _=>rfl)) (a0b (q_ix x_ix (a0d (pv 0)) (q_un a38 a0g) (fun _ _=>rfl)) a0k a0m) a0m) (he:=a0m) (hpl:=(a0i a0m a0l)))))),?_⟩
 obtain⟨z,h,nm,x,y,rfl,⟨rfl,hl,hn,hx,hy⟩,q⟩:=h
 rcases hl with ⟨k,rfl⟩ | ⟨k,w,rfl⟩
 ·show uSeq _ _ _ _ _ _ (a4t _ [.tup [h,k,x,y]]) _
  walk_at "go"
  refine b3z (show ¬ (HT.sIx 4 0 (some 1)=0/\HT.sIx 4 4 (some (-2))=4) by decide) ?_
  rw [b8l]
  walk_at "go"
  refine a3k (fun i σ G'=>∃ v:Option Z,Sm G G'/\(([k]:List Z).take i).all a1g=true/\σ=[some (.tup [h,k,x,y]),v]) ⟨_,Sm.refl _,rfl,rfl⟩ (fun _ _ _ _ _=>True.intro) ?_ ?_
  ·rintro i u σ G' hu ⟨v,s,ha,rfl⟩
   have hm:=List.mem_of_getElem? hu
   refine⟨_,rfl,?_⟩
   walk_at "go"
   refine⟨u,rfl,(hn u hm).sm s,fun G1 s1=>?_⟩
   have q':=q G1 (s.trans s1)
   refine ifB (fun c=>?_) fun c=>?_
   ·walk_at "go"
    exact⟨_,s.trans s1,a8F ha hu c,rfl⟩
   ·rw [a7h hm c] at q'
    exact q'
  ·rintro σ G' ⟨v,s,ha,rfl⟩
   have ha:([k]:List Z).all a1g=true:=ha
   walk_at "go"
   refine⟨x,y,rfl,hx.sm s,hy.sm s,fun G1 s1=>?_⟩
   have q':=q G1 (s.trans s1)
   rw [ha] at q'
   refine ifB (fun c=>?_) fun c=>?_
   ·rw [c] at q'
    walk_at "go"
    exact q'
   ·rw [c] at q'
    exact q'
 ·show uSeq _ _ _ _ _ _ (a4t _ [.tup [h,k,w,x,y]]) _
  walk_at "go"
  refine b3z (show ¬ (HT.sIx 5 0 (some 1)=0/\HT.sIx 5 5 (some (-2))=5) by decide) ?_
  rw [b8m]
  walk_at "go"
  refine a3k (fun i σ G'=>∃ v:Option Z,Sm G G'/\(([k,w]:List Z).take i).all a1g=true/\σ=[some (.tup [h,k,w,x,y]),v]) ⟨_,Sm.refl _,rfl,rfl⟩ (fun _ _ _ _ _=>True.intro) ?_ ?_
  ·rintro i u σ G' hu ⟨v,s,ha,rfl⟩
   have hm:=List.mem_of_getElem? hu
   refine⟨_,rfl,?_⟩
   walk_at "go"
   refine⟨u,rfl,(hn u hm).sm s,fun G1 s1=>?_⟩
   have q':=q G1 (s.trans s1)
   refine ifB (fun c=>?_) fun c=>?_
   ·walk_at "go"
    exact⟨_,s.trans s1,a8F ha hu c,rfl⟩
   ·rw [a7h hm c] at q'
    exact q'
  ·rintro σ G' ⟨v,s,ha,rfl⟩
   have ha:([k,w]:List Z).all a1g=true:=ha
   walk_at "go"
   refine⟨x,y,rfl,hx.sm s,hy.sm s,fun G1 s1=>?_⟩
   have q':=q G1 (s.trans s1)
   rw [ha] at q'
   refine ifB (fun c=>?_) fun c=>?_
   ·rw [c] at q'
    walk_at "go"
    exact q'
   ·rw [c] at q'
    exact q'
def a17 (a:Ad):PX3:=fun ws G R EE=>∃ q n:Int,ws=[.int q,.int n]/\if 0≤q/\q≤n then R .non G else EE a.x_NoKnowing G
theorem a3e {a:Ad} {ws:List Z} {G:Hq} {R:K3} {EE:Addr->Hq->Prop} (h:a17 a ws G R EE):ws.length=2:=by obtain⟨_,_,rfl,_⟩:=h;rfl
theorem a3z (F:Fns K a) (T:Txt K mg a):FnOk P w K mg base (CXx P w) 1 a.f_p_check_in_reach a.d_p_check_in_reach ["knowing","last"] (a2Z K (a17 a)):=by
 refine fn3x F.p_check_in_reach a3v (fun ws G R EE h=>(by exact a3e h)) (fun cdv A outer s H E ws G R EE hr h ux=>?_)
 have hu:(A.deeper (PyProof.Rows.envOfC "check_in_reach" (a0c a0v) s.heap.objs.size a.f_p_check_in_reach cdv)).units+66<cLine:=by have:=hr.un;omega
 refine⟨_,(a0t (z_if (QW.qt (q_or (a0J o_lt (a0d (pv 0)) a0g (a0z _)) (a53 (a0J o_gt (a0d (pv 0)) (a0d (pv 1)) (a0z _)))))
  (a0t (a6c Outs.of ux rfl rfl T.x_NoKnowing T.xi_NoKnowing a1Q a0e a0l))
  a1J)),?_⟩
 obtain⟨q,n,rfl,k⟩:=h
 walk_at "go"
 refine ifD (fun c=>?_) fun c=>?_
 ·rw [if_neg (by omega)] at k
  walk_at "go"
  exact k
 ·walk_at "go"
  refine ifD (fun c2=>?_) fun c2=>?_
  ·rw [if_neg (by omega)] at k
   walk_at "go"
   exact k
  ·rw [if_pos (by omega)] at k
   walk_at "go"
   exact k
def a2N:P3:=fun ws G R=>∃ (l:Addr) (L:List Rw) (τ:Tl),ws=[.ref l,τ.z]/\G l=some (.lst (L.map Rw.z))/\Rise L/\Plain L/\L.length≤400/\τ.Ok /\
 ∀ t G',G t=none->Sm G G'->G' t=some (.lst ((a6j L τ.b τ.e (optW τ.v)).map Rw.z))->R (.ref t) G'
theorem a4l {ws:List Z} {G:Hq} {R:K3} (h:a2N ws G R):ws.length=2:=by obtain⟨_,_,_,rfl,_⟩:=h;rfl
theorem b8n:¬ (b2Q=sPut):=by decide +kernel
theorem a4K (F:Fns K a) (T:Txt K mg a):FnOk P w K mg base CX0 4 a.f_p_line_behind a.d_p_line_behind ["line","telling"] (lowP K a2N):=by
 have G_p_put_on:=a7X (P:=P) (w:=w) (base:=base) F T
 refine fn3 F.p_line_behind sc_p_line_behind (fun ws G R h=>(by exact a4l h)) (fun cdv A outer s H E ws G R hr h=>?_)
 have hu:(A.deeper (PyProof.Rows.envOfC "line_behind" (a0c a0N) s.heap.objs.size a.f_p_line_behind cdv)).units+66<cLine:=by have:=hr.un;omega
 refine⟨_,(a0n (a05 (i:=2) sc_p_line_behind.nd rfl (Or.inl rfl) (q_if (a0J (o_eq hu) (q_ix x_ix (a0d (pv 1)) a0g (fun _ _=>rfl)) a1Q (a0z _)) (q_ix x_ix (a0d (pv 1)) a0g (fun _ _=>rfl)) a35))
  (a0t (a02 (a0Q G_p_put_on (hr.mono (by decide)) rfl T.m_p_put_on T.k_p_put_on (a89 F) (a0b (a0d (pv 0)) (a0b (q_ix x_ix (a0d (pv 1)) (q_un a38 a0g) (fun _ _=>rfl)) (a0b (q_ix x_ix (a0d (pv 1)) (q_un a38 a0g) (fun _ _=>rfl)) (a0b (a0d (pv 2)) a0k a0a) a0m) a0m) a0a) (he:=a0a) (hpl:=(a0i a0m (a0i a0m (a0i a0a a0l)))))))),?_⟩
 obtain⟨l,L,⟨key,w,b,e⟩,rfl,hl,hr,hp,hz,ok,q⟩:=h
 have hb:=ok.st.bef
 have hv:=ok.v
 cases w with
 | none=>
  unfold Tl.z
  walk_at "go"
  refine ifD (fun c=>absurd c b8n) fun _=>?_
  walk_at "go"
  exact⟨l,L,b,e,.non,rfl,hl,hr,hp.okR,hp.one,by omega,hb,rfl,q⟩
 | some w=>
  unfold Tl.z
  walk_at "go"
  refine ifD (fun _=>?_) fun c=>absurd rfl c
  walk_at "go"
  exact⟨l,L,b,e,.str w,rfl,hl,hr,hp.okR,hp.one,by omega,hb,a22 (by decide) hv,q⟩
def a2p (a:Ad):P3:=fun ws G R=>∃ p dx,ws=[.ref p]/\G p=some (.ins a.c_Sheet dx [])/\∀ d G',G d=none->(∀ b o,G b=some o->b≠p->G' b=some o)->Sheet a.c_Sheet G' p (fun x=>x=p\/x=d) []->R .non G'
theorem a3W {a:Ad} {ws:List Z} {G:Hq} {R:K3} (h:a2p a ws G R):ws.length=1:=by obtain⟨_,_,rfl,_⟩:=h;rfl
theorem a4m (F:Fns K a) (T:Txt K mg a):FnOk P w K mg base CX0 1 a.f_Sheet___init__ a.d_Sheet___init__ ["self"] (lowP K (a2p a)):=by
 refine fn3 F.Sheet___init__ a4c (fun ws G R h=>(by exact a3W h)) (fun cdv A outer s H E ws G R hr h=>?_)
 have hu:(A.deeper (PyProof.Rows.envOfC "Sheet.__init__" (a0c a0E) s.heap.objs.size a.f_Sheet___init__ cdv)).units+66<cLine:=by have:=hr.un;omega
 refine⟨_,(a0n (b58 T.cl_Sheet T.na_last (a0d (pv 0)) a0g)
  (a0t (b58 T.cl_Sheet T.na_kept (a0d (pv 0)) b5x))),?_⟩
 obtain⟨p,dx,rfl,hp,q⟩:=h
 walk_at "go"
 refine⟨p,dx,[],rfl,hp,by decide,?_⟩
 walk_at "go"
 intro d hd
 have hpd:p≠d:=a1G a0f hd
 walk_at "go"
 refine⟨p,dx,[(a7g,.int 0)],rfl,by rw [a07 hpd];exact a0f,by decide,?_⟩
 rw [b36]
 walk_at "go"
 have hd0:G d=none:=by rw [a07 (Ne.symm hpd)] at hd;exact hd
 refine q d _ hd0 (fun b o e nb=>?_) ⟨dx,d,[],⟨a0f,.inl rfl,.inr rfl,?_,by simp,fun k _=>rfl,(fun k z e=>by cases e),(fun k k' z e=>by cases e),?_,.nil,fun q hq=>by simp at hq⟩⟩
 ·rw [a07 nb,a07 (a1G e hd0),a07 nb];exact e
 ·rw [a07 (Ne.symm hpd)];exact a0f
 ·rintro b (rfl | rfl)
  ·exact⟨_,a0f⟩
  ·exact⟨_,by rw [a07 (Ne.symm hpd)];exact a0f⟩
def a1O (a:Ad):PX3:=fun ws G R EE=>Ex4 fun (p:Addr) (S:Addr->Prop) (T:List Tl) (q:Int)=>ws=[.ref p,.int q]/\SheetV a.c_Sheet G p S T/\if 0≤q/\q≤T.length then R .non G else EE a.x_NoKnowing G
theorem a2I {a:Ad} {ws:List Z} {G:Hq} {R:K3} {EE:Addr->Hq->Prop} (h:a1O a ws G R EE):ws.length=2:=by obtain⟨_,_,_,_,rfl,_⟩:=h;rfl
theorem a1t (F:Fns K a) (T:Txt K mg a):FnOk P w K mg base (CXx P w) 2 a.f_Sheet_check_knowing a.d_Sheet_check_knowing ["self","knowing"] (a2Z K (a1O a)):=by
 have G_p_check_in_reach:=a3z (P:=P) (w:=w) (base:=base) F T
 refine fn3x F.Sheet_check_knowing a2R (fun ws G R EE h=>(by exact a2I h)) (fun cdv A outer s H E ws G R EE hr h ux=>?_)
 have hu:(A.deeper (PyProof.Rows.envOfC "Sheet.check_knowing" (a0c a0r) s.heap.objs.size a.f_Sheet_check_knowing cdv)).units+66<cLine:=by have:=hr.un;omega
 refine⟨_,(a0t (a1o (a1L (a1f Outs.of) ux.since G_p_check_in_reach (hr.mono (by decide)) rfl T.m_p_check_in_reach T.k_p_check_in_reach (a3P F) (a0b (a0d (pv 1)) (a0b (a6V T.cl_Sheet T.na_last (a0d (pv 0))) a0k a1W) a0a) (he:=a0a) (hpl:=(a0i a1W a0l))))),?_⟩
 obtain⟨p,S,T',q,rfl,⟨dx,d,kvs,sh⟩,k⟩:=h
 walk_at "go"
 refine⟨p,dx,_,_,rfl,sh.ob,a3w,?_⟩
 walk_at "go"
 refine⟨q,_,rfl,?_⟩
 by_cases c:0≤q/\q≤T'.length
 ·rw [if_pos c] at k ⊢
  walk_at "go"
  exact k
 ·rw [if_neg c] at k ⊢
  exact k
def a18 (a:Ad):P3:=fun ws G R=>Ex9 fun (p:Addr) (S:Addr->Prop) (T:List Tl) (k:Str) (q:Int) (n:Int) (dx d:Addr) (kvs:List (Key×Z))=>ws=[.ref p,.str k,.int q]/\ShV a.c_Sheet G p S T n dx d kvs/\0≤q/\q≤T.length/\T.length≤200 /\
 ∀ t L G',G t=none->Sm G G'->G' t=some (.lst (L.map Rw.z))->IsLine (T.take q.toNat) k L->R (.ref t) G'
theorem a3f {a:Ad} {ws:List Z} {G:Hq} {R:K3} (h:a18 a ws G R):ws.length=3:=by obtain⟨_,_,_,_,_,_,_,_,_,rfl,_⟩:=h;rfl
theorem a7i {T:List Tl} {k:Str} {q:Nat} (h:∀ i∈ix T k,(q:Int)<i):a2H (T.take q) k=[]:=by
 have:=a4T (k:=k) 0 T 0 q (Nat.zero_le _) fun i hi=>by right;have:=h i hi;simpa using this
 rw [this];rfl
theorem b4b (l:List Rw):l.filterMap (fun r=>some r)=l:=by
 induction l with
 | nil=>rfl
 | cons r l ih=>rw [List.filterMap_cons,ih]
theorem a1n (F:Fns K a) (T:Txt K mg a):FnOk P w K mg base CX0 1 a.f_Sheet_known_line a.d_Sheet_known_line ["self","key","knowing"] (lowP K (a18 a)):=by
 refine fn3 F.Sheet_known_line sc_Sheet_known_line (fun ws G R h=>(by exact a3f h)) (fun cdv A outer s H E ws G R hr h=>?_)
 have hu:(A.deeper (PyProof.Rows.envOfC "Sheet.known_line" (a0c a0s) s.heap.objs.size a.f_Sheet_known_line cdv)).units+66<cLine:=by have:=hr.un;omega
 refine⟨_,(a0n (a6M (pt:=(.tp [3,4])) PassesOwn.never rfl (a7L rfl T.b_reversed (a0b (q_bm PySem.F.plainAttrs_dict PySem.F.slot_dict_get PySem.F.type_dict_get (b6f hu) (a6V T.cl_Sheet T.na_kept (a0d (pv 0))) (a0b (a0d (pv 1)) (a0b (a1X a0k) a0k a54) a0a)) a0k a1q)) (show QP _ _ (.tp [3,4]) from (a4s rfl (a00 (a0A (i:=3) sc_Sheet_known_line.nd rfl (Or.inl rfl)) (a00 (a0A (i:=4) sc_Sheet_known_line.nd rfl (Or.inl rfl)) a2U))))
  (a0t (z_if (a0J o_le (a0d (pv 3)) (a0d (pv 2)) (a0z _))
  (a0t (a02 (q_lc (N₀:=["self","key","knowing","since","line"]) (so:=a0c a0s) (N':=["begin","end","worth"]) (cap:=[none,none,none]) (pt:=(.tp [0,1,2])) rfl rfl rfl (by decide +kernel) rfl (a1R (a0d (pv 4))) (fun _ _ _ _=>(show QP _ _ (.tp [0,1,2]) from (a4s rfl (a00 (a0A (i:=0) (show List.Nodup (α:=Str) ["begin","end","worth"] from by decide +kernel) rfl (Or.inl rfl)) (a00 (a0A (i:=1) (show List.Nodup (α:=Str) ["begin","end","worth"] from by decide +kernel) rfl (Or.inl rfl)) (a00 (a0A (i:=2) (show List.Nodup (α:=Str) ["begin","end","worth"] from by decide +kernel) rfl (Or.inl rfl)) a2U)))))) (fun _ _ _ _=>a2Y) (fun _ _ _ _=>(a2m (a0b (a0d (pv 0)) (a0b (a0d (pv 1)) (a0b (a0d (pv 2)) a0k a0a) a0a) a0a))))))
  a1J)))
  (a0t (a02 (a1X a0k)))),?_⟩
 obtain⟨p,S,T,k,q,n,dx,d,kvs,rfl,sh,h0,h1,hT,fin⟩:=h
 obtain⟨q,rfl⟩:=Int.eq_ofNat_of_zero_le h0
 walk_at "go"
 refine⟨p,dx,_,_,rfl,sh.ob,a7Z,?_⟩
 refine b74 sh.dc ?_
 walk_at "go"
 refine⟨lenK rfl,fun t0 ht0=>?_⟩
 walk_at "go"
 refine b3L (sh.dc.imp (fun e=>a0I e ht0) fun e=>a0I e ht0) rfl ?_
 have s0:Sm G (put G t0 (.lst [])):=Sm.new ht0
 have none_:(∀ i∈ix T k,(q:Int)<i)->∀ (v1 v2:Option Z) (G1:Hq),Sm G G1->∀ t,G1 t=none->R (.ref t) (put G1 t (.lst [])):=fun hi _ _ G1 s1 t ht=>
  fin t [] _ (s1.free ht) (s1.trans (Sm.new ht)) a0f (by
   have e:((q:Int)).toNat=q:=by omega
   rw [e];exact IsLine.nil (a7i hi))
 cases hv:valZ kvs (.inr k) with
 | none=>
  walk_at "go"
  refine⟨t0,[],rfl,a0f,?_⟩
  refine a3k (fun i σ G'=>∃ v1 v2:Option Z,σ=[some (.ref p),some (.str k),some (.int q),v1,v2]/\G'=put G t0 (.lst [])) ⟨_,_,rfl,rfl⟩ (fun i σ G' _ ⟨_,_,_,e⟩=>by rw [e];exact a0f) ?_ ?_
  ·rintro i x σ G' hx _
   simp at hx
  ·rintro σ G' ⟨v1,v2,rfl,rfl⟩
   walk_at "go"
   refine⟨lenK rfl,fun t ht=>?_⟩
   exact none_ (fun i hi=>by rw [sh.no k hv] at hi;simp at hi) v1 v2 _ s0 t ht
 | some z=>
  obtain⟨h,es,rfl,H⟩:=sh.hs k z hv
  walk_at "go"
  refine⟨h,_,rfl,a0I H.at_ ht0,?_⟩
  rw [<- List.map_reverse]
  refine a3k (fun i σ G'=>∃ v1 v2:Option Z,(∀ (j:Nat) e,j<i->es.reverse[j]?=some e->(q:Int)<e.1)/\σ=[some (.ref p),some (.str k),some (.int q),v1,v2]/\G'=put G t0 (.lst [])) ⟨_,_,fun j e hj=>by omega,rfl,rfl⟩ (fun i σ G' _ ⟨_,_,_,_,e⟩=>by rw [e];exact a0I H.at_ ht0) ?_ ?_
  ·rintro i x σ G' hx ⟨v1,v2,hall,rfl,rfl⟩
   rw [List.getElem?_map] at hx
   cases hx':es.reverse[i]? with
   | none=>rw [hx'] at hx;cases hx
   | some e=>
   rw [hx'] at hx
   cases hx
   obtain⟨s,l⟩:=e
   have hmem:(s,l)∈es:=by have:=List.mem_of_getElem? hx';simpa using this
   have hix:s∈ix T k:=by rw [<- H.ix];exact List.mem_map_of_mem (f:=(·.1)) hmem
   obtain⟨hs1,hs2⟩:=b6D hix
   obtain⟨_,L,gl,il⟩:=H.ln _ hmem
   refine⟨_,rfl,?_⟩
   walk_at "go"
   refine ifD (fun c=>?_) fun c=>?_
   ·walk_at "go"
    refine a39 (a0I gl ht0) ?_
    intro D hD
    have hone:=il.pl.one
    have hll:L.length≤1000:=by have:=il.len;rw [List.length_take] at this;omega
    refine a5f (g':=Rw.z) (fun r=>some r) (fun ys=>a0I (a0I gl ht0) hD) hll ?_ ?_
    ·intro r hr ys K1 K2 k1 k2
     obtain⟨x,hx⟩:=hone r hr
     obtain⟨b,e,w⟩:=r
     cases hx
     refine⟨_,rfl,?_⟩
     walk_at "go"
     refine⟨lenK rfl,?_⟩
     exact k1 ⟨b,e,[x]⟩ rfl
    ·rw [b4b]
     refine fin D L _ (s0.free hD) (s0.trans (Sm.new hD)) a0f ?_
     have e1:((q:Int)).toNat=q:=by omega
     rw [e1]
     have il':IsLine (T.take s.toNat) k L:=il
     refine il'.cut (by omega) fun j hj=>?_
     rw [<- H.ix] at hj
     obtain⟨e2,he2,rfl⟩:=List.mem_map.mp hj
     by_cases c2:e2.1≤s
     ·left;omega
     ·right
      have he3:e2∈es.reverse:=by simpa using he2
      obtain⟨m,hm⟩:=List.getElem?_of_mem he3
      by_cases hmi:m<i
      ·exact hall m e2 hmi hm
      ·exfalso
       have hst:(ix T k).Pairwise (·<·):=b00 T k
       rw [<- H.ix] at hst
       have hst2:es.reverse.Pairwise (fun x y=>y.1<x.1):=by
        rw [List.pairwise_reverse]
        exact List.pairwise_map.mp hst
       by_cases hmi2:m=i
       ·subst hmi2
        rw [hx'] at hm
        cases hm
        omega
       ·obtain⟨l1,e5⟩:=List.getElem?_eq_some_iff.mp hx'
        obtain⟨l2,e6⟩:=List.getElem?_eq_some_iff.mp hm
        have:=List.pairwise_iff_getElem.mp hst2 i m l1 l2 (by omega)
        rw [e5,e6] at this
        simp only at this
        omega
   ·walk_at "go"
    refine⟨_,_,fun j e hj he=>?_,rfl,rfl⟩
    by_cases hji:j<i
    ·exact hall j e hji he
    ·have:j=i:=by omega
     subst this
     rw [hx'] at he
     cases he
     simp only
     omega
  ·rintro σ G' ⟨v1,v2,hall,rfl,rfl⟩
   walk_at "go"
   refine⟨lenK rfl,fun t ht=>?_⟩
   refine none_ (fun j hj=>?_) v1 v2 _ s0 t ht
   rw [<- H.ix] at hj
   obtain⟨e2,he2,rfl⟩:=List.mem_map.mp hj
   have he3:e2∈es.reverse:=by simpa using he2
   obtain⟨m,hm⟩:=List.getElem?_of_mem he3
   exact hall m e2 (by rw [List.length_map];exact (List.getElem?_eq_some_iff.mp hm).1) hm
theorem a6o {kvs:List (Key×Z)} {k j:Key} {v:Z}:valZ (putZ kvs k v) j=if j=k then some v else valZ kvs j:=by
 unfold putZ
 split
 ·next hc=>
  have go:∀ kvs:List (Key×Z),valZ (kvs.map fun kv=>if kv.1=k then (kv.1,v) else kv) j=(valZ kvs j).map fun x=>if j=k then v else x:=by
   intro kvs
   induction kvs with
   | nil=>rfl
   | cons p r ih=>
    unfold valZ at ih ⊢
    rw [List.map_cons,List.find?_cons,List.find?_cons]
    have e1:(if p.1=k then (p.1,v) else p).1=p.1:=by split<;>rfl
    rw [e1]
    cases c:decide (p.1=j) with
    | false=>exact ih
    | true=>
     have cj:=of_decide_eq_true c
     simp only [Option.map_some]
     by_cases ck:p.1=k
     ·rw [if_pos ck,if_pos (cj.symm.trans ck)]
     ·rw [if_neg ck,if_neg (fun z=>ck (cj.trans z))]
  rw [go]
  by_cases c:j=k
  ·subst c
   rw [if_pos rfl]
   obtain⟨p,h1,h2⟩:=List.any_eq_true.mp hc
   have:(kvs.find? fun kv=>decide (kv.1=j)).isSome=true:=List.find?_isSome.mpr ⟨p,h1,h2⟩
   unfold valZ
   cases e:kvs.find? fun kv=>decide (kv.1=j) with
   | none=>rw [e] at this;cases this
   | some q=>simp
  ·rw [if_neg c]
   cases valZ kvs j with
   | none=>rfl
   | some x=>simp [c]
 ·next hc=>
  unfold valZ
  rw [List.find?_append]
  by_cases c:j=k
  ·subst c
   rw [if_pos rfl]
   have:kvs.find? (fun kv=>decide (kv.1=j))=none:=by
    rw [List.find?_eq_none]
    intro p hp hq
    exact hc (List.any_eq_true.mpr ⟨p,hp,hq⟩)
   rw [this]
   simp
  ·rw [if_neg c]
   have:[(k,v)].find? (fun kv=>decide (kv.1=j))=none:=by simp;exact fun z=>c z.symm
   rw [this,Option.or_none]
theorem b2i {kvs:List (Key×Z)} {k:Key} {v:Z}:(putZ kvs k v).length≤kvs.length+1:=by
 unfold putZ
 split<;>simp
theorem Hist.ne_row {G:Hq} {S:Addr->Prop} {T:List Tl} {k:Str} {h x:Addr} {es:List (Int×Addr)} {L:List Rw} (H:Hist G S T k h es) (e:G x=some (.lst (L.map Rw.z))):x≠h:=fun z=>by
 subst z
 have:=e.symm.trans H.at_
 have h2:L.map Rw.z=es.map enZ:=by simpa using this
 cases es with
 | nil=>exact H.ne rfl
 | cons a es=>
  cases L with
  | nil=>simp at h2
  | cons r L=>
   rw [List.map_cons,List.map_cons] at h2
   have h3:=(List.cons.inj h2).1
   simp only [Rw.z,enZ,Z.tup.injEq,List.cons.injEq] at h3
   obtain⟨rb,re,rw0⟩:=r
   have h4:=h3.2.1
   cases re<;>cases h4
theorem a7j {kvs:List (Key×Z)} {k:Key} (h:valZ kvs k=none):∀ q∈kvs,q.1≠k:=fun q hq e=>by
 unfold valZ at h
 have:(kvs.find? fun kv=>decide (kv.1=k)).isSome=true:=List.find?_isSome.mpr ⟨q,hq,decide_eq_true e⟩
 cases e2:kvs.find? fun kv=>decide (kv.1=k) with
 | none=>rw [e2] at this;cases this
 | some x=>rw [e2] at h;cases h
theorem b4c {kvs:List (Key×Z)} {k:Key} {v:Z} (h:valZ kvs k=none):putZ kvs k v=kvs++[(k,v)]:=by
 unfold putZ
 rw [if_neg fun z=>?_]
 obtain⟨q,h1,h2⟩:=List.any_eq_true.mp z
 exact a7j h q h1 (of_decide_eq_true h2)
theorem b6G {kvs:List (Key×Z)} {k:Key} {v:Z} (h:valZ kvs k=none) (nd:(kvs.map (·.1)).Nodup):((putZ kvs k v).map (·.1)).Nodup:=by
 rw [b4c h,List.map_append,List.nodup_append]
 refine⟨nd,by simp,fun x hx y hy=>?_⟩
 obtain⟨q,hq,rfl⟩:=List.mem_map.mp hx
 have:y=k:=by simpa using hy
 rw [this]
 exact a7j h q hq
theorem b6H {kvs:List (Key×Z)} {k:Str} {v:Z} (sk:∀ q∈kvs,∃ s,q.1=Sum.inr s):∀ q∈putZ kvs (.inr k) v,∃ s,q.1=Sum.inr s:=fun q hq=>by
 unfold putZ at hq
 split at hq
 ·obtain⟨q0,h0,e⟩:=List.mem_map.mp hq
  obtain⟨s,hs⟩:=sk q0 h0
  refine⟨s,?_⟩
  rw [<- e]
  split
  ·exact hs
  ·exact hs
 ·rcases List.mem_append.mp hq with hq | hq
  ·exact sk q hq
  ·exact⟨k,by rw [List.mem_singleton.mp hq]⟩
def a2d (a:Ad):P3:=fun ws G R=>Ex9 fun (p:Addr) (S:Addr->Prop) (T:List Tl) (τ:Tl) (l:Addr) (L:List Rw) (dx d:Addr) (kvs:List (Key×Z))=>ws=[.ref p,.str τ.key,.ref l]/\ShM a.c_Sheet G p S T ((T.length:Int)+1) dx d kvs/\G l=some (.lst (L.map Rw.z))/\¬ S l/\IsLine (T++[τ]) τ.key L/\T.length≤200 /\
 ∀ (S':Addr->Prop) G',(∀ b,S b->S' b)->(∀ b,S' b->S b\/b=l\/G b=none)->KN S G G'->Sheet a.c_Sheet G' p S' (T++[τ])->R .non G'
theorem a3A {a:Ad} {ws:List Z} {G:Hq} {R:K3} (h:a2d a ws G R):ws.length=3:=by obtain⟨_,_,_,_,_,_,_,_,_,rfl,_⟩:=h;rfl
theorem a6p {T:List Tl} {τ:Tl} {k:Str} {s:Int} (h:s∈ix T k):(T++[τ]).take s.toNat=T.take s.toNat:=by
 have:=b6D h
 rw [List.take_append_of_le_length (by omega)]
theorem a8G {T:List Tl} {τ:Tl}:(T++[τ]).take ((T.length:Int)+1).toNat=T++[τ]:=by
 rw [List.take_of_length_le]
 rw [List.length_append,List.length_singleton]
 omega
theorem a3X (F:Fns K a) (T:Txt K mg a):FnOk P w K mg base CX0 1 a.f_Sheet_keep_line a.d_Sheet_keep_line ["self","key","line"] (lowP K (a2d a)):=by
 refine fn3 F.Sheet_keep_line a3O (fun ws G R h=>(by exact a3A h)) (fun cdv A outer s H E ws G R hr h=>?_)
 have hu:(A.deeper (PyProof.Rows.envOfC "Sheet.keep_line" (a0c a0y) s.heap.objs.size a.f_Sheet_keep_line cdv)).units+66<cLine:=by have:=hr.un;omega
 refine⟨_,(a0t (a1o (q_bm PySem.F.plainAttrs_list PySem.F.slot_list_append PySem.F.type_list_append a27 (q_bm PySem.F.plainAttrs_dict PySem.F.slot_dict_setdefault PySem.F.type_dict_setdefault a6W (a6V T.cl_Sheet T.na_kept (a0d (pv 0))) (a0b (a0d (pv 1)) (a0b (a1X a0k) a0k a54) a0a)) (a0b (a2m (a0b (a6V T.cl_Sheet T.na_last (a0d (pv 0))) (a0b (a0d (pv 2)) a0k a0a) a1W)) a0k a10)))),?_⟩
 obtain⟨p,S,T,τ,l,L,dx,d,kvs,rfl,sh,gl,nl,il,hT,q⟩:=h
 walk_at "go"
 refine⟨p,dx,_,_,rfl,sh.ob,a7Z,?_⟩
 refine b73 sh.dc ?_
 walk_at "go"
 refine⟨lenK rfl,fun t0 ht0=>?_⟩
 walk_at "go"
 have npd:p≠d:=fun z=>by have e:=sh.ob;rw [z,sh.dc] at e;cases e
 have hlen:((T++[τ]).length:Int)=(T.length:Int)+1:=by simp
 refine b6h (a0I sh.dc ht0) rfl (a0P (by have:=sh.len;omega)) (fun z hz=>?_) fun hz=>?_
 ·obtain⟨h,es,rfl,H⟩:=sh.hs _ z hz
  have hpe:p≠h:=fun z=>by have e:=sh.ob;rw [z,H.at_] at e;cases e
  have hde:d≠h:=fun z=>by have e:=sh.dc;rw [z,H.at_] at e;cases e
  have hle:l≠h:=fun z=>nl (z▸H.s)
  refine a46 (a0I H.at_ ht0) ?_
  walk_at "go"
  refine⟨p,dx,_,_,rfl,a0I sh.ob ht0,a3w,?_⟩
  walk_at "go"
  refine⟨lenK rfl,?_⟩
  walk_at "go"
  have hel:es.length≤T.length:=by
   have e1:=congrArg List.length H.ix
   rw [List.length_map] at e1
   rw [e1]
   exact b6E T τ.key
  refine a28 (a0I H.at_ ht0) (by rw [List.length_map];exact a0P (by omega)) ?_
  have keep:∀ b o,b≠h->G b=some o->put (put G t0 (.lst [])) h (.lst (es.map enZ++[.tup [.int ((T.length:Int)+1),.ref l]])) b=some o:=fun b o nb e=>by rw [a07 nb];exact a0I e ht0
  refine q (fun b=>S b\/b=l) _ (fun b hb=>.inl hb) (fun b hb=>hb.elim .inl fun z=>.inr (.inl z)) (fun b o nb e=>keep b o (fun z=>nb (z▸H.s)) e) ⟨dx,d,kvs,?_⟩
  refine⟨by rw [hlen];exact keep _ _ hpe sh.ob,.inl sh.sp,.inl sh.sd,keep _ _ hde sh.dc,by have:=sh.len;simp;omega,fun k hk=>?_,fun k z e=>?_,sh.inj,(fun b hb=>?_),sh.nd,sh.sk⟩
  ·rw [a4k,sh.no k hk,if_neg]
   ·rfl
   ·rintro rfl
    rw [hz] at hk
    cases hk
  ·by_cases ck:k=τ.key
   ·subst ck
    rw [hz] at e
    cases e
    refine⟨h,es++[((T.length:Int)+1,l)],rfl,.inl H.s,by rw [a0f,List.map_append];rfl,by rw [List.map_append,H.ix,a4k,if_pos rfl];rfl,by simp,fun e he=>?_⟩
    rcases List.mem_append.mp he with he | he
    ·obtain⟨s1,L1,g1,i1⟩:=H.ln e he
     refine⟨.inl s1,L1,keep _ _ (H.ne_row g1) g1,?_⟩
     rw [a6p (k:=τ.key) (by rw [<- H.ix];exact List.mem_map_of_mem (f:=(·.1)) he)]
     exact i1
    ·rw [List.mem_singleton.mp he]
     refine⟨.inr rfl,L,keep _ _ hle gl,?_⟩
     rw [a8G]
     exact il
   ·obtain⟨h',es',ez,H'⟩:=sh.hs k z e
    have hh:h'≠h:=fun w=>ck (sh.inj k τ.key z e (by rw [hz,ez,w]))
    refine⟨h',es',ez,.inl H'.s,keep _ _ hh H'.at_,by rw [H'.ix,a4k,if_neg (Ne.symm ck),List.append_nil],H'.ne,fun e he=>?_⟩
    obtain⟨s1,L1,g1,i1⟩:=H'.ln e he
    refine⟨.inl s1,L1,keep _ _ (H.ne_row g1) g1,?_⟩
    rw [a6p (k:=k) (by rw [<- H'.ix];exact List.mem_map_of_mem (f:=(·.1)) he)]
    exact i1
  ·by_cases c:b=h
   ·rw [c];exact⟨_,a0f⟩
   ·rcases hb with hb | hb
    ·obtain⟨o,e⟩:=sh.al b hb
     exact⟨o,keep b o c e⟩
    ·rw [hb] at c ⊢;exact⟨_,keep l _ c gl⟩
 ·have hdt:d≠t0:=a1G sh.dc ht0
  have hpt:p≠t0:=a1G sh.ob ht0
  have hlt:l≠t0:=a1G gl ht0
  have gt1:put (put G t0 (.lst [])) d (.dK (putZ kvs (.inr τ.key) (.ref t0))) t0=some (.lst []):=by rw [a07 (Ne.symm hdt)];exact a0f
  refine a46 gt1 ?_
  walk_at "go"
  refine⟨p,dx,_,_,rfl,by rw [a07 npd];exact a0I sh.ob ht0,a3w,?_⟩
  walk_at "go"
  refine⟨lenK rfl,?_⟩
  walk_at "go"
  refine a28 gt1 (a0P (by decide)) ?_
  have keep:∀ b o,b≠d->G b=some o->put (put (put G t0 (.lst [])) d (.dK (putZ kvs (.inr τ.key) (.ref t0)))) t0 (.lst ([]++[.tup [.int ((T.length:Int)+1),.ref l]])) b=some o:=fun b o nb e=>by
   rw [a07 (a1G e ht0),a07 nb];exact a0I e ht0
  have nS:∀ h',S h'->∀ o,G h'=some o->h'≠t0:=fun h' _ o e=>a1G e ht0
  refine q (fun b=>S b\/b=l\/b=t0) _ (fun b hb=>.inl hb) (fun b hb=>hb.elim .inl fun z=>z.elim (fun z=>.inr (.inl z)) fun z=>.inr (.inr (by rw [z];exact ht0))) (fun b o nb e=>keep b o (fun z=>nb (z▸sh.sd)) e) ⟨dx,d,putZ kvs (.inr τ.key) (.ref t0),?_⟩
  refine⟨by rw [hlen];exact keep _ _ npd sh.ob,.inl sh.sp,.inl sh.sd,by rw [a07 hdt];exact a0f,by have h1:=sh.len;have h2:=@b2i kvs (.inr τ.key) (.ref t0);simp;omega,fun k hk=>?_,fun k z e=>?_,fun k k' z e e'=>?_,(fun b hb=>?_),b6G hz sh.nd,b6H sh.sk⟩
  ·rw [a6o] at hk
   split at hk
   ·cases hk
   ·next c=>
    rw [a4k,sh.no k hk,if_neg fun z=>c (by rw [z])]
    rfl
  ·rw [a6o] at e
   split at e
   ·next c=>
    cases e
    have ck:k=τ.key:=by simpa using c
    subst ck
    refine⟨t0,[((T.length:Int)+1,l)],rfl,.inr (.inr rfl),by rw [a0f];rfl,by rw [a4k,sh.no _ hz,if_pos rfl];rfl,by simp,fun e he=>?_⟩
    rw [List.mem_singleton.mp he]
    refine⟨.inr (.inl rfl),L,keep _ _ (fun z=>by have z':l=d:=z;rw [z',sh.dc] at gl;cases gl) gl,?_⟩
    rw [a8G]
    exact il
   ·next c=>
    obtain⟨h',es',ez,H'⟩:=sh.hs k z e
    have hd':h'≠d:=fun w=>by have e:=H'.at_;rw [w,sh.dc] at e;cases e
    refine⟨h',es',ez,.inl H'.s,keep _ _ hd' H'.at_,by rw [H'.ix,a4k,if_neg fun z=>c (by rw [z]),List.append_nil],H'.ne,fun e he=>?_⟩
    obtain⟨s1,L1,g1,i1⟩:=H'.ln e he
    refine⟨.inl s1,L1,keep _ _ (fun w=>by rw [w,sh.dc] at g1;cases g1) g1,?_⟩
    rw [a6p (k:=k) (by rw [<- H'.ix];exact List.mem_map_of_mem (f:=(·.1)) he)]
    exact i1
  ·rw [a6o] at e e'
   split at e
   ·next c=>
    split at e'
    ·next c'=>simpa using c.trans c'.symm
    ·cases e
     obtain⟨h',es',ez,H'⟩:=sh.hs k' _ e'
     cases ez
     exact absurd rfl (nS _ H'.s _ H'.at_)
   ·split at e'
    ·cases e'
     obtain⟨h',es',ez,H'⟩:=sh.hs k _ e
     cases ez
     exact absurd rfl (nS _ H'.s _ H'.at_)
    ·exact sh.inj k k' z e e'
  ·by_cases c:b=t0
   ·rw [c];exact⟨_,a0f⟩
   ·by_cases c2:b=d
    ·rw [c2];exact⟨_,by rw [a07 hdt];exact a0f⟩
    ·rcases hb with hb | hb | hb
     ·obtain⟨o,e⟩:=sh.al b hb
      exact⟨o,keep b o c2 e⟩
     ·rw [hb] at c2 ⊢;exact⟨_,keep l _ c2 gl⟩
     ·exact absurd hb c
def BadT (a:Ad) (G:Hq) (z:Z) (c:Addr):Prop:=Ex4 fun (h:Z) (nm:List Z) (x y:Z)=>Tel G z h nm x y/\((nm.all a1g=false/\c=a.x_NoName)\/(nm.all a1g=true/\strB x y=false/\c=a.x_NoStretch))
def a3Y (a:Ad):PX3:=fun ws G R EE=>∃ (p:Addr) (S:Addr->Prop) (T:List Tl),Sheet a.c_Sheet G p S T/\((∃ τ:Tl,ws=[.ref p,τ.z]/\τ.Ok/\T.length≤150 /\
 ∀ (S':Addr->Prop) G',(∀ b,S b->S' b)->(∀ b,S' b->S b\/G b=none)->KN S G G'->Sheet a.c_Sheet G' p S' (T++[τ])->R (.int ((T.length:Int)+1)) G') \/
 ∃ (z:Z) (c:Addr),ws=[.ref p,z]/\BadT a G z c/\∀ G',Sm G G'->EE c G')
theorem a5v {a:Ad} {ws:List Z} {G:Hq} {R:K3} {EE:Addr->Hq->Prop} (h:a3Y a ws G R EE):ws.length=2:=by obtain⟨_,_,_,_,⟨_,rfl,_⟩ | ⟨_,_,rfl,_⟩⟩:=h<;>rfl
theorem b6I {τ:Tl}:∃ ws,τ.z=.tup ws/\atI ws 1=some (.str τ.key):=by
 obtain⟨k,w,b,e⟩:=τ
 cases w<;>exact⟨_,rfl,at1⟩
theorem b6J {G:Hq} {e:Option Int}:Th G (oz e):=by cases e<;>exact True.intro
theorem Tl.Ok.tel {G:Hq} {τ:Tl} (ok:τ.Ok):∃ (h:Z) (nm:List Z),Tel G τ.z h nm (.int τ.b) (oz τ.e)/\nm.all a1g=true/\strB (.int τ.b) (oz τ.e)=true:=by
 obtain⟨k,w,b,e⟩:=τ
 have hk:=ok.k
 have hw:=ok.w
 have hs:=st_b ok.st
 cases w with
 | none=>exact⟨_,[.str k],⟨rfl,.inl ⟨_,rfl⟩,fun z hz=>by rw [List.mem_singleton.mp hz];exact a4j hk,True.intro,b6J⟩,by rw [List.all_cons,nm_b hk];rfl,hs⟩
 | some w=>
  have hw:=hw w rfl
  refine⟨_,[.str k,.str w],⟨rfl,.inr ⟨_,_,rfl⟩,fun z hz=>?_,True.intro,b6J⟩,by rw [List.all_cons,nm_b hk,List.all_cons,nm_b hw];rfl,hs⟩
  simp only [List.mem_cons,List.not_mem_nil,or_false] at hz
  rcases hz with rfl | rfl
  ·exact a4j hk
  ·exact a4j hw
theorem a6q (F:Fns K a) (T:Txt K mg a):FnOk P w K mg base (CXx P w) 5 a.f_Sheet_tell a.d_Sheet_tell ["self","telling"] (a2Z K (a3Y a)):=by
 have G_p_check_telling:=a3V (P:=P) (w:=w) (base:=base) F T
 have G_p_line_behind:=a4K (P:=P) (w:=w) (base:=base) F T
 have G_Sheet_keep_line:=a3X (P:=P) (w:=w) (base:=base) F T
 have G_Sheet_known_line:=a1n (P:=P) (w:=w) (base:=base) F T
 refine fn3x F.Sheet_tell sc_Sheet_tell (fun ws G R EE h=>(by exact a5v h)) (fun cdv A outer s H E ws G R EE hr h ux=>?_)
 have hu:(A.deeper (PyProof.Rows.envOfC "Sheet.tell" (a0c a04) s.heap.objs.size a.f_Sheet_tell cdv)).units+66<cLine:=by have:=hr.un;omega
 refine⟨_,(a0n (a1o (a1L (a1f Outs.of) ux.since G_p_check_telling (hr.mono (by decide)) rfl T.m_p_check_telling T.k_p_check_telling (a4f F) (a0b (a0d (pv 1)) a0k a0a) (he:=a0a) (hpl:=a0l)))
  (a0n (a05 (i:=2) sc_Sheet_tell.nd rfl (Or.inl rfl) (q_ix x_ix (a0d (pv 1)) a0g (fun _ _=>rfl)))
  (a0n (a05 (i:=3) sc_Sheet_tell.nd rfl (Or.inl rfl) (a0Q G_p_line_behind (hr.mono (by decide)) rfl T.m_p_line_behind T.k_p_line_behind (a5d F) (a0b (a5J (a0d (pv 0)) T.cl_Sheet T.mt_Sheet_known_line G_Sheet_known_line (hr.mono (by decide)) (a1u F) (a0b (a0d (pv 2)) (a0b (a6V T.cl_Sheet T.na_last (a0d (pv 0))) a0k a1W) a0a) (hst:=a0a) (hpl:=(a0i a1W a0l))) (a0b (a0d (pv 1)) a0k a0a) a1q) (he:=a1q) (hpl:=(a0i a0a a0l))))
  (a0n (b1Y T.cl_Sheet T.na_last (a0d (pv 0)) a0g b2z)
  (a0n (a1o (a5J (a0d (pv 0)) T.cl_Sheet T.mt_Sheet_keep_line G_Sheet_keep_line (hr.mono (by decide)) (a4g F) (a0b (a0d (pv 2)) (a0b (a0d (pv 3)) a0k a0a) a0a) (hst:=a0a) (hpl:=(a0i a0a a0l))))
  (a0t (a02 (a6V T.cl_Sheet T.na_last (a0d (pv 0)))))))))),?_⟩
 obtain⟨p,S,T,⟨dx,d,kvs,sh⟩,⟨τ,rfl,ok,hT,q⟩ | ⟨z,c,rfl,⟨h,nm,x,y,tel,hb⟩,q⟩⟩:=h
 rotate_left
 ·walk_at "go"
  refine⟨z,h,nm,x,y,rfl,tel,fun G1 s1=>?_⟩
  have q':=q G1 s1
  rcases hb with ⟨e1,rfl⟩ | ⟨e1,e2,rfl⟩
  ·rw [e1]
   exact ifF q'
  ·rw [e1,e2]
   exact ifT (ifF q')
 walk_at "go"
 obtain⟨th,tn,tel,ta,ts⟩:=ok.tel (G:=G)
 refine⟨_,_,_,_,_,rfl,tel,fun G1 s1=>?_⟩
 rw [ta,ts]
 refine ifT (ifT ?_)
 have sh1:=sh.keep (Sm.ks s1)
 obtain⟨ws,ez,ek⟩:=@b6I τ
 walk_at "go"
 rw [ez]
 refine a3H ek ?_
 rw [<- ez]
 walk_at "go"
 refine⟨p,dx,_,rfl,sh1.ob,a2T (by decide +kernel) (by decide +kernel),?_⟩
 walk_at "go"
 refine⟨p,dx,_,_,rfl,sh1.ob,a3w,?_⟩
 walk_at "go"
 refine⟨p,S,T,τ.key,_,_,dx,d,kvs,rfl,sh1.v,by omega,by omega,by omega,fun t L G2 ht s2 gt il=>?_⟩
 rw [show ((T.length:Int)).toNat=T.length by omega,List.take_length] at il
 have sh2:=sh1.keep (Sm.ks s2)
 walk_at "go"
 have hll:=il.len
 refine⟨t,L,τ,rfl,gt,il.can.rise,il.pl,by omega,ok,fun u G3 hu s3 gu=>?_⟩
 have sh3:=sh2.keep (Sm.ks s3)
 have S13:=(s1.trans s2).trans s3
 have hu0:G u=none:=(s1.trans s2).free hu
 have nu:¬ S u:=fun z=>by obtain⟨o,e⟩:=sh.al u z;rw [hu0] at e;cases e
 walk_at "go"
 refine⟨p,dx,_,_,rfl,sh3.ob,a3w,?_⟩
 walk_at "go"
 refine⟨dx,_,sh3.ob,by show 2<1000;decide,?_⟩
 rw [b37]
 have hup:u≠p:=fun z=>nu (z▸sh.sp)
 have sh4:ShM a.c_Sheet (put G3 p (.ins a.c_Sheet dx (shF ((T.length:Int)+1) d))) p S T ((T.length:Int)+1) dx d kvs:=by
  have kp:∀ b o,b≠p->G3 b=some o->put G3 p (.ins a.c_Sheet dx (shF ((T.length:Int)+1) d)) b=some o:=fun b o nb e=>by rw [a07 nb];exact e
  refine⟨a0f,sh3.sp,sh3.sd,kp _ _ (fun z=>by have e:=sh3.dc;rw [z,sh3.ob] at e;cases e) sh3.dc,sh3.len,sh3.no,fun k z e=>?_,sh3.inj,(fun b hb=>?_),sh3.nd,sh3.sk⟩
  ·obtain⟨h,es,ez,H⟩:=sh3.hs k z e
   refine⟨h,es,ez,H.s,kp _ _ (fun z=>by have e:=H.at_;rw [z,sh3.ob] at e;cases e) H.at_,H.ix,H.ne,fun e he=>?_⟩
   obtain⟨s1,L1,g1,i1⟩:=H.ln e he
   exact⟨s1,L1,kp _ _ (fun z=>by rw [z,sh3.ob] at g1;cases g1) g1,i1⟩
  ·by_cases c:b=p
   ·rw [c];exact⟨_,a0f⟩
   ·obtain⟨o,e⟩:=sh3.al b hb
    exact⟨o,kp b o c e⟩
 have gu4:put G3 p (.ins a.c_Sheet dx (shF ((T.length:Int)+1) d)) u=some (.lst ((a6j L τ.b τ.e (optW τ.v)).map Rw.z)):=by rw [a07 hup];exact gu
 have kn4:KN S G (put G3 p (.ins a.c_Sheet dx (shF ((T.length:Int)+1) d))):=fun b o nb e=>by rw [a07 (show b≠p from fun z=>nb (by rw [z];exact sh.sp))];exact S13 _ _ e
 have nn4:∀ b,put G3 p (.ins a.c_Sheet dx (shF ((T.length:Int)+1) d)) b=none->G b=none:=fun b e=>by
  by_cases c:b=p
  ·rw [c,a0f] at e;cases e
  ·rw [a07 c] at e;exact S13.free e
 generalize put G3 p (.ins a.c_Sheet dx (shF ((T.length:Int)+1) d))=G4 at sh4 gu4 kn4 nn4 ⊢
 walk_at "go"
 refine⟨p,dx,_,rfl,sh4.ob,a2T (by decide +kernel) (by decide +kernel),?_⟩
 walk_at "go"
 refine⟨p,S,T,τ,u,_,dx,d,kvs,rfl,sh4,gu4,nu,il.snoc ok,by omega,fun S' G5 i1 i2 kn5 sh5=>?_⟩
 have sh5':=sh5
 obtain⟨dx5,d5,kvs5,m5⟩:=sh5'
 walk_at "go"
 refine⟨p,dx5,_,_,rfl,m5.ob,a3w,?_⟩
 have e:(((T++[τ]).length:Nat):Int)=(T.length:Int)+1:=by simp
 rw [e]
 refine q S' G5 i1 (fun b hb=>?_) (kn4.trans kn5) sh5
 rcases i2 b hb with h | h | h
 ·exact .inl h
 ·rw [h];exact .inr hu0
 ·exact .inr (nn4 b h)
theorem a0U (a b:Str):(a++b).cps.toList=a.cps.toList++b.cps.toList:=by
 show (a.cps++b.cps).toList=_
 rw [Array.toList_append]
theorem b8o {s:Str} {p:Nat} (h:p≤s.cps.toList.length):(Txt.slice s none (some (p:Int))).cps.toList=s.cps.toList.take p:=by
 have:=eq_of_beq (PyProof.Rows.slice_closes_to (x:=s) (j:=(p:Int)) ⟨by omega,by omega⟩)
 rw [this]
 simp
theorem a70 {s:Str} {p:Nat} (h:p≤s.cps.toList.length):(Txt.slice s (some (p:Int)) none).cps.toList=s.cps.toList.drop p:=by
 have:=PyProof.Rows.slice_from_eq (x:=s) (i:=(p:Int)) (b:=(s.length:Int)) (by omega) (by rw [a2o];omega) rfl
 rw [this,a2o,List.take_of_length_le (by rw [List.length_drop];omega)]
 simp
theorem a7k {a b:Str} (ha:PyData.strOk a=true) (hb:PyData.strOk b=true):PyData.strOk (a++b)=true:=by
 unfold PyData.strOk at *
 show (a.cps++b.cps).all _=true
 rw [Array.all_append,ha,hb];rfl
theorem a71 {a:Str} (ha:PyData.strOk a=true) (lo hi:Option Int):PyData.strOk (Txt.slice a lo hi)=true:=by
 unfold Txt.slice
 split
 ·exact ha
 ·unfold PyData.strOk at *
  rw [Array.all_eq_true_iff_forall_mem] at *
  intro c hc
  obtain⟨j,_,hj⟩:=List.mem_filterMap.mp (by simpa using hc)
  exact ha c (Array.mem_of_getElem? hj)
theorem b01 (a b:Str):(a++b).length=a.length+b.length:=Array.size_append
theorem b02 {ns:List Str} {k:Int} (h0:0≤k) (h1:k<ns.length):∃ s,atI (ns.map Z.str) k=some (.str s)/\s∈ns:=by
 obtain⟨j,rfl⟩:=Int.eq_ofNat_of_zero_le h0
 have hj:j<ns.length:=by omega
 exact⟨ns[j],a1P (by rw [List.getElem?_map,List.getElem?_eq_getElem hj];rfl),List.getElem_mem hj⟩
theorem b03 {s:Str} (h:nmOk s):s.length≤sizeLine:=a2L (by rw [a2o];have:=h.2.1;omega)
theorem a4n:(10:Int) ^ (12:Int).toNat=1000000000000:=by decide
theorem b2j:(Str.ofString "abcdefghijklmnopqrstuvwxyz").cps.toList=[97,98,99,100,101,102,103,104,105,106,107,108,109,110,111,112,113,114,115,116,117,118,119,120,121,122]:=by decide +kernel
theorem a8H {k:Int} (h0:0≤k) (h1:k<26):atI (Str.ofString "abcdefghijklmnopqrstuvwxyz").cps.toList k=some (97+k.toNat):=by
 obtain⟨j,rfl⟩:=Int.eq_ofNat_of_zero_le h0
 have hj:j<26:=by omega
 refine a1P ?_
 rw [b2j]
 have:∀ j:Fin 26,([97,98,99,100,101,102,103,104,105,106,107,108,109,110,111,112,113,114,115,116,117,118,119,120,121,122]:List Nat)[j.1]?=some (97+j.1):=by decide
 exact this ⟨j,hj⟩
theorem b8p:∀ cs:List Nat,(Txt.join (Str.ofString "") (cs.map fun c=>(⟨#[c]⟩:Str))).cps.toList=cs:=by
 intro cs
 rw [show Txt.join (Str.ofString "") (cs.map fun c=>(⟨#[c]⟩:Str))=Str.join (Str.ofString "") (cs.map fun c=>(⟨#[c]⟩:Str)) from StrLaws.glued_eq_join _ _,show Str.ofString ""=Str.empty by decide +kernel]
 induction cs with
 | nil=>rfl
 | cons c cs ih=>
  cases cs with
  | nil=>rfl
  | cons d cs=>
   show ((⟨#[c]⟩:Str)++Str.empty++Str.join Str.empty ((d::cs).map fun c=>(⟨#[c]⟩:Str))).cps.toList=_
   rw [a0U,a0U,ih]
   rfl
theorem a9g (cs:List Nat) (h:cs.length≤100):((cs.map fun c=>(⟨#[c]⟩:Str)).map (·.length)).sum+(cs.map fun c=>(⟨#[c]⟩:Str)).length*(Str.ofString "").length≤16777216:=by
 have e:((cs.map fun c=>(⟨#[c]⟩:Str)).map (·.length)).sum=cs.length:=by
  clear h
  induction cs with
  | nil=>rfl
  | cons c cs ih=>
   rw [List.map_cons,List.map_cons,List.sum_cons,ih,List.length_cons]
   show 1+cs.length=_
   omega
 rw [e,show Str.ofString ""=Str.empty by decide +kernel,show Str.empty.length=0 from rfl]
 omega
def a5S:P3:=fun ws G R=>∃ c k:Int,ws=[.int c,.int k]/\0≤k/\k≤1000/\∀ r:Int,0≤r->r<1000000007->R (.int r) G
theorem a72 {ws:List Z} {G:Hq} {R:K3} (h:a5S ws G R):ws.length=2:=by obtain⟨_,_,rfl,_⟩:=h;rfl
theorem mM (x:Int):0≤x % 1073676287/\x % 1073676287<1073676287:=⟨Int.emod_nonneg _ (by decide),Int.emod_lt_of_pos _ (by decide)⟩
theorem mP (x:Int):0≤x % 1000000007/\x % 1000000007<1000000007:=⟨Int.emod_nonneg _ (by decide),Int.emod_lt_of_pos _ (by decide)⟩
theorem a3d (F:Fns K a) (T:Txt K mg a):FnOk P w K mg base CX0 1 a.f_tumbled a.d_tumbled ["cell","k"] (lowP K a5S):=by
 refine fn3 F.tumbled sc_tumbled (fun ws G R h=>(by exact a72 h)) (fun cdv A outer s H E ws G R hr h=>?_)
 have hu:(A.deeper (PyProof.Rows.envOfC "_law_tumbled" (a0c a1C) s.heap.objs.size a.f_tumbled cdv)).units+66<cLine:=by have:=hr.un;omega
 refine⟨_,(a0n (a05 (i:=2) sc_tumbled.nd rfl (Or.inl rfl) (q_op a1k (q_op a1r (q_op a1k (a0d (pv 0)) a0g) (q_op a7B a0g (q_op a1r (a0d (pv 1)) a0g))) a0g))
  (a0n (a05 (i:=2) sc_tumbled.nd rfl (Or.inl rfl) (q_op a1r (q_op a1k (q_op a7B (a0d (pv 2)) (a0d (pv 2))) a0g) (q_op a7B a0g (a0d (pv 1)))))
  (a0t (a02 (q_op a1k (q_op a7B (a0d (pv 2)) (q_op a1r (a0d (pv 2)) a0g)) a0g))))),?_⟩
 obtain⟨c,k,rfl,h0,h1,q⟩:=h
 walk_at "go"
 refine i_I (show (0:Int)<1073676287 by decide) ?_
 walk_at "go"
 refine i_I (.inr ⟨by omega,by omega⟩) ?_
 walk_at "go"
 refine i_I (show (0:Int)<1073676287 by decide) ?_
 walk_at "go"
 have b1:=mM (c % 1073676287+39916801*(k+1))
 generalize (c % 1073676287+39916801*(k+1)) % 1073676287=u at b1 ⊢
 refine i_I (.inl ⟨by omega,by omega⟩) ?_
 walk_at "go"
 refine i_I (show (0:Int)<1073676287 by decide) ?_
 walk_at "go"
 have b2:=mM (u*u)
 generalize u*u % 1073676287=v at b2 ⊢
 refine i_I (.inr ⟨by omega,by omega⟩) ?_
 walk_at "go"
 refine i_I (.inl ⟨by omega,by omega⟩) ?_
 walk_at "go"
 refine i_I (show (0:Int)<1000000007 by decide) ?_
 exact q _ (mP _).1 (mP _).2
theorem b2k {c:Nat} (h:isL c):a85 (Str.ofString "abcdefghijklmnopqrstuvwxyz") ⟨#[c]⟩=(c:Int) - 97:=by
 have:∀ j:Fin 26,a85 (Str.ofString "abcdefghijklmnopqrstuvwxyz") ⟨#[97+j.1]⟩=(j.1:Int):=by decide +kernel
 obtain⟨h1,h2⟩:=h
 have e:=this ⟨c - 97,by omega⟩
 have hc:97+(c - 97)=c:=by omega
 simp only [hc] at e
 rw [e];omega
theorem a7l:∀ {l:List Nat} {a b:Nat},l++[a]=b::l->a=b
 | [],a,b,h=>by simpa using h
 | x::l,a,b,h=>by
  rw [List.cons_append] at h
  injection h with h1 h2
  rw [a7l h2,h1]
def a8I:P3:=fun ws G R=>∃ c:Int,ws=[.int c]/\∀ (t:Addr) (ns:List Str) (G':Hq),G t=none->Sm G G'->G' t=some (.lst (ns.map Z.str))->ns.length=4->(∀ s∈ns,nmOk s)->ns.Nodup->R (.ref t) G'
theorem b04 {ws:List Z} {G:Hq} {R:K3} (h:a8I ws G R):ws.length=1:=by obtain⟨_,rfl,_⟩:=h;rfl
theorem b2l (F:Fns K a) (T:Txt K mg a):FnOk P w K mg base CX0 2 a.f_words a.d_words ["cell"] (lowP K a8I):=by
 have G_tumbled:=a3d (P:=P) (w:=w) (base:=base) F T
 refine fn3 F.words sc_words (fun ws G R h=>(by exact b04 h)) (fun cdv A outer s H E ws G R hr h=>?_)
 have hu:(A.deeper (PyProof.Rows.envOfC "_law_words" (a0c a14) s.heap.objs.size a.f_words cdv)).units+66<cLine:=by have:=hr.un;omega
 refine⟨_,(a0n (a05 (i:=1) sc_words.nd rfl (Or.inr rfl) a1Q)
  (a0n (a05 (i:=2) sc_words.nd rfl (Or.inl rfl) (q_bm PySem.F.plainAttrs_str PySem.F.slot_str_join PySem.F.type_str_join b5v a1Q (a0b (q_lc (N₀:=["cell","letters","word","at","first","last","moved"]) (so:=a0c a14) (N':=["k","letters","cell"]) (cap:=[none,some 1,some 0]) (pt:=(.nm 0)) rfl rfl rfl (by decide +kernel) rfl (a2n rfl T.b_range (a0b (q_op a1r a0g (q_op a1k (a0Q G_tumbled (hr.mono (by decide)) rfl T.m_tumbled T.k_tumbled (a0Z F) (a0b (a0d (pv 0)) (a0b a0g a0k a0e) a0a) (he:=a0a) (hpl:=(a0i a0e a0l))) a0g)) a0k a0K)) (fun _ _ _ _=>(show QP _ _ (.nm 0) from (a0A (i:=0) (show List.Nodup (α:=Str) ["k","letters","cell"] from by decide +kernel) rfl (Or.inl rfl)))) (fun _ _ _ _=>a2Y) (fun _ _ _ _=>(q_ix x_ix (a0d (pv 1)) (q_op a1k (a0Q G_tumbled (hr.mono (by decide)) rfl T.m_tumbled T.k_tumbled (a0Z F) (a0b (a0d (pv 2)) (a0b (a0d (pv 0)) a0k a0a) a0a) (he:=a0a) (hpl:=(a0i a0a a0l))) a0g) (fun _ _=>rfl)))) a0k a1I)))
  (a0n (a05 (i:=3) sc_words.nd rfl (Or.inl rfl) (q_op a1k (a0Q G_tumbled (hr.mono (by decide)) rfl T.m_tumbled T.k_tumbled (a0Z F) (a0b (a0d (pv 0)) (a0b a0g a0k a0e) a0a) (he:=a0a) (hpl:=(a0i a0e a0l))) (a01 b_len rfl T.b_len PySem.boot_len (a0b (a0d (pv 2)) a0k a0a) (he:=a0a) (hpl:=a0l))))
  (a0n (a05 (i:=4) sc_words.nd rfl (Or.inl rfl) (q_op a1k (a0Q G_tumbled (hr.mono (by decide)) rfl T.m_tumbled T.k_tumbled (a0Z F) (a0b (a0d (pv 0)) (a0b a0g a0k a0e) a0a) (he:=a0a) (hpl:=(a0i a0e a0l))) a0g))
  (a0n (a05 (i:=5) sc_words.nd rfl (Or.inl rfl) (q_ix x_ix (a0d (pv 1)) (q_op a1k (q_op a1r (q_op a1r (a0d (pv 4)) a0g) (q_op a1k (a0Q G_tumbled (hr.mono (by decide)) rfl T.m_tumbled T.k_tumbled (a0Z F) (a0b (a0d (pv 0)) (a0b a0g a0k a0e) a0a) (he:=a0a) (hpl:=(a0i a0e a0l))) a0g)) a0g) (fun _ _=>rfl)))
  (a0n (a05 (i:=6) sc_words.nd rfl (Or.inl rfl) (q_ix x_ix (a0d (pv 1)) (q_op a1k (q_op a1r (q_op a1r (q_bm PySem.F.plainAttrs_str PySem.F.slot_str_find PySem.F.type_str_find b54 (a0d (pv 1)) (a0b (q_ix x_ix (a0d (pv 2)) (a0d (pv 3)) (fun _ _=>rfl)) a0k a0m)) a0g) (q_op a1k (a0Q G_tumbled (hr.mono (by decide)) rfl T.m_tumbled T.k_tumbled (a0Z F) (a0b (a0d (pv 0)) (a0b a0g a0k a0e) a0a) (he:=a0a) (hpl:=(a0i a0e a0l))) a0g)) a0g) (fun _ _=>rfl)))
  (a0t (a02 (a1X (a0b (a0d (pv 2)) (a0b (q_op a1r (a0d (pv 2)) (a0d (pv 5))) (a0b (q_op a1r (q_ix x_ix (a0d (pv 1)) (a0d (pv 4)) (fun _ _=>rfl)) (a0d (pv 2))) (a0b (q_op a1r (q_op a1r (a2X x_sl (a0d (pv 2)) a26 (a3j (a0d (pv 3)))) (a0d (pv 6))) (a2X x_sl (a0d (pv 2)) (a3j (q_op a1r (a0d (pv 3)) a0g)) a26)) a0k a0K) a0K) a0K) a0a)))))))))),?_⟩
 obtain⟨c,rfl,q⟩:=h
 walk_at "go"
 refine⟨c,7,rfl,by decide,by decide,fun r r0 r1=>?_⟩
 walk_at "go"
 refine i_I (show (0:Int)<7 by decide) ?_
 walk_at "go"
 have hn:1≤1+r % 7/\1+r % 7≤7:=by omega
 generalize 1+r % 7=n at hn ⊢
 refine⟨by omega,by omega,?_⟩
 intro D hD
 refine a56 (fun i ys G'=>∃ cs:List Nat,cs.length=i/\(∀ c∈cs,isL c)/\ys=cs.map (fun c=>Z.str ⟨#[c]⟩)/\G'=put G D (.lst ys)) ⟨[],rfl,fun c h=>by simp at h,rfl,rfl⟩ (by rintro _ _ _ _ _;exact True.intro) ?_ ?_
 ·rintro i x ys G' hx ⟨cs,hl,hc,rfl,rfl⟩
  obtain⟨hi,rfl⟩:=a3q hx
  refine⟨_,rfl,?_⟩
  walk_at "go"
  refine⟨c,_,rfl,by omega,by omega,fun f f0 f1=>?_⟩
  walk_at "go"
  refine i_I (show (0:Int)<26 by decide) ?_
  walk_at "go"
  refine b0j (lenK rfl) (a8H (by omega) (by omega)) ?_
  refine⟨a0f,by rw [List.length_map];exact a0P (by omega),cs++[97+(f % 26).toNat],by simp [hl],fun d hd=>?_,by rw [List.map_append];rfl,by rw [a2y]⟩
  rcases List.mem_append.mp hd with hd | hd
  ·exact hc d hd
  ·rw [List.mem_singleton.mp hd];unfold isL;omega
 ·rintro ys G' ⟨cs,hl,hc,rfl,rfl⟩
  rw [a12] at hl
  walk_at "go"
  refine b5T (ys:=cs.map fun c=>(⟨#[c]⟩:Str)) (by rw [a0f,List.map_map];rfl) (a9g cs (by omega)) ?_
  have el:=b8p cs
  generalize Txt.join (Str.ofString "") (cs.map fun c=>(⟨#[c]⟩:Str))=s at el ⊢
  have ls:s.cps.toList.length=cs.length:=by rw [el]
  have ws:nmOk s:=⟨by omega,by omega,fun d hd=>by rw [el] at hd;exact hc d hd⟩
  have w7:s.cps.toList.length≤7:=by omega
  walk_at "go"
  refine⟨c,8,rfl,by decide,by decide,fun f f0 f1=>?_⟩
  walk_at "go"
  refine b0k (b03 ws) ?_
  walk_at "go"
  refine i_I (show (0:Int)<(s.length:Int) by rw [a2o];omega) ?_
  walk_at "go"
  have ha:0≤f % (s.length:Int)/\f % (s.length:Int)<(s.length:Int):=⟨Int.emod_nonneg _ (by rw [a2o];omega),Int.emod_lt_of_pos _ (by rw [a2o];omega)⟩
  generalize f % (s.length:Int)=at' at ha ⊢
  obtain⟨p,rfl⟩:=Int.eq_ofNat_of_zero_le ha.1
  have hp:p<s.cps.toList.length:=by rw [<- a2o];omega
  refine⟨c,9,rfl,by decide,by decide,fun f2 f20 f21=>?_⟩
  walk_at "go"
  refine i_I (show (0:Int)<26 by decide) ?_
  walk_at "go"
  refine⟨c,10,rfl,by decide,by decide,fun f3 f30 f31=>?_⟩
  walk_at "go"
  refine i_I (show (0:Int)<25 by decide) ?_
  walk_at "go"
  refine i_I (show (0:Int)<26 by decide) ?_
  walk_at "go"
  refine b0j (lenK rfl) (a8H (by omega) (by omega)) ?_
  walk_at "go"
  refine b0j (b03 ws) (a1P (List.getElem?_eq_getElem hp)) ?_
  walk_at "go"
  have hfd:=b2k (ws.2.2 _ (List.getElem_mem hp))
  have lsp:=ws.2.2 _ (List.getElem_mem hp)
  generalize a85 (Str.ofString "abcdefghijklmnopqrstuvwxyz") ⟨#[s.cps.toList[p]]⟩=fd at hfd ⊢
  refine⟨c,11,rfl,by decide,by decide,fun f4 f40 f41=>?_⟩
  walk_at "go"
  refine i_I (show (0:Int)<25 by decide) ?_
  walk_at "go"
  refine i_I (show (0:Int)<26 by decide) ?_
  walk_at "go"
  refine b0j (lenK rfl) (a8H (by omega) (by omega)) ?_
  have one:∀ k:Nat,k<26->nmOk (⟨#[97+k]⟩:Str):=fun k hk=>⟨by simp,by simp,fun d hd=>by
   have:d=97+k:=by simpa using hd
   unfold isL;omega⟩
  have app:∀ {x y:Str},nmOk x->(∀ d∈y.cps.toList,isL d)->x.cps.toList.length+y.cps.toList.length≤8->nmOk (x++y):=fun {x y} hx hy hl=>⟨by rw [a0U,List.length_append];have:=hx.1;omega,by rw [a0U,List.length_append];exact hl,fun d hd=>by
   rw [a0U] at hd
   rcases List.mem_append.mp hd with hd | hd
   ·exact hx.2.2 d hd
   ·exact hy d hd⟩
  have k1:((f2 % 26+1+f3 % 25) % 26).toNat<26:=by omega
  have k2:(f2 % 26).toNat<26:=by omega
  have k3:((fd+1+f4 % 25) % 26).toNat<26:=by omega
  have o1:=one _ k1
  have o2:=one _ k2
  have o3:=one _ k3
  have d3:97+((fd+1+f4 % 25) % 26).toNat≠s.cps.toList[p]:=by unfold isL at lsp;omega
  have d1:97+((f2 % 26+1+f3 % 25) % 26).toNat≠97+(f2 % 26).toNat:=by omega
  have lone:∀ k:Nat,(⟨#[k]⟩:Str).length=1:=fun _=>rfl
  have ltwo:∀ k:Nat,(⟨#[k]⟩:Str).cps.toList.length=1:=fun _=>rfl
  generalize 97+((fd+1+f4 % 25) % 26).toNat=m3 at o3 d3 ⊢
  walk_at "go"
  generalize 97+((f2 % 26+1+f3 % 25) % 26).toNat=m1 at o1 d1 ⊢
  refine a5H (a2L (by rw [a2o,lone];omega)) ?_
  walk_at "go"
  refine b0j (lenK rfl) (a8H (by omega) (by omega)) ?_
  generalize 97+(f2 % 26).toNat=m2 at o2 d1 ⊢
  walk_at "go"
  refine a5H (a2L (by rw [a2o s,lone];omega)) ?_
  walk_at "go"
  refine b3y (b03 ws) ?_
  have e1:=b8o (s:=s) (p:=p) (by omega)
  have e2:=a70 (s:=s) (p:=p+1) (by omega)
  walk_at "go"
  refine a5H (a2L (by rw [a2o,e1,List.length_take,lone];omega)) ?_
  walk_at "go"
  refine b3y (b03 ws) ?_
  rw [show ((p:Int)+1)=((p+1:Nat):Int) by omega]
  walk_at "go"
  refine a5H (a2L (by rw [a2o,a0U,List.length_append,e1,a2o,e2,List.length_take,List.length_drop,ltwo];omega)) ?_
  walk_at "go"
  refine⟨lenK rfl,fun t ht=>?_⟩
  refine q t [s,s++⟨#[m1]⟩,(⟨#[m2]⟩:Str)++s,Txt.slice s none (some (p:Int))++⟨#[m3]⟩++Txt.slice s (some ((p+1:Nat):Int)) none] _ ((Sm.new hD).free ht) ((Sm.new hD).trans (Sm.new ht)) a0f rfl (fun w hw=>?_) ?_
  rotate_left
  ·have ne:∀ {x y:Str},x.cps.toList≠y.cps.toList->x≠y:=fun h z=>h (by rw [z])
   have e3:(Txt.slice s none (some (p:Int))++⟨#[m3]⟩++Txt.slice s (some ((p+1:Nat):Int)) none).cps.toList=s.cps.toList.take p++[m3]++s.cps.toList.drop (p+1):=by rw [a0U,a0U,e1,e2]
   have l3:(s.cps.toList.take p++[m3]++s.cps.toList.drop (p+1)).length=s.cps.toList.length:=by rw [List.length_append,List.length_append,List.length_take,List.length_drop];simp only [List.length_cons,List.length_nil];omega
   have n13:s.cps.toList++[m1]≠m2::s.cps.toList:=fun z=>d1 (a7l z)
   have n3:s.cps.toList≠s.cps.toList.take p++[m3]++s.cps.toList.drop (p+1):=fun z=>d3 (by
    have h1:s.cps.toList[p]?=some m3:=by
     have hm:(s.cps.toList.take p).length=p:=by rw [List.length_take];omega
     have h2:(s.cps.toList.take p++[m3]++s.cps.toList.drop (p+1))[p]?=some m3:=by
      rw [List.append_assoc,List.getElem?_append_right (by omega),hm,Nat.sub_self];rfl
     exact (congrArg (·[p]?) z).trans h2
    rw [List.getElem?_eq_getElem hp] at h1
    injection h1 with h1
    exact h1.symm)
   refine List.nodup_cons.mpr ⟨?_,List.nodup_cons.mpr ⟨?_,List.nodup_cons.mpr ⟨?_,List.nodup_cons.mpr ⟨by simp,.nil⟩⟩⟩⟩
   ·simp only [List.mem_cons,List.not_mem_nil,or_false,not_or]
    refine⟨ne ?_,ne ?_,ne ?_⟩
    ·rw [a0U];exact fun z=>absurd (congrArg List.length z) (by rw [List.length_append,ltwo];omega)
    ·rw [a0U];exact fun z=>absurd (congrArg List.length z) (by rw [List.length_append,ltwo];omega)
    ·rw [e3];exact n3
   ·simp only [List.mem_cons,List.not_mem_nil,or_false,not_or]
    refine⟨ne ?_,ne ?_⟩
    ·rw [a0U,a0U];exact n13
    ·rw [a0U,e3];exact fun z=>absurd (congrArg List.length z) (by rw [l3,List.length_append,ltwo];omega)
   ·simp only [List.mem_cons,List.not_mem_nil,or_false]
    refine ne ?_
    rw [a0U,e3];exact fun z=>absurd (congrArg List.length z) (by rw [l3,List.length_append,ltwo];omega)
  simp only [List.mem_cons,List.not_mem_nil,or_false] at hw
  rcases hw with rfl | rfl | rfl | rfl
  ·exact ws
  ·exact app ws o1.2.2 (by rw [ltwo];omega)
  ·exact app o2 ws.2.2 (by rw [ltwo];omega)
  ·refine⟨by rw [a0U,a0U,List.length_append,List.length_append,ltwo];omega,by rw [a0U,a0U,List.length_append,List.length_append,ltwo,e1,e2,List.length_take,List.length_drop];omega,fun d hd=>?_⟩
   rw [a0U,a0U,e1,e2] at hd
   rcases List.mem_append.mp hd with hd | hd
   ·rcases List.mem_append.mp hd with hd | hd
    ·exact ws.2.2 d (List.mem_of_mem_take hd)
    ·exact o3.2.2 d hd
   ·exact ws.2.2 d (List.mem_of_mem_drop hd)
theorem a4y {ns:List Str} {k:Int} (h:∀ s∈ns,nmOk s) (h0:0≤k) (h1:k<(ns.length:Int)):∃ s,atI (ns.map Z.str) k=some (.str s)/\s∈ns/\nmOk s:=by
 obtain⟨j,rfl⟩:=Int.eq_ofNat_of_zero_le h0
 have hj:j<ns.length:=by omega
 exact⟨ns[j],a1P (by rw [List.getElem?_map,List.getElem?_eq_getElem hj];rfl),List.getElem_mem hj,h _ (List.getElem_mem hj)⟩
def a5T:P3:=fun ws G R=>∃ c:Int,ws=[.int c]/\∀ (b:Int) (e:Option Int) (G':Hq),Sm G G'->stOk b e->R (.tup [.int b,oz e]) G'
theorem a73 {ws:List Z} {G:Hq} {R:K3} (h:a5T ws G R):ws.length=1:=by obtain⟨_,rfl,_⟩:=h;rfl
theorem a9h (F:Fns K a) (T:Txt K mg a):FnOk P w K mg base CX0 2 a.f_stretch a.d_stretch ["cell"] (lowP K a5T):=by
 have G_tumbled:=a3d (P:=P) (w:=w) (base:=base) F T
 refine fn3 F.stretch sc_stretch (fun ws G R h=>(by exact a73 h)) (fun cdv A outer s H E ws G R hr h=>?_)
 have hu:(A.deeper (PyProof.Rows.envOfC "_law_stretch" (a0c a1D) s.heap.objs.size a.f_stretch cdv)).units+66<cLine:=by have:=hr.un;omega
 refine⟨_,(a0n (a05 (i:=1) sc_stretch.nd rfl (Or.inl rfl) (q_op a1k (a0Q G_tumbled (hr.mono (by decide)) rfl T.m_tumbled T.k_tumbled (a0Z F) (a0b (a0d (pv 0)) (a0b a0g a0k a0e) a0a) (he:=a0a) (hpl:=(a0i a0e a0l))) a0g))
  (a0n (a05 (i:=2) sc_stretch.nd rfl (Or.inl rfl) (q_op a1k (a0Q G_tumbled (hr.mono (by decide)) rfl T.m_tumbled T.k_tumbled (a0Z F) (a0b (a0d (pv 0)) (a0b a0g a0k a0e) a0a) (he:=a0a) (hpl:=(a0i a0e a0l))) a0g))
  (a7y (z_if (a0J (o_eq hu) (a0d (pv 1)) a0g (a0z _))
  (a0t (a05 (i:=2) sc_stretch.nd rfl (Or.inl rfl) (q_op a1k (q_op a7B (a0Q G_tumbled (hr.mono (by decide)) rfl T.m_tumbled T.k_tumbled (a0Z F) (a0b (a0d (pv 0)) (a0b a0g a0k a0e) a0a) (he:=a0a) (hpl:=(a0i a0e a0l))) a0g) (q_op a1r (q_op a3G a0g a0g) a0g))))
  a1J)
  (a7y (z_if (a0J (o_eq hu) (a0d (pv 1)) a0g (a0z _))
  (a0t (a05 (i:=2) sc_stretch.nd rfl (Or.inl rfl) (q_ix x_ix (a1X (a0b (q_op a3G a0g a0g) (a0b (q_op a82 (q_op a3G a0g a0g) a0g) (a0b a0g (a0b (q_op a82 (q_op a3G a0g a0g) a0g) a0k a0K) a0e) a0K) a0K)) (q_op a1k (a0d (pv 2)) a0g) (fun _ _=>rfl))))
  a1J)
  (a0n (z_if (QW.qt (q_or (a0J (o_eq hu) (q_op a1k (a0Q G_tumbled (hr.mono (by decide)) rfl T.m_tumbled T.k_tumbled (a0Z F) (a0b (a0d (pv 0)) (a0b a0g a0k a0e) a0a) (he:=a0a) (hpl:=(a0i a0e a0l))) a0g) a0g (a0z _)) (a53 (a0J (o_eq hu) (a0d (pv 2)) (q_op a3G a0g a0g) (a0z _)))))
  (a0t (a02 (a2m (a0b (a0d (pv 2)) (a0b a35 a0k a0e) a0a))))
  a1J)
  (a0n (z_if (a0J (o_eq hu) (q_op a1k (a0Q G_tumbled (hr.mono (by decide)) rfl T.m_tumbled T.k_tumbled (a0Z F) (a0b (a0d (pv 0)) (a0b a0g a0k a0e) a0a) (he:=a0a) (hpl:=(a0i a0e a0l))) a0g) a0g (a0z _))
  (a0t (a02 (a2m (a0b (a0d (pv 2)) (a0b (q_op a1r (q_op a1r (a0d (pv 2)) a0g) (q_op a1k (q_op a7B (a0Q G_tumbled (hr.mono (by decide)) rfl T.m_tumbled T.k_tumbled (a0Z F) (a0b (a0d (pv 0)) (a0b a0g a0k a0e) a0a) (he:=a0a) (hpl:=(a0i a0e a0l))) a0g) (q_op a82 (q_op a3G a0g a0g) (a0d (pv 2))))) a0k a0K) a0a))))
  a1J)
  (a0t (a02 (a2m (a0b (a0d (pv 2)) (a0b (a01 (b_min rfl) rfl T.b_min rfl (a0b (q_op a3G a0g a0g) (a0b (q_op a1r (q_op a1r (a0d (pv 2)) a0g) (q_op a1k (a0Q G_tumbled (hr.mono (by decide)) rfl T.m_tumbled T.k_tumbled (a0Z F) (a0b (a0d (pv 0)) (a0b a0g a0k a0e) a0a) (he:=a0a) (hpl:=(a0i a0e a0l))) a0g)) a0k a0K) a0K) (he:=a0K) (hpl:=(a0i a0K a0l))) a0k a1q) a0a)))))))))),?_⟩
 obtain⟨c,rfl,q⟩:=h
 walk_at "go"
 refine⟨c,20,rfl,by decide,by decide,fun r r0 r1=>?_⟩
 walk_at "go"
 refine i_I (show (0:Int)<8 by decide) ?_
 walk_at "go"
 generalize r % 8=kind
 refine⟨c,21,rfl,by decide,by decide,fun r2 r20 r21=>?_⟩
 walk_at "go"
 refine i_I (show (0:Int)<12 by decide) ?_
 walk_at "go"
 have hb0:0≤r2 % 12/\r2 % 12<12:=by omega
 generalize r2 % 12=b0 at hb0 ⊢
 refine a7E (fun σ' G'=>∃ b:Int,0≤b/\b≤1000000000000/\G'=G/\σ'=[some (.int c),some (.int kind),some (.int b)]) ?_ ?_
 ·walk_at "go"
  refine ifD (fun _=>?_) fun _=>?_
  ·walk_at "go"
   refine⟨c,21,rfl,by decide,by decide,fun r3 r30 r31=>?_⟩
   walk_at "go"
   refine i_I (.inl ⟨by omega,by omega⟩) ?_
   walk_at "go"
   refine i_I ⟨by decide,by decide,by decide⟩ ?_
   rw [a4n]
   walk_at "go"
   refine i_I (show (0:Int)<1000000000000+1 by decide) ?_
   walk_at "go"
   exact⟨_,Int.emod_nonneg _ (by decide),by have:=Int.emod_lt_of_pos (r3*1000) (show (0:Int)<1000000000000+1 by decide);omega,rfl,rfl⟩
  ·walk_at "go"
   exact⟨b0,by omega,by omega,rfl,rfl⟩
 ·rintro σ' G' ⟨b,h0,h1,rfl,rfl⟩
  walk_at "go"
  refine a7E (fun σ' G''=>∃ b:Int,0≤b/\b≤1000000000000/\Sm G' G''/\σ'=[some (.int c),some (.int kind),some (.int b)]) ?_ ?_
  ·walk_at "go"
   refine ifD (fun _=>?_) fun _=>?_
   ·walk_at "go"
    refine i_I ⟨by decide,by decide,by decide⟩ ?_
    rw [a4n]
    walk_at "go"
    refine i_I ⟨by decide,by decide,by decide⟩ ?_
    rw [a4n]
    walk_at "go"
    refine i_I ⟨by decide,by decide,by decide⟩ ?_
    rw [a4n]
    walk_at "go"
    refine⟨lenK rfl,fun u hu=>?_⟩
    walk_at "go"
    refine i_I (show (0:Int)<4 by decide) ?_
    have hk:b % 4=0\/b % 4=1\/b % 4=2\/b % 4=3:=by omega
    obtain⟨b',eb,hb'⟩:∃ b':Int,atI [Z.int 1000000000000,.int (1000000000000 - 1),.int 0,.int (1000000000000 - 7)] (b % 4)=some (.int b')/\0≤b'/\b'≤1000000000000:=by
     rcases hk with e | e | e | e<;>rw [e]
     ·exact⟨_,rfl,by decide,by decide⟩
     ·exact⟨_,rfl,by decide,by decide⟩
     ·exact⟨_,rfl,by decide,by decide⟩
     ·exact⟨_,rfl,by decide,by decide⟩
    refine a1A a0f eb ?_
    walk_at "go"
    exact⟨b',hb'.1,hb'.2,Sm.new hu,rfl⟩
   ·walk_at "go"
    exact⟨b,h0,h1,Sm.refl _,rfl⟩
  ·rintro σ' G'' ⟨b,h0,h1,s1,rfl⟩
   have none_:R (.tup [.int b,.non]) G'':=q b none G'' s1 ⟨h0,h1,fun x hx=>nomatch hx⟩
   walk_at "go"
   refine⟨c,22,rfl,by decide,by decide,fun r3 r30 r31=>?_⟩
   walk_at "go"
   refine i_I (show (0:Int)<5 by decide) ?_
   walk_at "go"
   refine ifD (fun _=>?_) fun _=>?_
   ·walk_at "go"
    exact⟨lenK rfl,none_⟩
   ·walk_at "go"
    refine i_I ⟨by decide,by decide,by decide⟩ ?_
    rw [a4n]
    walk_at "go"
    refine ifD (fun _=>?_) fun hne=>?_
    ·walk_at "go"
     exact⟨lenK rfl,none_⟩
    ·have hlt:b<1000000000000:=by omega
     walk_at "go"
     refine⟨c,22,rfl,by decide,by decide,fun r4 r40 r41=>?_⟩
     walk_at "go"
     refine i_I (show (0:Int)<5 by decide) ?_
     walk_at "go"
     refine ifD (fun _=>?_) fun _=>?_
     ·walk_at "go"
      refine⟨c,23,rfl,by decide,by decide,fun r5 r50 r51=>?_⟩
      walk_at "go"
      refine i_I (.inl ⟨by omega,by omega⟩) ?_
      walk_at "go"
      refine i_I ⟨by decide,by decide,by decide⟩ ?_
      rw [a4n]
      walk_at "go"
      refine i_I (show (0:Int)<1000000000000 - b by omega) ?_
      walk_at "go"
      refine⟨lenK rfl,?_⟩
      have m0:=Int.emod_nonneg (r5*1000) (show (1000000000000 - b:Int)≠0 by omega)
      have m1:=Int.emod_lt_of_pos (r5*1000) (show (0:Int)<1000000000000 - b by omega)
      exact q b (some (b+1+r5*1000 % (1000000000000 - b))) G'' s1 ⟨h0,h1,fun x hx=>by cases hx;unfold T12;omega⟩
     ·walk_at "go"
      refine i_I ⟨by decide,by decide,by decide⟩ ?_
      rw [a4n]
      walk_at "go"
      refine⟨c,23,rfl,by decide,by decide,fun r5 r50 r51=>?_⟩
      walk_at "go"
      refine i_I (show (0:Int)<6 by decide) ?_
      walk_at "go"
      refine⟨lenK rfl,?_⟩
      exact q b (some (if b+1+r5 % 6<1000000000000 then b+1+r5 % 6 else 1000000000000)) G'' s1 ⟨h0,h1,fun x hx=>by cases hx;unfold T12;split<;>omega⟩
def a4z:P3:=fun ws G R=>Ex5 fun (c:Int) (ks wsA:Addr) (kn wn:List Str)=>ws=[.int c,.ref ks,.ref wsA]/\G ks=some (.lst (kn.map Z.str))/\G wsA=some (.lst (wn.map Z.str))/\kn.length=4/\wn.length=4/\(∀ s∈kn,nmOk s)/\(∀ s∈wn,nmOk s) /\
 ∀ τ,Tl.Ok τ->τ.key∈kn->R τ.z G
theorem a6r {ws:List Z} {G:Hq} {R:K3} (h:a4z ws G R):ws.length=3:=by obtain⟨_,_,_,_,_,rfl,_⟩:=h;rfl
theorem a7m (F:Fns K a) (T:Txt K mg a):FnOk P w K mg base CX0 1 a.f_by_digits a.d_by_digits ["cell","keys","worths"] (lowP K a4z):=by
 refine fn3 F.by_digits sc_by_digits (fun ws G R h=>(by exact a6r h)) (fun cdv A outer s H E ws G R hr h=>?_)
 have hu:(A.deeper (PyProof.Rows.envOfC "_law_by_digits" (a0c a1j) s.heap.objs.size a.f_by_digits cdv)).units+66<cLine:=by have:=hr.un;omega
 refine⟨_,(a0n (a05 (i:=3) sc_by_digits.nd rfl (Or.inl rfl) (q_op a1k (q_op a43 (a0d (pv 0)) a0g) (q_op a1r (q_op a3G a0g a0g) a0g)))
  (a0n (a05 (i:=4) sc_by_digits.nd rfl (Or.inl rfl) (q_op a1r (a0d (pv 3)) (q_op a1k (q_op a43 (a0d (pv 0)) a0g) a0g)))
  (a7y (z_if (QW.qt (a6I (a0J (o_eq hu) (a0d (pv 4)) (q_op a1r (a0d (pv 3)) a0g) (a0z _)) (a41 (a0J o_lt (a0d (pv 3)) (q_op a3G a0g a0g) (a0z _)))))
  (a0t (a05 (i:=4) sc_by_digits.nd rfl (Or.inl rfl) (q_op a1r (q_op a1r (a0d (pv 3)) a0g) (q_op a1k (q_op a43 (q_op a43 (a0d (pv 0)) a0g) (q_op a1r (q_op a3G a0g a0g) a0g)) (q_op a82 (q_op a3G a0g a0g) (a0d (pv 3)))))))
  a1J)
  (a7y (z_if (QW.qt (q_or (a0J (o_eq hu) (a0d (pv 4)) (a0d (pv 3)) (a0z _)) (a53 (a0J o_gt (a0d (pv 4)) (q_op a3G a0g a0g) (a0z _)))))
  (a0t (a05 (i:=4) sc_by_digits.nd rfl (Or.inl rfl) a35))
  a1J)
  (a0n (z_if (a0J (o_eq hu) (q_op a1k (q_op a43 (a0d (pv 0)) a0g) a0g) a0g (a0z _))
  (a0t (a02 (a2m (a0b a1Q (a0b (q_ix x_ix (a0d (pv 1)) (q_op a1k (a0d (pv 0)) a0g) (fun _ _=>rfl)) (a0b (a0d (pv 3)) (a0b (a0d (pv 4)) a0k a0a) a0a) a0m) a0e))))
  a1J)
  (a0t (a02 (a2m (a0b a1Q (a0b (q_ix x_ix (a0d (pv 1)) (q_op a1k (a0d (pv 0)) a0g) (fun _ _=>rfl)) (a0b (q_ix x_ix (a0d (pv 2)) (q_op a1k (q_op a43 (a0d (pv 0)) a0g) a0g) (fun _ _=>rfl)) (a0b (a0d (pv 3)) (a0b (a0d (pv 4)) a0k a0a) a0a) a0m) a0m) a0e))))))))),?_⟩
 obtain⟨c,ks,wsA,kn,wn,rfl,gk,gw,lk,lw,hk,hw,q⟩:=h
 walk_at "go"
 refine i_I ⟨by decide,by decide⟩ ?_
 walk_at "go"
 refine i_I ⟨by decide,by decide,by decide⟩ ?_
 rw [a4n]
 walk_at "go"
 refine i_I (show (0:Int)<1000000000000+1 by decide) ?_
 walk_at "go"
 have b0:=Int.emod_nonneg (c / 384) (show (1000000000000+1:Int)≠0 by decide)
 have b1:=Int.emod_lt_of_pos (c / 384) (show (0:Int)<1000000000000+1 by decide)
 generalize c / 384 % (1000000000000+1)=b at b0 b1 ⊢
 refine i_I ⟨by decide,by decide⟩ ?_
 walk_at "go"
 refine i_I (show (0:Int)<8 by decide) ?_
 walk_at "go"
 have e0:0≤c / 48 % 8/\c / 48 % 8<8:=by omega
 generalize c / 48 % 8=d at e0 ⊢
 refine a7E (fun σ' G'=>∃ e:Int,b≤e/\G'=G/\σ'=[some (.int c),some (.ref ks),some (.ref wsA),some (.int b),some (.int e)]) ?_ ?_
 ·walk_at "go"
  refine ifD (fun _=>?_) fun _=>?_
  ·walk_at "go"
   refine i_I ⟨by decide,by decide,by decide⟩ ?_
   rw [a4n]
   walk_at "go"
   refine ifD (fun hlt=>?_) fun _=>?_
   ·walk_at "go"
    refine i_I ⟨by decide,by decide⟩ ?_
    walk_at "go"
    refine i_I ⟨by decide,by decide,by decide⟩ ?_
    rw [a4n]
    walk_at "go"
    refine i_I ⟨by decide,by decide⟩ ?_
    walk_at "go"
    refine i_I ⟨by decide,by decide,by decide⟩ ?_
    rw [a4n]
    walk_at "go"
    refine i_I (show (0:Int)<1000000000000 - b by omega) ?_
    walk_at "go"
    have m0:=Int.emod_nonneg (c / 384 / (1000000000000+1)) (show (1000000000000 - b:Int)≠0 by omega)
    exact⟨_,by omega,rfl,rfl⟩
   ·walk_at "go"
    exact⟨_,by omega,rfl,rfl⟩
  ·walk_at "go"
   exact⟨_,by omega,rfl,rfl⟩
 ·rintro σ' G' ⟨e,he,rfl,rfl⟩
  walk_at "go"
  refine a7E (fun σ' G''=>∃ e:Option Int,stOk b e/\G''=G'/\σ'=[some (.int c),some (.ref ks),some (.ref wsA),some (.int b),some (oz e)]) ?_ ?_
  ·walk_at "go"
   refine ifD (fun _=>?_) fun hne=>?_
   ·walk_at "go"
    exact⟨none,⟨b0,by unfold T12;omega,fun x hx=>nomatch hx⟩,rfl,rfl⟩
   ·walk_at "go"
    refine i_I ⟨by decide,by decide,by decide⟩ ?_
    rw [a4n]
    walk_at "go"
    refine ifD (fun _=>?_) fun hle=>?_
    ·walk_at "go"
     exact⟨none,⟨b0,by unfold T12;omega,fun x hx=>nomatch hx⟩,rfl,rfl⟩
    ·walk_at "go"
     exact⟨some e,⟨b0,by unfold T12;omega,fun x hx=>by cases hx;unfold T12;omega⟩,rfl,rfl⟩
  ·rintro σ' G'' ⟨e,hst,rfl,rfl⟩
   obtain⟨kk,ekk,mkk,hkk⟩:=a4y hk (Int.emod_nonneg c (show (4:Int)≠0 by decide)) (by have:=Int.emod_lt_of_pos c (show (0:Int)<4 by decide);omega)
   obtain⟨ww,eww,_,hww⟩:=a4y hw (Int.emod_nonneg (c / 16) (show (3:Int)≠0 by decide)) (by have:=Int.emod_lt_of_pos (c / 16) (show (0:Int)<3 by decide);omega)
   walk_at "go"
   refine i_I ⟨by decide,by decide⟩ ?_
   walk_at "go"
   refine i_I (show (0:Int)<4 by decide) ?_
   walk_at "go"
   refine ifD (fun _=>?_) fun _=>?_
   ·walk_at "go"
    refine i_I (show (0:Int)<4 by decide) ?_
    walk_at "go"
    refine a1A gk ekk ?_
    walk_at "go"
    refine⟨lenK rfl,?_⟩
    exact q ⟨kk,none,b,e⟩ ⟨hkk,(fun s h=>nomatch h),hst⟩ mkk
   ·walk_at "go"
    refine i_I (show (0:Int)<4 by decide) ?_
    walk_at "go"
    refine a1A gk ekk ?_
    walk_at "go"
    refine i_I ⟨by decide,by decide⟩ ?_
    walk_at "go"
    refine i_I (show (0:Int)<3 by decide) ?_
    walk_at "go"
    refine a1A gw eww ?_
    walk_at "go"
    refine⟨lenK rfl,?_⟩
    exact q ⟨kk,some ww,b,e⟩ ⟨hkk,(fun s h=>by cases h;exact hww),hst⟩ mkk
def a5U:P3:=fun ws G R=>Ex5 fun (c:Int) (ks wsA:Addr) (kn wn:List Str)=>ws=[.int c,.ref ks,.ref wsA]/\G ks=some (.lst (kn.map Z.str))/\G wsA=some (.lst (wn.map Z.str))/\kn.length=4/\wn.length=4/\(∀ s∈kn,nmOk s)/\(∀ s∈wn,nmOk s) /\
 ∀ τ G',Sm G G'->Tl.Ok τ->τ.key∈kn->R τ.z G'
theorem a74 {ws:List Z} {G:Hq} {R:K3} (h:a5U ws G R):ws.length=3:=by obtain⟨_,_,_,_,_,rfl,_⟩:=h;rfl
theorem a9i (F:Fns K a) (T:Txt K mg a):FnOk P w K mg base CX0 3 a.f_telling a.d_telling ["cell","keys","worths"] (lowP K a5U):=by
 have G_stretch:=a9h (P:=P) (w:=w) (base:=base) F T
 have G_by_digits:=a7m (P:=P) (w:=w) (base:=base) F T
 have G_tumbled:=a3d (P:=P) (w:=w) (base:=base) F T
 refine fn3 F.telling sc_telling (fun ws G R h=>(by exact a74 h)) (fun cdv A outer s H E ws G R hr h=>?_)
 have hu:(A.deeper (PyProof.Rows.envOfC "_law_telling" (a0c a1E) s.heap.objs.size a.f_telling cdv)).units+66<cLine:=by have:=hr.un;omega
 refine⟨_,(a0n (z_if (a0J (o_eq hu) (q_op a1k (a0d (pv 0)) a0g) a0g (a0z _))
  (a0t (a02 (a0Q G_by_digits (hr.mono (by decide)) rfl T.m_by_digits T.k_by_digits (a7S F) (a0b (q_op a43 (a0d (pv 0)) a0g) (a0b (a0d (pv 1)) (a0b (a0d (pv 2)) a0k a0a) a0a) a0K) (he:=a0K) (hpl:=(a0i a0a (a0i a0a a0l))))))
  a1J)
  (a0n (a05 (i:=3) sc_telling.nd rfl (Or.inl rfl) (q_ix x_ix (a0d (pv 1)) (q_op a1k (a0Q G_tumbled (hr.mono (by decide)) rfl T.m_tumbled T.k_tumbled (a0Z F) (a0b (a0d (pv 0)) (a0b a0g a0k a0e) a0a) (he:=a0a) (hpl:=(a0i a0e a0l))) a0g) (fun _ _=>rfl)))
  (a0n (b5l (pt:=(.tp [4,5])) (a0Q G_stretch (hr.mono (by decide)) rfl T.m_stretch T.k_stretch (b0I F) (a0b (a0d (pv 0)) a0k a0a) (he:=a0a) (hpl:=a0l)) (show QP _ _ (.tp [4,5]) from (a4s rfl (a00 (a0A (i:=4) sc_telling.nd rfl (Or.inl rfl)) (a00 (a0A (i:=5) sc_telling.nd rfl (Or.inl rfl)) a2U)))))
  (a0n (z_if (a0J (o_eq hu) (q_op a1k (a0Q G_tumbled (hr.mono (by decide)) rfl T.m_tumbled T.k_tumbled (a0Z F) (a0b (a0d (pv 0)) (a0b a0g a0k a0e) a0a) (he:=a0a) (hpl:=(a0i a0e a0l))) a0g) a0g (a0z _))
  (a0t (a02 (a2m (a0b a1Q (a0b (a0d (pv 3)) (a0b (a0d (pv 4)) (a0b (a0d (pv 5)) a0k a0a) a0a) a0a) a0e))))
  a1J)
  (a0t (a02 (a2m (a0b a1Q (a0b (a0d (pv 3)) (a0b (q_ix x_ix (a0d (pv 2)) (q_op a1k (a0Q G_tumbled (hr.mono (by decide)) rfl T.m_tumbled T.k_tumbled (a0Z F) (a0b (a0d (pv 0)) (a0b a0g a0k a0e) a0a) (he:=a0a) (hpl:=(a0i a0e a0l))) a0g) (fun _ _=>rfl)) (a0b (a0d (pv 4)) (a0b (a0d (pv 5)) a0k a0a) a0a) a0m) a0a) a0e)))))))),?_⟩
 obtain⟨c,ks,wsA,kn,wn,rfl,gk,gw,lk,lw,hk,hw,q⟩:=h
 walk_at "go"
 refine i_I (show (0:Int)<2 by decide) ?_
 walk_at "go"
 refine ifD (fun _=>?_) fun _=>?_
 ·walk_at "go"
  refine i_I ⟨by decide,by decide⟩ ?_
  walk_at "go"
  exact⟨_,ks,wsA,kn,wn,rfl,gk,gw,lk,lw,hk,hw,fun τ ok mk=>q τ G (Sm.refl _) ok mk⟩
 ·walk_at "go"
  refine⟨c,24,rfl,by decide,by decide,fun r r0 r1=>?_⟩
  walk_at "go"
  refine i_I (show (0:Int)<4 by decide) ?_
  obtain⟨kk,ekk,mkk,hkk⟩:=a4y hk (Int.emod_nonneg r (show (4:Int)≠0 by decide)) (by have:=Int.emod_lt_of_pos r (show (0:Int)<4 by decide);omega)
  walk_at "go"
  refine a1A gk ekk ?_
  walk_at "go"
  refine⟨c,rfl,fun b e G1 s1 hst=>?_⟩
  walk_at "go"
  refine⟨c,25,rfl,by decide,by decide,fun r2 r20 r21=>?_⟩
  walk_at "go"
  refine i_I (show (0:Int)<4 by decide) ?_
  walk_at "go"
  refine ifD (fun _=>?_) fun _=>?_
  ·walk_at "go"
   refine⟨lenK rfl,?_⟩
   exact q ⟨kk,none,b,e⟩ _ s1 ⟨hkk,(fun s h=>nomatch h),hst⟩ mkk
  ·walk_at "go"
   refine⟨c,26,rfl,by decide,by decide,fun r3 r30 r31=>?_⟩
   walk_at "go"
   refine i_I (show (0:Int)<3 by decide) ?_
   obtain⟨ww,eww,_,hww⟩:=a4y hw (Int.emod_nonneg r3 (show (3:Int)≠0 by decide)) (by have:=Int.emod_lt_of_pos r3 (show (0:Int)<3 by decide);omega)
   walk_at "go"
   refine a1A (s1 _ _ gw) eww ?_
   walk_at "go"
   refine⟨lenK rfl,?_⟩
   exact q ⟨kk,some ww,b,e⟩ _ s1 ⟨hkk,(fun s h=>by cases h;exact hww),hst⟩ mkk
local macro_rules | `(tactic| walk_at "go1")=>`(tactic| with_reducible (first | refine b6s ?_ | refine b6p ?_ | refine i_iD ?_))
theorem ShV.frz {C:Addr} {G:Hq} {p:Addr} {S:Addr->Prop} {T:List Tl} {n:Int} {dx d:Addr} {kvs:List (Key×Z)} (H:ShV C G p S T n dx d kvs):ShV C (put G d (.dF kvs)) p S T n dx d kvs:=by
 have k:∀ b o,b≠d->G b=some o->put G d (.dF kvs) b=some o:=fun b o nb e=>by rw [a07 nb];exact e
 have nl:∀ b ws,G b=some (.lst ws)->b≠d:=fun b ws e z=>by
  rw [z] at e
  rcases H.dc with c | c<;>(rw [c] at e;cases e)
 refine⟨k _ _ (fun z=>?_) H.ob,H.sp,H.sd,.inr a0f,H.len,H.no,fun kk z e=>?_,fun b hb=>?_,H.nd,H.sk⟩
 ·have e:=H.ob
  rw [z] at e
  rcases H.dc with c | c<;>(rw [c] at e;cases e)
 ·obtain⟨h,es,ez,hh⟩:=H.hs kk z e
  refine⟨h,es,ez,hh.s,k _ _ (nl _ _ hh.at_) hh.at_,hh.ix,hh.ne,fun e he=>?_⟩
  obtain⟨s1,L,g1,i1⟩:=hh.ln e he
  exact⟨s1,L,k _ _ (nl _ _ g1) g1,i1⟩
 ·by_cases c:b=d
  ·rw [c];exact⟨_,a0f⟩
  ·obtain⟨o,e⟩:=H.al b hb
   exact⟨o,k b o c e⟩
def a2q (a:Ad):P3:=fun ws G R=>∃ (p:Addr) (S:Addr->Prop) (T:List Tl),ws=[.ref p]/\SheetV a.c_Sheet G p S T/\R (.int T.length) G
theorem a3Z {a:Ad} {ws:List Z} {G:Hq} {R:K3} (h:a2q a ws G R):ws.length=1:=by obtain⟨_,_,_,rfl,_⟩:=h;rfl
theorem a4o (F:Fns K a) (T:Txt K mg a):FnOk P w K mg base CX0 1 a.f_Sheet_knowings a.d_Sheet_knowings ["self"] (lowP K (a2q a)):=by
 refine fn3 F.Sheet_knowings a4d (fun ws G R h=>(by exact a3Z h)) (fun cdv A outer s H E ws G R hr h=>?_)
 have hu:(A.deeper (PyProof.Rows.envOfC "Sheet.knowings" (a0c a0F) s.heap.objs.size a.f_Sheet_knowings cdv)).units+66<cLine:=by have:=hr.un;omega
 refine⟨_,(a0t (a02 (a6V T.cl_Sheet T.na_last (a0d (pv 0))))),?_⟩
 obtain⟨p,S,T',rfl,⟨dx,d,kvs,sh⟩,q⟩:=h
 walk_at "go"
 exact⟨p,dx,_,_,rfl,sh.ob,a3w,q⟩
theorem a6s {x:Z} (h:a1g x=true):∃ s,x=.str s/\nmOk s:=by
 cases x<;>first | (simp [a1g] at h;done) | skip
 rename_i s
 refine⟨s,rfl,?_⟩
 rw [a2G,Bool.and_eq_true,Bool.and_eq_true,decide_eq_true_eq,decide_eq_true_eq,List.all_eq_true,a2o] at h
 refine⟨h.1.1,h.1.2,fun c hc=>?_⟩
 have:=h.2 c hc
 unfold okC at this
 rw [Bool.and_eq_true,decide_eq_true_eq,decide_eq_true_eq] at this
 exact this
def inR (T:List Tl) (q:Int):Prop:=0≤q/\q≤T.length
def a2O (a:Ad):PX3:=fun ws G R EE=>Ex5 fun (p:Addr) (S:Addr->Prop) (T:List Tl) (x:Z) (q:Int)=>ws=[.ref p,x,.int q]/\SheetV a.c_Sheet G p S T/\(∀ G'',Th G'' x)/\T.length≤200 /\
 ((inR T q/\∃ k,x=.str k/\nmOk k/\∀ t L G',G t=none->Sm G G'->G' t=some (.lst (L.map Rw.z))->IsLine (T.take q.toNat) k L->R (.ref t) G')\/(¬ inR T q/\∀ G',Sm G G'->EE a.x_NoKnowing G')\/(inR T q/\a1g x=false/\∀ G',Sm G G'->EE a.x_NoName G'))
theorem a4p {a:Ad} {ws:List Z} {G:Hq} {R:K3} {EE:Addr->Hq->Prop} (h:a2O a ws G R EE):ws.length=3:=by obtain⟨_,_,_,_,_,rfl,_⟩:=h;rfl
theorem a2P (F:Fns K a) (T:Txt K mg a):FnOk P w K mg base (CXx P w) 3 a.f_Sheet_line_at a.d_Sheet_line_at ["self","key","knowing"] (a2Z K (a2O a)):=by
 have G_Sheet_check_knowing:=a1t (P:=P) (w:=w) (base:=base) F T
 have G_p_check_name:=a1z (P:=P) (w:=w) (base:=base) F T
 have G_Sheet_known_line:=a1n (P:=P) (w:=w) (base:=base) F T
 refine fn3x F.Sheet_line_at a4F (fun ws G R EE h=>(by exact a4p h)) (fun cdv A outer s H E ws G R EE hr h ux=>?_)
 have hu:(A.deeper (PyProof.Rows.envOfC "Sheet.line_at" (a0c a0M) s.heap.objs.size a.f_Sheet_line_at cdv)).units+66<cLine:=by have:=hr.un;omega
 refine⟨_,(a0n (a1o (a2i (a1f Outs.of) ux.since (a0d (pv 0)) T.cl_Sheet T.mt_Sheet_check_knowing G_Sheet_check_knowing (hr.mono (by decide)) (a1y F) (a0b (a0d (pv 2)) a0k a0a) (hst:=a0a) (hpl:=a0l)))
  (a0n (a1o (a1L (a1f Outs.of) ux.since G_p_check_name (hr.mono (by decide)) rfl T.m_p_check_name T.k_p_check_name (a1F F) (a0b (a0d (pv 1)) a0k a0a) (he:=a0a) (hpl:=a0l)))
  (a0t (a02 (a5J (a0d (pv 0)) T.cl_Sheet T.mt_Sheet_known_line G_Sheet_known_line (hr.mono (by decide)) (a1u F) (a0b (a0d (pv 1)) (a0b (a0d (pv 2)) a0k a0a) a0a) (hst:=a0a) (hpl:=(a0i a0a a0l))))))),?_⟩
 obtain⟨p,S,T',x,q,rfl,sh,hx,hT,h⟩:=h
 have sh':=sh
 obtain⟨dx,d,kvs,sm⟩:=sh'
 walk_at "go"
 refine⟨p,dx,_,rfl,sm.ob,a2T (by decide +kernel) (by decide +kernel),?_⟩
 walk_at "go"
 refine⟨p,S,T',q,rfl,sh,?_⟩
 rcases h with ⟨hq,k,rfl,hk,fin⟩ | ⟨hq,e⟩ | ⟨hq,hn,e⟩
 ·have hq':0≤q/\q≤T'.length:=hq
  rw [if_pos hq']
  walk_at "go"
  refine⟨_,rfl,hx _,fun G1 s1=>?_⟩
  rw [nm_b hk]
  refine ifT ?_
  have sm1:=sm.keep (Sm.ks s1)
  walk_at "go"
  refine⟨p,dx,_,rfl,sm1.ob,a2T (by decide +kernel) (by decide +kernel),?_⟩
  walk_at "go"
  exact⟨p,S,T',k,q,_,dx,d,kvs,rfl,sm1,hq.1,hq.2,hT,fun t L G2 ht s2 gt il=>fin t L G2 (s1.free ht) (s1.trans s2) gt il⟩
 ·rw [if_neg (show ¬ (0≤q/\q≤T'.length) from hq)]
  exact e G (Sm.refl _)
 ·rw [if_pos (show 0≤q/\q≤T'.length from hq)]
  walk_at "go"
  refine⟨_,rfl,hx _,fun G1 s1=>?_⟩
  rw [hn]
  exact ifF (e G1 s1)
def a2r (a:Ad):PX3:=fun ws G R EE=>∃ x,ws=[x]/\Th G x/\∀ G',Sm G G'->if momB x=true then R .non G' else EE a.x_NoStretch G'
theorem a30 {a:Ad} {ws:List Z} {G:Hq} {R:K3} {EE:Addr->Hq->Prop} (h:a2r a ws G R EE):ws.length=1:=by obtain⟨_,rfl,_⟩:=h;rfl
theorem a2s (F:Fns K a) (T:Txt K mg a):FnOk P w K mg base (CXx P w) 2 a.f_p_check_moment a.d_p_check_moment ["thing"] (a2Z K (a2r a)):=by
 have G_p_is_moment:=a3n (P:=P) (w:=w) (base:=base) F T
 refine fn3x F.p_check_moment a4a (fun ws G R EE h=>(by exact a30 h)) (fun cdv A outer s H E ws G R EE hr h ux=>?_)
 have hu:(A.deeper (PyProof.Rows.envOfC "check_moment" (a0c a0C) s.heap.objs.size a.f_p_check_moment cdv)).units+66<cLine:=by have:=hr.un;omega
 refine⟨_,(a0t (z_if (a3i (a6K (a0Q G_p_is_moment (hr.mono (by decide)) rfl T.m_p_is_moment T.k_p_is_moment (a2E F) (a0b (a0d (pv 0)) a0k a0a) (he:=a0a) (hpl:=a0l))))
  (a0t (a6c Outs.of ux rfl rfl T.x_NoStretch T.xi_NoStretch a1Q a0e a0l))
  a1J)),?_⟩
 obtain⟨x,rfl,hx,q⟩:=h
 walk_at "go"
 refine⟨_,rfl,hx,fun G' s1=>?_⟩
 have q':=q G' s1
 walk_at "go"
 refine ifNB (fun c=>?_) fun c=>?_
 ·rw [c] at q'
  walk_at "go"
  exact q'
 ·rw [c] at q'
  walk_at "go"
  exact q'
def a2t (a:Ad):P3:=fun ws G R=>Ex6 fun (p:Addr) (S:Addr->Prop) (T:List Tl) (k:Str) (m q:Int)=>ws=[.ref p,.str k,.int m,.int q]/\SheetV a.c_Sheet G p S T/\nmOk k/\momB (.int m)=true/\inR T q/\T.length≤200 /\
 ∀ G',Sm G G'->R (a4v (a2H (T.take q.toNat) k) m) G'
theorem a31 {a:Ad} {ws:List Z} {G:Hq} {R:K3} (h:a2t a ws G R):ws.length=4:=by obtain⟨_,_,_,_,_,_,rfl,_⟩:=h;rfl
theorem a4q (F:Fns K a) (T:Txt K mg a):FnOk P w K mg base CX0 4 a.f_Sheet_worth_at a.d_Sheet_worth_at ["self","key","moment","knowing"] (lowP K (a2t a)):=by
 have G_Sheet_check_knowing:=a1t (P:=P) (w:=w) (base:=base) F T
 have G_p_check_name:=a1z (P:=P) (w:=w) (base:=base) F T
 have G_p_check_moment:=a2s (P:=P) (w:=w) (base:=base) F T
 have G_p_worth_in:=a6n (P:=P) (w:=w) (base:=base) F T
 have G_Sheet_known_line:=a1n (P:=P) (w:=w) (base:=base) F T
 refine fn3 F.Sheet_worth_at a4b (fun ws G R h=>(by exact a31 h)) (fun cdv A outer s H E ws G R hr h=>?_)
 have hu:(A.deeper (PyProof.Rows.envOfC "Sheet.worth_at" (a0c a0D) s.heap.objs.size a.f_Sheet_worth_at cdv)).units+66<cLine:=by have:=hr.un;omega
 refine⟨_,(a0n (a1o (a2i a13 up0 (a0d (pv 0)) T.cl_Sheet T.mt_Sheet_check_knowing G_Sheet_check_knowing (hr.mono (by decide)) (a1y F) (a0b (a0d (pv 3)) a0k a0a) (hst:=a0a) (hpl:=a0l)))
  (a0n (a1o (a1L a13 up0 G_p_check_name (hr.mono (by decide)) rfl T.m_p_check_name T.k_p_check_name (a1F F) (a0b (a0d (pv 1)) a0k a0a) (he:=a0a) (hpl:=a0l)))
  (a0n (a1o (a1L a13 up0 G_p_check_moment (hr.mono (by decide)) rfl T.m_p_check_moment T.k_p_check_moment (a2J F) (a0b (a0d (pv 2)) a0k a0a) (he:=a0a) (hpl:=a0l)))
  (a0t (a02 (a0Q G_p_worth_in (hr.mono (by decide)) rfl T.m_p_worth_in T.k_p_worth_in (a65 F) (a0b (a5J (a0d (pv 0)) T.cl_Sheet T.mt_Sheet_known_line G_Sheet_known_line (hr.mono (by decide)) (a1u F) (a0b (a0d (pv 1)) (a0b (a0d (pv 3)) a0k a0a) a0a) (hst:=a0a) (hpl:=(a0i a0a a0l))) (a0b (a0d (pv 2)) a0k a0a) a1q) (he:=a1q) (hpl:=(a0i a0a a0l)))))))),?_⟩
 obtain⟨p,S,T',k,m,q,rfl,sh,hk,hm,hq,hT,fin⟩:=h
 have sh':=sh
 obtain⟨dx,d,kvs,sm⟩:=sh'
 walk_at "go"
 refine⟨p,dx,_,rfl,sm.ob,a2T (by decide +kernel) (by decide +kernel),?_⟩
 walk_at "go"
 refine⟨p,S,T',q,rfl,sh,?_⟩
 rw [if_pos (show 0≤q/\q≤T'.length from hq)]
 walk_at "go"
 refine⟨_,rfl,a4j hk,fun G1 s1=>?_⟩
 rw [nm_b hk]
 refine ifT ?_
 walk_at "go"
 refine⟨_,rfl,True.intro,fun G2 s2=>?_⟩
 rw [hm]
 refine ifT ?_
 have s12:=s1.trans s2
 have sm2:=sm.keep (Sm.ks s12)
 walk_at "go"
 refine⟨p,dx,_,rfl,sm2.ob,a2T (by decide +kernel) (by decide +kernel),?_⟩
 walk_at "go"
 refine⟨p,S,T',k,q,_,dx,d,kvs,rfl,sm2,hq.1,hq.2,hT,fun t L G3 ht s3 gt il=>?_⟩
 walk_at "go"
 have hl:=il.len
 rw [List.length_take] at hl
 refine⟨t,L,m,rfl,gt,il.can.rise,il.pl.okR,by omega,fun G4 s4=>?_⟩
 rw [il.v,b34]
 exact fin G4 ((s12.trans s3).trans s4)
def NE (T:List Tl) (k:Str):Prop:=∃ L,IsLine T k L/\L≠[]
structure KeysAt (T:List Tl) (ts:List Str):Prop where
 so:PyProof.Rows.sortedS ts=true
 nd:ts.Nodup
 is:∀ s,s∈ts↔NE T s
theorem IsLine.uniq {T:List Tl} {k:Str} {L M:List Rw} (h:IsLine T k L) (g:IsLine T k M):L=M:=b2P h.can g.can fun t=>by rw [h.v,g.v]
theorem a75 {T:List Tl} {k:Str} (h:ix T k=[]) (q:Nat):a2H (T.take q) k=[]:=a7i fun i hi=>by rw [h] at hi;simp at hi
def Few (T:List Tl):Prop:=T.length≤200/\∃ kn:List Str,kn.length≤63/\∀ τ∈T,τ.key∈kn
theorem b2R:∀ {xs ys:List Str},xs.Nodup->(∀ x∈xs,x∈ys)->xs.length≤ys.length
 | [],_,_,_=>Nat.zero_le _
 | x::xs,ys,h,m=>by
  rw [List.nodup_cons] at h
  have hx:=m x (.head _)
  have:=b2R (xs:=xs) (ys:=ys.erase x) h.2 fun y hy=>(List.mem_erase_of_ne (fun z=>h.1 (by rw [<- z];exact hy))).mpr (m y (.tail _ hy))
  rw [List.length_erase_of_mem hx] at this
  have:=List.length_pos_of_mem hx
  rw [List.length_cons];omega
theorem b2S:∀ {T:List Tl} {k:Str} {n:Nat},ixF k n T≠[]->∃ τ∈T,τ.key=k
 | [],_,_,h=>absurd rfl h
 | τ::T,k,n,h=>by
  by_cases c:τ.key=k
  ·exact⟨τ,.head _,c⟩
  ·unfold ixF at h
   rw [if_neg c,List.nil_append] at h
   obtain⟨σ,h1,h2⟩:=b2S h
   exact⟨σ,.tail _ h1,h2⟩
theorem b6K {kvs:List (Key×Z)} {ks:List Str} (h:kvs.map (·.1)=ks.map Sum.inr) {s:Str} (m:s∈ks):∃ z,valZ kvs (.inr s)=some z:=by
 unfold valZ
 cases e2:kvs.find? fun kv=>decide (kv.1=Sum.inr s) with
 | some q=>exact⟨_,rfl⟩
 | none=>
  have h1:(Sum.inr s:Key)∈kvs.map (·.1):=by rw [h];exact List.mem_map_of_mem m
  obtain⟨q,hq,eq⟩:=List.mem_map.mp h1
  have:=List.find?_eq_none.mp e2 q hq
  simp [eq] at this
def a2Q (a:Ad):PX3:=fun ws G R EE=>Ex4 fun (p:Addr) (S:Addr->Prop) (T:List Tl) (q:Int)=>ws=[.ref p,.int q]/\SheetV a.c_Sheet G p S T/\Few T /\
 ((inR T q/\∀ t ts G',G t=none->KN S G G'->SheetV a.c_Sheet G' p S T->G' t=some (.lst (ts.map Z.str))->KeysAt (T.take q.toNat) ts->ts.length≤63->R (.ref t) G')\/(¬ inR T q/\∀ G',Sm G G'->EE a.x_NoKnowing G'))
theorem a4r {a:Ad} {ws:List Z} {G:Hq} {R:K3} {EE:Addr->Hq->Prop} (h:a2Q a ws G R EE):ws.length=2:=by obtain⟨_,_,_,_,rfl,_⟩:=h;rfl
theorem a7n:∀ {kvs:List (Key×Z)},(∀ q∈kvs,∃ s,q.1=Sum.inr s)->∃ ks:List Str,kvs.map (·.1)=ks.map Sum.inr/\(kvs.map fun q=>keyW q.1)=ks.map Z.str
 | [],_=>⟨[],rfl,rfl⟩
 | q::kvs,h=>by
  obtain⟨s,hs⟩:=h q (.head _)
  obtain⟨ks,h1,h2⟩:=a7n (kvs:=kvs) fun q hq=>h q (.tail _ hq)
  exact⟨s::ks,by rw [List.map_cons,List.map_cons,h1,hs],by rw [List.map_cons,List.map_cons,h2,hs];rfl⟩
theorem b4d {kvs:List (Key×Z)} {ks:List Str} {s:Str} {z:Z} (h:kvs.map (·.1)=ks.map Sum.inr) (e:valZ kvs (.inr s)=some z):s∈ks:=by
 unfold valZ at e
 cases e2:kvs.find? fun kv=>decide (kv.1=Sum.inr s) with
 | none=>rw [e2] at e;cases e
 | some q=>
  have h1:=List.mem_of_find?_eq_some e2
  have h2:q.1=Sum.inr s:=by have:=List.find?_some e2;simpa using this
  have:(Sum.inr s:Key)∈ks.map Sum.inr:=by rw [<- h,<- h2];exact List.mem_map_of_mem (f:=(·.1)) h1
  obtain⟨x,hx,ex⟩:=List.mem_map.mp this
  cases ex
  exact hx
theorem a1Y (F:Fns K a) (T:Txt K mg a):FnOk P w K mg base (CXx P w) 3 a.f_Sheet_keys_at a.d_Sheet_keys_at ["self","knowing"] (a2Z K (a2Q a)):=by
 have G_Sheet_check_knowing:=a1t (P:=P) (w:=w) (base:=base) F T
 have G_Sheet_known_line:=a1n (P:=P) (w:=w) (base:=base) F T
 refine fn3x F.Sheet_keys_at a4E (fun ws G R EE h=>(by exact a4r h)) (fun cdv A outer s H E ws G R EE hr h ux=>?_)
 have hu:(A.deeper (PyProof.Rows.envOfC "Sheet.keys_at" (a0c a0B) s.heap.objs.size a.f_Sheet_keys_at cdv)).units+66<cLine:=by have:=hr.un;omega
 refine⟨_,(a0n (a1o (a2i (a1f Outs.of) ux.since (a0d (pv 0)) T.cl_Sheet T.mt_Sheet_check_knowing G_Sheet_check_knowing (hr.mono (by decide)) (a1y F) (a0b (a0d (pv 1)) a0k a0a) (hst:=a0a) (hpl:=a0l)))
  (a0t (a02 (a01 a60 rfl T.b_sorted rfl (a0b (q_lc (N₀:=["self","knowing"]) (so:=a0c a0B) (N':=["key","knowing","self"]) (cap:=[none,some 1,some 0]) (pt:=(.nm 0)) rfl rfl rfl (by decide +kernel) rfl (b3S (a6V T.cl_Sheet T.na_kept (a0d (pv 0)))) (fun _ _ _ _=>(show QP _ _ (.nm 0) from (a0A (i:=0) (show List.Nodup (α:=Str) ["key","knowing","self"] from by decide +kernel) rfl (Or.inl rfl)))) (fun _ _ _ _=>(a37 (a8Z (a5J (a0d (pv 2)) T.cl_Sheet T.mt_Sheet_known_line G_Sheet_known_line (hr.mono (by decide)) (a1u F) (a0b (a0d (pv 0)) (a0b (a0d (pv 1)) a0k a0a) a0a) (hst:=a0a) (hpl:=(a0i a0a a0l))) (fun _=>rfl)))) (fun _ _ _ _=>(a0d (pv 0)))) a0k a1I) (he:=a1I) (hpl:=a0l))))),?_⟩
 obtain⟨p,S,T',q,rfl,sh,hT,h⟩:=h
 have sh':=sh
 obtain⟨dx,d,kvs,sm⟩:=sh'
 walk_at "go"
 refine⟨p,dx,_,rfl,sm.ob,a2T (by decide +kernel) (by decide +kernel),?_⟩
 walk_at "go"
 refine⟨p,S,T',q,rfl,sh,?_⟩
 rcases h with ⟨hq,fin⟩ | ⟨hq,e⟩
 rotate_left
 ·rw [if_neg (show ¬ (0≤q/\q≤T'.length) from hq)]
  exact e G (Sm.refl _)
 rw [if_pos (show 0≤q/\q≤T'.length from hq)]
 walk_at "go"
 refine⟨p,dx,_,_,rfl,sm.ob,a7Z,?_⟩
 walk_at "go"
 refine b8c sm.dc ?_
 have smF:=sm.frz
 obtain⟨ks,hk1,hk2⟩:=a7n sm.sk
 have hnd:ks.Nodup:=by
  have:=sm.nd
  rw [hk1] at this
  exact (List.pairwise_map.mp this).imp fun h z=>h (by rw [z])
 obtain⟨hT2,kn,kn1,kn2⟩:=hT
 have hkl:ks.length≤63:=Nat.le_trans (b2R hnd fun s hs=>by
  obtain⟨z,ez⟩:=b6K hk1 hs
  obtain⟨h,es,_,hh⟩:=sm.hs s z ez
  obtain⟨τ,t1,t2⟩:=b2S (T:=T') (k:=s) (n:=0) (fun z=>hh.ne (by
   have:=hh.ix
   rw [show ix T' s=[] from z] at this
   exact List.map_eq_nil_iff.mp this))
  rw [<- t2];exact kn2 τ t1) kn1
 rw [hk2]
 intro D hD
 refine a56 (fun i ys G'=>∃ ts:List Str,ys=ts.map Z.str/\ts.Nodup/\(∀ s,s∈ts↔s∈ks.take i/\NE (T'.take q.toNat) s)/\ts.length≤i/\Sm (put G d (.dF kvs)) G'/\G' D=some (.lst ys)) ⟨[],rfl,.nil,fun s=>by simp,Nat.le_refl _,Sm.new hD,a0f⟩ (fun _ _ _ _ _=>True.intro) ?_ ?_
 ·rintro i x ys G' hx ⟨ts,rfl,hn,hm,hl,s,gD⟩
  rw [List.getElem?_map] at hx
  cases hx':ks[i]? with
  | none=>rw [hx'] at hx;cases hx
  | some k=>
  rw [hx'] at hx
  cases hx
  have hi:=(List.getElem?_eq_some_iff.mp hx').1
  have ht1:ks.take (i+1)=ks.take i++[k]:=by rw [List.take_add_one,hx'];rfl
  have nk:k∉ks.take i:=fun z=>by
   have h1:(ks.take (i+1)).Nodup:=hnd.sublist (List.take_sublist _ _)
   rw [ht1,List.nodup_append] at h1
   exact h1.2.2 k z k (by simp) rfl
  have smA:=smF.keep (Sm.ks s)
  refine⟨_,rfl,?_⟩
  walk_at "go"
  refine⟨p,dx,_,rfl,smA.ob,a2T (by decide +kernel) (by decide +kernel),?_⟩
  walk_at "go"
  refine⟨p,S,T',k,q,_,dx,d,kvs,rfl,smA,hq.1,hq.2,by omega,fun t L G2 ht s2 gt il=>?_⟩
  refine b2D gt ?_
  cases hL:L with
  | nil=>
   walk_at "go"
   refine⟨ts,rfl,hn,fun y=>?_,by omega,s.trans s2,s2 _ _ gD⟩
   rw [hm,ht1,List.mem_append,List.mem_singleton]
   constructor
   ·exact fun ⟨a1,a2⟩=>⟨.inl a1,a2⟩
   ·rintro⟨a1 | rfl,a2⟩
    ·exact⟨a1,a2⟩
    ·obtain⟨M,m1,m2⟩:=a2
     exact absurd (m1.uniq il) (by rw [hL];exact m2)
  | cons r L'=>
   walk_at "go"
   refine⟨_,rfl,s2 _ _ gD,by rw [List.length_map];exact a0P (by omega),ts++[k],by rw [List.map_append];rfl,?_,fun y=>?_,by rw [List.length_append];simp;omega,(s.trans s2).put hD,a0f⟩
   ·rw [List.nodup_append]
    exact⟨hn,by simp,fun a1 h1 b1 h2 z=>nk (by rw [<- List.mem_singleton.mp h2,<- z];exact ((hm a1).mp h1).1)⟩
   ·rw [List.mem_append,hm,ht1,List.mem_append,List.mem_singleton]
    constructor
    ·rintro (⟨a1,a2⟩ | rfl)
     ·exact⟨.inl a1,a2⟩
     ·exact⟨.inr rfl,L,il,by rw [hL];simp⟩
    ·rintro⟨a1 | rfl,a2⟩
     ·exact .inl ⟨a1,a2⟩
     ·exact .inr rfl
 ·rintro ys G' ⟨ts,rfl,hn,hm,hl,s,gD⟩
  rw [List.length_map] at hm hl
  rw [List.take_length] at hm
  walk_at "go"
  refine a61 gD (by omega) fun t us ht hp hs=>?_
  have nS:∀ b,S b->put G d (.dF kvs) b≠none:=fun b hb z=>by
   obtain⟨o,e⟩:=smF.al b hb
   rw [z] at e;cases e
  have fr:G t=none:=by
   have h1:=s.free ht
   by_cases c:t=d
   ·rw [c] at h1;exact absurd h1 (nS d sm.sd)
   ·rw [a07 c] at h1;exact h1
  refine fin t us _ fr (fun b o nb e=>?_) ⟨dx,d,kvs,smF.keep (Sm.ks (s.trans (Sm.new ht)))⟩ a0f ⟨hs,hp.nodup_iff.mpr hn,fun y=>?_⟩ (by rw [hp.length_eq];omega)
  ·refine (Sm.new ht) _ _ (s _ _ ?_)
   rw [a07 (show b≠d from fun z=>nb (by rw [z];exact sm.sd))]
   exact e
  ·rw [hp.mem_iff,hm]
   constructor
   ·exact fun z=>z.2
   ·intro z
    refine⟨?_,z⟩
    cases e:valZ kvs (.inr y) with
    | some w=>exact b4d hk1 e
    | none=>
     obtain⟨L,l1,l2⟩:=z
     exact absurd (l1.uniq (IsLine.nil (a75 (sm.no y e) _))) l2
def b6L (r:Rw):Z:=.tup [.int r.b,oz r.e]
def a32 (y:Str) (L:List Rw):List Rw:=L.filter fun r=>decide (r.w=[Z.str y])
def a7o (a:Ad):PX3:=fun ws G R EE=>Ex6 fun (p:Addr) (S:Addr->Prop) (T:List Tl) (x y:Z) (q:Int)=>ws=[.ref p,x,y,.int q]/\SheetV a.c_Sheet G p S T/\(∀ G'',Th G'' x)/\(∀ G'',Th G'' y)/\T.length≤200 /\
 ((inR T q/\∃ k w,x=.str k/\nmOk k/\y=.str w/\nmOk w/\∀ t L G',G t=none->Sm G G'->G' t=some (.lst ((a32 w L).map b6L))->IsLine (T.take q.toNat) k L->R (.ref t) G') \/
 (¬ inR T q/\∀ G',Sm G G'->EE a.x_NoKnowing G')\/(inR T q/\(a1g x&&a1g y)=false/\∀ G',Sm G G'->EE a.x_NoName G'))
theorem a9j {a:Ad} {ws:List Z} {G:Hq} {R:K3} {EE:Addr->Hq->Prop} (h:a7o a ws G R EE):ws.length=4:=by obtain⟨_,_,_,_,_,_,rfl,_⟩:=h;rfl
theorem a7p (F:Fns K a) (T:Txt K mg a):FnOk P w K mg base (CXx P w) 4 a.f_p_when a.d_p_when ["sheet","key","worth","knowing"] (a2Z K (a7o a)):=by
 have G_Sheet_line_at:=a2P (P:=P) (w:=w) (base:=base) F T
 have G_p_check_name:=a1z (P:=P) (w:=w) (base:=base) F T
 refine fn3x F.p_when sc_p_when (fun ws G R EE h=>(by exact a9j h)) (fun cdv A outer s H E ws G R EE hr h ux=>?_)
 have hu:(A.deeper (PyProof.Rows.envOfC "when" (a0c a1M) s.heap.objs.size a.f_p_when cdv)).units+66<cLine:=by have:=hr.un;omega
 refine⟨_,(a0n (a05 (i:=4) sc_p_when.nd rfl (Or.inl rfl) (a2i (a1f Outs.of) ux.since (a0d (pv 0)) T.cl_Sheet T.mt_Sheet_line_at G_Sheet_line_at (hr.mono (by decide)) (a16 F) (a0b (a0d (pv 1)) (a0b (a0d (pv 3)) a0k a0a) a0a) (hst:=a0a) (hpl:=(a0i a0a a0l))))
  (a0n (a1o (a1L (a1f Outs.of) ux.since G_p_check_name (hr.mono (by decide)) rfl T.m_p_check_name T.k_p_check_name (a1F F) (a0b (a0d (pv 2)) a0k a0a) (he:=a0a) (hpl:=a0l)))
  (a0t (a02 (q_lc (N₀:=["sheet","key","worth","knowing","line"]) (so:=a0c a1M) (N':=["begin","end","held","worth"]) (cap:=[none,none,none,some 2]) (pt:=(.tp [0,1,2])) rfl rfl rfl (by decide +kernel) rfl (a1R (a0d (pv 4))) (fun _ _ _ _=>(show QP _ _ (.tp [0,1,2]) from (a4s rfl (a00 (a0A (i:=0) (show List.Nodup (α:=Str) ["begin","end","held","worth"] from by decide +kernel) rfl (Or.inl rfl)) (a00 (a0A (i:=1) (show List.Nodup (α:=Str) ["begin","end","held","worth"] from by decide +kernel) rfl (Or.inl rfl)) (a00 (a0A (i:=2) (show List.Nodup (α:=Str) ["begin","end","held","worth"] from by decide +kernel) rfl (Or.inl rfl)) a2U)))))) (fun _ _ _ _=>(a37 (a0J (o_eq hu) (a0d (pv 2)) (a0d (pv 3)) (a0z _)))) (fun _ _ _ _=>(a2m (a0b (a0d (pv 0)) (a0b (a0d (pv 1)) a0k a0a) a0a)))))))),?_⟩
 obtain⟨p,S,T',x,y,q,rfl,sh,hx,hy,hT,h⟩:=h
 have sh':=sh
 obtain⟨dx,d,kvs,sm⟩:=sh'
 walk_at "go"
 refine⟨p,dx,_,rfl,sm.ob,a2T (by decide +kernel) (by decide +kernel),?_⟩
 walk_at "go"
 refine⟨p,S,T',x,q,rfl,sh,hx,hT,?_⟩
 rcases h with ⟨hq,k,w,rfl,hk,rfl,hw,fin⟩ | ⟨hq,e⟩ | ⟨hq,hn,e⟩
 ·refine .inl ⟨hq,k,rfl,hk,fun t L G1 ht s1 gt il=>?_⟩
  walk_at "go"
  refine⟨_,rfl,a4j hw,fun G2 s2=>?_⟩
  rw [nm_b hw]
  refine ifT ?_
  walk_at "go"
  refine a39 (s2 _ _ gt) ?_
  intro D hD
  have hl:=il.len
  rw [List.length_take] at hl
  refine a5f (g:=Rw.z) (g':=b6L) (fun r=>if decide (r.w=[Z.str w])=true then some r else none) (fun ys=>a0I (s2 _ _ gt) hD) (by omega) ?_ ?_
  ·rintro r hr ys K1 K2 k1 k2
   obtain⟨v,ev,fv⟩:=il.pl r hr
   have eb:decide (r.w=[Z.str w])=decide (v=Z.str w):=by rw [ev];simp
   rw [eb] at k1 k2
   have er:r.z=.tup [.int r.b,oz r.e,v]:=by unfold Rw.z;rw [ev]
   rw [er]
   refine⟨_,rfl,?_⟩
   walk_at "go"
   refine b35 (a22 (by decide) fv) (a7Y hw) ?_
   refine⟨_,rfl,?_⟩
   cases c:decide (v=Z.str w) with
   | true=>
    rw [c] at k1
    walk_at "go"
    exact⟨_,rfl,_,rfl,lenK rfl,k1 r rfl⟩
   | false=>
    rw [c] at k2
    walk_at "go"
    exact k2 rfl
  ·have ef:(L.filterMap fun r=>if decide (r.w=[Z.str w])=true then some r else none)=a32 w L:=by
    unfold a32
    rw [<- List.filterMap_eq_filter]
    rfl
   rw [ef]
   walk_at "go"
   exact fin D L _ (s1.free (s2.free hD)) ((s1.trans s2).trans (Sm.new hD)) a0f il
 ·exact .inr (.inl ⟨hq,e⟩)
 ·cases c:a1g x with
  | false=>exact .inr (.inr ⟨hq,rfl,e⟩)
  | true=>
   rw [c,Bool.true_and] at hn
   obtain⟨k,rfl,hk⟩:=a6s c
   refine .inl ⟨hq,k,rfl,hk,fun t L G1 ht s1 gt il=>?_⟩
   walk_at "go"
   refine⟨_,rfl,hy _,fun G2 s2=>?_⟩
   rw [hn]
   exact ifF (e G2 (s1.trans s2))
theorem a76 {T:List Tl} {s:Str} (ok:OkT T) (h:NE T s):nmOk s:=by
 obtain⟨L,l1,l2⟩:=h
 by_cases c:∃ τ∈T,τ.key=s
 ·obtain⟨τ,h1,h2⟩:=c
  rw [<- h2];exact (ok τ h1).k
 ·have:a2H T s=[]:=by
   unfold a2H
   rw [List.map_eq_nil_iff,List.filter_eq_nil_iff]
   intro τ hτ
   simpa using fun z=>c ⟨τ,hτ,z⟩
  exact absurd (l1.uniq (IsLine.nil this)) l2
def kwZ (v:Str×Z):Z:=.tup [.str v.1,v.2]
def a5w (T:List Tl) (m:Int) (ts:List Str):List (Str×Z):=ts.map fun k=>(k,a4v (a2H T k) m)
def a6t (v:Str×Z):Option (Str×Z):=if decide (v.2=Z.non)=true then none else some v
def a5k (a:Ad):PX3:=fun ws G R EE=>Ex5 fun (p:Addr) (S:Addr->Prop) (T:List Tl) (m q:Int)=>ws=[.ref p,.int m,.int q]/\SheetV a.c_Sheet G p S T/\OkT T/\Few T /\
 ((inR T q/\momB (.int m)=true/\∀ t ts G',G t=none->KN S G G'->SheetV a.c_Sheet G' p S T->KeysAt (T.take q.toNat) ts->G' t=some (.lst (((a5w (T.take q.toNat) m ts).filterMap a6t).map kwZ))->R (.ref t) G') \/
 (¬ inR T q/\∀ G',Sm G G'->EE a.x_NoKnowing G')\/(inR T q/\momB (.int m)=false/\∀ G',KN S G G'->SheetV a.c_Sheet G' p S T->EE a.x_NoStretch G'))
theorem a7q {a:Ad} {ws:List Z} {G:Hq} {R:K3} {EE:Addr->Hq->Prop} (h:a5k a ws G R EE):ws.length=3:=by obtain⟨_,_,_,_,_,rfl,_⟩:=h;rfl
theorem a77 (F:Fns K a) (T:Txt K mg a):FnOk P w K mg base (CXx P w) 5 a.f_p_all_at a.d_p_all_at ["sheet","moment","knowing"] (a2Z K (a5k a)):=by
 have G_Sheet_keys_at:=a1Y (P:=P) (w:=w) (base:=base) F T
 have G_p_check_moment:=a2s (P:=P) (w:=w) (base:=base) F T
 have G_Sheet_worth_at:=a4q (P:=P) (w:=w) (base:=base) F T
 refine fn3x F.p_all_at sc_p_all_at (fun ws G R EE h=>(by exact a7q h)) (fun cdv A outer s H E ws G R EE hr h ux=>?_)
 have hu:(A.deeper (PyProof.Rows.envOfC "all_at" (a0c a1e) s.heap.objs.size a.f_p_all_at cdv)).units+66<cLine:=by have:=hr.un;omega
 refine⟨_,(a0n (a05 (i:=3) sc_p_all_at.nd rfl (Or.inl rfl) (a2i (a1f Outs.of) ux.since (a0d (pv 0)) T.cl_Sheet T.mt_Sheet_keys_at G_Sheet_keys_at (hr.mono (by decide)) (a15 F) (a0b (a0d (pv 2)) a0k a0a) (hst:=a0a) (hpl:=a0l)))
  (a0n (a1o (a1L (a1f Outs.of) ux.since G_p_check_moment (hr.mono (by decide)) rfl T.m_p_check_moment T.k_p_check_moment (a2J F) (a0b (a0d (pv 1)) a0k a0a) (he:=a0a) (hpl:=a0l)))
  (a0n (a99 (i:=4) sc_p_all_at.nd rfl rfl (N₀:=["sheet","moment","knowing","keys","worths"]) (so:=a0c a1e) (N':=["key","moment","knowing","sheet"]) (cap:=[none,some 1,some 2,some 0]) (pt:=(.nm 0)) rfl rfl rfl (by decide +kernel) rfl (a1R (a0d (pv 3))) (fun _ _ _ _=>(show QP _ _ (.nm 0) from (a0A (i:=0) (show List.Nodup (α:=Str) ["key","moment","knowing","sheet"] from by decide +kernel) rfl (Or.inl rfl)))) (fun _ _ _ _=>a2Y) (fun _ _ _ _=>(a2m (a0b (a0d (pv 0)) (a0b (a5J (a0d (pv 3)) T.cl_Sheet T.mt_Sheet_worth_at G_Sheet_worth_at (hr.mono (by decide)) (a4G F) (a0b (a0d (pv 0)) (a0b (a0d (pv 1)) (a0b (a0d (pv 2)) a0k a0a) a0a) a0a) (hst:=a0a) (hpl:=(a0i a0a (a0i a0a a0l)))) a0k a1q) a0a))))
  (a0t (a02 (q_lc (N₀:=["sheet","moment","knowing","keys","worths"]) (so:=a0c a1e) (N':=["key","worth"]) (cap:=[none,none]) (pt:=(.tp [0,1])) rfl rfl rfl (by decide +kernel) rfl (a1R (a0d (pv 4))) (fun _ _ _ _=>(show QP _ _ (.tp [0,1]) from (a4s rfl (a00 (a0A (i:=0) (show List.Nodup (α:=Str) ["key","worth"] from by decide +kernel) rfl (Or.inl rfl)) (a00 (a0A (i:=1) (show List.Nodup (α:=Str) ["key","worth"] from by decide +kernel) rfl (Or.inl rfl)) a2U))))) (fun _ _ _ _=>(a37 (a0J a57 (a0d (pv 1)) a35 (a0z _)))) (fun _ _ _ _=>(a2m (a0b (a0d (pv 0)) (a0b (a0d (pv 1)) a0k a0a) a0a))))))))),?_⟩
 obtain⟨p,S,T',m,q,rfl,sh,ok,few,h⟩:=h
 have sh':=sh
 obtain⟨dx,d,kvs,sm⟩:=sh'
 walk_at "go"
 refine⟨p,dx,_,rfl,sm.ob,a2T (by decide +kernel) (by decide +kernel),?_⟩
 walk_at "go"
 refine⟨p,S,T',q,rfl,sh,few,?_⟩
 rcases h with ⟨hq,hm,fin⟩ | ⟨hq,e⟩ | ⟨hq,hm,e⟩
 ·refine .inl ⟨hq,fun t ts G1 ht kn1 sh1 gt ka hl=>?_⟩
  walk_at "go"
  refine⟨_,rfl,True.intro,fun G2 s2=>?_⟩
  rw [hm]
  refine ifT ?_
  walk_at "go"
  have gt2:=s2 _ _ gt
  have sh2:=sh1.keep (Sm.ks s2)
  refine a39 gt2 ?_
  intro D hD
  refine a56 (fun i ys G'=>ys=((a5w (T'.take q.toNat) m ts).take i).map kwZ/\Sm G2 G'/\G' D=some (.lst ys)) ⟨by simp,Sm.new hD,a0f⟩ (by rintro i ys G' _ ⟨_,s,_⟩;exact s _ _ gt2) ?_ ?_
  ·rintro i x ys G' hx ⟨rfl,s,gD⟩
   rw [List.getElem?_map] at hx
   cases hx':ts[i]? with
   | none=>rw [hx'] at hx;cases hx
   | some k=>
   rw [hx'] at hx
   cases hx
   have hi:=(List.getElem?_eq_some_iff.mp hx').1
   have hk:nmOk k:=a76 (fun τ hτ=>ok τ (List.mem_of_mem_take hτ)) ((ka.is k).mp (List.mem_of_getElem? hx'))
   have sh3:=sh2.keep (Sm.ks s)
   have sh4:=sh3
   obtain⟨dx3,d3,kvs3,sm3⟩:=sh4
   have tk:(a5w (T'.take q.toNat) m ts).take (i+1)=(a5w (T'.take q.toNat) m ts).take i++[(k,a4v (a2H (T'.take q.toNat) k) m)]:=by
    unfold a5w
    rw [List.take_add_one,List.getElem?_map,hx'];rfl
   refine⟨_,rfl,?_⟩
   walk_at "go"
   refine⟨p,dx3,_,rfl,sm3.ob,a2T (by decide +kernel) (by decide +kernel),?_⟩
   walk_at "go"
   refine⟨p,S,T',k,m,q,rfl,sh3,hk,hm,hq,few.1,fun G3 s3=>?_⟩
   walk_at "go"
   refine⟨lenK rfl,s3 _ _ gD,by rw [List.length_map,List.length_take];exact a0P (by omega),?_,(s.trans s3).put hD,a0f⟩
   rw [tk,List.map_append];rfl
  ·rintro ys G3 ⟨rfl,s,gD⟩
   rw [List.length_map,show (a5w (T'.take q.toNat) m ts).take ts.length=a5w (T'.take q.toNat) m ts from List.take_of_length_le (by unfold a5w;rw [List.length_map];exact Nat.le_refl _)] at gD
   walk_at "go"
   refine a39 gD ?_
   intro E hE
   refine a5f (g:=kwZ) (g':=kwZ) a6t (fun ys=>a0I gD hE) (by unfold a5w;rw [List.length_map];omega) ?_ ?_
   ·rintro⟨k,v⟩ hr ys K1 K2 k1 k2
    unfold a6t at k1 k2
    refine⟨_,rfl,?_⟩
    walk_at "go"
    cases c:decide (v=Z.non) with
    | true=>
     rw [c] at k2
     walk_at "go"
     exact k2 rfl
    | false=>
     rw [c] at k1
     walk_at "go"
     exact⟨_,rfl,_,rfl,lenK rfl,k1 _ rfl⟩
   ·walk_at "go"
    have s13:=(s2.trans s).trans (Sm.new (o:=.lst (((a5w (T'.take q.toNat) m ts).filterMap a6t).map kwZ)) hE)
    have fr1:=s2.free (s.free hE)
    have fr:G E=none:=by
     cases e:G E with
     | none=>rfl
     | some o=>
      by_cases c:S E
      ·obtain⟨o',e'⟩:=(let ⟨_,_,_,z⟩:=sh1;z.al E c)
       rw [fr1] at e';cases e'
      ·have:=kn1 E o c e
       rw [fr1] at this;cases this
    exact fin E ts _ fr (kn1.trans (Sm.kn s13)) (sh1.keep (Sm.ks s13)) ka a0f
 ·exact .inr ⟨hq,e⟩
 ·refine .inl ⟨hq,fun t ts G1 ht kn1 sh1 gt ka hl=>?_⟩
  walk_at "go"
  refine⟨_,rfl,True.intro,fun G2 s2=>?_⟩
  rw [hm]
  exact ifF (e G2 (kn1.trans (Sm.kn s2)) (sh1.keep (Sm.ks s2)))
theorem sz10 {n:Nat} (h:n≤10000):n<sizeLine:=Nat.lt_of_le_of_lt h (by decide)
def trZ (v:Str×Rw):Z:=.tup [.str v.1,.int v.2.b,oz v.2.e]
def WhoIs (T:List Tl) (y:Str):List Str->List (Str×Rw)->Prop
 | [],vs=>vs=[]
 | k::ts,vs=>∃ L us,IsLine T k L/\WhoIs T y ts us/\vs=((a32 y L).map fun r=>(k,r))++us
theorem WhoIs.snoc {T:List Tl} {y:Str} {k:Str} {L:List Rw} (hL:IsLine T k L):∀ {ts:List Str} {vs:List (Str×Rw)},WhoIs T y ts vs->WhoIs T y (ts++[k]) (vs++(a32 y L).map fun r=>(k,r))
 | [],vs,h=>by
  rw [show vs=[] from h]
  exact⟨L,[],hL,rfl,by simp⟩
 | j::ts,vs,h=>by
  obtain⟨M,us,h1,h2,rfl⟩:=h
  exact⟨M,_,h1,WhoIs.snoc hL h2,by rw [List.append_assoc]⟩
def a8J (a:Ad):PX3:=fun ws G R EE=>Ex5 fun (p:Addr) (S:Addr->Prop) (T:List Tl) (y:Z) (q:Int)=>ws=[.ref p,y,.int q]/\SheetV a.c_Sheet G p S T/\OkT T/\Few T/\T.length≤63/\(∀ G'',Th G'' y) /\
 ((inR T q/\∃ w,y=.str w/\nmOk w/\∀ t ts vs G',G t=none->KN S G G'->SheetV a.c_Sheet G' p S T->KeysAt (T.take q.toNat) ts->WhoIs (T.take q.toNat) w ts vs->vs.length≤126*ts.length->ts.length≤63->G' t=some (.lst (vs.map trZ))->R (.ref t) G') \/
 (¬ inR T q/\∀ G',Sm G G'->EE a.x_NoKnowing G')\/(inR T q/\a1g y=false/\∀ G',KN S G G'->SheetV a.c_Sheet G' p S T->EE a.x_NoName G'))
theorem b05 {a:Ad} {ws:List Z} {G:Hq} {R:K3} {EE:Addr->Hq->Prop} (h:a8J a ws G R EE):ws.length=3:=by obtain⟨_,_,_,_,_,rfl,_⟩:=h;rfl
theorem b2m (F:Fns K a) (T:Txt K mg a):FnOk P w K mg base (CXx P w) 5 a.f_p_who a.d_p_who ["sheet","worth","knowing"] (a2Z K (a8J a)):=by
 have G_Sheet_keys_at:=a1Y (P:=P) (w:=w) (base:=base) F T
 have G_p_check_name:=a1z (P:=P) (w:=w) (base:=base) F T
 have G_p_when:=a7p (P:=P) (w:=w) (base:=base) F T
 refine fn3x F.p_who sc_p_who (fun ws G R EE h=>(by exact b05 h)) (fun cdv A outer s H E ws G R EE hr h ux=>?_)
 have hu:(A.deeper (PyProof.Rows.envOfC "who" (a0c a2j) s.heap.objs.size a.f_p_who cdv)).units+66<cLine:=by have:=hr.un;omega
 refine⟨_,(a0n (a05 (i:=3) sc_p_who.nd rfl (Or.inl rfl) (a2i (a1f Outs.of) ux.since (a0d (pv 0)) T.cl_Sheet T.mt_Sheet_keys_at G_Sheet_keys_at (hr.mono (by decide)) (a15 F) (a0b (a0d (pv 2)) a0k a0a) (hst:=a0a) (hpl:=a0l)))
  (a0n (a1o (a1L (a1f Outs.of) ux.since G_p_check_name (hr.mono (by decide)) rfl T.m_p_check_name T.k_p_check_name (a1F F) (a0b (a0d (pv 1)) a0k a0a) (he:=a0a) (hpl:=a0l)))
  (a0n (a05 (i:=4) sc_p_who.nd rfl (Or.inl rfl) (a1X a0k))
  (a0n (a6M (pt:=(.nm 5)) PassesOwn.leaving rfl (a1R (a0d (pv 3))) (show QP _ _ (.nm 5) from (a0A (i:=5) sc_p_who.nd rfl (Or.inl rfl)))
  (a0t (a6M (pt:=(.tp [6,7])) PassesOwn.leaving rfl (a1R (a1L (a1f Outs.of) ux.since G_p_when (hr.mono (by decide)) rfl T.m_p_when T.k_p_when (a8v F) (a0b (a0d (pv 0)) (a0b (a0d (pv 5)) (a0b (a0d (pv 1)) (a0b (a0d (pv 2)) a0k a0a) a0a) a0a) a0a) (he:=a0a) (hpl:=(a0i a0a (a0i a0a (a0i a0a a0l)))))) (show QP _ _ (.tp [6,7]) from (a4s rfl (a00 (a0A (i:=6) sc_p_who.nd rfl (Or.inl rfl)) (a00 (a0A (i:=7) sc_p_who.nd rfl (Or.inl rfl)) a2U))))
  (a0t (a1o (q_bm PySem.F.plainAttrs_list PySem.F.slot_list_append PySem.F.type_list_append a27 (a0d (pv 4)) (a0b (a2m (a0b (a0d (pv 5)) (a0b (a0d (pv 6)) (a0b (a0d (pv 7)) a0k a0a) a0a) a0a)) a0k a10)))))))
  (a0t (a02 (a0d (pv 4)))))))),?_⟩
 obtain⟨p,S,T',y,q,rfl,sh,ok,few,hT,hy,h⟩:=h
 have sh':=sh
 obtain⟨dx,d,kvs,sm⟩:=sh'
 walk_at "go"
 refine⟨p,dx,_,rfl,sm.ob,a2T (by decide +kernel) (by decide +kernel),?_⟩
 walk_at "go"
 refine⟨p,S,T',q,rfl,sh,few,?_⟩
 rcases h with ⟨hq,w,rfl,hw,fin⟩ | ⟨hq,e⟩ | ⟨hq,hm,e⟩
 ·refine .inl ⟨hq,fun t ts G1 ht kn1 sh1 gt ka hl=>?_⟩
  walk_at "go"
  refine⟨_,rfl,a4j hw,fun G2 s2=>?_⟩
  rw [nm_b hw]
  refine ifT ?_
  walk_at "go"
  have gt2:=s2 _ _ gt
  have sh2:=sh1.keep (Sm.ks s2)
  refine⟨lenK rfl,fun E hE=>?_⟩
  walk_at "go"
  have sE:Sm G2 (put G2 E (.lst [])):=Sm.new hE
  refine a39 (sE _ _ gt2) ?_
  refine a3k (fun i σ G'=>Ex4 fun (vs:List (Str×Rw)) (v1 v2 v3:Option Z)=>σ=[some (.ref p),some (.str w),some (.int q),some (.ref t),some (.ref E),v1,v2,v3]/\WhoIs (T'.take q.toNat) w (ts.take i) vs/\vs.length≤126*i/\Sm G2 G'/\G' E=some (.lst (vs.map trZ))) ⟨[],none,none,none,rfl,by simp [WhoIs],by simp,sE,a0f⟩ (by rintro i σ G' _ ⟨_,_,_,_,_,_,_,s,_⟩;exact s _ _ gt2) ?_ ?_
  ·rintro i x σ G' hx ⟨vs,v1,v2,v3,rfl,hv,hvl,s,gE⟩
   rw [List.getElem?_map] at hx
   cases hx':ts[i]? with
   | none=>rw [hx'] at hx;cases hx
   | some k=>
   rw [hx'] at hx
   cases hx
   have hi:=(List.getElem?_eq_some_iff.mp hx').1
   have hk:nmOk k:=a76 (fun τ hτ=>ok τ (List.mem_of_mem_take hτ)) ((ka.is k).mp (List.mem_of_getElem? hx'))
   have sh3:=sh2.keep (Sm.ks s)
   refine⟨_,rfl,?_⟩
   walk_at "go"
   refine⟨p,S,T',.str k,.str w,q,rfl,sh3,fun _=>a4j hk,fun _=>a4j hw,few.1,.inl ⟨hq,k,w,rfl,hk,rfl,hw,fun u L G3 hu s3 gu il=>?_⟩⟩
   have hLl:(a32 w L).length≤126:=by
    have h1:=il.len
    rw [List.length_take] at h1
    have h2:(a32 w L).length≤L.length:=List.length_filter_le _ _
    omega
   walk_at "go"
   refine a39 gu ?_
   refine a3k (fun j σ G'=>∃ (v2 v3:Option Z),σ=[some (.ref p),some (.str w),some (.int q),some (.ref t),some (.ref E),some (.str k),v2,v3]/\Sm G2 G'/\(∀ z o,z≠E->G3 z=some o->G' z=some o)/\G' E=some (.lst ((vs++((a32 w L).take j).map fun r=>(k,r)).map trZ))) ⟨v2,v3,rfl,s.trans s3,fun _ _ _ e=>e,by simpa using s3 _ _ gE⟩ (by rintro j σ G' _ ⟨_,_,_,_,s4,_⟩;exact s4 _ _ (fun z=>by rw [z] at hu;rw [gE] at hu;cases hu) gu) ?_ ?_
   ·rintro j x σ G4 hx ⟨v2,v3,rfl,s4,k4,gE4⟩
    rw [List.getElem?_map] at hx
    cases hr:(a32 w L)[j]? with
    | none=>rw [hr] at hx;cases hx
    | some r=>
    rw [hr] at hx
    cases hx
    have hj:=(List.getElem?_eq_some_iff.mp hr).1
    refine⟨_,rfl,?_⟩
    walk_at "go"
    refine a46 gE4 ?_
    walk_at "go"
    refine⟨lenK rfl,?_⟩
    walk_at "go"
    refine a28 gE4 (sz10 ?_) ?_
    ·rw [List.length_map,List.length_append,List.length_map,List.length_take]
     omega
    walk_at "go"
    refine⟨_,_,rfl,s4.put hE,fun z o hz e=>by rw [a07 hz];exact k4 z o hz e,?_⟩
    rw [a0f,List.take_add_one,hr]
    simp [trZ]
   ·rintro σ G4 ⟨v2,v3,rfl,s4,k4,gE4⟩
    rw [List.length_map,List.take_length] at gE4
    walk_at "go"
    refine⟨_,_,_,_,rfl,?_,?_,s4,gE4⟩
    ·rw [List.take_add_one,hx']
     exact hv.snoc il
    ·rw [List.length_append,List.length_map];omega
  ·rintro σ G3 ⟨vs,v1,v2,v3,rfl,hv,hvl,s,gE⟩
   rw [List.length_map] at hv hvl
   rw [List.take_length] at hv
   walk_at "go"
   have fr1:=s2.free hE
   have fr:G E=none:=by
    cases e:G E with
    | none=>rfl
    | some o=>
     by_cases c:S E
     ·obtain⟨o',e'⟩:=(let ⟨_,_,_,z⟩:=sh1;z.al E c)
      rw [fr1] at e';cases e'
     ·have:=kn1 E o c e
      rw [fr1] at this;cases this
   have s13:=s2.trans s
   exact fin E ts vs _ fr (kn1.trans (Sm.kn s13)) (sh1.keep (Sm.ks s13)) ka hv hvl hl gE
 ·exact .inr ⟨hq,e⟩
 ·refine .inl ⟨hq,fun t ts G1 ht kn1 sh1 gt ka hl=>?_⟩
  walk_at "go"
  refine⟨_,rfl,hy _,fun G2 s2=>?_⟩
  rw [hm]
  exact ifF (e G2 (kn1.trans (Sm.kn s2)) (sh1.keep (Sm.ks s2)))
def oc (way:Int) (gx gy gm gq:Bool):Nat:=if gq=false then 1 else if way=0 then (if gm=true then 0 else 3) else if way=1 then (if (gx&&gy)=true then 0 else 2) else if gy=true then 0 else 2
def ocC (a:Ad) (n:Nat):Addr:=if n=1 then a.x_NoKnowing else if n=2 then a.x_NoName else a.x_NoStretch
instance inR_dec {T:List Tl} {q:Int}:Decidable (inR T q):=by unfold inR;infer_instance
structure AskIn (a:Ad) (G:Hq) (p:Addr) (S:Addr->Prop) (T:List Tl) (x y:Z):Prop where
 sh:SheetV a.c_Sheet G p S T
 ok:OkT T
 few:Few T
 len:T.length≤63
 tx:∀ G'',Th G'' x
 ty:∀ G'',Th G'' y
def ocT (T:List Tl) (way:Int) (x y:Z) (m q:Int):Nat:=oc way (a1g x) (a1g y) (momB (.int m)) (decide (inR T q))
def a7r (a:Ad):PX3:=fun ws G R EE=>Ex8 fun (p:Addr) (S:Addr->Prop) (T:List Tl) (x y:Z) (way m q:Int)=>ws=[.ref p,.int way,x,y,.int m,.int q]/\AskIn a G p S T x y /\
 ∀ G',KN S G G'->SheetV a.c_Sheet G' p S T->(ocT T way x y m q=0->R .non G')/\(ocT T way x y m q≠0->EE (ocC a (ocT T way x y m q)) G')
theorem a9k {a:Ad} {ws:List Z} {G:Hq} {R:K3} {EE:Addr->Hq->Prop} (h:a7r a ws G R EE):ws.length=6:=by obtain⟨_,_,_,_,_,_,_,_,rfl,_⟩:=h;rfl
theorem b06 (F:Fns K a) (T:Txt K mg a):FnOk P w K mg base (CXx P w) 6 a.f_called a.d_called ["sheet","way","key","worth","moment","knowing"] (a2Z K (a7r a)):=by
 have G_p_all_at:=a77 (P:=P) (w:=w) (base:=base) F T
 have G_p_when:=a7p (P:=P) (w:=w) (base:=base) F T
 have G_p_who:=b2m (P:=P) (w:=w) (base:=base) F T
 refine fn3x F.called b0G (fun ws G R EE h=>(by exact a9k h)) (fun cdv A outer s H E ws G R EE hr h ux=>?_)
 have hu:(A.deeper (PyProof.Rows.envOfC "_law_called" (a0c a1V) s.heap.objs.size a.f_called cdv)).units+66<cLine:=by have:=hr.un;omega
 refine⟨_,(a0t (z_if (a0J (o_eq hu) (a0d (pv 1)) a0g (a0z _))
  (a0t (a1o (a1L (a1f Outs.of) ux.since G_p_all_at (hr.mono (by decide)) rfl T.m_p_all_at T.k_p_all_at (a9a F) (a0b (a0d (pv 0)) (a0b (a0d (pv 4)) (a0b (a0d (pv 5)) a0k a0a) a0a) a0a) (he:=a0a) (hpl:=(a0i a0a (a0i a0a a0l))))))
  (a0t (z_if (a0J (o_eq hu) (a0d (pv 1)) a0g (a0z _))
  (a0t (a1o (a1L (a1f Outs.of) ux.since G_p_when (hr.mono (by decide)) rfl T.m_p_when T.k_p_when (a8v F) (a0b (a0d (pv 0)) (a0b (a0d (pv 2)) (a0b (a0d (pv 3)) (a0b (a0d (pv 5)) a0k a0a) a0a) a0a) a0a) (he:=a0a) (hpl:=(a0i a0a (a0i a0a (a0i a0a a0l)))))))
  (a0t (a1o (a1L (a1f Outs.of) ux.since G_p_who (hr.mono (by decide)) rfl T.m_p_who T.k_p_who (b3U F) (a0b (a0d (pv 0)) (a0b (a0d (pv 3)) (a0b (a0d (pv 5)) a0k a0a) a0a) a0a) (he:=a0a) (hpl:=(a0i a0a (a0i a0a a0l)))))))))),?_⟩
 obtain⟨p,S,T',x,y,way,m,q,rfl,ai,fin⟩:=h
 have sm:∀ {G'},Sm G G'->KN S G G'/\SheetV a.c_Sheet G' p S T':=fun s=>⟨Sm.kn s,ai.sh.keep (Sm.ks s)⟩
 unfold ocT at fin
 by_cases hq:inR T' q
 rotate_left
 ·have ho:oc way (a1g x) (a1g y) (momB (.int m)) (decide (inR T' q))=1:=by rw [decide_eq_false hq];rfl
  rw [ho] at fin
  have E1:∀ G',Sm G G'->_:=fun G' s=>(fin G' (sm s).1 (sm s).2).2 (by decide)
  walk_at "go"
  refine ifD (fun h0=>?_) fun h0=>?_
  ·walk_at "go"
   exact⟨p,S,T',m,q,rfl,ai.sh,ai.ok,ai.few,.inr (.inl ⟨hq,E1⟩)⟩
  ·walk_at "go"
   refine ifD (fun h1=>?_) fun h1=>?_
   ·walk_at "go"
    exact⟨p,S,T',x,y,q,rfl,ai.sh,ai.tx,ai.ty,ai.few.1,.inr (.inl ⟨hq,E1⟩)⟩
   ·walk_at "go"
    exact⟨p,S,T',y,q,rfl,ai.sh,ai.ok,ai.few,ai.len,ai.ty,.inr (.inl ⟨hq,E1⟩)⟩
 rw [decide_eq_true hq] at fin
 walk_at "go"
 refine ifD (fun h0=>?_) fun h0=>?_
 ·walk_at "go"
  refine⟨p,S,T',m,q,rfl,ai.sh,ai.ok,ai.few,?_⟩
  cases hm:momB (.int m) with
  | true=>
   rw [hm,show oc way (a1g x) (a1g y) true true=0 by unfold oc;simp [h0]] at fin
   refine .inl ⟨hq,rfl,fun t ts G1 ht kn sh ka gt=>?_⟩
   walk_at "go"
   exact (fin G1 kn sh).1 rfl
  | false=>
   rw [hm,show oc way (a1g x) (a1g y) false true=3 by unfold oc;simp [h0]] at fin
   exact .inr (.inr ⟨hq,rfl,fun G1 kn sh=>(fin G1 kn sh).2 (by decide)⟩)
 ·walk_at "go"
  refine ifD (fun h1=>?_) fun h1=>?_
  ·walk_at "go"
   refine⟨p,S,T',x,y,q,rfl,ai.sh,ai.tx,ai.ty,ai.few.1,?_⟩
   cases hn:a1g x&&a1g y with
   | true=>
    rw [show oc way (a1g x) (a1g y) (momB (.int m)) true=0 by unfold oc;rw [hn];simp [h1]] at fin
    rw [Bool.and_eq_true] at hn
    obtain⟨k,rfl,hk⟩:=a6s hn.1
    obtain⟨w,rfl,hw⟩:=a6s hn.2
    refine .inl ⟨hq,k,w,rfl,hk,rfl,hw,fun t L G1 ht s1 gt il=>?_⟩
    walk_at "go"
    exact (fin G1 (sm s1).1 (sm s1).2).1 rfl
   | false=>
    rw [show oc way (a1g x) (a1g y) (momB (.int m)) true=2 by unfold oc;rw [hn];simp [h1]] at fin
    exact .inr (.inr ⟨hq,rfl,fun G1 s1=>(fin G1 (sm s1).1 (sm s1).2).2 (by decide)⟩)
  ·walk_at "go"
   refine⟨p,S,T',y,q,rfl,ai.sh,ai.ok,ai.few,ai.len,ai.ty,?_⟩
   cases hn:a1g y with
   | true=>
    rw [hn,show oc way (a1g x) true (momB (.int m)) true=0 by unfold oc;simp [h0,h1]] at fin
    obtain⟨w,rfl,hw⟩:=a6s hn
    refine .inl ⟨hq,w,rfl,hw,fun t ts vs G1 ht kn sh ka wi h5 h6 gt=>?_⟩
    walk_at "go"
    exact (fin G1 kn sh).1 rfl
   | false=>
    rw [hn,show oc way (a1g x) false (momB (.int m)) true=2 by unfold oc;simp [h0,h1]] at fin
    exact .inr (.inr ⟨hq,rfl,fun G1 kn sh=>(fin G1 kn sh).2 (by decide)⟩)
def ocN (n:Nat):Str:=if n=0 then Str.ofString "" else if n=1 then Str.ofString "knowing" else if n=2 then Str.ofString "name" else Str.ofString "stretch"
def ocZ (n:Nat):List Z:=[.str (ocN n),.bl (decide (n≠0)),.bl false]
def a8K (a:Ad):P3:=fun ws G R=>Ex8 fun (p:Addr) (S:Addr->Prop) (T:List Tl) (x y:Z) (way m q:Int)=>ws=[.ref p,.int way,x,y,.int m,.int q]/\AskIn a G p S T x y /\
 ∀ t G',G t=none->KN S G G'->SheetV a.c_Sheet G' p S T->G' t=some (.lst (ocZ (ocT T way x y m q)))->R (.ref t) G'
theorem b07 {a:Ad} {ws:List Z} {G:Hq} {R:K3} (h:a8K a ws G R):ws.length=6:=by obtain⟨_,_,_,_,_,_,_,_,rfl,_⟩:=h;rfl
theorem b8q {way:Int} {a b c d:Bool}:oc way a b c d=0\/oc way a b c d=1\/oc way a b c d=2\/oc way a b c d=3:=by
 unfold oc
 split
 ·exact .inr (.inl rfl)
 ·split
  ·split
   ·exact .inl rfl
   ·exact .inr (.inr (.inr rfl))
  ·split
   ·split
    ·exact .inl rfl
    ·exact .inr (.inr (.inl rfl))
   ·split
    ·exact .inl rfl
    ·exact .inr (.inr (.inl rfl))
theorem KN.free {S:Addr->Prop} {G G':Hq} {C p t:Addr} {T:List Tl} (k:KN S G G') (sh:SheetV C G p S T) (sh':SheetV C G' p S T) (h:G' t=none):G t=none:=by
 cases e:G t with
 | none=>rfl
 | some o=>
  by_cases c:S t
  ·obtain⟨o',e'⟩:=(let ⟨_,_,_,z⟩:=sh';z.al t c)
   rw [h] at e';cases e'
  ·have:=k t o c e
   rw [h] at this;cases this
theorem AskIn.keep {a:Ad} {G G':Hq} {p:Addr} {S:Addr->Prop} {T:List Tl} {x y:Z} (h:AskIn a G p S T x y) (s:Sm G G'):AskIn a G' p S T x y:=⟨h.sh.keep (Sm.ks s),h.ok,h.few,h.len,h.tx,h.ty⟩
theorem b2n (F:Fns K a) (T:Txt K mg a):FnOk P w K mg base CX0 7 a.f_asked a.d_asked ["sheet","way","key","worth","moment","knowing"] (lowP K (a8K a)):=by
 have G_called:=b06 (P:=P) (w:=w) (base:=base) F T
 refine fn3 F.asked sc_asked (fun ws G R h=>(by exact b07 h)) (fun cdv A outer s H E ws G R hr h=>?_)
 have hu:(A.deeper (PyProof.Rows.envOfC "_law_asked" (a0c a2k) s.heap.objs.size a.f_asked cdv)).units+66<cLine:=by have:=hr.un;omega
 refine⟨_,(a0n (a05 (i:=6) sc_asked.nd rfl (Or.inl rfl) (a1X (a0b a1Q (a0b q_bl (a0b q_bl a0k a0e) a0e) a0e)))
  (a0n (b6r (i:=7) (cs:=[⟨_,_,_,_,_⟩,⟨_,_,_,_,_⟩,⟨_,_,_,_,_⟩]) rfl (by simp) rfl rfl rfl G_called (hr.mono (by decide)) rfl T.m_called T.k_called (b14 F) (a0b (a0d (pv 0)) (a0b (a0d (pv 1)) (a0b (a0d (pv 2)) (a0b (a0d (pv 3)) (a0b (a0d (pv 4)) (a0b (a0d (pv 5)) a0k a0a) a0a) a0a) a0a) a0a) a0a) sc_asked.nd rfl rfl (Alt.cons (C:=a.x_NoKnowing) (a7N rfl T.x_NoKnowing (by decide) T.xm_NoKnowing_NoKnowing (fun ex oe hx1 hx2 hx3=>(a0n (a05 (i:=8) sc_asked.nd rfl (Or.inl rfl) (a01 (a6d hx1 hx2 hx3 T.xk_NoKnowing) rfl T.b_isinstance rfl (a0b (a0d (pv 7)) (a0b (a2m (a0b (a1l (a0G rfl T.x_Broken)) (a0b (a1l (a0G rfl T.x_Forgotten)) (a0b (a1l (a0G rfl T.x_NoFit)) (a0b (a1l (a0G rfl T.x_NoLog)) (a0b (a1l (a0G rfl T.x_NoName)) (a0b (a1l (a0G rfl T.x_NoRow)) (a0b (a1l (a0G rfl T.x_NoSheet)) (a0b (a1l (a0G rfl T.x_NoStretch)) a0k a0a) a0a) a0a) a0a) a0a) a0a) a0a) a0a)) a0k a10) a0a) (he:=a0a) (hpl:=(a0i a10 a0l))))
  (a0t (a05 (i:=6) sc_asked.nd rfl (Or.inl rfl) (a1X (a0b a1Q (a0b (a6J (a01 (a6d hx1 hx2 hx3 T.xk_NoKnowing) rfl T.b_isinstance rfl (a0b (a0d (pv 7)) (a0b (a1l (a0G rfl T.x_TimesError)) a0k a0a) a0a) (he:=a0a) (hpl:=(a0i a0a a0l))) (a92 (a01 (a6d hx1 hx2 hx3 T.xk_NoKnowing) rfl T.b_isinstance rfl (a0b (a0d (pv 7)) (a0b (q_ty (a33 (v:=.ty "ValueError") rfl T.b_ValueError rfl rfl)) a0k a0a) a0a) (he:=a0a) (hpl:=(a0i a0a a0l))))) (a0b (a0d (pv 8)) a0k a0a) a42) a0e))))))) (Alt.cons (C:=a.x_NoName) (.next rfl T.x_NoKnowing (by decide) T.xm_NoName_NoKnowing (a7N rfl T.x_NoName (by decide) T.xm_NoName_NoName (fun ex oe hx1 hx2 hx3=>(a0n (a05 (i:=8) sc_asked.nd rfl (Or.inl rfl) (a01 (a6d hx1 hx2 hx3 T.xk_NoName) rfl T.b_isinstance rfl (a0b (a0d (pv 7)) (a0b (a2m (a0b (a1l (a0G rfl T.x_Broken)) (a0b (a1l (a0G rfl T.x_Forgotten)) (a0b (a1l (a0G rfl T.x_NoFit)) (a0b (a1l (a0G rfl T.x_NoLog)) (a0b (a1l (a0G rfl T.x_NoKnowing)) (a0b (a1l (a0G rfl T.x_NoRow)) (a0b (a1l (a0G rfl T.x_NoSheet)) (a0b (a1l (a0G rfl T.x_NoStretch)) a0k a0a) a0a) a0a) a0a) a0a) a0a) a0a) a0a)) a0k a10) a0a) (he:=a0a) (hpl:=(a0i a10 a0l))))
  (a0t (a05 (i:=6) sc_asked.nd rfl (Or.inl rfl) (a1X (a0b a1Q (a0b (a6J (a01 (a6d hx1 hx2 hx3 T.xk_NoName) rfl T.b_isinstance rfl (a0b (a0d (pv 7)) (a0b (a1l (a0G rfl T.x_TimesError)) a0k a0a) a0a) (he:=a0a) (hpl:=(a0i a0a a0l))) (a92 (a01 (a6d hx1 hx2 hx3 T.xk_NoName) rfl T.b_isinstance rfl (a0b (a0d (pv 7)) (a0b (q_ty (a33 (v:=.ty "ValueError") rfl T.b_ValueError rfl rfl)) a0k a0a) a0a) (he:=a0a) (hpl:=(a0i a0a a0l))))) (a0b (a0d (pv 8)) a0k a0a) a42) a0e)))))))) (Alt.cons (C:=a.x_NoStretch) (.next rfl T.x_NoKnowing (by decide) T.xm_NoStretch_NoKnowing (.next rfl T.x_NoName (by decide) T.xm_NoStretch_NoName (a7N rfl T.x_NoStretch (by decide) T.xm_NoStretch_NoStretch (fun ex oe hx1 hx2 hx3=>(a0n (a05 (i:=8) sc_asked.nd rfl (Or.inl rfl) (a01 (a6d hx1 hx2 hx3 T.xk_NoStretch) rfl T.b_isinstance rfl (a0b (a0d (pv 7)) (a0b (a2m (a0b (a1l (a0G rfl T.x_Broken)) (a0b (a1l (a0G rfl T.x_Forgotten)) (a0b (a1l (a0G rfl T.x_NoFit)) (a0b (a1l (a0G rfl T.x_NoLog)) (a0b (a1l (a0G rfl T.x_NoName)) (a0b (a1l (a0G rfl T.x_NoRow)) (a0b (a1l (a0G rfl T.x_NoSheet)) (a0b (a1l (a0G rfl T.x_NoKnowing)) a0k a0a) a0a) a0a) a0a) a0a) a0a) a0a) a0a)) a0k a10) a0a) (he:=a0a) (hpl:=(a0i a10 a0l))))
  (a0t (a05 (i:=6) sc_asked.nd rfl (Or.inl rfl) (a1X (a0b a1Q (a0b (a6J (a01 (a6d hx1 hx2 hx3 T.xk_NoStretch) rfl T.b_isinstance rfl (a0b (a0d (pv 7)) (a0b (a1l (a0G rfl T.x_TimesError)) a0k a0a) a0a) (he:=a0a) (hpl:=(a0i a0a a0l))) (a92 (a01 (a6d hx1 hx2 hx3 T.xk_NoStretch) rfl T.b_isinstance rfl (a0b (a0d (pv 7)) (a0b (q_ty (a33 (v:=.ty "ValueError") rfl T.b_ValueError rfl rfl)) a0k a0a) a0a) (he:=a0a) (hpl:=(a0i a0a a0l))))) (a0b (a0d (pv 8)) a0k a0a) a42) a0e))))))))) Alt.nil))) (he:=a0a) (hpl:=(a0i a0a (a0i a0a (a0i a0a (a0i a0a (a0i a0a a0l)))))))
  (a0t (a02 (a0d (pv 6)))))),?_⟩
 obtain⟨p,S,T',x,y,way,m,q,rfl,ai,fin⟩:=h
 walk_at "go"
 refine⟨lenK rfl,fun k0 hk0=>?_⟩
 walk_at "go"
 have s0:Sm G (put G k0 (.lst [.str (Str.ofString ""),.bl false,.bl false])):=Sm.new hk0
 have ns:∀ {t},G t=none->¬ S t:=fun h z=>by
  obtain⟨o,e⟩:=(let ⟨_,_,_,z'⟩:=ai.sh;z'.al _ z)
  rw [h] at e;cases e
 refine⟨p,S,T',x,y,way,m,q,rfl,ai.keep s0,fun G1 kn1 sh1=>?_⟩
 have g1:=kn1 k0 _ (ns hk0) a0f
 have kn:KN S G G1:=(Sm.kn s0).trans kn1
 have last:∀ (n:Nat),n≠0->ocT T' way x y m q=n->∀ t,G1 t=none->R (.ref t) (put G1 t (.lst [.str (ocN n),.bl true,.bl false])):=fun n hn e t ht=>by
  refine fin t _ (kn.free ai.sh sh1 ht) (kn.trans (Sm.kn (Sm.new ht))) (sh1.keep (Sm.ks (Sm.new ht))) ?_
  rw [a0f,e]
  unfold ocZ
  rw [decide_eq_true hn]
 have four:=b8q (way:=way) (a:=a1g x) (b:=a1g y) (c:=momB (.int m)) (d:=decide (inR T' q))
 refine⟨fun h0=>?_,fun hn=>?_⟩
 ·walk_at "go"
  refine fin k0 G1 hk0 kn sh1 ?_
  rw [g1,h0]
  rfl
 ·rcases four with c | c | c | c
  ·exact absurd c hn
  ·refine⟨_,.head _,by show ocC a (ocT T' way x y m q)=_;unfold ocT;rw [c];rfl,fun e=>?_⟩
   walk_at "go"
   refine⟨lenK rfl,?_⟩
   refine⟨_,false,rfl,.inr (.inr ⟨[a.x_Broken,a.x_Forgotten,a.x_NoFit,a.x_NoLog,a.x_NoName,a.x_NoRow,a.x_NoSheet,a.x_NoStretch],rfl,T.ka_NoKnowing_0⟩),?_⟩
   walk_at "go"
   refine⟨_,true,rfl,.inl ⟨_,rfl,T.kt_NoKnowing_TimesError⟩,?_⟩
   refine⟨_,rfl,ifT ?_⟩
   walk_at "go"
   refine⟨_,true,rfl,.inr (.inl ⟨_,rfl,T.kt_NoKnowing_ValueError⟩),?_⟩
   walk_at "go"
   refine⟨lenK rfl,fun k1 hk1=>?_⟩
   walk_at "go"
   exact last 1 (by decide) c k1 hk1
  ·refine⟨_,.tail _ (.head _),by show ocC a (ocT T' way x y m q)=_;unfold ocT;rw [c];rfl,fun e=>?_⟩
   walk_at "go"
   refine⟨lenK rfl,?_⟩
   refine⟨_,false,rfl,.inr (.inr ⟨[a.x_Broken,a.x_Forgotten,a.x_NoFit,a.x_NoLog,a.x_NoKnowing,a.x_NoRow,a.x_NoSheet,a.x_NoStretch],rfl,T.ka_NoName_1⟩),?_⟩
   walk_at "go"
   refine⟨_,true,rfl,.inl ⟨_,rfl,T.kt_NoName_TimesError⟩,?_⟩
   refine⟨_,rfl,ifT ?_⟩
   walk_at "go"
   refine⟨_,true,rfl,.inr (.inl ⟨_,rfl,T.kt_NoName_ValueError⟩),?_⟩
   walk_at "go"
   refine⟨lenK rfl,fun k1 hk1=>?_⟩
   walk_at "go"
   exact last 2 (by decide) c k1 hk1
  ·refine⟨_,.tail _ (.tail _ (.head _)),by show ocC a (ocT T' way x y m q)=_;unfold ocT;rw [c];rfl,fun e=>?_⟩
   walk_at "go"
   refine⟨lenK rfl,?_⟩
   refine⟨_,false,rfl,.inr (.inr ⟨[a.x_Broken,a.x_Forgotten,a.x_NoFit,a.x_NoLog,a.x_NoName,a.x_NoRow,a.x_NoSheet,a.x_NoKnowing],rfl,T.ka_NoStretch_2⟩),?_⟩
   walk_at "go"
   refine⟨_,true,rfl,.inl ⟨_,rfl,T.kt_NoStretch_TimesError⟩,?_⟩
   refine⟨_,rfl,ifT ?_⟩
   walk_at "go"
   refine⟨_,true,rfl,.inr (.inl ⟨_,rfl,T.kt_NoStretch_ValueError⟩),?_⟩
   walk_at "go"
   refine⟨lenK rfl,fun k1 hk1=>?_⟩
   walk_at "go"
   exact last 3 (by decide) c k1 hk1
def b2T:P3:=fun ws G R=>Ex6 fun (way:Int) (g:Addr) (gx gy gm gq:Bool)=>ws=[.int way,.ref g]/\G g=some (.lst [.bl gx,.bl gy,.bl gm,.bl gq])/\0≤way/\∀ t,G t=none->R (.ref t) (put G t (.lst (ocZ (oc way gx gy gm gq))))
theorem b4e {ws:List Z} {G:Hq} {R:K3} (h:b2T ws G R):ws.length=2:=by obtain⟨_,_,_,_,_,_,rfl,_⟩:=h;rfl
theorem b6M (F:Fns K a) (T:Txt K mg a):FnOk P w K mg base CX0 1 a.f_due a.d_due ["way","goods"] (lowP K b2T):=by
 refine fn3 F.due b6t (fun ws G R h=>(by exact b4e h)) (fun cdv A outer s H E ws G R hr h=>?_)
 have hu:(A.deeper (PyProof.Rows.envOfC "_law_due" (a0c a5o) s.heap.objs.size a.f_due cdv)).units+66<cLine:=by have:=hr.un;omega
 refine⟨_,(a0n (z_if (a3i (a8Z (q_ix x_ix (a0d (pv 1)) a0g (fun _ _=>rfl)) (fun _=>rfl)))
  (a0t (a02 (a1X (a0b a1Q (a0b q_bl (a0b q_bl a0k a0e) a0e) a0e))))
  a1J)
  (a0n (z_if (QW.qt (q_or (QW.qt (a6I (a0J (o_eq hu) (a0d (pv 0)) a0g (a0z _)) (a41 (a3i (a8Z (q_ix x_ix (a0d (pv 1)) a0g (fun _ _=>rfl)) (fun _=>rfl)))))) (a53 (QW.qt (a6I (a0J o_gt (a0d (pv 0)) a0g (a0z _)) (a41 (a3i (a8Z (q_ix x_ix (a0d (pv 1)) a0g (fun _ _=>rfl)) (fun _=>rfl)))))))))
  (a0t (a02 (a1X (a0b a1Q (a0b q_bl (a0b q_bl a0k a0e) a0e) a0e))))
  a1J)
  (a0n (z_if (QW.qt (a6I (a0J (o_eq hu) (a0d (pv 0)) a0g (a0z _)) (a41 (a3i (a8Z (q_ix x_ix (a0d (pv 1)) a0g (fun _ _=>rfl)) (fun _=>rfl))))))
  (a0t (a02 (a1X (a0b a1Q (a0b q_bl (a0b q_bl a0k a0e) a0e) a0e))))
  a1J)
  (a0t (a02 (a1X (a0b a1Q (a0b q_bl (a0b q_bl a0k a0e) a0e) a0e))))))),?_⟩
 obtain⟨way,g,gx,gy,gm,gq,rfl,gg,hw,q⟩:=h
 walk_at "go"
 have fin:∀ n,oc way gx gy gm gq=n->∀ t,G t=none->R (.ref t) (put G t (.lst (ocZ n))):=fun n e t ht=>by rw [<- e];exact q t ht
 refine a1A gg rfl ?_
 walk_at "go"
 cases gq with
 | false=>
  refine ifT ?_
  walk_at "go"
  exact⟨lenK rfl,fun t ht=>fin 1 rfl t ht⟩
 | true=>
  refine ifF ?_
  walk_at "go"
  refine ifD (fun h1=>?_) fun h1=>?_
  ·walk_at "go"
   refine a1A gg rfl ?_
   walk_at "go"
   cases gx with
   | false=>
    refine ifT ?_
    walk_at "go"
    exact⟨lenK rfl,fun t ht=>fin 2 (by unfold oc;simp [h1]) t ht⟩
   | true=>
    refine ifF ?_
    walk_at "go"
    refine ifD (fun h2=>?_) fun h2=>?_
    rotate_left
    ·exact absurd (show (0:Int)<way by omega) h2
    walk_at "go"
    refine a1A gg rfl ?_
    walk_at "go"
    cases gy with
    | false=>
     refine ifT ?_
     walk_at "go"
     exact⟨lenK rfl,fun t ht=>fin 2 (by unfold oc;simp [h1]) t ht⟩
    | true=>
     refine ifF ?_
     walk_at "go"
     refine ifD (fun h3=>?_) fun h3=>?_
     ·omega
     walk_at "go"
     exact⟨lenK rfl,fun t ht=>fin 0 (by unfold oc;simp [h1]) t ht⟩
  ·walk_at "go"
   refine ifD (fun h2=>?_) fun h2=>?_
   ·walk_at "go"
    refine a1A gg rfl ?_
    walk_at "go"
    have h0:way≠0:=by omega
    cases gy with
    | false=>
     refine ifT ?_
     walk_at "go"
     exact⟨lenK rfl,fun t ht=>fin 2 (by unfold oc;simp [h1,h0]) t ht⟩
    | true=>
     refine ifF ?_
     walk_at "go"
     refine ifD (fun h3=>?_) fun h3=>?_
     ·exact absurd h3 h0
     walk_at "go"
     exact⟨lenK rfl,fun t ht=>fin 0 (by unfold oc;simp [h1,h0]) t ht⟩
   ·walk_at "go"
    have h0:way=0:=by omega
    refine ifD (fun h3=>?_) fun h3=>?_
    rotate_left
    ·exact absurd h0 h3
    walk_at "go"
    refine a1A gg rfl ?_
    walk_at "go"
    cases gm with
    | false=>
     refine ifT ?_
     walk_at "go"
     exact⟨lenK rfl,fun t ht=>fin 3 (by unfold oc;simp [h0]) t ht⟩
    | true=>
     refine ifF ?_
     walk_at "go"
     exact⟨lenK rfl,fun t ht=>fin 0 (by unfold oc;simp [h0]) t ht⟩
def leS (a b:Str):Prop:=PySem.Spec.ltCps b.cps.toList a.cps.toList=false
theorem b08 {a b:Str}:leS a b↔¬ b.cps.toList<a.cps.toList:=by unfold leS;rw [PyProof.Rows.ltCps_eq];simp
theorem b09 {a b c:Str} (h:leS a b) (g:leS b c):leS a c:=by
 rw [b08] at *
 exact List.le_trans (α:=Nat) h g
theorem b2o {a b:Str} (h:leS a b) (g:leS b a):a=b:=by
 rw [b08] at *
 have e:a.cps.toList=b.cps.toList:=List.le_antisymm (α:=Nat) h g
 cases a;cases b
 simpa using e
theorem b6N:∀ {l:List Str} {p:Str},PyProof.Rows.risingS p l=true->(p::l).Pairwise leS
 | [],p,_=>List.pairwise_singleton _ _
 | x::r,p,h=>by
  unfold PyProof.Rows.risingS at h
  rw [Bool.and_eq_true,Bool.not_eq_true'] at h
  have ih:=b6N h.2
  refine List.pairwise_cons.mpr ⟨fun y hy=>?_,ih⟩
  rcases List.mem_cons.mp hy with rfl | hy
  ·exact h.1
  ·exact b09 h.1 (List.rel_of_pairwise_cons ih hy)
theorem b6O:∀ {l:List Str},PyProof.Rows.sortedS l=true->l.Pairwise leS
 | [],_=>List.Pairwise.nil
 | _::_,h=>b6N h
theorem a7s:∀ {xs ys:List Str},xs.Pairwise leS->ys.Pairwise leS->xs.Perm ys->xs=ys
 | [],ys,_,_,h=>(List.nil_perm.mp h).symm
 | x::xs,[],_,_,h=>by have:=h.length_eq;simp at this
 | x::xs,y::ys,h1,h2,h=>by
  have e:x=y:=by
   have m1:=h.mem_iff.mp (List.mem_cons_self (a:=x) (l:=xs))
   have m2:=h.mem_iff.mpr (List.mem_cons_self (a:=y) (l:=ys))
   rcases List.mem_cons.mp m1 with e | m1
   ·exact e
   ·rcases List.mem_cons.mp m2 with e | m2
    ·exact e.symm
    ·exact b2o (List.rel_of_pairwise_cons h1 m2) (List.rel_of_pairwise_cons h2 m1)
  subst e
  rw [a7s (List.pairwise_cons.mp h1).2 (List.pairwise_cons.mp h2).2 h.cons_inv]
def Lines (T:List Tl) (ks:List Str) (Ls:List (List Rw)):Prop:=Ls.length=ks.length/\∀ (j:Nat) k L,ks[j]?=some k->Ls[j]?=some L->IsLine T k L
theorem Lines.uniq {T:List Tl} {ks:List Str} {Ls Ms:List (List Rw)} (h:Lines T ks Ls) (g:Lines T ks Ms):Ls=Ms:=by
 refine List.ext_getElem (by rw [h.1,g.1]) fun j h1 h2=>?_
 have hj:j<ks.length:=by rw [<- h.1];exact h1
 exact (h.2 j _ _ (List.getElem?_eq_getElem hj) (List.getElem?_eq_getElem h1)).uniq (g.2 j _ _ (List.getElem?_eq_getElem hj) (List.getElem?_eq_getElem h2))
theorem Lines.snoc {T:List Tl} {ks:List Str} {Ls:List (List Rw)} {k:Str} {L:List Rw} (h:Lines T ks Ls) (il:IsLine T k L):Lines T (ks++[k]) (Ls++[L]):=by
 refine⟨by rw [List.length_append,List.length_append,h.1];rfl,fun j k' L' e1 e2=>?_⟩
 by_cases hj:j<ks.length
 ·rw [List.getElem?_append_left hj] at e1
  rw [List.getElem?_append_left (by rw [h.1];exact hj)] at e2
  exact h.2 j _ _ e1 e2
 ·rw [List.getElem?_append_right (by omega)] at e1
  rw [List.getElem?_append_right (by rw [h.1];omega),h.1] at e2
  cases hm:j - ks.length with
  | zero=>
   rw [hm] at e1 e2
   cases e1
   cases e2
   exact il
  | succ m=>rw [hm] at e1;simp at e1
theorem a5V {L:List Rw} (h:Plain L):(L.map Rw.z).all (flat 8)=true:=by
 rw [List.all_eq_true]
 intro z hz
 obtain⟨r,hr,rfl⟩:=List.mem_map.mp hz
 obtain⟨x,ex,fx⟩:=h r hr
 unfold Rw.z
 rw [ex]
 show ([.int r.b,oz r.e,x].all (flat 7))=true
 rw [List.all_cons,List.all_cons,List.all_cons,a22 (by decide) fx]
 cases r.e<;>rfl
def Held (G:Hq) (ps:List (Addr×List Rw)):Prop:=∀ e∈ps,G e.1=some (.lst (e.2.map Rw.z))/\(e.2.map Rw.z).all (flat 8)=true
theorem Held.refs {G:Hq}:∀ {ps:List (Addr×List Rw)},Held G ps->Refs G (ps.map fun e=>Z.ref e.1) ((ps.map (·.2)).map fun L=>L.map Rw.z)
 | [],_=>.nil
 | e::ps,h=>.cons (h e (.head _)).1 (h e (.head _)).2 (Held.refs fun e he=>h e (.tail _ he))
def a3g (e:Str×List Rw):Option Str:=if e.2.isEmpty=true then none else some e.1
theorem b1a:∀ {kn:List Str} {Ls:List (List Rw)},((kn.zip Ls).filterMap a3g).Sublist kn
 | [],_=>by simp
 | k::kn,[]=>by simp
 | k::kn,L::Ls=>by
  rw [List.zip_cons_cons]
  by_cases c:L.isEmpty=true
  ·rw [List.filterMap_cons_none (by unfold a3g;exact if_pos c)]
   exact (b1a (Ls:=Ls)).cons _
  ·rw [List.filterMap_cons_some (b:=k) (by unfold a3g;exact if_neg c)]
   exact (b1a (Ls:=Ls)).cons_cons _
theorem b6P {T:List Tl} {kn:List Str} {Ls:List (List Rw)} (h:Lines T kn Ls) (hk:∀ τ∈T,τ.key∈kn) {s:Str}:s∈(kn.zip Ls).filterMap a3g↔NE T s:=by
 rw [List.mem_filterMap]
 constructor
 ·rintro⟨⟨k,L⟩,he,hn⟩
  unfold a3g at hn
  split at hn
  ·cases hn
  ·next c=>
   injection hn with hn
   subst hn
   obtain⟨j,hj⟩:=List.mem_iff_getElem?.mp he
   obtain⟨h1,h2⟩:=List.getElem?_zip_eq_some.mp hj
   exact⟨L,h.2 j _ _ h1 h2,fun z=>c (by show L.isEmpty=true;rw [z];rfl)⟩
 ·rintro⟨L,il,ne⟩
  have hs:s∈kn:=by
   by_cases c:∃ τ∈T,τ.key=s
   ·obtain⟨τ,h1,h2⟩:=c
    rw [<- h2];exact hk τ h1
   ·have:a2H T s=[]:=by
     unfold a2H
     rw [List.map_eq_nil_iff,List.filter_eq_nil_iff]
     intro τ hτ
     simpa using fun z=>c ⟨τ,hτ,z⟩
    exact absurd (il.uniq (IsLine.nil this)) ne
  obtain⟨j,hj⟩:=List.mem_iff_getElem?.mp hs
  have hjl:=(List.getElem?_eq_some_iff.mp hj).1
  have hj2:j<Ls.length:=by rw [h.1];exact hjl
  have e2:Ls[j]?=some Ls[j]:=List.getElem?_eq_getElem hj2
  have il2:=h.2 j _ _ hj e2
  have eL:=il.uniq il2
  refine⟨(s,Ls[j]),List.mem_iff_getElem?.mpr ⟨j,List.getElem?_zip_eq_some.mpr ⟨hj,e2⟩⟩,?_⟩
  unfold a3g
  refine if_neg fun z=>ne ?_
  rw [eL]
  exact List.isEmpty_iff.mp z
theorem a9l {T:List Tl} {kn:List Str} {Ls:List (List Rw)} {us ts:List Str} (h:Lines T kn Ls) (hk:∀ τ∈T,τ.key∈kn) (nd:kn.Nodup) (hp:us.Perm ((kn.zip Ls).filterMap a3g)) (hs:PyProof.Rows.sortedS us=true) (ka:KeysAt T ts):ts=us:=by
 have nd2:((kn.zip Ls).filterMap a3g).Nodup:=nd.sublist b1a
 refine a7s (b6O ka.so) (b6O hs) (((List.perm_ext_iff_of_nodup ka.nd nd2).mpr fun s=>?_).trans hp.symm)
 rw [b6P h hk]
 exact ka.is s
def odds (k w:Str):List Str:=[Str.ofString "",Str.ofString " ",k++Str.ofString " ",Str.ofString "A"++Txt.slice w (some 1) none,Str.ofString "abcdefghi",Str.ofString "a1"]
theorem b4f {k w:Str} (hk:nmOk k) (hw:nmOk w):∀ s∈odds k w,okS s/\a1g (.str s)=false:=by
 have ck:okS k:=a4j (G:=fun _=>none) hk
 have cw:okS w:=a4j (G:=fun _=>none) hw
 have e2:(Txt.slice w (some 1) none).cps.toList=w.cps.toList.drop 1:=a70 (s:=w) (p:=1) (by have:=hw.1;omega)
 intro s hs
 unfold odds at hs
 simp only [List.mem_cons,List.not_mem_nil,or_false] at hs
 rcases hs with rfl | rfl | rfl | rfl | rfl | rfl
 ·exact⟨⟨by decide +kernel,by decide +kernel⟩,by decide +kernel⟩
 ·exact⟨⟨by decide +kernel,by decide +kernel⟩,by decide +kernel⟩
 ·refine⟨⟨?_,a7k ck.2 (by decide +kernel)⟩,?_⟩
  ·rw [b01,show (Str.ofString " ").length=1 by decide +kernel,a2o];have:=hk.2.1;omega
  ·rw [a2G,a0U,List.all_append,show (Str.ofString " ").cps.toList.all okC=false by decide +kernel]
   simp
 ·refine⟨⟨?_,a7k (by decide +kernel) (a71 cw.2 _ _)⟩,?_⟩
  ·rw [b01,show (Str.ofString "A").length=1 by decide +kernel,a2o,e2,List.length_drop];have:=hw.2.1;omega
  ·rw [a2G,a0U,List.all_append,show (Str.ofString "A").cps.toList.all okC=false by decide +kernel]
   simp
 ·exact⟨⟨by decide +kernel,by decide +kernel⟩,by decide +kernel⟩
 ·exact⟨⟨by decide +kernel,by decide +kernel⟩,by decide +kernel⟩
theorem b4g {ws:List Z} {G:Hq} {R:K3} (h:a5P ws G R):ws.length=1:=by obtain⟨_,_,rfl,_⟩:=h;rfl
theorem b2U {xs:List Int} {k:Int} (h0:0≤k) (h1:k<xs.length):∃ x,atI (xs.map Z.int) k=some (.int x)/\x∈xs:=by
 obtain⟨j,rfl⟩:=Int.eq_ofNat_of_zero_le h0
 have hj:j<xs.length:=by omega
 exact⟨xs[j],a1P (by rw [List.getElem?_map,List.getElem?_eq_getElem hj];rfl),List.getElem_mem hj⟩
theorem b6Q {G:Hq} {p q:Addr} {n:Nat} {f:Bool->Bool} {R:K3} (e1:G p=some (.lst (ocZ n))) (e2:G q=some (.lst (ocZ n))) (h:R (.bl (f true)) G):zEqN f (.ref p) (.ref q) G R:=by
 have dz:∀ {t},G t=some (.lst (ocZ n))->DZ G (.list [.str (ocN n),.bool (decide (n≠0)),.bool false]) (.ref t):=fun e=>b3O e (a6e (by unfold DZ;rfl) (a6e b6n (a6e b6n b3P)))
 have sh:PySem.SeqAt.shaped (.list [.str (ocN n),.bool (decide (n≠0)),.bool false])=true:=by
  generalize decide (n≠0)=b
  have hs:ocN n=Str.ofString ""\/ocN n=Str.ofString "knowing"\/ocN n=Str.ofString "name"\/ocN n=Str.ofString "stretch":=by
   unfold ocN
   split
   ·exact .inl rfl
   ·split
    ·exact .inr (.inl rfl)
    ·split
     ·exact .inr (.inr (.inl rfl))
     ·exact .inr (.inr (.inr rfl))
  rcases hs with e | e | e | e<;>rw [e]<;>cases b<;>decide +kernel
 refine b8a (dz e1) (dz e2) sh sh ?_
 rw [PySem.SeqAt.eqv_refl _ (PySem.SeqAt.canLay_of_shaped sh)]
 exact h
local macro_rules | `(tactic| walk_at "go1")=>`(tactic| first | refine i_I (show (0:Int)<_ by decide) ?_ | refine a1A (by assumption) (by with_unfolding_all rfl) ?_ | (refine i_I ⟨by decide,by decide,by decide⟩ ?_;rw [a4n]))
theorem b1b {x y:Int} {b:Bool}:atI [Z.int x,.int y] (if b=true then 1 else 0)=some (.int (if b=true then y else x)):=by cases b<;>rfl
theorem b1c {x y:Str} {b:Bool}:atI [Z.str x,.str y] (if b=true then 1 else 0)=some (.str (if b=true then y else x)):=by cases b<;>rfl
theorem a8L {g:Bool} {k o:Str} (hk:nmOk k) (ho:a1g (.str o)=false):a1g (.str (if g=true then k else o))=g:=by
 cases g
 ·exact ho
 ·exact nm_b hk
theorem b1d {g:Bool} {k o:Str} (hk:nmOk k) (ho:okS o) (G:Hq):Th G (.str (if g=true then k else o)):=by
 cases g
 ·exact ho
 ·exact a4j hk
theorem b4h {m:Int} (h:m<0\/1000000000000<m):momB (.int m)=false:=by
 rw [a4i]
 rcases h with h | h
 ·rw [decide_eq_false (show ¬ 0≤m by omega)];rfl
 ·rw [decide_eq_false (show ¬ m≤1000000000000 by omega),Bool.and_false]
theorem b6R (F:Fns K a) (T:Txt K mg a):FnOk P w K mg base CX0 8 a.f_law a.d_law ["script"] (lowP K a5P):=by
 have G_words:=b2l (P:=P) (w:=w) (base:=base) F T
 have G_Sheet___init__:=a4m (P:=P) (w:=w) (base:=base) F T
 have G_Sheet_knowings:=a4o (P:=P) (w:=w) (base:=base) F T
 have G_cell_at:=a9b (P:=P) (w:=w) (base:=base) F T
 have G_Sheet_tell:=a6q (P:=P) (w:=w) (base:=base) F T
 have G_Sheet_line_at:=a2P (P:=P) (w:=w) (base:=base) F T
 have G_telling:=a9i (P:=P) (w:=w) (base:=base) F T
 have G_tumbled:=a3d (P:=P) (w:=w) (base:=base) F T
 have G_asked:=b2n (P:=P) (w:=w) (base:=base) F T
 have G_due:=b6M (P:=P) (w:=w) (base:=base) F T
 have G_Sheet_keys_at:=a1Y (P:=P) (w:=w) (base:=base) F T
 refine fn3 F.law sc_law (fun ws G R h=>(by exact b4g h)) (fun cdv A outer s H E ws G R hr h=>?_)
 have hu:(A.deeper (PyProof.Rows.envOfC "law" (a0c a3u) s.heap.objs.size a.f_law cdv)).units+66<cLine:=by have:=hr.un;omega
 refine⟨_,(a0n (a05 (i:=1) sc_law.nd rfl (Or.inr rfl) (a0Q G_words (hr.mono (by decide)) rfl T.m_words T.k_words (b0H F) (a0b (a0Q G_cell_at (hr.mono (by decide)) rfl T.m_cell_at T.k_cell_at (a5e F) (a0b (a0d (pv 0)) (a0b a0g a0k a0e) a0a) (he:=a0a) (hpl:=(a0i a0e a0l))) a0k a1q) (he:=a1q) (hpl:=a0l)))
  (a0n (a05 (i:=2) sc_law.nd rfl (Or.inl rfl) (a0Q G_words (hr.mono (by decide)) rfl T.m_words T.k_words (b0H F) (a0b (a0Q G_cell_at (hr.mono (by decide)) rfl T.m_cell_at T.k_cell_at (a5e F) (a0b (a0d (pv 0)) (a0b a0g a0k a0e) a0a) (he:=a0a) (hpl:=(a0i a0e a0l))) a0k a1q) (he:=a1q) (hpl:=a0l)))
  (a0n (a05 (i:=3) sc_law.nd rfl (Or.inr rfl) (b3G T.mk_Sheet G_Sheet___init__ (hr.mono (by decide)) rfl T.mg_Sheet (a4H F)))
  (a0n (a6M (pt:=(.nm 4)) PassesOwn.never rfl (a1R (a2X x_sl (a0d (pv 0)) (a3j a0g) (a3j a0g))) (show QP _ _ (.nm 4) from (a0A (i:=4) sc_law.nd rfl (Or.inl rfl)))
  (a0t (a1o (a2i a13 up0 (a0d (pv 3)) T.cl_Sheet T.mt_Sheet_tell G_Sheet_tell (hr.mono (by decide)) (a67 F) (a0b (a0Q G_telling (hr.mono (by decide)) rfl T.m_telling T.k_telling (b0J F) (a0b (a0d (pv 4)) (a0b (a0d (pv 1)) (a0b (a0d (pv 2)) a0k a0a) a0a) a0a) (he:=a0a) (hpl:=(a0i a0a (a0i a0a a0l)))) a0k a1q) (hst:=a1q) (hpl:=a0l)))))
  (a0n (a05 (i:=5) sc_law.nd rfl (Or.inr rfl) (b0w (a0d (pv 3)) T.cl_Sheet T.mt_Sheet_knowings G_Sheet_knowings (hr.mono (by decide)) (a2K F)))
  (a0n (a05 (i:=6) sc_law.nd rfl (Or.inr rfl) (q_lc (N₀:=["script","keys","worths","sheet","cell","last","lines","k","xs","goods","odd","key","worth","moment","knowing","way","there"]) (so:=a0c a3u) (N':=["key","last","sheet"]) (cap:=[none,some 5,some 3]) (pt:=(.nm 0)) rfl rfl rfl (by decide +kernel) rfl (a1R (a0d (pv 1))) (fun _ _ _ _=>(show QP _ _ (.nm 0) from (a0A (i:=0) (show List.Nodup (α:=Str) ["key","last","sheet"] from by decide +kernel) rfl (Or.inl rfl)))) (fun _ _ _ _=>a2Y) (fun _ _ _ _=>(a2i a13 up0 (a0d (pv 2)) T.cl_Sheet T.mt_Sheet_line_at G_Sheet_line_at (hr.mono (by decide)) (a16 F) (a0b (a0d (pv 0)) (a0b (a0d (pv 1)) a0k a0a) a0a) (hst:=a0a) (hpl:=(a0i a0a a0l))))))
  (a0n (a6M (pt:=(.nm 7)) PassesOwn.never rfl (a2n rfl T.b_range (a0b a0g a0k a0e)) (show QP _ _ (.nm 7) from (a0A (i:=7) sc_law.nd rfl (Or.inr rfl)))
  (a0n (a05 (i:=8) sc_law.nd rfl (Or.inr rfl) (q_lc (N₀:=["script","keys","worths","sheet","cell","last","lines","k","xs","goods","odd","key","worth","moment","knowing","way","there"]) (so:=a0c a3u) (N':=["j","script","k"]) (cap:=[none,some 0,some 7]) (pt:=(.nm 0)) rfl rfl rfl (by decide +kernel) rfl (a2n rfl T.b_range (a0b a0g a0k a0e)) (fun _ _ _ _=>(show QP _ _ (.nm 0) from (a0A (i:=0) (show List.Nodup (α:=Str) ["j","script","k"] from by decide +kernel) rfl (Or.inl rfl)))) (fun _ _ _ _=>a2Y) (fun _ _ _ _=>(a0Q G_tumbled (hr.mono (by decide)) rfl T.m_tumbled T.k_tumbled (a0Z F) (a0b (a0Q G_cell_at (hr.mono (by decide)) rfl T.m_cell_at T.k_cell_at (a5e F) (a0b (a0d (pv 1)) (a0b a0g a0k a0e) a0a) (he:=a0a) (hpl:=(a0i a0e a0l))) (a0b (q_op a1r (q_op a1r a0g (q_op a7B a0g (a0d (pv 2)))) (a0d (pv 0))) a0k a0K) a1q) (he:=a1q) (hpl:=(a0i a0K a0l))))))
  (a0n (a99 (i:=9) sc_law.nd rfl rfl (N₀:=["script","keys","worths","sheet","cell","last","lines","k","xs","goods","odd","key","worth","moment","knowing","way","there"]) (so:=a0c a3u) (N':=["j","xs"]) (cap:=[none,some 8]) (pt:=(.nm 0)) rfl rfl rfl (by decide +kernel) rfl (a2n rfl T.b_range (a0b a0g a0k a0e)) (fun _ _ _ _=>(show QP _ _ (.nm 0) from (a0A (i:=0) (show List.Nodup (α:=Str) ["j","xs"] from by decide +kernel) rfl (Or.inl rfl)))) (fun _ _ _ _=>a2Y) (fun _ _ _ _=>(a9Y o_gt (q_op a1k (q_ix x_ix (a0d (pv 1)) (a0d (pv 0)) (fun _ _=>rfl)) a0g) a0g (a0z _))))
  (a0n (a05 (i:=10) sc_law.nd rfl (Or.inl rfl) (a1X (a0b a1Q (a0b a1Q (a0b (q_op a1r (q_ix x_ix (a0d (pv 1)) a0g (fun _ _=>rfl)) a1Q) (a0b (q_op a1r a1Q (a2X x_sl (q_ix x_ix (a0d (pv 2)) a0g (fun _ _=>rfl)) (a3j a0g) a26)) (a0b a1Q (a0b a1Q a0k a0e) a0e) a0K) a0K) a0e) a0e)))
  (a0n (a05 (i:=11) sc_law.nd rfl (Or.inl rfl) (q_ix x_ix (a1X (a0b (q_ix x_ix (a0d (pv 10)) (q_op a1k (q_ix x_ix (a0d (pv 8)) a0g (fun _ _=>rfl)) a0g) (fun _ _=>rfl)) (a0b (q_ix x_ix (a0d (pv 1)) (q_op a1k (q_ix x_ix (a0d (pv 8)) a0g (fun _ _=>rfl)) a0g) (fun _ _=>rfl)) a0k a0m) a0m)) (a4M a8s rfl T.b_int rfl (a0b (q_ix x_ix (a0d (pv 9)) a0g (fun _ _=>rfl)) a0k a0m) (he:=a0m) (hpl:=a0l)) (fun _ _=>rfl)))
  (a0n (a05 (i:=12) sc_law.nd rfl (Or.inl rfl) (q_ix x_ix (a1X (a0b (q_ix x_ix (a0d (pv 10)) (q_op a1k (q_ix x_ix (a0d (pv 8)) a0g (fun _ _=>rfl)) a0g) (fun _ _=>rfl)) (a0b (q_ix x_ix (a0d (pv 2)) (q_op a1k (q_ix x_ix (a0d (pv 8)) a0g (fun _ _=>rfl)) a0g) (fun _ _=>rfl)) a0k a0m) a0m)) (a4M a8s rfl T.b_int rfl (a0b (q_ix x_ix (a0d (pv 9)) a0g (fun _ _=>rfl)) a0k a0m) (he:=a0m) (hpl:=a0l)) (fun _ _=>rfl)))
  (a0n (a05 (i:=13) sc_law.nd rfl (Or.inl rfl) (q_ix x_ix (a1X (a0b (q_ix x_ix (a1X (a0b (q_un a38 a0g) (a0b (q_op a1r (q_op a3G a0g a0g) a0g) (a0b (q_op a82 (q_un a38 a0g) (q_ix x_ix (a0d (pv 8)) a0g (fun _ _=>rfl))) (a0b (q_op a1r (q_op a1r (q_op a3G a0g a0g) a0g) (q_ix x_ix (a0d (pv 8)) a0g (fun _ _=>rfl))) a0k a0K) a0K) a0K) a5D)) (q_op a1k (q_ix x_ix (a0d (pv 8)) a0g (fun _ _=>rfl)) a0g) (fun _ _=>rfl)) (a0b (q_op a1k (q_ix x_ix (a0d (pv 8)) a0g (fun _ _=>rfl)) a0g) a0k a0K) a0m)) (a4M a8s rfl T.b_int rfl (a0b (q_ix x_ix (a0d (pv 9)) a0g (fun _ _=>rfl)) a0k a0m) (he:=a0m) (hpl:=a0l)) (fun _ _=>rfl)))
  (a0n (a05 (i:=14) sc_law.nd rfl (Or.inl rfl) (q_ix x_ix (a1X (a0b (q_ix x_ix (a1X (a0b (q_un a38 a0g) (a0b (q_op a1r (a0d (pv 5)) a0g) (a0b (q_op a82 (q_un a38 a0g) (q_ix x_ix (a0d (pv 8)) a0g (fun _ _=>rfl))) (a0b (q_op a1r (q_op a1r (a0d (pv 5)) a0g) (q_ix x_ix (a0d (pv 8)) a0g (fun _ _=>rfl))) a0k a0K) a0K) a0K) a5D)) (q_op a1k (q_ix x_ix (a0d (pv 8)) a0g (fun _ _=>rfl)) a0g) (fun _ _=>rfl)) (a0b (q_op a1k (q_ix x_ix (a0d (pv 8)) a0g (fun _ _=>rfl)) (q_op a1r (a0d (pv 5)) a0g)) a0k a0K) a0m)) (a4M a8s rfl T.b_int rfl (a0b (q_ix x_ix (a0d (pv 9)) a0g (fun _ _=>rfl)) a0k a0m) (he:=a0m) (hpl:=a0l)) (fun _ _=>rfl)))
  (a0n (a05 (i:=15) sc_law.nd rfl (Or.inl rfl) (q_op a1k (a0d (pv 7)) a0g))
  (a0t (z_if (a0J (b79 hu) (a0Q G_asked (hr.mono (by decide)) rfl T.m_asked T.k_asked (b3V F) (a0b (a0d (pv 3)) (a0b (a0d (pv 15)) (a0b (a0d (pv 11)) (a0b (a0d (pv 12)) (a0b (a0d (pv 13)) (a0b (a0d (pv 14)) a0k a0a) a0a) a0a) a0a) a0a) a0a) (he:=a0a) (hpl:=(a0i a0a (a0i a0a (a0i a0a (a0i a0a (a0i a0a a0l))))))) (a0Q G_due (hr.mono (by decide)) rfl T.m_due T.k_due (b8e F) (a0b (a0d (pv 15)) (a0b (a0d (pv 9)) a0k a0a) a0a) (he:=a0a) (hpl:=(a0i a0a a0l))) (a0z _))
  (a0t (a02 q_bl))
  a1J)))))))))))
  (a0n (a05 (i:=16) sc_law.nd rfl (Or.inl rfl) (a01 a60 rfl T.b_sorted rfl (a0b (q_lc (N₀:=["script","keys","worths","sheet","cell","last","lines","k","xs","goods","odd","key","worth","moment","knowing","way","there"]) (so:=a0c a3u) (N':=["k","keys","lines"]) (cap:=[none,some 1,some 6]) (pt:=(.nm 0)) rfl rfl rfl (by decide +kernel) rfl (a2n rfl T.b_range (a0b a0g a0k a0e)) (fun _ _ _ _=>(show QP _ _ (.nm 0) from (a0A (i:=0) (show List.Nodup (α:=Str) ["k","keys","lines"] from by decide +kernel) rfl (Or.inl rfl)))) (fun _ _ _ _=>(a37 (a0J (o_ne hu) (q_ix x_ix (a0d (pv 2)) (a0d (pv 0)) (fun _ _=>rfl)) (a1X a0k) (a0z _)))) (fun _ _ _ _=>(q_ix x_ix (a0d (pv 1)) (a0d (pv 0)) (fun _ _=>rfl)))) a0k a1I) (he:=a1I) (hpl:=a0l)))
  (a0n (z_if (QW.qt (q_or (a0J (o_ne hu) (b0w (a0d (pv 3)) T.cl_Sheet T.mt_Sheet_knowings G_Sheet_knowings (hr.mono (by decide)) (a2K F)) (a0d (pv 5)) (a0z _)) (a53 (a0J (o_ne hu) (a2i a13 up0 (a0d (pv 3)) T.cl_Sheet T.mt_Sheet_keys_at G_Sheet_keys_at (hr.mono (by decide)) (a15 F) (a0b (a0d (pv 5)) a0k a0a) (hst:=a0a) (hpl:=a0l)) (a0d (pv 16)) (a0z _)))))
  (a0t (a02 q_bl))
  a1J)
  (a0t (a02 (a9Y (b76 hu) (q_lc (N₀:=["script","keys","worths","sheet","cell","last","lines","k","xs","goods","odd","key","worth","moment","knowing","way","there"]) (so:=a0c a3u) (N':=["key","last","sheet"]) (cap:=[none,some 5,some 3]) (pt:=(.nm 0)) rfl rfl rfl (by decide +kernel) rfl (a1R (a0d (pv 1))) (fun _ _ _ _=>(show QP _ _ (.nm 0) from (a0A (i:=0) (show List.Nodup (α:=Str) ["key","last","sheet"] from by decide +kernel) rfl (Or.inl rfl)))) (fun _ _ _ _=>a2Y) (fun _ _ _ _=>(a2i a13 up0 (a0d (pv 2)) T.cl_Sheet T.mt_Sheet_line_at G_Sheet_line_at (hr.mono (by decide)) (a16 F) (a0b (a0d (pv 0)) (a0b (a0d (pv 1)) a0k a0a) a0a) (hst:=a0a) (hpl:=(a0i a0a a0l))))) (a0d (pv 6)) (a0z _))))))))))))),?_⟩
 obtain⟨sa,ns,rfl,hl,q⟩:=h
 walk_at "go"
 refine⟨sa,ns,0,rfl,by decide,fun c0=>?_⟩
 walk_at "go"
 refine⟨c0,rfl,fun ks kn G1 hks s1 gks lk hk nd=>?_⟩
 walk_at "go"
 refine⟨sa,ns,1,rfl,by decide,fun c1=>?_⟩
 walk_at "go"
 refine⟨c1,rfl,fun wsA wn G2 hws s2 gws lw hw _=>?_⟩
 have gks2:=s2 _ _ gks
 clear s1 s2 gks hks hws
 walk_at "go"
 intro p dx hp
 refine⟨p,dx,rfl,a0f,fun d G5 hd k5 sh5=>⟨rfl,?_⟩⟩
 have fr:∀ x,(x=p\/x=d)->G2 x=none:=fun x hx=>by
  rcases hx with rfl | rfl
  ·exact hp
  ·exact (Sm.new hp).free hd
 have kp5:∀ x o,G2 x=some o->G5 x=some o:=fun x o e=>k5 x o (a0I e hp) (a1G e hp)
 have gw5:=kp5 _ _ gws
 have gk5:=kp5 _ _ gks2
 have nW:¬ (wsA=p\/wsA=d):=fun z=>by have:=fr _ z;rw [gws] at this;cases this
 have nK:¬ (ks=p\/ks=d):=fun z=>by have:=fr _ z;rw [gks2] at this;cases this
 clear k5 kp5 fr gws gks2
 walk_at "go"
 refine b7J fun c hc=>?_
 have hcl:(cutZ ns (some 3) (some 123)).length≤63:=Nat.le_trans (a7D ..) hl
 generalize cutZ ns (some 3) (some 123)=cs at hcl ⊢
 have sc:Sm G5 (put G5 c (.lst (cs.map Z.int))):=Sm.new hc
 have gc:put G5 c (.lst (cs.map Z.int)) c=some (.lst (cs.map Z.int)):=a0f
 have nC:¬ (c=p\/c=d):=fun z=>by
  obtain⟨_,_,_,m5⟩:=sh5
  obtain⟨o,e⟩:=m5.al c z
  rw [hc] at e;cases e
 have sh6:=sh5.keep (Sm.ks sc)
 have gk6:=sc _ _ gk5
 have gw6:=sc _ _ gw5
 generalize put G5 c (.lst (cs.map Z.int))=G6 at gc sh6 gk6 gw6 ⊢
 clear sc gk5 gw5 sh5 hc
 walk_at "go"
 refine a39 gc ?_
 refine a3k (fun i σ G'=>∃ (S:Addr->Prop) (T:List Tl) (v:Option Z),Sheet a.c_Sheet G' p S T/\T.length=i/\OkT T/\(∀ τ∈T,τ.key∈kn)/\(∀ x,S x->(x=p\/x=d)\/G6 x=none)/\(∀ x o,G6 x=some o->¬ (x=p\/x=d)->G' x=some o)/\σ=[some (.scr sa ns),some (.ref ks),some (.ref wsA),some (.ref p),v,none,none,none,none,none,none,none,none,none,none,none,none]) ⟨_,[],_,sh6,rfl,(fun τ h=>by simp at h),(fun τ h=>by simp at h),fun x hx=>.inl hx,fun x o e _=>e,rfl⟩ (by rintro i σ G' _ ⟨_,_,_,_,_,_,_,_,k,_⟩;exact k _ _ gc nC) ?_ ?_
 ·rintro i x σ G' hx ⟨S,T1,v,sh,hTl,ok,hkn,hS,kp,rfl⟩
  rw [List.getElem?_map] at hx
  cases hx':cs[i]? with
  | none=>rw [hx'] at hx;cases hx
  | some cl=>
  rw [hx'] at hx
  cases hx
  have hi:=(List.getElem?_eq_some_iff.mp hx').1
  have sh':=sh
  obtain⟨dx',d',kvs',m⟩:=sh'
  refine⟨_,rfl,?_⟩
  walk_at "go"
  refine⟨p,dx',_,rfl,m.ob,a2T (by decide +kernel) (by decide +kernel),?_⟩
  walk_at "go"
  refine⟨_,ks,wsA,kn,wn,rfl,kp _ _ gk6 nK,kp _ _ gw6 nW,lk,lw,hk,hw,fun τ Ga sA okτ mk=>?_⟩
  walk_at "go"
  refine⟨p,S,T1,sh.keep (Sm.ks sA),.inl ⟨τ,rfl,okτ,by omega,fun S' Gb i1 i2 knb shB=>?_⟩⟩
  walk_at "go"
  refine⟨S',T1++[τ],_,shB,by rw [List.length_append,hTl];rfl,fun u hu=>?_,fun u hu=>?_,fun x hx=>?_,fun x o e n=>knb _ _ (fun z=>?_) (sA _ _ (kp x o e n)),rfl⟩
  ·rcases List.mem_append.mp hu with hu | hu
   ·exact ok u hu
   ·rw [List.mem_singleton.mp hu];exact okτ
  ·rcases List.mem_append.mp hu with hu | hu
   ·exact hkn u hu
   ·rw [List.mem_singleton.mp hu];exact mk
  ·rcases i2 x hx with w | w
   ·exact hS x w
   ·by_cases n:x=p\/x=d
    ·exact .inl n
    ·right
     cases e:G6 x with
     | none=>rfl
     | some o=>rw [sA _ _ (kp x o e n)] at w;cases w
  ·rcases hS x z with w | w
   ·exact n w
   ·rw [w] at e;cases e
 ·rintro σ G7 ⟨S,T',v,sh,hTl,ok,hkn,hS,kp,rfl⟩
  rw [List.length_map] at hTl
  have hT:T'.length≤63:=by omega
  have few:Few T':=⟨by omega,T'.map (·.key),by rw [List.length_map];exact hT,fun τ h=>List.mem_map_of_mem (f:=(·.key)) h⟩
  have gk7:=kp _ _ gk6 nK
  have gw7:=kp _ _ gw6 nW
  have nKs:¬ S ks:=fun z=>by
   rcases hS _ z with w | w
   ·exact nK w
   ·rw [w] at gk6;cases gk6
  have nWs:¬ S wsA:=fun z=>by
   rcases hS _ z with w | w
   ·exact nW w
   ·rw [w] at gw6;cases gw6
  have shv:=sh.v
  clear kp hS sh6 gk6 gw6 gc
  have shv':=shv
  obtain⟨dx7,d7,kvs7,sm⟩:=shv'
  have tl:T'.take ((T'.length:Int)).toNat=T':=by rw [show ((T'.length:Int)).toNat=T'.length by omega,List.take_length]
  have inl:inR T' (T'.length:Int):=⟨by omega,Int.le_refl _⟩
  walk_at "go"
  refine⟨p,dx7,_,rfl,sm.ob,a2T (by decide +kernel) (by decide +kernel),?_⟩
  walk_at "go"
  refine⟨p,S,T',rfl,shv,?_⟩
  walk_at "go"
  refine a39 gk7 ?_
  intro D hD
  refine a56 (fun i ys G'=>∃ ps:List (Addr×List Rw),ys=ps.map (fun e=>Z.ref e.1)/\Lines T' (kn.take i) (ps.map (·.2))/\Held G' ps/\(∀ e∈ps,G7 e.1=none/\e.1≠D)/\Sm G7 G'/\G' D=some (.lst ys)) ⟨[],rfl,⟨rfl,fun j k L h=>by simp at h⟩,(fun e h=>by simp at h),(fun e h=>by simp at h),Sm.new hD,a0f⟩ (by rintro i ys G' _ ⟨_,_,_,_,_,s,_⟩;exact s _ _ gk7) ?_ ?_
  ·rintro i x ys G' hx ⟨ps,rfl,hL,hp1,hp2,s,gD⟩
   rw [List.getElem?_map] at hx
   cases hx':kn[i]? with
   | none=>rw [hx'] at hx;cases hx
   | some k=>
   rw [hx'] at hx
   cases hx
   have hi:=(List.getElem?_eq_some_iff.mp hx').1
   have hk':=hk k (List.mem_of_getElem? hx')
   have sm1:=sm.keep (Sm.ks s)
   have hpl:ps.length≤4:=by have:=hL.1;rw [List.length_map,List.length_take] at this;omega
   refine⟨_,rfl,?_⟩
   walk_at "go"
   refine⟨p,dx7,_,rfl,sm1.ob,a2T (by decide +kernel) (by decide +kernel),?_⟩
   walk_at "go"
   refine⟨p,S,T',.str k,_,rfl,⟨dx7,d7,kvs7,sm1⟩,(fun _=>a4j hk'),by omega,.inl ⟨inl,k,rfl,hk',fun t L Ga ht sa' gt il=>?_⟩⟩
   rw [tl] at il
   have ntD:t≠D:=Ne.symm (a1G gD ht)
   refine⟨sa' _ _ gD,by rw [List.length_map];exact a0P (by omega),ps++[(t,L)],by rw [List.map_append];rfl,?_,fun e he=>?_,fun e he=>?_,(s.trans sa').put hD,a0f⟩
   ·rw [List.map_append,List.take_add_one,hx']
    exact hL.snoc il
   ·rcases List.mem_append.mp he with he | he
    ·obtain⟨a3,a4⟩:=hp1 e he
     exact⟨by rw [a07 (hp2 e he).2];exact sa' _ _ a3,a4⟩
    ·rw [List.mem_singleton.mp he]
     exact⟨by rw [a07 ntD];exact gt,a5V il.pl⟩
   ·rcases List.mem_append.mp he with he | he
    ·exact hp2 e he
    ·rw [List.mem_singleton.mp he]
     exact⟨s.free ht,ntD⟩
  ·rintro ys G8 ⟨ps,rfl,hL,hp1,hp2,s8,gD⟩
   rw [List.length_map,List.take_length] at hL
   have hpl:ps.length=4:=by have:=hL.1;rw [List.length_map] at this;omega
   have gk8:=s8 _ _ gk7
   have gw8:=s8 _ _ gw7
   have nS:∀ x,G7 x=none->¬ S x:=fun x hx z=>by
    obtain⟨o,e⟩:=sm.al x z
    rw [hx] at e;cases e
   have nDs:=nS D hD
   have sh8:SheetV a.c_Sheet G8 p S T':=shv.keep (Sm.ks s8)
   have held:∀ G',KN S G8 G'->Held G' ps:=fun G' kn e he=>⟨kn _ _ (nS _ (hp2 e he).1) (hp1 e he).1,(hp1 e he).2⟩
   clear s8 gk7 gw7 sm shv sh
   walk_at "go"
   refine⟨by decide,by decide,?_⟩
   refine a3k (fun i σ G'=>Ex10 fun (w1 w2 w3 w4 w5 w6 w7 w8 w9 w10:Option Z)=>KN S G8 G'/\SheetV a.c_Sheet G' p S T'/\σ=[some (.scr sa ns),some (.ref ks),some (.ref wsA),some (.ref p),v,some (.int T'.length),some (.ref D),w1,w2,w3,w4,w5,w6,w7,w8,w9,w10]) ⟨_,_,_,_,_,_,_,_,_,_,fun _ _ _ e=>e,sh8,rfl⟩ (fun _ _ _ _ _=>True.intro) ?_ ?_
   ·rintro i x σ G9 hx ⟨w1,w2,w3,w4,w5,w6,w7,w8,w9,w10,kn9,sh9,rfl⟩
    obtain⟨hi,rfl⟩:=a3q hx
    have hi:i<40:=hi
    rw [Int.zero_add]
    refine⟨_,rfl,?_⟩
    walk_at "go"
    refine⟨by decide,by decide,?_⟩
    intro X hX
    refine a56 (fun j ys G'=>∃ xs:List Int,ys=xs.map Z.int/\xs.length=j/\(∀ x∈xs,0≤x/\x<1000000007)/\G'=put G9 X (.lst ys)) ⟨[],rfl,rfl,(fun x h=>by simp at h),rfl⟩ (by rintro _ _ _ _ _;exact True.intro) ?_ ?_
    ·rintro j x ys G' hx ⟨xs,rfl,hxl,hxs,rfl⟩
     obtain⟨hj,rfl⟩:=a3q hx
     have hj:j<6:=hj
     refine⟨_,rfl,?_⟩
     walk_at "go"
     refine⟨sa,ns,2,rfl,by decide,fun c2=>?_⟩
     walk_at "go"
     refine i_I (.inl ⟨by decide,by decide⟩) ?_
     walk_at "go"
     refine⟨c2,_,rfl,by omega,by omega,fun r r0 r1=>?_⟩
     refine⟨a0f,by rw [List.length_map];exact a0P (by omega),xs++[r],by rw [List.map_append];rfl,by rw [List.length_append];simp;exact hxl,fun y hy=>?_,by rw [a2y]⟩
     rcases List.mem_append.mp hy with hy | hy
     ·exact hxs y hy
     ·rw [List.mem_singleton.mp hy];exact⟨r0,r1⟩
    ·rintro ys G10 ⟨xs,rfl,hxl,hxs,rfl⟩
     rw [a12] at hxl
     have hxl:xs.length=6:=hxl
     have gX:put G9 X (.lst (xs.map Z.int)) X=some (.lst (xs.map Z.int)):=a0f
     have sX:Sm G9 (put G9 X (.lst (xs.map Z.int))):=Sm.new hX
     generalize put G9 X (.lst (xs.map Z.int))=G10 at gX sX ⊢
     walk_at "go"
     refine⟨by decide,by decide,?_⟩
     intro Y hY
     refine a56 (fun j ys G'=>ys=(xs.take j).map (fun x=>Z.bl (decide (0<x % 3)))/\G'=put G10 Y (.lst ys)) ⟨by simp,by simp⟩ (by rintro _ _ _ _ _;exact True.intro) ?_ ?_
     ·rintro j x ys G' hx ⟨rfl,rfl⟩
      obtain⟨hj,rfl⟩:=a3q hx
      have hj:j<4:=hj
      have hjx:xs[j]?=some xs[j]:=List.getElem?_eq_getElem (by omega)
      rw [Int.zero_add]
      refine⟨_,rfl,?_⟩
      walk_at "go"
      refine a1A (a0I gX hY) (a1P (by rw [List.getElem?_map,hjx];rfl)) ?_
      walk_at "go"
      refine⟨a0f,by rw [List.length_map,List.length_take];exact a0P (by omega),?_,by rw [a2y]⟩
      rw [List.take_add_one,hjx,List.map_append];rfl
     ·rintro ys G11 ⟨rfl,rfl⟩
      rw [a12,show (Int.toNat 4)=4 from rfl]
      obtain⟨x0,x1,x2,x3,x4,x5,rfl⟩:Ex6 fun x0 x1 x2 x3 x4 x5=>xs=[x0,x1,x2,x3,x4,x5]:=by
       match xs,hxl with
       | [x0,x1,x2,x3,x4,x5],_=>exact⟨x0,x1,x2,x3,x4,x5,rfl⟩
      have hx4:=hxs x4 (by simp)
      have hx5:=hxs x5 (by simp)
      clear hxs hxl
      rw [show (([x0,x1,x2,x3,x4,x5]:List Int).take 4).map (fun x=>Z.bl (decide (0<x % 3)))=[.bl (decide (0<x0 % 3)),.bl (decide (0<x1 % 3)),.bl (decide (0<x2 % 3)),.bl (decide (0<x3 % 3))] from rfl]
      generalize decide (0<x0 % 3)=g0
      generalize decide (0<x1 % 3)=g1
      generalize decide (0<x2 % 3)=g2
      generalize decide (0<x3 % 3)=g3
      have gX:G10 X=some (.lst [.int x0,.int x1,.int x2,.int x3,.int x4,.int x5]):=gX
      have gY:put G10 Y (.lst [.bl g0,.bl g1,.bl g2,.bl g3]) Y=some (.lst [.bl g0,.bl g1,.bl g2,.bl g3]):=a0f
      have sY:Sm G9 (put G10 Y (.lst [.bl g0,.bl g1,.bl g2,.bl g3])):=sX.trans (Sm.new hY)
      have gX:=a0I (o:=.lst [.bl g0,.bl g1,.bl g2,.bl g3]) gX hY
      have nY:¬ S Y:=fun z=>by
       obtain⟨_,_,_,m9⟩:=sh9
       obtain⟨o,e⟩:=m9.al Y z
       rw [sX _ _ e] at hY;cases hY
      generalize put G10 Y (.lst [.bl g0,.bl g1,.bl g2,.bl g3])=G11 at gX gY sY ⊢
      obtain⟨k0,e0k,_,hk0⟩:=a4y hk (show (0:Int)≤0 by decide) (by omega)
      obtain⟨w0,e0w,_,hw0⟩:=a4y hw (show (0:Int)≤0 by decide) (by omega)
      have gk11:=sY _ _ (kn9 _ _ nKs gk8)
      have gw11:=sY _ _ (kn9 _ _ nWs gw8)
      have lk0:k0.length≤8:=by rw [a2o];exact hk0.2.1
      have lw0:(Txt.slice w0 (some 1) none).length≤8:=by
       rw [a2o,show (Txt.slice w0 (some 1) none).cps.toList=w0.cps.toList.drop 1 from a70 (s:=w0) (p:=1) (by have:=hw0.1;omega),List.length_drop]
       have:=hw0.2.1
       omega
      clear sX hX hY
      walk_at "go"
      refine a1A gk11 e0k ?_
      walk_at "go"
      refine a5H (a2L (by rw [show (Str.ofString " ").length=1 by decide +kernel];omega)) ?_
      walk_at "go"
      refine a1A gw11 e0w ?_
      walk_at "go"
      refine b3y (b03 hw0) ?_
      walk_at "go"
      refine a5H (a2L (by rw [show (Str.ofString "A").length=1 by decide +kernel];omega)) ?_
      walk_at "go"
      refine⟨lenK rfl,fun O hO=>?_⟩
      have gO:put G11 O (.lst [.str (Str.ofString ""),.str (Str.ofString " "),.str (k0++Str.ofString " "),.str (Str.ofString "A"++Txt.slice w0 (some 1) none),.str (Str.ofString "abcdefghi"),.str (Str.ofString "a1")]) O=some (.lst ((odds k0 w0).map Z.str)):=a0f
      have sO:Sm G11 (put G11 O (.lst [.str (Str.ofString ""),.str (Str.ofString " "),.str (k0++Str.ofString " "),.str (Str.ofString "A"++Txt.slice w0 (some 1) none),.str (Str.ofString "abcdefghi"),.str (Str.ofString "a1")])):=Sm.new hO
      generalize put G11 O (.lst [.str (Str.ofString ""),.str (Str.ofString " "),.str (k0++Str.ofString " "),.str (Str.ofString "A"++Txt.slice w0 (some 1) none),.str (Str.ofString "abcdefghi"),.str (Str.ofString "a1")])=G12 at gO sO ⊢
      have okO:=b4f hk0 hw0
      have gX:=sO _ _ gX
      have gY:=sO _ _ gY
      have gk12:=sO _ _ gk11
      have gw12:=sO _ _ gw11
      have s12:=sY.trans sO
      clear gk11 gw11 sY sO hO
      obtain⟨o1,eo1,mo1⟩:=b02 (ns:=odds k0 w0) (k:=x4 % 6) (by omega) (by show x4 % 6<6;omega)
      obtain⟨o2,eo2,mo2⟩:=b02 (ns:=odds k0 w0) (k:=x5 % 6) (by omega) (by show x5 % 6<6;omega)
      obtain⟨k1,ek1,_,hk1⟩:=a4y hk (k:=x4 % 4) (by omega) (by omega)
      obtain⟨v1,ev1,_,hv1⟩:=a4y hw (k:=x5 % 4) (by omega) (by omega)
      walk_at "go"
      refine a1A gO eo1 ?_
      walk_at "go"
      refine a1A gk12 ek1 ?_
      walk_at "go"
      refine⟨lenK rfl,fun A hA=>?_⟩
      have sA:Sm G12 (put G12 A (.lst [.str o1,.str k1])):=Sm.new hA
      have gA:put G12 A (.lst [.str o1,.str k1]) A=some (.lst [.str o1,.str k1]):=a0f
      generalize put G12 A (.lst [.str o1,.str k1])=G13 at sA gA ⊢
      have gX:=sA _ _ gX
      have gY:=sA _ _ gY
      have gO:=sA _ _ gO
      have gw13:=sA _ _ gw12
      have s13:=s12.trans sA
      clear gk12 gw12 s12 sA hA
      walk_at "go"
      refine a1A gA b1c ?_
      clear gA
      walk_at "go"
      refine a1A gO eo2 ?_
      walk_at "go"
      refine a1A gw13 ev1 ?_
      walk_at "go"
      refine⟨lenK rfl,fun A hA=>?_⟩
      have sA:Sm G13 (put G13 A (.lst [.str o2,.str v1])):=Sm.new hA
      have gA:put G13 A (.lst [.str o2,.str v1]) A=some (.lst [.str o2,.str v1]):=a0f
      generalize put G13 A (.lst [.str o2,.str v1])=G14 at sA gA ⊢
      have gX:=sA _ _ gX
      have gY:=sA _ _ gY
      have s14:=s13.trans sA
      clear gw13 gO s13 sA hA
      walk_at "go"
      refine a1A gA b1c ?_
      clear gA
      walk_at "go"
      refine⟨lenK rfl,fun A hA=>?_⟩
      have sA:Sm G14 (put G14 A (.lst [.int (-1),.int (1000000000000+1),.int (-2 - x4),.int (1000000000000+2+x4)])):=Sm.new hA
      have gA:put G14 A (.lst [.int (-1),.int (1000000000000+1),.int (-2 - x4),.int (1000000000000+2+x4)]) A=some (.lst ([-1,1000000000000+1,-2 - x4,1000000000000+2+x4].map Z.int)):=a0f
      generalize put G14 A (.lst [.int (-1),.int (1000000000000+1),.int (-2 - x4),.int (1000000000000+2+x4)])=G15 at sA gA ⊢
      have gX:=sA _ _ gX
      have gY:=sA _ _ gY
      have s15:=s14.trans sA
      clear s14 sA hA
      obtain⟨m1,em1,mm1⟩:=b2U (xs:=[-1,1000000000000+1,-2 - x4,1000000000000+2+x4]) (k:=x5 % 4) (by omega) (by show x5 % 4<4;omega)
      have bm1:momB (.int m1)=false:=b4h (by simp only [List.mem_cons,List.not_mem_nil,or_false] at mm1;omega)
      walk_at "go"
      refine a1A gA em1 ?_
      clear gA mm1
      walk_at "go"
      refine⟨lenK rfl,fun A hA=>?_⟩
      have sA:Sm G15 (put G15 A (.lst [.int m1,.int (x4 % 20)])):=Sm.new hA
      have gA:put G15 A (.lst [.int m1,.int (x4 % 20)]) A=some (.lst [.int m1,.int (x4 % 20)]):=a0f
      generalize put G15 A (.lst [.int m1,.int (x4 % 20)])=G16 at sA gA ⊢
      have gX:=sA _ _ gX
      have gY:=sA _ _ gY
      have s16:=s15.trans sA
      clear s15 sA hA
      walk_at "go"
      refine a1A gA b1b ?_
      clear gA
      walk_at "go"
      refine⟨lenK rfl,fun A hA=>?_⟩
      have sA:Sm G16 (put G16 A (.lst [.int (-1),.int ((T'.length:Int)+1),.int (-2 - x5),.int ((T'.length:Int)+2+x5)])):=Sm.new hA
      have gA:put G16 A (.lst [.int (-1),.int ((T'.length:Int)+1),.int (-2 - x5),.int ((T'.length:Int)+2+x5)]) A=some (.lst ([-1,(T'.length:Int)+1,-2 - x5,(T'.length:Int)+2+x5].map Z.int)):=a0f
      generalize put G16 A (.lst [.int (-1),.int ((T'.length:Int)+1),.int (-2 - x5),.int ((T'.length:Int)+2+x5)])=G17 at sA gA ⊢
      have gX:=sA _ _ gX
      have gY:=sA _ _ gY
      have s17:=s16.trans sA
      clear s16 sA hA
      obtain⟨q1,eq1,mq1⟩:=b2U (xs:=[-1,(T'.length:Int)+1,-2 - x5,(T'.length:Int)+2+x5]) (k:=x4 % 4) (by omega) (by show x4 % 4<4;omega)
      have bq1:¬ inR T' q1:=fun z=>by
       have:=z.1
       have:=z.2
       simp only [List.mem_cons,List.not_mem_nil,or_false] at mq1
       omega
      walk_at "go"
      refine a1A gA eq1 ?_
      clear gA mq1
      walk_at "go"
      refine i_I (show (0:Int)<(T'.length:Int)+1 by omega) ?_
      walk_at "go"
      have gq1:inR T' (x5 % ((T'.length:Int)+1)):=⟨Int.emod_nonneg _ (by omega),by have:=Int.emod_lt_of_pos x5 (show (0:Int)<(T'.length:Int)+1 by omega);omega⟩
      refine⟨lenK rfl,fun A hA=>?_⟩
      have sA:Sm G17 (put G17 A (.lst [.int q1,.int (x5 % ((T'.length:Int)+1))])):=Sm.new hA
      have gA:put G17 A (.lst [.int q1,.int (x5 % ((T'.length:Int)+1))]) A=some (.lst [.int q1,.int (x5 % ((T'.length:Int)+1))]):=a0f
      generalize put G17 A (.lst [.int q1,.int (x5 % ((T'.length:Int)+1))])=G18 at sA gA ⊢
      have gX:=sA _ _ gX
      have gY:=sA _ _ gY
      have s18:=s17.trans sA
      clear s17 sA hA
      walk_at "go"
      refine a1A gA b1b ?_
      clear gA
      walk_at "go"
      have kn18:KN S G8 G18:=kn9.trans (Sm.kn s18)
      have sh18:=sh9.keep (Sm.ks s18)
      refine⟨p,S,T',_,_,_,_,_,rfl,⟨sh18,ok,few,hT,b1d hk1 (okO o1 mo1).1,b1d hv1 (okO o2 mo2).1⟩,fun t G19 ht kn19 sh19 gt=>?_⟩
      have gY19:=kn19 _ _ nY gY
      walk_at "go"
      refine⟨_,Y,g0,g1,g2,g3,rfl,gY19,by omega,fun u hu=>?_⟩
      have em:momB (.int (if g2=true then x4 % 20 else m1))=g2:=by
       cases g2
       ·exact bm1
       ·rw [a4i]
        rw [if_pos rfl,decide_eq_true (show 0≤x4 % 20 by omega),decide_eq_true (show x4 % 20≤1000000000000 by omega)];rfl
      have eq:decide (inR T' (if g3=true then x5 % ((T'.length:Int)+1) else q1))=g3:=by
       cases g3
       ·exact decide_eq_false bq1
       ·exact decide_eq_true gq1
      unfold ocT at gt
      rw [a8L hk1 (okO o1 mo1).2,a8L hv1 (okO o2 mo2).2,em,eq] at gt
      refine b6Q (a0I gt hu) a0f ?_
      walk_at "go"
      refine ifF ?_
      walk_at "go"
      exact⟨_,_,_,_,_,_,_,_,_,_,(kn18.trans kn19).trans (Sm.kn (Sm.new hu)),sh19.keep (Sm.ks (Sm.new hu)),rfl⟩
   ·rintro σ G9 ⟨w1,w2,w3,w4,w5,w6,w7,w8,w9,w10,kn9,sh9,rfl⟩
    have hd9:=held G9 kn9
    have gD9:=kn9 _ _ nDs gD
    have gk9:=kn9 _ _ nKs gk8
    walk_at "go"
    refine⟨by decide,by decide,?_⟩
    intro E hE
    have zl:(kn.zip (ps.map (·.2))).length=4:=by rw [List.length_zip,List.length_map];omega
    refine a56 (fun j ys G'=>ys=(((kn.zip (ps.map (·.2))).take j).filterMap a3g).map Z.str/\Sm G9 G'/\G' E=some (.lst ys)) ⟨by simp,Sm.new hE,a0f⟩ (by rintro _ _ _ _ _;exact True.intro) ?_ ?_
    ·rintro j x ys G' hx ⟨rfl,s,gE⟩
     obtain⟨hj,rfl⟩:=a3q hx
     have hj:j<4:=hj
     rw [Int.zero_add]
     have ek:kn[j]?=some kn[j]:=List.getElem?_eq_getElem (by omega)
     have ep:ps[j]?=some ps[j]:=List.getElem?_eq_getElem (by omega)
     have mp:ps[j]∈ps:=List.getElem_mem _
     have ez:(kn.zip (ps.map (·.2)))[j]?=some (kn[j],ps[j].2):=List.getElem?_zip_eq_some.mpr ⟨ek,by rw [List.getElem?_map,ep];rfl⟩
     generalize kn[j]=k at ek ez
     generalize ps[j]=e at ep mp ez
     refine⟨_,rfl,?_⟩
     walk_at "go"
     refine a1A (s _ _ gD9) (a1P (by rw [List.getElem?_map,ep];rfl)) ?_
     walk_at "go"
     refine⟨lenK rfl,fun u hu=>?_⟩
     have su:Sm G' (put G' u (.lst [])):=Sm.new hu
     have he:=hd9 e mp
     refine b5P (su _ _ (s _ _ he.1)) a0f he.2 rfl ?_
     have tk:((kn.zip (ps.map (·.2))).take (j+1)).filterMap a3g=((kn.zip (ps.map (·.2))).take j).filterMap a3g++[(k,e.2)].filterMap a3g:=by
      rw [List.take_add_one,ez,List.filterMap_append];rfl
     have ln:(((kn.zip (ps.map (·.2))).take j).filterMap a3g).length≤4:=Nat.le_trans (List.length_filterMap_le _ _) (by rw [List.length_take];omega)
     cases hL:e.2 with
     | nil=>
      rw [hL] at tk
      exact⟨_,rfl,ifN (fun z=>absurd rfl z) fun _=>⟨by rw [tk];simp [a3g],s.trans su,su _ _ gE⟩⟩
     | cons r L=>
      rw [hL] at tk
      refine⟨_,rfl,ifN (fun _=>?_) fun z=>absurd z (by simp)⟩
      walk_at "go"
      refine a1A (su _ _ (s _ _ gk9)) (a1P (by rw [List.getElem?_map,ek];rfl)) ?_
      walk_at "go"
      refine⟨su _ _ gE,by rw [List.length_map];exact a0P (by omega),by rw [tk];simp [a3g],(s.trans su).put hE,a0f⟩
    ·rintro ys G10 ⟨rfl,s,gE⟩
     rw [a12,List.take_of_length_le (by rw [zl];exact Nat.le_refl _)] at gE
     walk_at "go"
     have ln:((kn.zip (ps.map (·.2))).filterMap a3g).length≤4:=Nat.le_trans (List.length_filterMap_le _ _) (by omega)
     refine a61 gE (by omega) fun t us ht hp hs=>?_
     have sT:=s.trans (Sm.new (o:=.lst (us.map Z.str)) ht)
     have gt:put G10 t (.lst (us.map Z.str)) t=some (.lst (us.map Z.str)):=a0f
     have nT:¬ S t:=fun z=>by
      obtain⟨_,_,_,m9⟩:=sh9
      obtain⟨o,e⟩:=m9.al t z
      rw [s _ _ e] at ht;cases ht
     generalize put G10 t (.lst (us.map Z.str))=G11 at sT gt ⊢
     have sh11:=sh9.keep (Sm.ks sT)
     have sh11':=sh11
     obtain⟨dx11,d11,kvs11,m11⟩:=sh11'
     walk_at "go"
     refine⟨p,dx11,_,rfl,m11.ob,a2T (by decide +kernel) (by decide +kernel),?_⟩
     walk_at "go"
     refine⟨p,S,T',rfl,sh11,?_⟩
     walk_at "go"
     refine ifN (fun z=>absurd rfl z) fun _=>?_
     walk_at "go"
     refine⟨p,dx11,_,rfl,m11.ob,a2T (by decide +kernel) (by decide +kernel),?_⟩
     walk_at "go"
     refine⟨p,S,T',_,rfl,sh11,few,.inl ⟨inl,fun u ts G12 hu kn12 sh12 gu ka hl2=>?_⟩⟩
     walk_at "go"
     rw [tl] at ka
     have ets:ts=us:=a9l hL hkn nd hp hs ka
     subst ets
     have fl:(ts.map Z.str).all (flat 8)=true:=by
      rw [List.all_eq_true]
      intro z hz
      obtain⟨y,hy,rfl⟩:=List.mem_map.mp hz
      exact a7Y (a76 ok ((ka.is y).mp hy))
     refine b5P gu (kn12 _ _ nT gt) fl fl ?_
     walk_at "go"
     refine ifN (fun z=>absurd rfl z) fun _=>?_
     walk_at "go"
     have kn12':KN S G9 G12:=(Sm.kn sT).trans kn12
     refine a39 (kn12' _ _ nKs gk9) ?_
     intro D2 hD2
     refine a56 (fun i ys G'=>∃ qs:List (Addr×List Rw),ys=qs.map (fun e=>Z.ref e.1)/\Lines T' (kn.take i) (qs.map (·.2))/\Held G' qs/\(∀ e∈qs,e.1≠D2)/\Sm G12 G'/\G' D2=some (.lst ys)) ⟨[],rfl,⟨rfl,fun j k L h=>by simp at h⟩,(fun e h=>by simp at h),(fun e h=>by simp at h),Sm.new hD2,a0f⟩ (by rintro i ys G' _ ⟨_,_,_,_,_,s,_⟩;exact s _ _ (kn12' _ _ nKs gk9)) ?_ ?_
     ·rintro i x ys G' hx ⟨qs,rfl,hM,hq1,hq2,s2,gD2⟩
      rw [List.getElem?_map] at hx
      cases hx':kn[i]? with
      | none=>rw [hx'] at hx;cases hx
      | some k=>
      rw [hx'] at hx
      cases hx
      have hi:=(List.getElem?_eq_some_iff.mp hx').1
      have hk':=hk k (List.mem_of_getElem? hx')
      have sh13:=sh12.keep (Sm.ks s2)
      have sh13':=sh13
      obtain⟨dx13,d13,kvs13,m13⟩:=sh13'
      have hpl:qs.length≤4:=by have:=hM.1;rw [List.length_map,List.length_take] at this;omega
      refine⟨_,rfl,?_⟩
      walk_at "go"
      refine⟨p,dx13,_,rfl,m13.ob,a2T (by decide +kernel) (by decide +kernel),?_⟩
      walk_at "go"
      refine⟨p,S,T',.str k,_,rfl,sh13,(fun _=>a4j hk'),by omega,.inl ⟨inl,k,rfl,hk',fun t L Ga ht sa' gt il=>?_⟩⟩
      rw [tl] at il
      have ntD:t≠D2:=Ne.symm (a1G gD2 ht)
      refine⟨sa' _ _ gD2,by rw [List.length_map];exact a0P (by omega),qs++[(t,L)],by rw [List.map_append];rfl,?_,fun e he=>?_,fun e he=>?_,(s2.trans sa').put hD2,a0f⟩
      ·rw [List.map_append,List.take_add_one,hx']
       exact hM.snoc il
      ·rcases List.mem_append.mp he with he | he
       ·obtain⟨a3,a4⟩:=hq1 e he
        exact⟨by rw [a07 (hq2 e he)];exact sa' _ _ a3,a4⟩
       ·rw [List.mem_singleton.mp he]
        exact⟨by rw [a07 ntD];exact gt,a5V il.pl⟩
      ·rcases List.mem_append.mp he with he | he
       ·exact hq2 e he
       ·rw [List.mem_singleton.mp he];exact ntD
     ·rintro ys G13 ⟨qs,rfl,hM,hq1,hq2,s13,gD2⟩
      rw [List.length_map,List.take_length] at hM
      walk_at "go"
      refine b6k gD2 (s13 _ _ (kn12' _ _ nDs gD9)) (Held.refs hq1) (Held.refs (held G13 (kn9.trans (kn12'.trans (Sm.kn s13))))) ?_
      rw [hM.uniq hL,decide_eq_true rfl]
      exact q _
theorem all_mk {l:PySem.W.OpenLaw} {w:World} {K:Fg} {h:Heap} {mg:Str->Option Value} {fa:Addr} (X:K.In h) (G:h.Ns mainGlobals mg) (hfa:mg "law"=some (.ref fa))
  {bq:Addr} {hC em:Option Addr} {hD:Array (Option Value)} {hE en eo ep cd eq:Value}
  {aY:Addr} {gR dk:Option Addr} {gS:Array (Option Value)} {gT dl dm dn bo dp:Value}
  {aG:Addr} {gb cK:Option Addr} {gc:Array (Option Value)} {gd cL cM cN a8 cO:Value}
  {ay:Addr} {fF ce:Option Addr} {fG:Array (Option Value)} {fH cf cg ch a0 ci:Value}
  {aH:Addr} {ge cP:Option Addr} {gf:Array (Option Value)} {gg cQ cR cS a9 cT:Value}
  {av:Addr} {e3 bP:Option Addr} {e4:Array (Option Value)} {e5 bQ bR bS aI bT:Value}
  {aq:Addr} {er bu:Option Addr} {es:Array (Option Value)} {et bv bw bx aA bz:Value}
  {al:Addr} {d8 be:Option Addr} {d9:Array (Option Value)} {ea bf bg bh aw bi:Value}
  {br:Addr} {hF eu:Option Addr} {hG:Array (Option Value)} {hH ev ew ex cj ey:Value}
  {aZ:Addr} {gU dq:Option Addr} {gV:Array (Option Value)} {gW dr ds dt bp du:Value}
  {ba:Addr} {hk dQ:Option Addr} {hl:Array (Option Value)} {hm dR dS dT bM dU:Value}
  {bb:Addr} {hn dV:Option Addr} {ho:Array (Option Value)} {hp dW dX dY bN dZ:Value}
  {ag:Addr} {c0 aN:Option Addr} {c1:Array (Option Value)} {c2 aO aP aQ ao aR:Value}
  {bs:Addr} {hI ez:Option Addr} {hJ:Array (Option Value)} {hK eA eB eC ck eD:Value}
  {cb:Addr} {iI fr:Option Addr} {iJ:Array (Option Value)} {iK fs ft fu c3 fv:Value}
  {ae:Addr} {c4 aS:Option Addr} {c5:Array (Option Value)} {c6 aT aU aV ap aW:Value}
  {af:Addr} {eb bj:Option Addr} {ec:Array (Option Value)} {ed bk bl bm ax bn:Value}
  {am:Addr} {fI cl:Option Addr} {fJ:Array (Option Value)} {fK cm cn co a1 cp:Value}
  {ai:Addr} {e6 bU:Option Addr} {e7:Array (Option Value)} {e8 bV bW bX aJ bY:Value}
  {cc:Addr} {iL fw:Option Addr} {iM:Array (Option Value)} {iN fx fy fz c7 fA:Value}
  {an:Addr} {fL cq:Option Addr} {fM:Array (Option Value)} {fN cr cs ct a2 cu:Value}
  {dI:Addr} {jp g6:Option Addr} {jq:Array (Option Value)} {jr g7 g8 g9 eE ha:Value}
  {e0:Addr} {j2 hL:Option Addr} {j3:Array (Option Value)} {j4 hM hN hO fO hP:Value}
  {ar:Addr} {eF bA:Option Addr} {eG:Array (Option Value)} {eH bB bC bD aB bE:Value}
  {az:Addr} {fP cv:Option Addr} {fQ:Array (Option Value)} {fR cw cx cy a3 cz:Value}
  {cU:Addr} {i4 gh:Option Addr} {i5:Array (Option Value)} {i6 gi gj gk dJ gl:Value}
  {cV:Addr} {i7 gm:Option Addr} {i8:Array (Option Value)} {i9 gn go gp dK gq:Value}
  {e1:Addr} {j5 hQ:Option Addr} {j6:Array (Option Value)} {j7 hR hS hT fS hU:Value}
  {cW:Addr} {ja gr:Option Addr} {jb:Array (Option Value)} {jc gs gt gu dL gv:Value}
  {bt:Addr} {hV eI:Option Addr} {hW:Array (Option Value)} {hX eJ eK eL cA eM:Value}
  {cX:Addr} {jd gw:Option Addr} {je:Array (Option Value)} {jf gx gy gz dM gA:Value}
  {dN:Addr} {js hb:Option Addr} {jt:Array (Option Value)} {ju hc hd he eN hf:Value}
  {e2:Addr} {j8 hY:Option Addr} {j9:Array (Option Value)} {ka hZ h0 h1 fT h2:Value}
  {hB:Addr} {kH jv:Option Addr} {kI:Array (Option Value)} {kJ jw jx jy h3 jz:Value}
  {aj:Addr} {e9 bZ:Option Addr} {fb:Array (Option Value)} {fc b0 b1 b2 aK b3:Value}
  {ak:Addr} {fe b4:Option Addr} {ff:Array (Option Value)} {fg b5 b6 b7 aL b8:Value}
  {ah:Addr} {eO bF:Option Addr} {eP:Array (Option Value)} {eQ bG bH bI aC bJ:Value}
  {aD:Addr} {hq d0:Option Addr} {hr:Array (Option Value)} {hs d1 d2 d3 bO d4:Value}
  {jg:Addr} {kK jA:Option Addr} {kL:Array (Option Value)} {kM jB jC jD h4 jE:Value}
  {dv:Tok}
  {d5:Tok}
  {ad:Addr}
  (kb:PySem.W.nsIn K mainGlobals "Sheet"=some (some (.ref ad))) (kc:PySem.W.plainGet K ad Str.empty=true) (kd:PySem.W.hasDictIn K ad=true) (ke:PySem.W.plainOver K ad=true) (kf:PySem.W.findIn K (.ref ad) "__setattr__"=some (some (.builtin "object.__setattr__")))
  (kg:PySem.W.makesIn K ad=true) (kh:PySem.W.keepIn K (.ref ad)=true)
  (kv:PySem.W.findIn K (.ref ad) "last"=some none)
  (kw:PySem.W.findIn K (.ref ad) "kept"=some none)
  {ac:Addr}
  {ab:Addr}
  {aa:Addr}
  {cB:Addr}
  {aX:Addr}
  {dw:Addr}
  {dx:Addr}
  {dy:Addr}
  {bK:Addr}
  {aE:Addr}
  (jF:PySem.W.nsIn K mainGlobals "NoName"=some (some (.ref ac)))
  (h5:PySem.W.nsIn K mainGlobals "NoStretch"=some (some (.ref ab)))
  (h6:PySem.W.nsIn K mainGlobals "NoKnowing"=some (some (.ref aa)))
  (jG:PySem.W.nsIn K mainGlobals "Broken"=some (some (.ref cB)))
  (h7:PySem.W.nsIn K mainGlobals "Forgotten"=some (some (.ref aX)))
  (ki:PySem.W.nsIn K mainGlobals "NoFit"=some (some (.ref dw)))
  (kj:PySem.W.nsIn K mainGlobals "NoLog"=some (some (.ref dx)))
  (kk:PySem.W.nsIn K mainGlobals "NoRow"=some (some (.ref dy)))
  (jh:PySem.W.nsIn K mainGlobals "NoSheet"=some (some (.ref bK)))
  (ht:PySem.W.nsIn K mainGlobals "TimesError"=some (some (.ref aE)))
  (jH:PySem.W.excIn K ac veM "ValueError.__new__"=true)
  (h8:PySem.W.excIn K ab veM "ValueError.__new__"=true)
  (h9:PySem.W.excIn K aa veM "ValueError.__new__"=true)
  (c8:PySem.W.subIn K (.ref aa) (.type "BaseException")=some true)
  (c9:PySem.W.typeIn K (.ref aa)=some (.type "type"))
  (da:PySem.W.subIn K (.ref aa) (.ref aa)=some true)
  (db:PySem.W.hasDictIn K aa=true)
  (ee:PySem.W.subIn K (.ref aa) (.type "BaseException")=some true)
  (ef:PySem.W.typeIn K (.ref aa)=some (.type "type"))
  (eg:PySem.W.subIn K (.ref ac) (.ref aa)=some false)
  (eh:PySem.W.hasDictIn K aa=true)
  (fU:PySem.W.subIn K (.ref ac) (.type "BaseException")=some true)
  (fV:PySem.W.typeIn K (.ref ac)=some (.type "type"))
  (fW:PySem.W.subIn K (.ref ac) (.ref ac)=some true)
  (fX:PySem.W.hasDictIn K ac=true)
  (dc:PySem.W.subIn K (.ref aa) (.type "BaseException")=some true)
  (dd:PySem.W.typeIn K (.ref aa)=some (.type "type"))
  (de:PySem.W.subIn K (.ref ab) (.ref aa)=some false)
  (df:PySem.W.hasDictIn K aa=true)
  (ei:PySem.W.subIn K (.ref ac) (.type "BaseException")=some true)
  (ej:PySem.W.typeIn K (.ref ac)=some (.type "type"))
  (ek:PySem.W.subIn K (.ref ab) (.ref ac)=some false)
  (el:PySem.W.hasDictIn K ac=true)
  (dg:PySem.W.subIn K (.ref ab) (.type "BaseException")=some true)
  (dh:PySem.W.typeIn K (.ref ab)=some (.type "type"))
  (di:PySem.W.subIn K (.ref ab) (.ref ab)=some true)
  (dj:PySem.W.hasDictIn K ab=true)
  (ia:PySem.W.hasDictIn K aa=true)
  (ib:PySem.W.findIn K (.ref aa) "__getattribute__"=some (some (.builtin "BaseException.__getattribute__")))
  (ic:PySem.W.findIn K (.ref aa) "__getattr__"=some none)
  (id:PySem.W.findIn K (.ref aa) "__class__"=some (some (.builtin "object.__class__")))
  (ie:PySem.W.specialIn K (.builtin "object.__class__") "__get__"=some (some (.builtin "getset_descriptor.__get__")))
  (ig:PySem.W.takesIn K (.builtin "object.__class__")=some true)
  (ih:PySem.W.mroIn K aa (.type "object")=some true)
  (ii:PySem.W.mroIn K aa (.type "BaseException")=some true)
  (jI:PySem.W.hasDictIn K ac=true)
  (jJ:PySem.W.findIn K (.ref ac) "__getattribute__"=some (some (.builtin "BaseException.__getattribute__")))
  (jK:PySem.W.findIn K (.ref ac) "__getattr__"=some none)
  (jL:PySem.W.findIn K (.ref ac) "__class__"=some (some (.builtin "object.__class__")))
  (jM:PySem.W.specialIn K (.builtin "object.__class__") "__get__"=some (some (.builtin "getset_descriptor.__get__")))
  (jN:PySem.W.takesIn K (.builtin "object.__class__")=some true)
  (jO:PySem.W.mroIn K ac (.type "object")=some true)
  (jP:PySem.W.mroIn K ac (.type "BaseException")=some true)
  (ij:PySem.W.hasDictIn K ab=true)
  (ik:PySem.W.findIn K (.ref ab) "__getattribute__"=some (some (.builtin "BaseException.__getattribute__")))
  (il:PySem.W.findIn K (.ref ab) "__getattr__"=some none)
  (im:PySem.W.findIn K (.ref ab) "__class__"=some (some (.builtin "object.__class__")))
  (io:PySem.W.specialIn K (.builtin "object.__class__") "__get__"=some (some (.builtin "getset_descriptor.__get__")))
  (ip:PySem.W.takesIn K (.builtin "object.__class__")=some true)
  (iq:PySem.W.mroIn K ab (.type "object")=some true)
  (ir:PySem.W.mroIn K ab (.type "BaseException")=some true)
  (cG:PySem.W.kitOne K (.ref aa) (.ref aE)=some true)
  (cH:PySem.W.kitOne K (.ref aa) (.type "ValueError")=some true)
  (dO:PySem.W.kitOne K (.ref ac) (.ref aE)=some true)
  (dP:PySem.W.kitOne K (.ref ac) (.type "ValueError")=some true)
  (cI:PySem.W.kitOne K (.ref ab) (.ref aE)=some true)
  (cJ:PySem.W.kitOne K (.ref ab) (.type "ValueError")=some true)
  (gX:PySem.W.kitAny K (.ref aa) [.ref cB,.ref aX,.ref dw,.ref dx,.ref ac,.ref dy,.ref bK,.ref ab]=some false)
  (iO:PySem.W.kitAny K (.ref ac) [.ref cB,.ref aX,.ref dw,.ref dx,.ref aa,.ref dy,.ref bK,.ref ab]=some false)
  (gY:PySem.W.kitAny K (.ref ab) [.ref cB,.ref aX,.ref dw,.ref dx,.ref ac,.ref dy,.ref bK,.ref aa]=some false)
  (iP:PySem.W.nsIn K mainGlobals "is_name"=some (some (.ref bq))) (iQ:K.lookup bq=some ⟨hE,hC,.func (PySem.W.fnOf "is_name" "is_name" (a0j a08) (a0h a08) (a0c a08) .none en eo ep em cd eq),hD⟩) (iR:PySem.W.codeIn K cd "is_name"=true) (fB:PySem.W.keepIn K (.ref bq)=true)
  (hu:PySem.W.nsIn K mainGlobals "is_moment"=some (some (.ref aY))) (hv:K.lookup aY=some ⟨gT,gR,.func (PySem.W.fnOf "is_moment" "is_moment" (a0j a0W) (a0h a0W) (a0c a0W) .none dl dm dn dk bo dp),gS⟩) (hw:PySem.W.codeIn K bo "is_moment"=true) (d6:PySem.W.keepIn K (.ref aY)=true)
  (gZ:PySem.W.nsIn K mainGlobals "is_stretch"=some (some (.ref aG))) (g0:K.lookup aG=some ⟨gd,gb,.func (PySem.W.fnOf "is_stretch" "is_stretch" (a0j a0R) (a0h a0R) (a0c a0R) .none cL cM cN cK a8 cO),gc⟩) (g1:PySem.W.codeIn K a8 "is_stretch"=true) (dz:PySem.W.keepIn K (.ref aG)=true)
  (gB:PySem.W.nsIn K mainGlobals "earlier_end"=some (some (.ref ay))) (gC:K.lookup ay=some ⟨fH,fF,.func (PySem.W.fnOf "earlier_end" "earlier_end" (a0j a0L) (a0h a0L) (a0c a0L) .none cf cg ch ce a0 ci),fG⟩) (gD:PySem.W.codeIn K a0 "earlier_end"=true) (cY:PySem.W.keepIn K (.ref ay)=true)
  (g2:PySem.W.nsIn K mainGlobals "check_name"=some (some (.ref aH))) (g3:K.lookup aH=some ⟨gg,ge,.func (PySem.W.fnOf "check_name" "check_name" (a0j a0S) (a0h a0S) (a0c a0S) .none cQ cR cS cP a9 cT),gf⟩) (g4:PySem.W.codeIn K a9 "check_name"=true) (dA:PySem.W.keepIn K (.ref aH)=true)
  (fY:PySem.W.nsIn K mainGlobals "check_moment"=some (some (.ref av))) (fZ:K.lookup av=some ⟨e5,e3,.func (PySem.W.fnOf "check_moment" "check_moment" (a0j a0C) (a0h a0C) (a0c a0C) .none bQ bR bS bP aI bT),e4⟩) (f0:PySem.W.codeIn K aI "check_moment"=true) (cC:PySem.W.keepIn K (.ref av)=true)
  (fh:PySem.W.nsIn K mainGlobals "check_stretch"=some (some (.ref aq))) (fi:K.lookup aq=some ⟨et,er,.func (PySem.W.fnOf "check_stretch" "check_stretch" (a0j a0w) (a0h a0w) (a0c a0w) .none bv bw bx bu aA bz),es⟩) (fj:PySem.W.codeIn K aA "check_stretch"=true) (b9:PySem.W.keepIn K (.ref aq)=true)
  (eR:PySem.W.nsIn K mainGlobals "check_in_reach"=some (some (.ref al))) (eS:K.lookup al=some ⟨ea,d8,.func (PySem.W.fnOf "check_in_reach" "check_in_reach" (a0j a0v) (a0h a0v) (a0c a0v) .none bf bg bh be aw bi),d9⟩) (eT:PySem.W.codeIn K aw "check_in_reach"=true) (bL:PySem.W.keepIn K (.ref al)=true)
  (iS:PySem.W.nsIn K mainGlobals "is_over"=some (some (.ref br))) (iT:K.lookup br=some ⟨hH,hF,.func (PySem.W.fnOf "is_over" "is_over" (a0j a1i) (a0h a1i) (a0c a1i) .none ev ew ex eu cj ey),hG⟩) (iU:PySem.W.codeIn K cj "is_over"=true) (fC:PySem.W.keepIn K (.ref br)=true)
  (hx:PySem.W.nsIn K mainGlobals "worths_in"=some (some (.ref aZ))) (hy:K.lookup aZ=some ⟨gW,gU,.func (PySem.W.fnOf "worths_in" "worths_in" (a0j a0X) (a0h a0X) (a0c a0X) .none dr ds dt dq bp du),gV⟩) (hz:PySem.W.codeIn K bp "worths_in"=true) (d7:PySem.W.keepIn K (.ref aZ)=true)
  (iu:PySem.W.nsIn K mainGlobals "worth_in"=some (some (.ref ba))) (iv:K.lookup ba=some ⟨hm,hk,.func (PySem.W.fnOf "worth_in" "worth_in" (a0j a03) (a0h a03) (a0c a03) .none dR dS dT dQ bM dU),hl⟩) (iw:PySem.W.codeIn K bM "worth_in"=true) (eU:PySem.W.keepIn K (.ref ba)=true)
  (ix:PySem.W.nsIn K mainGlobals "ahead_of"=some (some (.ref bb))) (iy:K.lookup bb=some ⟨hp,hn,.func (PySem.W.fnOf "ahead_of" "ahead_of" (a0j a0Y) (a0h a0Y) (a0c a0Y) .none dW dX dY dV bN dZ),ho⟩) (iz:PySem.W.codeIn K bN "ahead_of"=true) (eV:PySem.W.keepIn K (.ref bb)=true)
  (dB:PySem.W.nsIn K mainGlobals "with_alike_joined"=some (some (.ref ag))) (dC:K.lookup ag=some ⟨c2,c0,.func (PySem.W.fnOf "with_alike_joined" "with_alike_joined" (a0j a0q) (a0h a0q) (a0c a0q) .none aO aP aQ aN ao aR),c1⟩) (dD:PySem.W.codeIn K ao "with_alike_joined"=true) (a7:PySem.W.keepIn K (.ref ag)=true)
  (iV:PySem.W.nsIn K mainGlobals "from_on"=some (some (.ref bs))) (iW:K.lookup bs=some ⟨hK,hI,.func (PySem.W.fnOf "from_on" "from_on" (a0j a09) (a0h a09) (a0c a09) .none eA eB eC ez ck eD),hJ⟩) (iX:PySem.W.codeIn K ck "from_on"=true) (fD:PySem.W.keepIn K (.ref bs)=true)
  (ji:PySem.W.nsIn K mainGlobals "put_on"=some (some (.ref cb))) (jj:K.lookup cb=some ⟨iK,iI,.func (PySem.W.fnOf "put_on" "put_on" (a0j a1p) (a0h a1p) (a0c a1p) .none fs ft fu fr c3 fv),iJ⟩) (jk:PySem.W.codeIn K c3 "put_on"=true) (gE:PySem.W.keepIn K (.ref cb)=true)
  (dE:PySem.W.findIn K (.ref ad) "check_knowing"=some (some (.ref ae))) (dF:PySem.W.isFn K (.ref ae)=true) (dG:K.lookup ae=some ⟨c6,c4,.func (PySem.W.fnOf "check_knowing" "Sheet.check_knowing" (a0j a0r) (a0h a0r) (a0c a0r) .none aT aU aV aS ap aW),c5⟩) (dH:PySem.W.codeIn K ap "Sheet.check_knowing"=true) (au:PySem.W.keepIn K (.ref ae)=true)
  (eW:PySem.W.findIn K (.ref ad) "known_line"=some (some (.ref af))) (eX:PySem.W.isFn K (.ref af)=true) (eY:K.lookup af=some ⟨ed,eb,.func (PySem.W.fnOf "known_line" "Sheet.known_line" (a0j a0s) (a0h a0s) (a0c a0s) .none bk bl bm bj ax bn),ec⟩) (eZ:PySem.W.codeIn K ax "Sheet.known_line"=true) (aF:PySem.W.keepIn K (.ref af)=true)
  (gF:PySem.W.findIn K (.ref ad) "keys_at"=some (some (.ref am))) (gG:PySem.W.isFn K (.ref am)=true) (gH:K.lookup am=some ⟨fK,fI,.func (PySem.W.fnOf "keys_at" "Sheet.keys_at" (a0j a0B) (a0h a0B) (a0c a0B) .none cm cn co cl a1 cp),fJ⟩) (gI:PySem.W.codeIn K a1 "Sheet.keys_at"=true) (bc:PySem.W.keepIn K (.ref am)=true)
  (f1:PySem.W.findIn K (.ref ad) "worth_at"=some (some (.ref ai))) (f2:PySem.W.isFn K (.ref ai)=true) (f3:K.lookup ai=some ⟨e8,e6,.func (PySem.W.fnOf "worth_at" "Sheet.worth_at" (a0j a0D) (a0h a0D) (a0c a0D) .none bV bW bX bU aJ bY),e7⟩) (f4:PySem.W.codeIn K aJ "Sheet.worth_at"=true) (a4:PySem.W.keepIn K (.ref ai)=true)
  (jl:PySem.W.nsIn K mainGlobals "all_at"=some (some (.ref cc))) (jm:K.lookup cc=some ⟨iN,iL,.func (PySem.W.fnOf "all_at" "all_at" (a0j a1e) (a0h a1e) (a0c a1e) .none fx fy fz fw c7 fA),iM⟩) (jn:PySem.W.codeIn K c7 "all_at"=true) (gJ:PySem.W.keepIn K (.ref cc)=true)
  (gK:PySem.W.findIn K (.ref ad) "line_at"=some (some (.ref an))) (gL:PySem.W.isFn K (.ref an)=true) (gM:K.lookup an=some ⟨fN,fL,.func (PySem.W.fnOf "line_at" "Sheet.line_at" (a0j a0M) (a0h a0M) (a0c a0M) .none cr cs ct cq a2 cu),fM⟩) (gN:PySem.W.codeIn K a2 "Sheet.line_at"=true) (bd:PySem.W.keepIn K (.ref an)=true)
  (kl:PySem.W.nsIn K mainGlobals "when"=some (some (.ref dI))) (km:K.lookup dI=some ⟨jr,jp,.func (PySem.W.fnOf "when" "when" (a0j a1M) (a0h a1M) (a0c a1M) .none g7 g8 g9 g6 eE ha),jq⟩) (kn:PySem.W.codeIn K eE "when"=true) (iA:PySem.W.keepIn K (.ref dI)=true)
  (kx:PySem.W.nsIn K mainGlobals "who"=some (some (.ref e0))) (ky:K.lookup e0=some ⟨j4,j2,.func (PySem.W.fnOf "who" "who" (a0j a2j) (a0h a2j) (a0c a2j) .none hM hN hO hL fO hP),j3⟩) (kz:PySem.W.codeIn K fO "who"=true) (i1:PySem.W.keepIn K (.ref e0)=true)
  (fk:PySem.W.nsIn K mainGlobals "check_telling"=some (some (.ref ar))) (fl:K.lookup ar=some ⟨eH,eF,.func (PySem.W.fnOf "check_telling" "check_telling" (a0j a0x) (a0h a0x) (a0c a0x) .none bB bC bD bA aB bE),eG⟩) (fm:PySem.W.codeIn K aB "check_telling"=true) (ca:PySem.W.keepIn K (.ref ar)=true)
  (gO:PySem.W.nsIn K mainGlobals "line_behind"=some (some (.ref az))) (gP:K.lookup az=some ⟨fR,fP,.func (PySem.W.fnOf "line_behind" "line_behind" (a0j a0N) (a0h a0N) (a0c a0N) .none cw cx cy cv a3 cz),fQ⟩) (gQ:PySem.W.codeIn K a3 "line_behind"=true) (cZ:PySem.W.keepIn K (.ref az)=true)
  (jQ:PySem.W.nsIn K mainGlobals "_law_cell_at"=some (some (.ref cU))) (jR:K.lookup cU=some ⟨i6,i4,.func (PySem.W.fnOf "_law_cell_at" "_law_cell_at" (a0j a1B) (a0h a1B) (a0c a1B) .none gi gj gk gh dJ gl),i5⟩) (jS:PySem.W.codeIn K dJ "_law_cell_at"=true) (hg:PySem.W.keepIn K (.ref cU)=true)
  (jT:PySem.W.nsIn K mainGlobals "_law_tumbled"=some (some (.ref cV))) (jU:K.lookup cV=some ⟨i9,i7,.func (PySem.W.fnOf "_law_tumbled" "_law_tumbled" (a0j a1C) (a0h a1C) (a0c a1C) .none gn go gp gm dK gq),i8⟩) (jV:PySem.W.codeIn K dK "_law_tumbled"=true) (hh:PySem.W.keepIn K (.ref cV)=true)
  (kA:PySem.W.nsIn K mainGlobals "_law_words"=some (some (.ref e1))) (kB:K.lookup e1=some ⟨j7,j5,.func (PySem.W.fnOf "_law_words" "_law_words" (a0j a14) (a0h a14) (a0c a14) .none hR hS hT hQ fS hU),j6⟩) (kC:PySem.W.codeIn K fS "_law_words"=true) (i2:PySem.W.keepIn K (.ref e1)=true)
  (jW:PySem.W.nsIn K mainGlobals "_law_stretch"=some (some (.ref cW))) (jX:K.lookup cW=some ⟨jc,ja,.func (PySem.W.fnOf "_law_stretch" "_law_stretch" (a0j a1D) (a0h a1D) (a0c a1D) .none gs gt gu gr dL gv),jb⟩) (jY:PySem.W.codeIn K dL "_law_stretch"=true) (hi:PySem.W.keepIn K (.ref cW)=true)
  (iY:PySem.W.nsIn K mainGlobals "_law_by_digits"=some (some (.ref bt))) (iZ:K.lookup bt=some ⟨hX,hV,.func (PySem.W.fnOf "_law_by_digits" "_law_by_digits" (a0j a1j) (a0h a1j) (a0c a1j) .none eJ eK eL eI cA eM),hW⟩) (i0:PySem.W.codeIn K cA "_law_by_digits"=true) (fE:PySem.W.keepIn K (.ref bt)=true)
  (jZ:PySem.W.nsIn K mainGlobals "_law_telling"=some (some (.ref cX))) (j0:K.lookup cX=some ⟨jf,jd,.func (PySem.W.fnOf "_law_telling" "_law_telling" (a0j a1E) (a0h a1E) (a0c a1E) .none gx gy gz gw dM gA),je⟩) (j1:PySem.W.codeIn K dM "_law_telling"=true) (hj:PySem.W.keepIn K (.ref cX)=true)
  (ko:PySem.W.nsIn K mainGlobals "_law_called"=some (some (.ref dN))) (kp:K.lookup dN=some ⟨ju,js,.func (PySem.W.fnOf "_law_called" "_law_called" (a0j a1V) (a0h a1V) (a0c a1V) .none hc hd he hb eN hf),jt⟩) (kq:PySem.W.codeIn K eN "_law_called"=true) (iB:PySem.W.keepIn K (.ref dN)=true)
  (kD:PySem.W.nsIn K mainGlobals "_law_asked"=some (some (.ref e2))) (kE:K.lookup e2=some ⟨ka,j8,.func (PySem.W.fnOf "_law_asked" "_law_asked" (a0j a2k) (a0h a2k) (a0c a2k) .none hZ h0 h1 hY fT h2),j9⟩) (kF:PySem.W.codeIn K fT "_law_asked"=true) (i3:PySem.W.keepIn K (.ref e2)=true)
  (kO:PySem.W.nsIn K mainGlobals "_law_due"=some (some (.ref hB))) (kP:K.lookup hB=some ⟨kJ,kH,.func (PySem.W.fnOf "_law_due" "_law_due" (a0j a5o) (a0h a5o) (a0c a5o) .none jw jx jy jv h3 jz),kI⟩) (kQ:PySem.W.codeIn K h3 "_law_due"=true) (ks:PySem.W.keepIn K (.ref hB)=true)
  (cD:PySem.W.findIn K (.ref ad) "__init__"=some (some (.ref aj))) (cE:PySem.W.isFn K (.ref aj)=true) (f5:K.lookup aj=some ⟨fc,e9,.func (PySem.W.fnOf "__init__" "Sheet.__init__" (a0j a0E) (a0h a0E) (a0c a0E) .none b0 b1 b2 bZ aK b3),fb⟩) (f6:PySem.W.codeIn K aK "Sheet.__init__"=true) (a5:PySem.W.keepIn K (.ref aj)=true)
  (f7:PySem.W.findIn K (.ref ad) "knowings"=some (some (.ref ak))) (f8:PySem.W.isFn K (.ref ak)=true) (f9:K.lookup ak=some ⟨fg,fe,.func (PySem.W.fnOf "knowings" "Sheet.knowings" (a0j a0F) (a0h a0F) (a0c a0F) .none b5 b6 b7 b4 aL b8),ff⟩) (ga:PySem.W.codeIn K aL "Sheet.knowings"=true) (a6:PySem.W.keepIn K (.ref ak)=true)
  (fn:PySem.W.findIn K (.ref ad) "keep_line"=some (some (.ref ah))) (fo:PySem.W.isFn K (.ref ah)=true) (fp:K.lookup ah=some ⟨eQ,eO,.func (PySem.W.fnOf "keep_line" "Sheet.keep_line" (a0j a0y) (a0h a0y) (a0c a0y) .none bG bH bI bF aC bJ),eP⟩) (fq:PySem.W.codeIn K aC "Sheet.keep_line"=true) (aM:PySem.W.keepIn K (.ref ah)=true)
  (iC:PySem.W.findIn K (.ref ad) "tell"=some (some (.ref aD))) (iD:PySem.W.isFn K (.ref aD)=true) (iE:K.lookup aD=some ⟨hs,hq,.func (PySem.W.fnOf "tell" "Sheet.tell" (a0j a04) (a0h a04) (a0c a04) .none d1 d2 d3 d0 bO d4),hr⟩) (iF:PySem.W.codeIn K bO "Sheet.tell"=true) (cF:PySem.W.keepIn K (.ref aD)=true)
  (kt:PySem.W.nsIn K mainGlobals "law"=some (some (.ref jg))) (kR:K.lookup jg=some ⟨kM,kK,.func (PySem.W.fnOf "law" "law" (a0j a3u) (a0h a3u) (a0c a3u) .none jB jC jD jA h4 jE),kL⟩) (kS:PySem.W.codeIn K h4 "law"=true) (ku:PySem.W.keepIn K (.ref jg)=true)
  (kT:PySem.W.nsIn K mainGlobals "all"=some none)
  (iG:PySem.W.nsIn K mainGlobals "isinstance"=some none)
  (kU:PySem.W.nsIn K mainGlobals "str"=some none)
  (kV:PySem.W.nsIn K mainGlobals "len"=some none)
  (kN:PySem.W.nsIn K mainGlobals "bool"=some none)
  (kW:PySem.W.nsIn K mainGlobals "int"=some none)
  (kX:PySem.W.nsIn K mainGlobals "min"=some none)
  (kY:PySem.W.nsIn K mainGlobals "max"=some none)
  (jo:PySem.W.nsIn K mainGlobals "reversed"=some none)
  (kr:PySem.W.nsIn K mainGlobals "sorted"=some none)
  (kG:PySem.W.nsIn K mainGlobals "range"=some none)
  (iH:PySem.W.nsIn K mainGlobals "ValueError"=some none)
  (g5:PySem.W.nsIn K mainGlobals "LONGEST_NAME"=some (some (.int 8 dv)))
  (hA:PySem.W.nsIn K mainGlobals "LAST_MOMENT"=some (some (.int 1000000000000 d5))) :
  ∃ fd:FuncData,(∀ (s:Shared) (v:Value),BindsTo s fd ⟨[v],[]⟩ [("script",v)])/\∀ base:Heap,K.In base->base.Ns mainGlobals mg->FnOk l.prog w K mg base CX0 8 fa fd ["script"] (lowP K a5P):=by
 have e:=hfa.symm.trans (PySem.W.mg_of X G kt)
 cases e
 let a:Ad:=⟨bq,(PySem.W.fnOf "is_name" "is_name" (a0j a08) (a0h a08) (a0c a08) .none en eo ep em cd eq),aY,(PySem.W.fnOf "is_moment" "is_moment" (a0j a0W) (a0h a0W) (a0c a0W) .none dl dm dn dk bo dp),aG,(PySem.W.fnOf "is_stretch" "is_stretch" (a0j a0R) (a0h a0R) (a0c a0R) .none cL cM cN cK a8 cO),ay,(PySem.W.fnOf "earlier_end" "earlier_end" (a0j a0L) (a0h a0L) (a0c a0L) .none cf cg ch ce a0 ci),aH,(PySem.W.fnOf "check_name" "check_name" (a0j a0S) (a0h a0S) (a0c a0S) .none cQ cR cS cP a9 cT),av,(PySem.W.fnOf "check_moment" "check_moment" (a0j a0C) (a0h a0C) (a0c a0C) .none bQ bR bS bP aI bT),aq,(PySem.W.fnOf "check_stretch" "check_stretch" (a0j a0w) (a0h a0w) (a0c a0w) .none bv bw bx bu aA bz),al,(PySem.W.fnOf "check_in_reach" "check_in_reach" (a0j a0v) (a0h a0v) (a0c a0v) .none bf bg bh be aw bi),br,(PySem.W.fnOf "is_over" "is_over" (a0j a1i) (a0h a1i) (a0c a1i) .none ev ew ex eu cj ey),aZ,(PySem.W.fnOf "worths_in" "worths_in" (a0j a0X) (a0h a0X) (a0c a0X) .none dr ds dt dq bp du),ba,(PySem.W.fnOf "worth_in" "worth_in" (a0j a03) (a0h a03) (a0c a03) .none dR dS dT dQ bM dU),bb,(PySem.W.fnOf "ahead_of" "ahead_of" (a0j a0Y) (a0h a0Y) (a0c a0Y) .none dW dX dY dV bN dZ),ag,(PySem.W.fnOf "with_alike_joined" "with_alike_joined" (a0j a0q) (a0h a0q) (a0c a0q) .none aO aP aQ aN ao aR),bs,(PySem.W.fnOf "from_on" "from_on" (a0j a09) (a0h a09) (a0c a09) .none eA eB eC ez ck eD),cb,(PySem.W.fnOf "put_on" "put_on" (a0j a1p) (a0h a1p) (a0c a1p) .none fs ft fu fr c3 fv),ae,(PySem.W.fnOf "check_knowing" "Sheet.check_knowing" (a0j a0r) (a0h a0r) (a0c a0r) .none aT aU aV aS ap aW),af,(PySem.W.fnOf "known_line" "Sheet.known_line" (a0j a0s) (a0h a0s) (a0c a0s) .none bk bl bm bj ax bn),am,(PySem.W.fnOf "keys_at" "Sheet.keys_at" (a0j a0B) (a0h a0B) (a0c a0B) .none cm cn co cl a1 cp),ai,(PySem.W.fnOf "worth_at" "Sheet.worth_at" (a0j a0D) (a0h a0D) (a0c a0D) .none bV bW bX bU aJ bY),cc,(PySem.W.fnOf "all_at" "all_at" (a0j a1e) (a0h a1e) (a0c a1e) .none fx fy fz fw c7 fA),an,(PySem.W.fnOf "line_at" "Sheet.line_at" (a0j a0M) (a0h a0M) (a0c a0M) .none cr cs ct cq a2 cu),dI,(PySem.W.fnOf "when" "when" (a0j a1M) (a0h a1M) (a0c a1M) .none g7 g8 g9 g6 eE ha),e0,(PySem.W.fnOf "who" "who" (a0j a2j) (a0h a2j) (a0c a2j) .none hM hN hO hL fO hP),ar,(PySem.W.fnOf "check_telling" "check_telling" (a0j a0x) (a0h a0x) (a0c a0x) .none bB bC bD bA aB bE),az,(PySem.W.fnOf "line_behind" "line_behind" (a0j a0N) (a0h a0N) (a0c a0N) .none cw cx cy cv a3 cz),cU,(PySem.W.fnOf "_law_cell_at" "_law_cell_at" (a0j a1B) (a0h a1B) (a0c a1B) .none gi gj gk gh dJ gl),cV,(PySem.W.fnOf "_law_tumbled" "_law_tumbled" (a0j a1C) (a0h a1C) (a0c a1C) .none gn go gp gm dK gq),e1,(PySem.W.fnOf "_law_words" "_law_words" (a0j a14) (a0h a14) (a0c a14) .none hR hS hT hQ fS hU),cW,(PySem.W.fnOf "_law_stretch" "_law_stretch" (a0j a1D) (a0h a1D) (a0c a1D) .none gs gt gu gr dL gv),bt,(PySem.W.fnOf "_law_by_digits" "_law_by_digits" (a0j a1j) (a0h a1j) (a0c a1j) .none eJ eK eL eI cA eM),cX,(PySem.W.fnOf "_law_telling" "_law_telling" (a0j a1E) (a0h a1E) (a0c a1E) .none gx gy gz gw dM gA),dN,(PySem.W.fnOf "_law_called" "_law_called" (a0j a1V) (a0h a1V) (a0c a1V) .none hc hd he hb eN hf),e2,(PySem.W.fnOf "_law_asked" "_law_asked" (a0j a2k) (a0h a2k) (a0c a2k) .none hZ h0 h1 hY fT h2),hB,(PySem.W.fnOf "_law_due" "_law_due" (a0j a5o) (a0h a5o) (a0c a5o) .none jw jx jy jv h3 jz),aj,(PySem.W.fnOf "__init__" "Sheet.__init__" (a0j a0E) (a0h a0E) (a0c a0E) .none b0 b1 b2 bZ aK b3),ak,(PySem.W.fnOf "knowings" "Sheet.knowings" (a0j a0F) (a0h a0F) (a0c a0F) .none b5 b6 b7 b4 aL b8),ah,(PySem.W.fnOf "keep_line" "Sheet.keep_line" (a0j a0y) (a0h a0y) (a0c a0y) .none bG bH bI bF aC bJ),aD,(PySem.W.fnOf "tell" "Sheet.tell" (a0j a04) (a0h a04) (a0c a04) .none d1 d2 d3 d0 bO d4),fa,(PySem.W.fnOf "law" "law" (a0j a3u) (a0h a3u) (a0c a3u) .none jB jC jD jA h4 jE),ad,ac,ab,aa,cB,aX,dw,dx,dy,bK,aE⟩
 have F:Fns K a:=⟨a0T (st:=a08) iQ iR fB,a0T (st:=a0W) hv hw d6,a0T (st:=a0R) g0 g1 dz,a0T (st:=a0L) gC gD cY,a0T (st:=a0S) g3 g4 dA,a0T (st:=a0C) fZ f0 cC,a0T (st:=a0w) fi fj b9,a0T (st:=a0v) eS eT bL,a0T (st:=a1i) iT iU fC,a0T (st:=a0X) hy hz d7,a0T (st:=a03) iv iw eU,a0T (st:=a0Y) iy iz eV,a0T (st:=a0q) dC dD a7,a0T (st:=a09) iW iX fD,a0T (st:=a1p) jj jk gE,a0T (st:=a0r) dG dH au,a0T (st:=a0s) eY eZ aF,a0T (st:=a0B) gH gI bc,a0T (st:=a0D) f3 f4 a4,a0T (st:=a1e) jm jn gJ,a0T (st:=a0M) gM gN bd,a0T (st:=a1M) km kn iA,a0T (st:=a2j) ky kz i1,a0T (st:=a0x) fl fm ca,a0T (st:=a0N) gP gQ cZ,a0T (st:=a1B) jR jS hg,a0T (st:=a1C) jU jV hh,a0T (st:=a14) kB kC i2,a0T (st:=a1D) jX jY hi,a0T (st:=a1j) iZ i0 fE,a0T (st:=a1E) j0 j1 hj,a0T (st:=a1V) kp kq iB,a0T (st:=a2k) kE kF i3,a0T (st:=a5o) kP kQ ks,a0T (st:=a0E) f5 f6 a5,a0T (st:=a0F) f9 ga a6,a0T (st:=a0y) fp fq aM,a0T (st:=a04) iE iF cF,a0T (st:=a3u) kR kS ku⟩
 have T:Txt K mg a:=⟨PySem.W.mg_of X G iP,fB,PySem.W.mg_of X G hu,d6,PySem.W.mg_of X G gZ,dz,PySem.W.mg_of X G gB,cY,PySem.W.mg_of X G g2,dA,PySem.W.mg_of X G fY,cC,PySem.W.mg_of X G fh,b9,PySem.W.mg_of X G eR,bL,PySem.W.mg_of X G iS,fC,PySem.W.mg_of X G hx,d7,PySem.W.mg_of X G iu,eU,PySem.W.mg_of X G ix,eV,PySem.W.mg_of X G dB,a7,PySem.W.mg_of X G iV,fD,PySem.W.mg_of X G ji,gE,⟨dE,dF,au⟩,au,⟨eW,eX,aF⟩,aF,⟨gF,gG,bc⟩,bc,⟨f1,f2,a4⟩,a4,PySem.W.mg_of X G jl,gJ,⟨gK,gL,bd⟩,bd,PySem.W.mg_of X G kl,iA,PySem.W.mg_of X G kx,i1,PySem.W.mg_of X G fk,ca,PySem.W.mg_of X G gO,cZ,PySem.W.mg_of X G jQ,hg,PySem.W.mg_of X G jT,hh,PySem.W.mg_of X G kA,i2,PySem.W.mg_of X G jW,hi,PySem.W.mg_of X G iY,fE,PySem.W.mg_of X G jZ,hj,PySem.W.mg_of X G ko,iB,PySem.W.mg_of X G kD,i3,PySem.W.mg_of X G kO,ks,⟨cD,cE,a5⟩,a5,⟨f7,f8,a6⟩,a6,⟨fn,fo,aM⟩,aM,⟨iC,iD,cF⟩,cF,PySem.W.mg_of X G kt,ku,PySem.W.mg_none_of X G kT,PySem.W.mg_none_of X G iG,PySem.W.mg_none_of X G kU,PySem.W.mg_none_of X G kV,PySem.W.mg_none_of X G kN,PySem.W.mg_none_of X G kW,PySem.W.mg_none_of X G kX,PySem.W.mg_none_of X G kY,PySem.W.mg_none_of X G jo,PySem.W.mg_none_of X G kr,PySem.W.mg_none_of X G kG,PySem.W.mg_none_of X G iH,⟨kc,kd,ke,kf⟩,PySem.W.mg_of X G kb,⟨kg,cD,cE,kh⟩,kv,kw,PySem.W.mg_of X G jF,PySem.W.mg_of X G h5,PySem.W.mg_of X G h6,PySem.W.mg_of X G jG,PySem.W.mg_of X G h7,PySem.W.mg_of X G ki,PySem.W.mg_of X G kj,PySem.W.mg_of X G kk,PySem.W.mg_of X G jh,PySem.W.mg_of X G ht,jH,h8,h9,b0B c8 c9 da db,a7O ee ef eg eh,b0B fU fV fW fX,a7O dc dd de df,a7O ei ej ek el,b0B dg dh di dj,b0A ia ib ic id ie ig ih ii,b0A jI jJ jK jL jM jN jO jP,b0A ij ik il im io ip iq ir,cG,cH,dO,dP,cI,cJ,gX,iO,gY,⟨dv,PySem.W.mg_of X G g5⟩,⟨d5,PySem.W.mg_of X G hA⟩⟩
 exact⟨a.d_law,fun s v=>.of_eq rfl,fun base _ _=>b6R F T⟩
theorem walk {l:PySem.W.OpenLaw} {q:Program} {loose:List Str} {XP:(Str->Option Value)->Heap->Prop} {YP:World->Heap->Prop} {d:DefRec} {K:Params->Fg} (hn:l.most=some 63) (hdf:d.params.defaults=[])
  (hY:∀ (w:World) (h:Heap),YP w h->(K w.params).In h)
  (F:∀ (w:World) (mg:Str->Option Value) (fa:Addr) (h:Heap),(K w.params).In h->h.Ns mainGlobals mg->mg d.name=some (.ref fa) ->
   ∃ fd:FuncData,(∀ (s:Shared) (u:Value),BindsTo s fd ⟨[u],[]⟩ [("script",u)])/\∀ base:Heap,(K w.params).In base->base.Ns mainGlobals mg->FnOk l.prog w (K w.params) mg base CX0 8 fa fd ["script"] (lowP (K w.params) a5P)) :
  PySem.W.WalkO q loose XP YP l.row.toRowW d [] (fun f vs=>PySem.call f vs):=
 L2.walk_of (n:=63) (k:=8) (x:="script") (CX:=fun _=>CX0) (sp:=fun w=>lowP (K w.params) a5P) hn (by decide) hdf ⟨rfl,by decide,by decide⟩ hY F (fun _ _ a ns hl hO hS=>b0K a ns hl (Fz.of hO hS)) fun _ _ _ _ _ z=>z
end Lw
open PySem PySem.W PyProof.Rows
set_option maxRecDepth 100000 in
set_option maxHeartbeats 0 in
theorem PySem.Challenge.cw_twotimes_k33_asks_refused_holds : PySem.Challenge.rw_twotimes_k33_asks_refused.Holds := by
 w_on;o_law;k_head;(case hw=>w_witness2)
 k_fill
 refine Lw.walk (l:=PySem.Challenge.rw_twotimes_k33_asks_refused) rfl rfl (fun w h Y=>PySem.W.kIn_of Y) ?F
 case F=>
  intro w mg fa h KX G hmg
  refine' Lw.all_mk KX G hmg ?aa ?ab ?ac ?ad ?ae ?af ?ag ?ah ?ai ?aj ?ak ?al ?am ?an ?ao ?ap ?aq ?ar ?au ?av ?aw ?ax ?ay ?az ?aA ?aB ?aC ?aD ?aE ?aF ?aG ?aH ?aI ?aJ ?aK ?aL ?aM ?aN ?aO ?aP ?aQ ?aR ?aS ?aT ?aU ?aV ?aW ?aX ?aY ?aZ ?a0 ?a1 ?a2 ?a3 ?a4 ?a5 ?a6 ?a7 ?a8 ?a9 ?ba ?bb ?bc ?bd ?be ?bf ?bg ?bh ?bi ?bj ?bk ?bl ?bm ?bn ?bo ?bp ?bq ?br ?bs ?bt ?bu ?bv ?bw ?bx ?bz ?bA ?bB ?bC ?bD ?bE ?bF ?bG ?bH ?bI ?bJ ?bK ?bL ?bM ?bN ?bO ?bP ?bQ ?bR ?bS ?bT ?bU ?bV ?bW ?bX ?bY ?bZ ?b0 ?b1 ?b2 ?b3 ?b4 ?b5 ?b6 ?b7 ?b8 ?b9 ?ca ?cb ?cc ?cd ?ce ?cf ?cg ?ch ?ci ?cj ?ck ?cl ?cm ?cn ?co ?cp ?cq ?cr ?cs ?ct ?cu ?cv ?cw ?cx ?cy ?cz ?cA ?cB ?cC ?cD ?cE ?cF ?cG ?cH ?cI ?cJ ?cK ?cL ?cM ?cN ?cO ?cP ?cQ ?cR ?cS ?cT ?cU ?cV ?cW ?cX ?cY ?cZ ?c0 ?c1 ?c2 ?c3 ?c4 ?c5 ?c6 ?c7 ?c8 ?c9 ?da ?db ?dc ?dd ?de ?df ?dg ?dh ?di ?dj ?dk ?dl ?dm ?dn ?dp ?dq ?dr ?ds ?dt ?du ?dv ?dw ?dx ?dy ?dz ?dA ?dB ?dC ?dD ?dE ?dF ?dG ?dH ?dI ?dJ ?dK ?dL ?dM ?dN ?dO ?dP ?dQ ?dR ?dS ?dT ?dU ?dV ?dW ?dX ?dY ?dZ ?d0 ?d1 ?d2 ?d3 ?d4 ?d5 ?d6 ?d7 ?d8 ?d9 ?ea ?eb ?ec ?ed ?ee ?ef ?eg ?eh ?ei ?ej ?ek ?el ?em ?en
  all_goals try k_is
  (case av=>k_exc)
  (case aw=>k_exc)
  (case ax=>k_exc)
  all_goals try k_is
  (case bk=>kit_is)
  (case bl=>kit_is)
  (case bm=>kit_is)
  (case bn=>kit_is)
  (case bo=>kit_is)
  (case bp=>kit_is)
  (case bq=>kit_is)
  (case br=>kit_is)
  (case bs=>kit_is)
  all_goals try k_is
