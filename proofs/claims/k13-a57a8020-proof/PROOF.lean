import PyProof.Rows.All
import Wide.All
import OpenK.AllK
import Wide.FinOn
import Lean
import PyProof.EqAt
import PyProof.EqKinds
import PyProof.TupleCall
import PyProof.CompFree
import PyProof.P3In
import PyProof.RaisesMany
import PyProof.StationsW
import PyProof.ExcClass3
import PyProof.ExcBaseAll.ValueError
import PyProof.RulesTry
import PyProof.RulesAs
import PyProof.NsDelKeeps
import KE.KTryMore
import PyProof.ExcArgs
import KE.RegKIsAll
import PyProof.Rows.EqDataRows
import KE.KIntText
import KE.KDictOf
import PyProof.StrBlockH
import KE.KWords
import PyProof.CallStr
import PyProof.StrLawsTight
import PyProof.StrLawsChain
import Wide.Seal
import PySem.Challenge.RW_twotimes_k13_lines_and_keys
set_option Elab.async false
set_option linter.all false
set_option maxRecDepth 100000
abbrev Fg:=PySem.W.Frag
namespace PySem.W.Fast
def tw2167127814323705175:=0
def tw18191487607435421655:=0
def tw15790992890600697150:=0
def tw10126680230967548113:=0
def tw15556228933502827206:=0
def tw10200649872419942343:=0
def tw791866981725210914:=0
def tw13865038479380618270:=0
def tw8238513313101179403:=0
def tw4721006696137405482:=0
def tw2066142990386758210:=0
def tw8371313730241842053:=0
def tw6015120662110473525:=0
def tw13884984281017457594:=0
def tw2379512636862810210:=0
def tw5617432727889752855:=0
def tw10882437078944798476:=0
def tw13168685341505303873:=0
def tw15205566069700540236:=0
def tw7258629703731205971:=0
def tw162685459716731737:=0
end PySem.W.Fast
namespace L2
open PySem PySem.Spec PyProof.Rows
abbrev Key:=Sum (Option Int) Str
def b6e:Value->Bool
 | .none=>true
 | _=>false
def a8n:Key->Value->Bool
 | .inl (some k),v=>Value.isInt k v
 | .inl none,v=>b6e v
 | .inr x,v=>Value.isStrOf x v
def keyH (w:World):Key->Int
 | .inl (some k)=>hashInt k
 | .inl none=>reduceHash 0xFCA86420
 | .inr x=>hashStr w x
theorem a0E:∀ {k:Key}{v:Value},a8n k v=true->(∃ i t,k=Sum.inl (some i)/\v=Value.int i t)\/(∃ x t,k=Sum.inr x/\v=Value.str x t)\/(k=Sum.inl none/\v=Value.none)
 | .inl (some i),v,h=>by
  obtain⟨t,e⟩:=Value.isInt_shape (k:=i) (v:=v) h;exact .inl ⟨i,t,rfl,e⟩
 | .inl none,v,h=>by
  cases v<;>first | exact .inr (.inr ⟨rfl,rfl⟩) | cases h
 | .inr x,v,h=>by
  obtain⟨t,e⟩:=Value.isStrOf_shape (x:=x) (v:=v) h;exact .inr (.inl ⟨x,t,rfl,e⟩)
theorem a8W (i:Int) (t:Tok):a8n (.inl (some i)) (.int i t)=true:=by simp[a8n,Value.isInt]
theorem a8X (x:Str) (t:Tok):a8n (.inr x) (.str x t)=true:=by simp[a8n,Value.isStrOf]
theorem b3X (a b:Int):decide ((Sum.inl (some a):Key)=Sum.inl (some b))=(a==b):=by
 by_cases e:a=b
 ·subst e;simp
 ·have h:¬ (Sum.inl (some a):Key)=Sum.inl (some b):=fun q=>e (Option.some.inj (Sum.inl.inj q));rw[decide_eq_false h];exact (beq_eq_false_iff_ne.mpr e).symm
theorem b3Y (a b:Str):decide ((Sum.inr a:Key)=Sum.inr b)=decide (a=b):=by
 by_cases e:a=b
 ·subst e;simp
 ·have h:¬ (Sum.inr a:Key)=Sum.inr b:=fun q=>e (Sum.inr.inj q);rw[decide_eq_false h,decide_eq_false e]
theorem a43 {a b:Key}(h:a≠b):decide (a=b)=false:=decide_eq_false h
def a0F (prog:Program) (w:World):PySem.KeyKind prog w Key where
 is:=a8n
 hash:=keyH w
 inj:=fun v a b ha hb=>by
  rcases a0E ha with ⟨i,t,rfl,rfl⟩ | ⟨x,t,rfl,rfl⟩ | ⟨rfl,rfl⟩
  ·rcases a0E hb with ⟨j,u,rfl,e⟩ | ⟨y,u,rfl,e⟩ | ⟨rfl,e⟩
   ·injection e with e1 _;rw[e1]
   ·exact nomatch e
   ·exact nomatch e
  ·rcases a0E hb with ⟨j,u,rfl,e⟩ | ⟨y,u,rfl,e⟩ | ⟨rfl,e⟩
   ·exact nomatch e
   ·injection e with e1 _;rw[e1]
   ·exact nomatch e
  ·rcases a0E hb with ⟨j,u,rfl,e⟩ | ⟨y,u,rfl,e⟩ | ⟨rfl,e⟩
   ·exact nomatch e
   ·exact nomatch e
   ·rfl
 byValue:=fun k v h=>by
  rcases a0E h with ⟨i,t,rfl,rfl⟩ | ⟨x,t,rfl,rfl⟩ | ⟨rfl,rfl⟩<;>rfl
 pyHash:=fun hv h=>by
  rcases a0E hv with ⟨i,t,rfl,rfl⟩ | ⟨x,t,rfl,rfl⟩ | ⟨rfl,rfl⟩
  ·exact wpAny_pyHash_int h
  ·exact wpAny_pyHash_str h
  ·exact PySem.W.pyHash_slot (T:="NoneType") rfl F.slot_NoneType_hash F.entry_NoneType_hash (F.args_NoneType_hash_1 _) (beq_builtin_none _) (.inl rfl) (wpAny_bind (wpAny_pure (wpAny_bind (wpAny_mkInt (wpAny_pure ⟨_,_,rfl,h⟩)))))
 eqBool:=fun hu hv h=>by
  rcases a0E hu with ⟨i,t,rfl,rfl⟩ | ⟨x,t,rfl,rfl⟩ | ⟨rfl,rfl⟩
  ·rcases a0E hv with ⟨j,u,rfl,rfl⟩ | ⟨y,u,rfl,rfl⟩ | ⟨rfl,rfl⟩
   ·rw[b3X]at h;exact wpAny_eqBool_int h
   ·rw[show decide ((Sum.inl (some i):Key)=Sum.inr y)=false from a43 (by simp)]at h;exact SeqAt.EqAt.int_str i t y u _ _ _ _ h
   ·rw[show decide ((Sum.inl (some i):Key)=Sum.inl none)=false from a43 (by simp)]at h;exact SeqAt.EqAt.int_none i t _ _ _ _ h
  ·rcases a0E hv with ⟨j,u,rfl,rfl⟩ | ⟨y,u,rfl,rfl⟩ | ⟨rfl,rfl⟩
   ·rw[show decide ((Sum.inr x:Key)=Sum.inl (some j))=false from a43 (by simp)]at h;exact SeqAt.EqAt.str_int x t j u _ _ _ _ h
   ·rw[b3Y]at h;exact wpAny_eqBool_str h
   ·rw[show decide ((Sum.inr x:Key)=Sum.inl none)=false from a43 (by simp)]at h;exact SeqAt.EqAt.str_none x t _ _ _ _ h
  ·rcases a0E hv with ⟨j,u,rfl,rfl⟩ | ⟨y,u,rfl,rfl⟩ | ⟨rfl,rfl⟩
   ·rw[show decide ((Sum.inl none:Key)=Sum.inl (some j))=false from a43 (by simp)]at h;exact SeqAt.EqAt.none_int j u _ _ _ _ h
   ·rw[show decide ((Sum.inl none:Key)=Sum.inr y)=false from a43 (by simp)]at h;exact SeqAt.EqAt.none_str y u _ _ _ _ h
   ·rw[decide_eq_true rfl]at h;unfold PySem.eqBool;refine wpAny_holding ?_;exact wpAny_ite_split (fun _=>wpAny_bind (wpAny_rule (wpAny_pure h))) fun hab=>absurd rfl hab
 «strs»:=fun k x t v h=>by
  rcases a0E h with ⟨i,u,rfl,e⟩ | ⟨y,u,rfl,e⟩ | ⟨rfl,e⟩
  ·exact nomatch e
  ·injection e with e1 _
   subst e1;cases v<;>rfl
  ·exact nomatch e
theorem a6X (prog:Program) (w:World) (i:Int) (t:Tok):(a0F prog w).is (.inl (some i)) (.int i t)=true:=a8W i t
theorem a6Y (prog:Program) (w:World) (x:Str) (t:Tok):(a0F prog w).is (.inr x) (.str x t)=true:=a8X x t
end L2
namespace L2
open PySem PySem.Spec PyProof.Rows
inductive V where
 | non | bl (b:Bool) | int (i:Int) | str (x:Str) | byt (b:Array UInt8) | flt (b:UInt64) | ref (a:Addr) | ty (n:String)
 deriving DecidableEq
def RelV:V->Value->Prop
 | .non,u=>u=Value.none
 | .bl b,u=>u=Value.bool b
 | .int i,u=>∃ t,u=Value.int i t
 | .str x,u=>∃ t,u=Value.str x t
 | .byt b,u=>∃ t,u=Value.bytes b t
 | .flt b,u=>∃ t,u=Value.float b t
 | .ref a,u=>u=Value.ref a
 | .ty n,u=>u=Value.type n
abbrev Vals:List V->List Value->Prop:=Paired RelV
theorem Vals.length {xs:List V}{us:List Value}(r:Vals xs us):xs.length=us.length:=Paired.length r
theorem Vals.get:∀ {xs:List V}{us:List Value}{i:Nat}{x:V},Vals xs us->xs[i]?=some x->∃ u,us[i]?=some u/\RelV x u
 | _,_,_,_,.nil,e=>by simp at e
 | _,_,0,_,.cons r _,e=>by simp at e;subst e;exact⟨_,rfl,r⟩
 | _,_,i+1,x,.cons _ t,e=>by
  obtain⟨u,h1,h2⟩:=Vals.get (i:=i) (x:=x) t (by simpa using e);exact⟨u,by simpa using h1,h2⟩
theorem Vals.set {x:V}{u:Value}(r:RelV x u):∀ {xs:List V}{us:List Value}(i:Nat),Vals xs us->Vals (xs.set i x) (us.set i u)
 | _,_,_,.nil=>.nil
 | _,_,0,.cons _ t=>.cons r t
 | _,_,i+1,.cons q t=>.cons q (Vals.set r i t)
theorem Vals.append:∀ {xs ys:List V}{us ws:List Value},Vals xs us->Vals ys ws->Vals (xs++ys) (us++ws)
 | _,_,_,_,.nil,s=>s
 | _,_,_,_,.cons r t,s=>.cons r (Vals.append t s)
theorem Vals.take:∀ {xs:List V}{us:List Value}(n:Nat),Vals xs us->Vals (xs.take n) (us.take n)
 | _,_,0,_=>.nil
 | _,_,_+1,.nil=>.nil
 | _,_,n+1,.cons r t=>.cons r (Vals.take n t)
theorem Vals.drop:∀ {xs:List V}{us:List Value}(n:Nat),Vals xs us->Vals (xs.drop n) (us.drop n)
 | _,_,0,r=>r
 | _,_,_+1,.nil=>.nil
 | _,_,n+1,.cons _ t=>Vals.drop n t
theorem Vals.none_of:∀ {xs:List V}{us:List Value}{i:Nat},Vals xs us->xs[i]?=none->us[i]?=none:=fun {xs us i} r e=>by
 have h1:=r.length;have h2:xs.length≤i:=List.getElem?_eq_none_iff.mp e;exact List.getElem?_eq_none_iff.mpr (by omega)
def RelO:Option V->Option Value->Prop
 | some v,some u=>RelV v u
 | none,none=>True
 | _,_=>False
def KV {κ:Type}:List (κ×V)->List (κ×Value)->Prop:=Paired fun (p:κ×V) (q:κ×Value)=>p.1=q.1/\RelV p.2 q.2
def kV:Key->V
 | .inl (some i)=>.int i
 | .inl none=>.non
 | .inr x=>.str x
inductive HO where
 /-- a list -/
 | lst (xs:List V)
 /-- a tuple (never changes) -/
 | tup (xs:List V)
 /-- a dict whose keys are ints and texts;one whose keys are tuples of ints and texts (the empty one is both) -/
 | dK (kvs:List (Key×V)) | dT (kvs:List (List Key×V))
 /-- a set of ints: its members,its size -/
 | set (S:Int->Bool) (n:Nat)
 /-- an instance of the class at C,its dict at dx,its attributes -/
 | ins (C dx:Addr) (fs:List (Str×V))
 /-- the dict of the instance at x -/
 | own (x:Addr)
 /-- the dict of an exception -/
 | xd (fs:List (Str×V))
 /-- a bound method,f of x -/
 | met (f x:Addr)
 /-- a range object lo,lo+1,.. below hi -/
 | rng (lo hi:Int)
 /-- a thing that is known to the object (the script;a dict while a loop walks it): read,never written while it is so -/
 | frz (o:Obj) (u:HO)
 /-- a code object's table -/
 | tbl (ps:Array Value)
 /-- any other thing,by what is true of its one object (a def of one's own: SetO a S n:=HO.ext fun h=>..) -/
 | ext (φ:Heap->Prop)
abbrev Hp:=Addr->Option HO
def upd (H:Hp) (a:Addr) (o:HO):Hp:=fun b=>if b=a then some o else H b
theorem a0y {H:Hp}{a:Addr}{o:HO}:upd H a o a=some o:=by unfold upd;rw[if_pos rfl]
theorem a0v {H:Hp}{a b:Addr}{o:HO}(h:b≠a):upd H a o b=H b:=by unfold upd;rw[if_neg h]
theorem b6f {H:Hp}{a b:Addr}{o u:HO}(h:H a=some o) (h':H b=some u) (d:o≠u):a≠b:=by
 intro e;subst e;rw[h]at h';exact d (Option.some.inj h')
theorem a1W {H:Hp}{a b:Addr}{o:HO}(h:H a=some o) (h':H b=none):a≠b:=by
 intro e;subst e;rw[h]at h';cases h'
section
variable (P:Program) (w:World)
def ObjOk (H:Hp) (h:Heap) (a:Addr):HO->Prop
 | .lst xs=>xs.length≤sizeLine/\∃ (its:List Value) (n:Nat),Vals xs its/\h.get? a=some { cls:=.type "list",data:=.seq its.toArray n }
 | .tup xs=>xs.length≤sizeLine/\∃ its:List Value,Vals xs its/\IsTup h a its.toArray
 | .dK kvs=>kvs.length≤sizeLine/\(a==sysModules)=false/\∃ vs,KV kvs vs/\h.DictOf (a0F P w) a vs
 | .dT kvs=>kvs.length≤sizeLine/\(a==sysModules)=false/\∃ xs:List (List Key×Addr×Value),
   Paired (fun (p:List Key×V) (q:List Key×Addr×Value)=>p.1=q.1/\H q.2.1=some (.tup (p.1.map kV))/\RelV p.2 q.2.2) kvs xs /\
   ∃ o es ep,h.get? a=some o/\o.ExactDict/\o.data=.dict es ep/\es.toList=xs.map (entryOfKey (tupleKind (a0F P w)))/\(xs.map (·.1)).Nodup
 | .set S n=>h.SetOf (intKind P w) a S n
 | .ins C dx fs=>H dx=some (.own a)/\fs.length≤1000/\dx≠a/\h.get? a=some (PySem.W.instObj C dx) /\
   ∃ mA,h.Ns1 dx mA/\(∀ f,RelO (fs.lookup f) (mA f))/\PySem.Within mA (fs.map (·.1))
 | .own _=>∃ o,h.get? a=some o
 | .xd fs=>∃ mA,h.Ns1 a mA/\∀ f,RelO (fs.lookup f) (mA f)
 | .rng lo hi=>∃ t u v,h.get? a=some { cls:=.type "range",data:=.fields #[.int lo t,.int hi u,.int 1 v] }
 | .frz o u=>h.get? a=some o/\ObjOk H h a u
 | .tbl ps=>h.get? a=some { cls:=.none,data:=.fields ps }
 | .met f x=>h.get? a=some (PySem.W.methodObj (.ref f) (.ref x))
 | .ext φ=>φ h/\(∃ o,h.get? a=some o)/\∀ h1 h2:Heap,φ h1->(∀ o,h1.get? a=some o->h2.get? a=some o)->φ h2
def HOk (H:Hp) (h:Heap):Prop:=∀ a o,H a=some o->ObjOk P w H h a o
end
section
variable {P:Program}{w:World}{H H':Hp}{h h':Heap}{a:Addr}{o:HO}
theorem ObjOk.lt (x:ObjOk P w H h a o):a<h.objs.size:=by
 cases o with
 | lst xs=>obtain⟨_,_,_,_,e⟩:=x;exact Heap.lt_size e
 | tup xs=>obtain⟨_,_,_,p⟩:=x;exact p.lt
 | dK kvs=>obtain⟨_,_,_,_,o,_,_,e,_⟩:=x;exact Heap.lt_size e
 | dT kvs=>obtain⟨_,_,_,_,o,_,_,e,_⟩:=x;exact Heap.lt_size e
 | set S n=>obtain⟨o,_,_,_,e,_⟩:=x;exact Heap.lt_size e
 | ins C dx fs=>obtain⟨_,_,_,e,_⟩:=x;exact Heap.lt_size e
 | own y=>obtain⟨_,e⟩:=x;exact Heap.lt_size e
 | xd fs=>obtain⟨_,⟨_,_,_,e,_⟩,_⟩:=x;exact Heap.lt_size e
 | rng lo hi=>obtain⟨_,_,_,e⟩:=x;exact Heap.lt_size e
 | frz ob u=>obtain⟨e,_⟩:=x;exact Heap.lt_size e
 | tbl ps=>exact Heap.lt_size (show h.get? a=some _ from x)
 | met f y=>exact Heap.lt_size (show h.get? a=some _ from x)
 | ext φ=>obtain⟨_,⟨_,e⟩,_⟩:=x;exact Heap.lt_size e
theorem Paired.mapP {α β:Type}{F G:α->β->Prop}:∀ {l₁:List α}{l₂:List β},Paired F l₁ l₂->(∀ a b,F a b->G a b)->Paired G l₁ l₂
 | _,_,.nil,_=>.nil
 | _,_,.cons r t,f=>.cons (f _ _ r) (Paired.mapP t f)
theorem ObjOk.stay (x:ObjOk P w H h a o) (k:∀ b u,(b=a\/H b=some (.own a))->h.get? b=some u->h'.get? b=some u)
  (ho:∀ b,H b=some (.own a)->H' b=some (.own a)) (ht:∀ b xs,H b=some (.tup xs)->H' b=some (.tup xs)):ObjOk P w H' h' a o:=by
 induction o with
 | lst xs=>obtain⟨z,its,n,r,e⟩:=x;exact⟨z,its,n,r,k _ _ (.inl rfl) e⟩
 | tup xs=>obtain⟨z,its,r,ob,e,c⟩:=x;exact⟨z,its,r,ob,k _ _ (.inl rfl) e,c⟩
 | dK kvs=>obtain⟨z,y,vs,r,ob,es,ep,e,c⟩:=x;exact⟨z,y,vs,r,ob,es,ep,k _ _ (.inl rfl) e,c⟩
 | dT kvs=>
  obtain⟨z,y,xs,r,ob,es,ep,e,c⟩:=x;exact⟨z,y,xs,Paired.mapP r fun p q z=>⟨z.1,ht _ _ z.2.1,z.2.2⟩,ob,es,ep,k _ _ (.inl rfl) e,c⟩
 | set S n=>obtain⟨ob,es,ep,t,e,c⟩:=x;exact⟨ob,es,ep,t,k _ _ (.inl rfl) e,c⟩
 | ins C dx fs=>
  obtain⟨d,z,ne,e,mA,⟨od,es,ep,e2,c⟩,r⟩:=x;exact⟨ho _ d,z,ne,k _ _ (.inl rfl) e,mA,⟨od,es,ep,k _ _ (.inr d) e2,c⟩,r⟩
 | own y=>obtain⟨ob,e⟩:=x;exact⟨ob,k _ _ (.inl rfl) e⟩
 | xd fs=>obtain⟨mA,⟨od,es,ep,e,c⟩,r⟩:=x;exact⟨mA,⟨od,es,ep,k _ _ (.inl rfl) e,c⟩,r⟩
 | rng lo hi=>obtain⟨t,u,v,e⟩:=x;exact⟨t,u,v,k _ _ (.inl rfl) e⟩
 | frz ob u ih=>obtain⟨e,q⟩:=x;exact⟨k _ _ (.inl rfl) e,ih q⟩
 | tbl ps=>
  have e:h.get? a=some { cls:=.none,data:=.fields ps }:=x
  show h'.get? a=some { cls:=.none,data:=.fields ps }
  exact k a _ (.inl rfl) e
 | met f y=>
  have e:h.get? a=some (PySem.W.methodObj (.ref f) (.ref y)):=x
  show h'.get? a=some (PySem.W.methodObj (.ref f) (.ref y))
  exact k a _ (.inl rfl) e
 | ext φ=>obtain⟨p,⟨o,e⟩,st⟩:=x;exact⟨st _ _ p fun o q=>k _ _ (.inl rfl) q,⟨o,k _ _ (.inl rfl) e⟩,st⟩
theorem HOk.lt (x:HOk P w H h) (e:H a=some o):a<h.objs.size:=(x a o e).lt
theorem HOk.fresh (x:HOk P w H h) (e:h.objs.size≤a):H a=none:=by
 cases q:H a with
 | none=>rfl
 | some u=>exact absurd (Nat.lt_of_lt_of_le (x.lt q) e) (Nat.lt_irrefl _)
theorem HOk.kept (x:HOk P w H h) (k:∀ b u,h.get? b=some u->h'.get? b=some u):HOk P w H h':=fun a o e=>
 (x a o e).stay (fun b u _ q=>k b u q) (fun _ q=>q) fun _ _ q=>q
theorem HOk.laid (x:HOk P w H h) (k:∀ b u,h.get? b=some u->h'.get? b=some u) (hp:h.objs.size≤a) (new:ObjOk P w (upd H a o) h' a o):HOk P w (upd H a o) h':=fun b u e=>by
 have hn:=x.fresh hp
 by_cases hb:b=a
 ·subst hb;rw[a0y]at e;cases e;exact new
 ·rw[a0v hb]at e;exact (x b u e).stay (fun c v _ q=>k c v q) (fun c q=>by rw[a0v (a1W q hn)];exact q) fun c xs q=>by rw[a0v (a1W q hn)];exact q
end
def Rd (H:Hp) (a:Addr) (u:HO):Prop:=H a=some u\/∃ o,H a=some (.frz o u)
theorem Rd.of {H:Hp}{a:Addr}{u:HO}(h:H a=some u):Rd H a u:=.inl h
theorem Rd.ok {P:Program}{w:World}{H:Hp}{h:Heap}{a:Addr}{u:HO}(r:Rd H a u) (x:HOk P w H h):ObjOk P w H h a u:=by
 rcases r with r | ⟨o,r⟩
 ·exact x a u r
 ·obtain⟨_,q⟩:=x a _ r;exact q
def Mut:Option HO->Prop
 | some (.lst _)=>True
 | some (.dK _)=>True
 | some (.dT _)=>True
 | some (.set _ _)=>True
 | some (.ins _ _ _)=>True
 | some (.ext _)=>True
 | _=>False
section
variable {P:Program}{w:World}{H:Hp}{h h':Heap}{x e:Addr}{o':HO}
theorem HOk.write (ok:HOk P w H h) (mu:Mut (H x)) (he:e=x\/H e=some (.own x)) (k:∀ b u,b≠e->h.get? b=some u->h'.get? b=some u) (heo:∃ u,h'.get? e=some u)
  (new:ObjOk P w (upd H x o') h' x o'):HOk P w (upd H x o') h':=fun b u q=>by
 have nown:∀ c y,H c=some (.own y)->c≠x:=fun c y r z=>by subst z;rw[r]at mu;exact mu
 have ntup:∀ c xs,H c=some (.tup xs)->c≠x:=fun c xs r z=>by subst z;rw[r]at mu;exact mu
 by_cases hb:b=x
 ·subst hb;rw[a0y]at q;cases q;exact new
 ·rw[a0v hb]at q
  by_cases hbe:b=e
  ·have q':H b=some (.own x):=by
    rcases he with z | z
    ·exact absurd (hbe.trans z) hb
    ·rw[hbe];exact z
   rw[q]at q';cases q';obtain⟨v,hv⟩:=heo;exact⟨v,by rw[hbe];exact hv⟩
  ·refine (ok b u q).stay (fun c v hc r=>k c v ?_ r) (fun c r=>by rw[a0v (nown c b r)];exact r) fun c xs r=>by rw[a0v (ntup c xs r)];exact r
   rcases hc with rfl | hc
   ·exact hbe
   ·rintro rfl;rcases he with z | z
    ·exact nown c b hc z
    ·rw[hc]at z;cases z;exact hb rfl
end
structure Un (fs ex:List Addr) (H H':Hp) (h h':Heap):Prop where
 keep:∀ b o,h.get? b=some o->H b=none->b∉fs->b∉ex->h'.get? b=some o
 slot:∀ b o,h.get? b=some o->H b=none->b∈fs->b∉ex->∃ sl,h'.get? b=some { o with slots:=sl }
 free:∀ b o,h.get? b=some o->H b=none->b∉ex->H' b=none
 there:∀ b o,h.get? b=some o->b∉ex->∃ o',h'.get? b=some o'
 tups:∀ b xs,H b=some (.tup xs)->H' b=some (.tup xs)
 frzs:∀ b o u,H b=some (.frz o u)->H' b=some (.frz o u)
 tbls:∀ b ps,H b=some (.tbl ps)->∃ more,H' b=some (.tbl (ps++more))
section
variable {fs fs' ex ex':List Addr}{H H1 H2:Hp}{h h1 h2 h':Heap}{a x e:Addr}{o:HO}
theorem Un.any (u:Un fs ex H H1 h h1) {b:Addr}{ob:Obj}(q:h.get? b=some ob) (n:H b=none) (hx:b∉ex):∃ sl,h1.get? b=some { ob with slots:=sl }:=by
 by_cases hb:b∈fs
 ·exact u.slot b ob q n hb hx
 ·exact⟨ob.slots,u.keep b ob q n hb hx⟩
theorem Un.trans (a:Un fs ex H H1 h h1) (b:Un fs ex H1 H2 h1 h2):Un fs ex H H2 h h2 where
 keep:=fun c ob q n hc hx=>b.keep c ob (a.keep c ob q n hc hx) (a.free c ob q n hx) hc hx
 slot:=fun c ob q n hc hx=>by
  obtain⟨sl,e1⟩:=a.slot c ob q n hc hx;obtain⟨sl',e2⟩:=b.slot c _ e1 (a.free c ob q n hx) hc hx;exact⟨sl',e2⟩
 free:=fun c ob q n hx=>by
  obtain⟨o',e1⟩:=a.there c ob q hx;exact b.free c o' e1 (a.free c ob q n hx) hx
 there:=fun c ob q hx=>by
  obtain⟨o',e1⟩:=a.there c ob q hx;exact b.there c o' e1 hx
 tups:=fun c xs q=>b.tups c xs (a.tups c xs q)
 frzs:=fun c ob xs q=>b.frzs c ob xs (a.frzs c ob xs q)
 tbls:=fun c ps q=>by
  obtain⟨m1,e1⟩:=a.tbls c ps q;obtain⟨m2,e2⟩:=b.tbls c _ e1;exact⟨m1++m2,by rw[e2,Array.append_assoc]⟩
theorem Un.kept (k:∀ b u,h.get? b=some u->h'.get? b=some u):Un fs ex H H h h':=
 ⟨fun b ob q _ _ _=>k b ob q,fun b ob q _ _ _=>⟨ob.slots,k b ob q⟩,fun _ _ _ n _=>n,fun b ob q _=>⟨ob,k b ob q⟩,fun _ _ q=>q,fun _ _ _ q=>q,fun _ ps q=>⟨#[],by rw[q];simp⟩⟩
theorem Un.refl:Un fs ex H H h h:=Un.kept fun _ _ q=>q
theorem Un.laid (k:∀ b u,h.get? b=some u->h'.get? b=some u) (hp:h.objs.size≤a) (hn:H a=none):Un fs ex H (upd H a o) h h' where
 keep:=fun b u q _ _ _=>k b u q
 slot:=fun b u q _ _ _=>⟨u.slots,k b u q⟩
 free:=fun b u q n _=>by rw[a0v (Nat.ne_of_lt (Nat.lt_of_lt_of_le (Heap.lt_size q) hp))];exact n
 there:=fun b u q _=>⟨u,k b u q⟩
 tups:=fun b xs q=>by rw[a0v (a1W q hn)];exact q
 frzs:=fun b u xs q=>by rw[a0v (a1W q hn)];exact q
 tbls:=fun b ps q=>⟨#[],by rw[a0v (a1W q hn),q];simp⟩
theorem Un.write (mu:Mut (H x)) (he:e=x\/H e=some (.own x)) (k:∀ b u,b≠e->h.get? b=some u->h'.get? b=some u) (heo:∃ u,h'.get? e=some u):Un fs ex H (upd H x o) h h':=by
 have hx:∀ b,H b=none->b≠x:=fun b n z=>by subst z;rw[n]at mu;exact mu
 have hb:∀ b,H b=none->b≠e:=fun b n z=>by
  subst z;rcases he with r | r
  ·exact hx b n r
  ·rw[n]at r;cases r
 have hm:∀ b u,H b=some u->¬ Mut (some u)->b≠x:=fun b u q nm z=>by subst z;rw[q]at mu;exact nm mu
 refine⟨fun b u q n _ _=>k b u (hb b n) q,fun b u q n _ _=>⟨u.slots,k b u (hb b n) q⟩,fun b u q n _=>by rw[a0v (hx b n)];exact n,fun b u q _=>?_,
  fun b xs q=>by rw[a0v (hm b _ q fun z=>z)];exact q,fun b u xs q=>by rw[a0v (hm b _ q fun z=>z)];exact q,fun b ps q=>⟨#[],by rw[a0v (hm b _ q fun z=>z),q];simp⟩⟩
 by_cases hbe:b=e
 ·subst hbe;exact heo
 ·exact⟨u,k b u hbe q⟩
theorem Un.mono (u:Un fs ex H H1 h h1) (hs:∀ b∈fs,b∈fs') (hx:∀ b∈ex,b∈ex'):Un fs' ex' H H1 h h1:=
 ⟨fun b ob q n hb he=>u.keep b ob q n (fun z=>hb (hs b z)) fun z=>he (hx b z),fun _ _ q n _ he=>u.any q n fun z=>he (hx _ z),fun b ob q n he=>u.free b ob q n fun z=>he (hx b z),fun b ob q he=>u.there b ob q fun z=>he (hx b z),u.tups,u.frzs,u.tbls⟩
end
def trk (h:Heap) (H:Hp):List Addr:=(List.range h.objs.size).filter fun a=>(H a).isSome
def hidT (h:Heap) (H:Hp):Heap:=PySem.W.hideAll h (trk h H)
theorem a8Y (h:Heap) (H:Hp):(hidT h H).objs.size=h.objs.size:=PySem.W.hideAll_size _ _
theorem b0L {h:Heap}{H:Hp}{b:Addr}{o:Obj}(e:h.get? b=some o) (n:H b=none):(hidT h H).get? b=some o:=
 PySem.W.hideAll_get _ e fun hm=>by
  have q:(H b).isSome=true:=(List.mem_filter.mp hm).2;rw[n]at q;simp at q
theorem b2v {h:Heap}{H:Hp}{b:Addr}{o:Obj}(e:(hidT h H).get? b=some o):h.get? b=some o/\H b=none:=by
 have e':h.get? b=some o:=PySem.W.of_hideAll (trk h H) e;refine⟨e',?_⟩;cases q:H b with
 | none=>rfl
 | some x=>
  have hm:b∈trk h H:=List.mem_filter.mpr ⟨List.mem_range.mpr (Heap.lt_size e'),by simp[q]⟩;have z:(hidT h H).get? b=none:=PySem.W.hideAll_none (trk h H) hm;rw[z]at e;cases e
def b2w (g h:Heap) (L:Addr):List (Addr×Obj):=(List.range h.objs.size).filterMap fun a=>if a=L\/(g.get? a).isSome=true then none else (h.get? a).map fun o=>(a,o)
def rest (g h:Heap) (L d:Addr):List (Addr×Obj):=(b2w g h L).filter fun p=>decide (p.1≠d)
end L2
namespace L2
open PySem PySem.Spec PyProof.Rows
structure Mod (K:Fg) (mg:Str->Option Value) (base:Heap):Prop where
 kin:K.In base
 glob:base.Ns mainGlobals mg
 blt:∃ mb,base.Ns builtinsNs mb/\∀ x:Str,x≠"__name__"->mb x=bootBuiltins x
 nolimit:base.NoLimit
structure Cx where
 prog:Program
 w:World
 K:Fg
 mg:Str->Option Value
 base:Heap
 A:Around
 N:List Str
 s₀:Shared
 H₀:Hp
 env:Env
 outer:List Env
 stack:List Env
 ex:List Addr
 fn:Str->Bool
 calm:Bool
 pn:List (Addr×Obj)
 xe:Value->Shared->Prop
def frs (l:List Env):List Addr:=l.filterMap (·.frame)
abbrev Cx.fs (X:Cx):List Addr:=frs X.outer
def Vis (sc:Scope) (x:Str):Prop:=sc.names.lookup x=some .local\/sc.names.lookup x=some .cell\/sc.names.lookup x=some .free
def Loc (sc:Scope) (x:Str):Prop:=sc.names.lookup x=some .local\/sc.names.lookup x=some .cell
def Look (env:Env) (h:Heap) (m:Str->Option Value) (x:Str) (u:Value):Prop:=
 (env.kindOf x=some .local/\m x=some u)\/((env.kindOf x=some .cell\/env.kindOf x=some .free)/\∃ c,env.cells.lookup x=some c/\h.IsCell c (some u))
structure Cx.Ok (X:Cx):Prop where
 mod:Mod X.K X.mg X.base
 kind:X.env.scope.kind=.function
 glob:X.env.globals=mainGlobals
 blt:X.env.builtins=builtinsNs
 above:X.s₀.heap.objs.size≤X.env.locals
 inj:∀ x y c,X.env.cells.lookup x=some c->X.env.cells.lookup y=some c->x=y
 has:∀ x,(X.env.kindOf x=some .cell\/X.env.kindOf x=some .free)->∃ c,X.env.cells.lookup x=some c
 cab:∀ x c,X.fn x=true->X.env.cells.lookup x=some c->X.s₀.heap.objs.size≤c
 hd:X.calm=true->X.A.handled=none
 frames:X.A.frames=some X.stack
 stk:X.stack=X.outer\/(X.stack=X.env::X.outer/\X.env.frame=some X.env.locals)
 exf:∀ b∈X.ex,b≠X.env.locals/\∀ x c,X.env.cells.lookup x=some c->c≠b
 bs:∀ b o,X.base.get? b=some o->X.s₀.heap.get? b=some o/\X.H₀ b=none
 bsz:X.base.objs.size≤X.s₀.heap.objs.size
 noex:∀ b o,X.base.get? b=some o->b∉X.ex
 exfs:∀ b∈X.ex,b∉X.fs
 funs:X.s₀.heap.FunFrames X.base X.outer
 frf:∀ b∈X.fs,X.H₀ b=none
structure Inv (X:Cx) (pins:List (Addr×Obj)) (σ:List (Option V)) (H:Hp) (s:Shared):Prop where
 ok:X.Ok
 os:s.os=X.s₀.os
 bare:AllBare s.gens
 base:Un X.fs X.ex X.H₀ H X.s₀.heap s.heap
 loc:∃ m,s.heap.Ns X.env.locals m/\∀ (i:Nat) (x:Str) (v:V),X.N[i]?=some x->σ[i]?=some (some v)->Vis X.env.scope x->∃ u,RelV v u/\Look X.env s.heap m x u
 cell:∀ x c,X.env.cells.lookup x=some c->∃ v,s.heap.IsCell c v
 free:H X.env.locals=none
 freeC:∀ x c,X.env.cells.lookup x=some c->H c=none
 pin:∀ p∈X.pn++pins,s.heap.get? p.1=some p.2/\H p.1=none/\p.1≠X.env.locals/\p.1∉X.fs/\∀ v,p.2.data≠.cell v
 hok:HOk X.prog X.w H s.heap
 len:σ.length=X.N.length
section
variable {X:Cx}{pins:List (Addr×Obj)}{σ:List (Option V)}{H H':Hp}{s:Shared}{h':Heap}
theorem Cx.Ok.nofr (ok:X.Ok) {b:Addr}{o:Obj}(e:X.base.get? b=some o):b∉X.fs:=fun hb=>by
 have:=(ok.funs.mem hb).1
 rw[e]at this;cases this
theorem Inv.bs (I:Inv X pins σ H s):∀ b o,X.base.get? b=some o->s.heap.get? b=some o/\H b=none:=fun b o e=>
 ⟨I.base.keep b o (I.ok.bs b o e).1 (I.ok.bs b o e).2 (I.ok.nofr e) (I.ok.noex b o e),I.base.free b o (I.ok.bs b o e).1 (I.ok.bs b o e).2 (I.ok.noex b o e)⟩
theorem Inv.bk (I:Inv X pins σ H s):∀ b o,X.base.get? b=some o->s.heap.get? b=some o:=fun b o e=>(I.bs b o e).1
theorem Inv.mod (I:Inv X pins σ H s):Mod X.K X.mg X.base:=I.ok.mod
theorem Inv.kIn (I:Inv X pins σ H s):X.K.In s.heap:=I.ok.mod.kin.keeps I.bk
theorem Inv.nolimit (I:Inv X pins σ H s):s.heap.NoLimit:=I.ok.mod.nolimit.keeps I.bk
theorem Inv.fr (I:Inv X pins σ H s):∃ m,Fr X.base X.env.locals s.heap m:=
 let ⟨m,hn,_⟩:=I.loc
 ⟨m,hn,I.bk,Nat.le_trans I.ok.bsz I.ok.above⟩
theorem Inv.lt (I:Inv X pins σ H s):X.env.locals<s.heap.objs.size:=let ⟨_,hn,_⟩:=I.loc;hn.lt
theorem Inv.sz (I:Inv X pins σ H s):X.s₀.heap.objs.size≤s.heap.objs.size:=Nat.le_trans I.ok.above (Nat.le_of_lt I.lt)
theorem Inv.nofs (I:Inv X pins σ H s) {a:Addr}(h:s.heap.objs.size≤a):a∉X.fs:=fun hb=>by
 obtain⟨_,o,ho,_⟩:=I.ok.funs.mem hb;exact absurd (Nat.lt_of_lt_of_le (Heap.lt_size ho) (Nat.le_trans I.sz h)) (Nat.lt_irrefl _)
theorem Inv.cne (I:Inv X pins σ H s):∀ x c,X.env.cells.lookup x=some c->c≠X.env.locals:=fun x c e z=>by
 obtain⟨v,o,ho,hd⟩:=I.cell x c e;obtain⟨m,⟨o',es,ep,ho',hd',_⟩,_⟩:=I.loc;rw[z,ho']at ho;cases ho;rw[hd']at hd;cases hd
theorem Inv.funs (I:Inv X pins σ H s):s.heap.FunFrames X.base X.outer:=by
 have all:∀ (l:List Env),(∀ b∈frs l,b∈X.fs)->X.s₀.heap.FunFrames X.base l->s.heap.FunFrames X.base l:=by
  intro l
  induction l with
  | nil=>intro _ _;trivial
  | cons env r ih=>
   intro hs hl;obtain⟨hk,⟨L,o,hf,hn,ho,hd⟩,hr⟩:=hl;have hL:L∈X.fs:=hs L (by unfold frs;rw[List.filterMap_cons,hf];exact List.mem_cons_self);obtain⟨sl,e⟩:=I.base.slot L o ho (I.ok.frf L hL) hL fun z=>I.ok.exfs L z hL;exact⟨hk,⟨L,_,hf,hn,e,hd⟩,ih (fun b hb=>hs b (by unfold frs;rw[List.filterMap_cons,hf];exact List.mem_cons_of_mem _ hb)) hr⟩
 exact all X.outer (fun _ hb=>hb) I.ok.funs
theorem Inv.stack (I:Inv X pins σ H s):s.heap.FunFrames X.base X.stack:=by
 rcases I.ok.stk with e | ⟨e,hf⟩
 ·rw[e];exact I.funs
 ·rw[e];obtain⟨m,hn,_⟩:=I.loc;refine .cons (by rw[I.ok.kind];decide) hf hn ?_ I.funs;exact Heap.get?_none_of_le (Nat.le_trans I.ok.bsz I.ok.above)
theorem Inv.stkSub (I:Inv X pins σ H s):∀ b∈frs X.stack,b∈X.env.locals::X.fs:=fun b hb=>by
 rcases I.ok.stk with e | ⟨e,hf⟩
 ·rw[e]at hb;exact List.mem_cons_of_mem _ hb
 ·rw[e]at hb;unfold frs at hb;rw[List.filterMap_cons,hf]at hb;exact hb
theorem Inv.stkFree (I:Inv X pins σ H s):∀ b∈frs X.stack,H b=none:=fun b hb=>by
 rcases List.mem_cons.mp (I.stkSub b hb) with e | hb
 ·rw[e];exact I.free
 ·obtain⟨_,o,ho,_⟩:=I.ok.funs.mem hb;exact I.base.free b o ho (I.ok.frf b hb) fun z=>I.ok.exfs b z hb
theorem Inv.step {g':Array GenState}{t':Nat}{d':Drawn}{ch:List Addr}(I:Inv X pins σ H s)
  (hch:∀ b∈ch,(b∈X.ex\/X.s₀.heap.objs.size≤b)/\b≠X.env.locals/\(∀ x c,X.env.cells.lookup x=some c->c≠b)/\∀ p∈X.pn++pins,p.1≠b)
  (keep:∀ b o,b≠X.env.locals->b∉X.fs->b∉ch->s.heap.get? b=some o->H b=none->h'.get? b=some o)
  (slot:∀ b o,b≠X.env.locals->b∈X.fs->b∉ch->s.heap.get? b=some o->H b=none->∃ sl,h'.get? b=some { o with slots:=sl }) (free:∀ b o,b∉ch->s.heap.get? b=some o->H b=none->H' b=none)
  (there:∀ b o,b∉ch->s.heap.get? b=some o->∃ o',h'.get? b=some o')
  (tups:∀ b xs,H b=some (.tup xs)->H' b=some (.tup xs)) (frzs:∀ b o u,H b=some (.frz o u)->H' b=some (.frz o u)) (tbls:∀ b ps,H b=some (.tbl ps)->∃ more,H' b=some (.tbl (ps++more)))
  (ns:∀ m,s.heap.Ns X.env.locals m->h'.Ns X.env.locals m) (hok:HOk X.prog X.w H' h') (hg:AllBare g') :
  Inv X pins σ H' { s with heap:=h',gens:=g',drawn:=d',toks:=t' }:=by
 have neL:∀ b o,X.s₀.heap.get? b=some o->b≠X.env.locals:=fun b o e=>Nat.ne_of_lt (Nat.lt_of_lt_of_le (Heap.lt_size e) I.ok.above);have neC:∀ b o,X.s₀.heap.get? b=some o->b∉X.ex->b∉ch:=fun b o e hx hb=>by
  rcases (hch b hb).1 with z | z
  ·exact hx z
  ·exact absurd (Nat.lt_of_lt_of_le (Heap.lt_size e) z) (Nat.lt_irrefl _)
 have cellK:∀ x c,X.env.cells.lookup x=some c->∀ v,s.heap.IsCell c v->h'.IsCell c v:=fun x c e v ⟨o,ho,hd⟩=>by
  have nch:c∉ch:=fun z=>(hch c z).2.2.1 x c e rfl
  by_cases hc:c∈X.fs
  ·obtain⟨sl,q⟩:=slot c o (I.cne x c e) hc nch ho (I.freeC x c e);exact⟨_,q,hd⟩
  ·exact⟨o,keep c o (I.cne x c e) hc nch ho (I.freeC x c e),hd⟩
 refine⟨I.ok,I.os,hg,⟨fun b o e n hb hx=>?_,fun b o e n hb hx=>?_,fun b o e n hx=>?_,fun b o e hx=>?_,fun b xs e=>tups b xs (I.base.tups b xs e),fun b o xs e=>frzs b o xs (I.base.frzs b o xs e),fun b ps e=>?_⟩,?_,fun x c e=>?_,?_,fun x c e=>?_,fun p hp=>?_,hok,I.len⟩
 ·exact keep b o (neL b o e) hb (neC b o e hx) (I.base.keep b o e n hb hx) (I.base.free b o e n hx)
 ·obtain⟨sl,e1⟩:=I.base.slot b o e n hb hx;obtain⟨sl',e2⟩:=slot b _ (neL b o e) hb (neC b o e hx) e1 (I.base.free b o e n hx);exact⟨sl',e2⟩
 ·obtain⟨o',e1⟩:=I.base.there b o e hx;exact free b o' (neC b o e hx) e1 (I.base.free b o e n hx)
 ·obtain⟨o',e1⟩:=I.base.there b o e hx;exact there b o' (neC b o e hx) e1
 ·obtain⟨m1,e1⟩:=I.base.tbls b ps e;obtain⟨m2,e2⟩:=tbls b _ e1;exact⟨m1++m2,by rw[e2,Array.append_assoc]⟩
 ·obtain⟨m,hn,hl⟩:=I.loc;refine⟨m,ns m hn,fun i x v e1 e2 e3=>?_⟩;obtain⟨u,r,l⟩:=hl i x v e1 e2 e3;refine⟨u,r,?_⟩;rcases l with l | ⟨k,c,e,z⟩
  ·exact .inl l
  ·exact .inr ⟨k,c,e,cellK x c e _ z⟩
 ·obtain⟨v,z⟩:=I.cell x c e;exact⟨v,cellK x c e v z⟩
 ·obtain⟨m,⟨o,_,_,ho,_⟩,_⟩:=I.loc;exact free _ o (fun z=>(hch _ z).2.1 rfl) ho I.free
 ·obtain⟨v,o,ho,hd⟩:=I.cell x c e;exact free c o (fun z=>(hch c z).2.2.1 x c e rfl) ho (I.freeC x c e)
 ·obtain⟨e,n,ne,nf,d⟩:=I.pin p hp;have nch:p.1∉ch:=fun z=>(hch p.1 z).2.2.2 p hp rfl;exact⟨keep p.1 p.2 ne nf nch e n,free p.1 p.2 nch e n,ne,nf,d⟩
theorem Inv.un {t':Nat}(I:Inv X pins σ H s) (u:Un X.fs [] H H' s.heap h') (hok:HOk X.prog X.w H' h'):Inv X pins σ H' { s with heap:=h',toks:=t' }:=by
 obtain⟨m,⟨o,es,ep,ho,r⟩,_⟩:=id I.loc;obtain⟨sl,hL⟩:=u.any ho I.free (by simp);exact I.step (g':=s.gens) (d':=s.drawn) (ch:=[]) (fun _ z=>nomatch z) (fun b o _ hb _ e n=>u.keep b o e n hb (by simp)) (fun b o _ hb _ e n=>u.slot b o e n hb (by simp)) (fun b o _ e n=>u.free b o e n (by simp)) (fun b o _ e=>u.there b o e (by simp)) u.tups u.frzs u.tbls (fun m' hm=>by
  obtain⟨o',es',ep',ho',r'⟩:=hm;rw[ho]at ho';cases ho';exact⟨_,es',ep',hL,r'⟩) hok I.bare
theorem Inv.call {g':Array GenState}{t':Nat}{d':Drawn}{ch:List Addr}(I:Inv X pins σ H s) (u:Un (frs X.stack) ch H H' s.heap h') (hok:HOk X.prog X.w H' h') (hg:AllBare g')
  (hch:∀ b∈ch,(b∈X.ex\/X.s₀.heap.objs.size≤b)/\b≠X.env.locals/\(∀ x c,X.env.cells.lookup x=some c->c≠b)/\∀ p∈X.pn++pins,p.1≠b) :
  Inv X pins σ H' { s with heap:=h',gens:=g',drawn:=d',toks:=t' }:=by
 obtain⟨m,⟨o,es,ep,ho,r⟩,_⟩:=id I.loc;obtain⟨sl,hL⟩:=u.any ho I.free fun z=>(hch _ z).2.1 rfl;exact I.step (ch:=ch) hch (fun b o hL hb hc e n=>u.keep b o e n (fun z=>(List.mem_cons.mp (I.stkSub b z)).elim hL hb) hc) (fun b o _ _ hc e n=>u.any e n hc) (fun b o hc e n=>u.free b o e n hc) (fun b o hc e=>u.there b o e hc) u.tups u.frzs u.tbls (fun m' hm=>by
  obtain⟨o',es',ep',ho',r'⟩:=hm;rw[ho]at ho';cases ho';exact⟨_,es',ep',hL,r'⟩) hok hg
theorem Inv.turned {t':Nat}{it:Addr}(I:Inv X pins σ H s) (k:∀ b o,b≠it->s.heap.get? b=some o->h'.get? b=some o) (hn:H it=none) (hL:it≠X.env.locals)
  (h1:it∈X.ex\/X.s₀.heap.objs.size≤it) (h2:∀ x c,X.env.cells.lookup x=some c->c≠it) (h3:∀ p∈X.pn++pins,p.1≠it):Inv X pins σ H { s with heap:=h',toks:=t' }:=by
 have nit:∀ b u,H b=some u->b≠it:=fun b u e z=>by rw[z,hn]at e;cases e
 refine I.step (g':=s.gens) (d':=s.drawn) (ch:=[it]) (fun b hb=>?_) (fun b o _ _ hc e _=>k b o (fun z=>hc (by simp[z])) e) (fun b o _ _ hc e _=>⟨o.slots,k b o (fun z=>hc (by simp[z])) e⟩) (fun _ _ _ _ n=>n)
  (fun b o hc e=>⟨o,k b o (fun z=>hc (by simp[z])) e⟩) (fun _ _ e=>e) (fun _ _ _ e=>e) (fun b ps e=>⟨#[],by rw[e];simp⟩) (fun m hm=>?_) (fun b u e=>?_) I.bare
 ·have e:b=it:=by simpa using hb
  subst e;exact⟨h1,hL,h2,h3⟩
 ·obtain⟨o,es,ep,ho,r⟩:=hm;exact⟨o,es,ep,k _ o (Ne.symm hL) ho,r⟩
 ·refine (I.hok b u e).stay (fun c v hc q=>k c v ?_ q) (fun _ q=>q) fun _ _ q=>q;rcases hc with z | z
  ·rw[z];exact nit b u e
  ·exact nit c _ z
theorem Inv.tok (I:Inv X pins σ H s) (t:Nat):Inv X pins σ H { s with toks:=t }:=I.un (h':=s.heap) (t':=t) Un.refl I.hok
theorem Inv.kept {t':Nat}(I:Inv X pins σ H s) (k:∀ b u,s.heap.get? b=some u->h'.get? b=some u):Inv X pins σ H { s with heap:=h',toks:=t' }:=I.un (Un.kept k) (I.hok.kept k)
theorem Inv.laid {a:Addr}{o:HO}{t':Nat}(I:Inv X pins σ H s) (k:∀ b u,s.heap.get? b=some u->h'.get? b=some u) (hp:s.heap.objs.size≤a) (new:ObjOk X.prog X.w (upd H a o) h' a o) :
  Inv X pins σ (upd H a o) { s with heap:=h',toks:=t' }:=I.un (Un.laid k hp (I.hok.fresh hp)) (I.hok.laid k hp new)
theorem Inv.write {x e:Addr}{o:HO}{t':Nat}(I:Inv X pins σ H s) (mu:Mut (H x)) (he:e=x\/H e=some (.own x)) (k:∀ b u,b≠e->s.heap.get? b=some u->h'.get? b=some u) (heo:∃ u,h'.get? e=some u)
  (new:ObjOk X.prog X.w (upd H x o) h' x o):Inv X pins σ (upd H x o) { s with heap:=h',toks:=t' }:=I.un (Un.write mu he k heo) (I.hok.write mu he k heo new)
theorem Inv.weak {σ':List (Option V)}(I:Inv X pins σ H s) (hl:σ'.length=σ.length) (w:∀ (i:Nat) v,σ'[i]?=some (some v)->σ[i]?=some (some v)):Inv X pins σ' H s:=
 ⟨I.ok,I.os,I.bare,I.base,let ⟨m,hn,hl'⟩:=I.loc;⟨m,hn,fun i x v e1 e2 e3=>hl' i x v e1 (w i v e2) e3⟩,I.cell,I.free,I.freeC,I.pin,I.hok,hl.trans I.len⟩
theorem Inv.pins_of {pins':List (Addr×Obj)}(I:Inv X pins σ H s) (h:∀ p∈pins',s.heap.get? p.1=some p.2/\H p.1=none/\p.1≠X.env.locals/\p.1∉X.fs/\∀ v,p.2.data≠.cell v):Inv X pins' σ H s:=
 ⟨I.ok,I.os,I.bare,I.base,I.loc,I.cell,I.free,I.freeC,fun p hp=>(List.mem_append.mp hp).elim (fun z=>I.pin p (List.mem_append_left _ z)) (h p),I.hok,I.len⟩
theorem a7u {N:List Str}(hN:N.Nodup) {i j:Nat}{x:Str}(a:N[i]?=some x) (b:N[j]?=some x):i=j:=by
 obtain⟨h1,e1⟩:=List.getElem?_eq_some_iff.mp a;obtain⟨h2,e2⟩:=List.getElem?_eq_some_iff.mp b;exact (List.getElem_inj hN).mp (e1.trans e2.symm)
theorem a59 {M:Model}{A:Around}{E:Value->Shared->Prop}{i:Nat}{x:Str}{v:V}{u:Value}{Q:Unit->Shared->Prop}(I:Inv X pins σ H s) (hN:X.N.Nodup) (hi:X.N[i]?=some x) (hx:Loc X.env.scope x) (r:RelV v u)
  (h:∀ s',Inv X pins (σ.set i (some v)) H s'->(∃ a,Heap.SameBut a s.heap s'.heap/\(a=X.env.locals\/X.env.cells.lookup x=some a))->Q () s') (hf:X.fn x=true\/X.env.scope.names.lookup x=some .local:=by first | exact .inl rfl | exact .inr rfl | assumption):wpAny M A (storeName X.env x u) Q E s:=by
 obtain⟨m,hn,hl⟩:=id I.loc;have hcls:(X.env.scope.kind==.class||(X.env.scope.kind==.module&&X.env.locals != X.env.globals))=false:=by rw[I.ok.kind];rfl
 have hiσ:i<σ.length:=by rw[I.len];exact (List.getElem?_eq_some_iff.mp hi).1
 have cne:=I.cne;have tracked:∀ {a:Addr}{h':Heap},(∃ o,s.heap.get? a=some o/\H a=none)->Heap.SameBut a s.heap h'->HOk X.prog X.w H h':=fun {a h'} ha hs b ob e=>by
  obtain⟨_,_,hfree⟩:=ha;refine (I.hok b ob e).stay (fun c w' hc q=>(hs.2 c ?_).trans q) (fun _ q=>q) fun _ _ q=>q;rintro rfl;rcases hc with rfl | hc
  ·rw[hfree]at e;cases e
  ·rw[hfree]at hc;cases hc
 rcases hx with hk | hk
 ·refine wpAny_storeName_local hk hn (fun h' hn' hs=>?_) hcls;obtain⟨oL,_,_,hoL,_⟩:=id hn;refine h _ ⟨I.ok,I.os,I.bare,⟨fun b o e n hb hx=>?_,fun b o e n hb hx=>?_,I.base.free,fun b o e hx=>?_,I.base.tups,I.base.frzs,I.base.tbls⟩,⟨_,hn',fun j y v' e1 e2 e3=>?_⟩,fun y c e=>?_,I.free,I.freeC,fun p hp=>?_,tracked ⟨oL,hoL,I.free⟩ hs,by simpa using I.len⟩ ⟨_,hs,.inl rfl⟩
  ·exact (hs.2 b (Nat.ne_of_lt (Nat.lt_of_lt_of_le (Heap.lt_size e) I.ok.above))).trans (I.base.keep b o e n hb hx)
  ·obtain⟨sl,e1⟩:=I.base.slot b o e n hb hx;exact⟨sl,(hs.2 b (Nat.ne_of_lt (Nat.lt_of_lt_of_le (Heap.lt_size e) I.ok.above))).trans e1⟩
  ·obtain⟨o',e1⟩:=I.base.there b o e hx;exact⟨o',(hs.2 b (Nat.ne_of_lt (Nat.lt_of_lt_of_le (Heap.lt_size e) I.ok.above))).trans e1⟩
  ·by_cases hj:j=i
   ·subst hj;rw[hi]at e1;cases e1;rw[List.getElem?_set_self hiσ]at e2;cases e2;exact⟨u,r,.inl ⟨hk,by simp⟩⟩
   ·rw[List.getElem?_set_ne (Ne.symm hj)]at e2;obtain⟨u',r',q⟩:=hl j y v' e1 e2 e3;refine⟨u',r',?_⟩;rcases q with ⟨k,e⟩ | ⟨k,c,e,z⟩
    ·refine .inl ⟨k,?_⟩
     have:y≠x:=fun e=>hj (a7u hN e1 (e▸hi))
     simp[this,e]
    ·exact .inr ⟨k,c,e,z.sameBut hs (cne y c e)⟩
  ·obtain⟨w',z⟩:=I.cell y c e;exact⟨w',z.sameBut hs (cne y c e)⟩
  ·obtain⟨e,n,ne,nf,d⟩:=I.pin p hp;exact⟨(hs.2 p.1 ne).trans e,n,ne,nf,d⟩
 ·have hfn:X.fn x=true:=by
   rcases hf with z | z
   ·exact z
   ·rw[z]at hk;cases hk
  obtain⟨c,hc⟩:=I.ok.has x (.inl hk);obtain⟨w',z⟩:=I.cell x c hc;refine wpAny_storeName_cell I.ok.kind hk hc z (fun h' hc' hs=>?_);obtain⟨oc,hoc,hocd⟩:=id z;refine h { s with heap:=h' } ⟨I.ok,I.os,I.bare,⟨fun b o e n hb hx=>?_,fun b o e n hb hx=>?_,I.base.free,fun b o e hx=>?_,I.base.tups,I.base.frzs,I.base.tbls⟩,⟨m,hn.sameBut hs (Ne.symm (cne x c hc)),fun j y v' e1 e2 e3=>?_⟩,fun y c' e=>?_,I.free,I.freeC,fun p hp=>?_,tracked ⟨oc,hoc,I.freeC x c hc⟩ hs,by simpa using I.len⟩ ⟨c,hs,.inr hc⟩
  ·exact (hs.2 b (Nat.ne_of_lt (Nat.lt_of_lt_of_le (Heap.lt_size e) (I.ok.cab x c hfn hc)))).trans (I.base.keep b o e n hb hx)
  ·obtain⟨sl,e1⟩:=I.base.slot b o e n hb hx;exact⟨sl,(hs.2 b (Nat.ne_of_lt (Nat.lt_of_lt_of_le (Heap.lt_size e) (I.ok.cab x c hfn hc)))).trans e1⟩
  ·obtain⟨o',e1⟩:=I.base.there b o e hx;exact⟨o',(hs.2 b (Nat.ne_of_lt (Nat.lt_of_lt_of_le (Heap.lt_size e) (I.ok.cab x c hfn hc)))).trans e1⟩
  ·by_cases hj:j=i
   ·subst hj;rw[hi]at e1;cases e1;rw[List.getElem?_set_self hiσ]at e2;cases e2;exact⟨u,r,.inr ⟨.inl hk,c,hc,hc'⟩⟩
   ·rw[List.getElem?_set_ne (Ne.symm hj)]at e2;obtain⟨u',r',q⟩:=hl j y v' e1 e2 e3;refine⟨u',r',?_⟩;rcases q with q | ⟨k,c',e,z'⟩
    ·exact .inl q
    ·refine .inr ⟨k,c',e,z'.sameBut hs ?_⟩;rintro rfl;exact hj (a7u hN e1 (I.ok.inj _ _ _ e hc▸hi))
  ·by_cases hcc:c'=c
   ·subst hcc;exact⟨_,hc'⟩
   ·obtain⟨w2,z2⟩:=I.cell y c' e;exact⟨w2,z2.sameBut hs hcc⟩
  ·obtain⟨e,n,ne,nf,d⟩:=I.pin p hp;refine⟨(hs.2 p.1 ?_).trans e,n,ne,nf,d⟩;intro q;rw[q,hoc]at e;have q':oc=p.2:=Option.some.inj e;exact d w' (by rw[<- q'];exact hocd)
theorem a7v {M:Model}{A:Around}{E:Value->Shared->Prop}{i:Nat}{x:Str}{v:V}{u:Value}{Q:Unit->Shared->Prop}(I:Inv X pins σ H s) (hN:X.N.Nodup) (hi:X.N[i]?=some x) (hx:Loc X.env.scope x) (r:RelV v u)
  (h:∀ s',Inv X pins (σ.set i (some v)) H s'->Q () s') (hf:X.fn x=true\/X.env.scope.names.lookup x=some .local:=by first | exact .inl rfl | exact .inr rfl | assumption):wpAny M A (storeName X.env x u) Q E s:=
 a59 I hN hi hx r (fun s' I' _=>h s' I') hf
theorem Inv.call' {s':Shared}{ch:List Addr}(I:Inv X pins σ H s) (ho:s'.os=s.os) (u:Un (frs X.stack) ch H H' s.heap s'.heap) (hok:HOk X.prog X.w H' s'.heap) (hg:AllBare s'.gens)
  (hch:∀ b∈ch,(b∈X.ex\/X.s₀.heap.objs.size≤b)/\b≠X.env.locals/\(∀ x c,X.env.cells.lookup x=some c->c≠b)/\∀ p∈X.pn++pins,p.1≠b):Inv X pins σ H' s':=by
 obtain⟨h',g',d',t',o'⟩:=s';have e:o'=s.os:=ho;subst e;exact I.call (g':=g') (t':=t') (d':=d') u hok hg hch
end
abbrev XK:=Value->Option Addr->Hp->Prop
abbrev St:=List (Option V)
abbrev VK:=V->Hp->Prop
abbrev TE:=St->Hp->VK->Prop
abbrev TT:=St->Hp->(Bool->Hp->Prop)->Prop
abbrev TA:=St->Hp->(List V->Hp->Prop)->Prop
structure Ends where
 nx:St->Hp->Prop
 rt:VK
 bk:St->Hp->Prop:=fun _ _=>False
 ct:St->Hp->Prop:=fun _ _=>False
abbrev TS:=Ends->St->Hp->Prop
def EP (X:Cx) (pins:List (Addr×Obj)) (σ:St) (Q:VK) (u:Value) (s':Shared):Prop:=∃ v H',Inv X pins σ H' s'/\RelV v u/\Q v H'
def TP (X:Cx) (pins:List (Addr×Obj)) (σ:St) (Q:Bool->Hp->Prop) (b:Bool) (s':Shared):Prop:=∃ H',Inv X pins σ H' s'/\Q b H'
def AP (X:Cx) (pins:List (Addr×Obj)) (σ:St) (Q:List V->Hp->Prop) (us:List Value) (s':Shared):Prop:=∃ vs H',Inv X pins σ H' s'/\Vals vs us/\Q vs H'
def SP (X:Cx) (pins:List (Addr×Obj)) (D:Ends) (f:Flow) (s':Shared):Prop:=
 match f with
 | .next=>∃ σ' H',Inv X pins σ' H' s'/\D.nx σ' H'
 | .brk=>∃ σ' H',Inv X pins σ' H' s'/\D.bk σ' H'
 | .cont=>∃ σ' H',Inv X pins σ' H' s'/\D.ct σ' H'
 | .ret u=>∃ v σ' H',Inv X pins σ' H' s'/\RelV v u/\D.rt v H'
def PE (X:Cx) (e:Expr) (t:TE):Prop:=
 ∀ (pins:List (Addr×Obj)) (s:Shared) (σ:St) (H:Hp) (Q:VK),Inv X pins σ H s->t σ H Q->wpAny (model X.prog X.w) X.A (eval e X.env) (EP X pins σ Q) X.xe s
def PT (X:Cx) (e:Expr) (t:TT):Prop:=
 ∀ (pins:List (Addr×Obj)) (s:Shared) (σ:St) (H:Hp) (Q:Bool->Hp->Prop),Inv X pins σ H s->t σ H Q->wpAny (model X.prog X.w) X.A (isTrue e X.env (eval e X.env)) (TP X pins σ Q) X.xe s
def PW (X:Cx) (e:Expr) (t:TT):Prop:=
 ∀ (whole:Sem Value) (pins:List (Addr×Obj)) (s:Shared) (σ:St) (H:Hp) (Q:Bool->Hp->Prop),Inv X pins σ H s->t σ H Q->wpAny (model X.prog X.w) X.A (isTrue e X.env whole) (TP X pins σ Q) X.xe s
theorem PW.pt {X:Cx}{e:Expr}{t:TT}(h:PW X e t):PT X e t:=h _
def PA (X:Cx) (es:List Expr) (t:TA):Prop:=
 ∀ (pos:Pos) (pins:List (Addr×Obj)) (s:Shared) (σ:St) (H:Hp) (Q:List V->Hp->Prop),Inv X pins σ H s->t σ H Q->wpAny (model X.prog X.w) X.A (spliced (backTo pos (starEach es X.env))) (AP X pins σ Q) X.xe s
def PS (X:Cx) (st:Stmt) (t:TS):Prop:=
 ∀ (pins:List (Addr×Obj)) (s:Shared) (σ:St) (H:Hp) (D:Ends),Inv X pins σ H s->t D σ H->wpAny (model X.prog X.w) X.A (exec st X.env) (SP X pins D) X.xe s
def PSs (X:Cx) (st:List Stmt) (t:TS):Prop:=
 ∀ (pins:List (Addr×Obj)) (s:Shared) (σ:St) (H:Hp) (D:Ends),Inv X pins σ H s->t D σ H->wpAny (model X.prog X.w) X.A (execs st X.env) (SP X pins D) X.xe s
theorem thn {α:Type}{t:Sem α}{Q Q':α->Shared->Prop}{M:Model}{A:Around}{E:Value->Shared->Prop}{s:Shared}(h:wpAny M A t Q E s) (hQ:∀ a s,Q a s->Q' a s):wpAny M A t Q' E s:=wpAny_mono h hQ fun _ _ x=>x
end L2
namespace L2
open PySem PySem.Spec PyProof.Rows
section
variable {X:Cx}
def tVar (i:Nat):TE:=fun σ H Q=>∃ v,σ[i]?=some (some v)/\Q v H
def tC (v:V):TE:=fun _ H Q=>Q v H
theorem b3Z {i:Nat}{x:Str}{pos:Pos}(hN:X.N[i]?=some x) (hv:Vis X.env.scope x) (hd:(x==("__debug__":Str))=false:=by decide) (hcd:(x==("__classdict__":Str))=false:=by decide):PE X (.Name x pos) (tVar i):=by
 intro pins s σ H Q I h;obtain⟨v,e,h⟩:=h;obtain⟨m,hn,hl⟩:=I.loc;obtain⟨u,r,l⟩:=hl i x v hN e hv;have fin:EP X pins σ Q u s:=⟨v,H,I,r,h⟩;rcases l with ⟨hk,hm⟩ | ⟨hk,c,hc,hcell⟩
 ·exact wpAny_Name (wpAny_loadName_local I.ok.kind hk hn hm fin) hd
 ·rcases hk with hk | hk
  ·exact wpAny_Name (wpAny_loadName_cell I.ok.kind hk hc hcell fin) hd
  ·exact wpAny_Name (wpAny_loadName_free I.ok.kind hk hc hcell fin hcd) hd
theorem b30 {i j pos}:PE X (.Constant (.int i) j pos) (tC (.int i)):=fun _ _ _ H _ I h=>wpAny_Constant_int ⟨.int i,H,I.tok _,⟨_,rfl⟩,h⟩
theorem b6g {b j pos}:PE X (.Constant (.bool b) j pos) (tC (.bl b)):=fun _ _ _ H _ I h=>Constant_bool ⟨.bl b,H,I,rfl,h⟩
theorem b31 {j pos}:PE X (.Constant .none j pos) (tC .non):=fun _ _ _ H _ I h=>Constant_none ⟨.non,H,I,rfl,h⟩
theorem b32 {x j pos}:PE X (.Constant (.str x) j pos) (tC (.str x)):=fun _ _ _ H _ I h=>Calls.Constant_str ⟨.str x,H,I.tok _,⟨_,rfl⟩,h⟩
def Gl (X:Cx) (x:Str):Prop:=X.env.kindOf x=some .globalImplicit
theorem a5v {E:Value->Shared->Prop}{pins:List (Addr×Obj)}{s:Shared}{σ:St}{H:Hp}{x:Str}{u:Value}{pos:Pos}{Q:Value->Shared->Prop}(I:Inv X pins σ H s) (hg:Gl X x) (hm:X.mg x=some u) (h:Q u s)
  (hd:(x==("__debug__":Str))=false:=by decide):wpAny (model X.prog X.w) X.A (eval (.Name x pos) X.env) Q E s:=
 Calls.Name_function_global I.ok.kind hg (Calls.loadGlobal_global (by rw[I.ok.glob];exact I.mod.glob.keeps I.bk) hm h) hd
theorem a6a {E:Value->Shared->Prop}{pins:List (Addr×Obj)}{s:Shared}{σ:St}{H:Hp}{x:Str}{u:Value}{pos:Pos}{Q:Value->Shared->Prop}(I:Inv X pins σ H s) (hg:Gl X x) (hm:X.mg x=none) (hv:bootBuiltins x=some u) (h:Q u s)
  (hn:x≠"__name__":=by decide) (hd:(x==("__debug__":Str))=false:=by decide):wpAny (model X.prog X.w) X.A (eval (.Name x pos) X.env) Q E s:=by
 obtain⟨mb,h1,h2⟩:=I.mod.blt;exact Calls.Name_function_global I.ok.kind hg (Calls.loadGlobal_builtin (by rw[I.ok.glob];exact I.mod.glob.keeps I.bk) hm (by rw[I.ok.blt];exact h1.keeps I.bk) ((h2 x hn).trans hv) h) hd
theorem b2x {x:Str}{v:V}{u:Value}{pos:Pos}(hg:Gl X x) (hm:X.mg x=some u) (r:RelV v u) (hd:(x==("__debug__":Str))=false:=by decide):PE X (.Name x pos) (tC v):=
 fun _ _ _ H _ I h=>a5v I hg hm ⟨v,H,I,r,h⟩ hd
theorem a12 {x:Str}{v:V}{u:Value}{pos:Pos}(hg:Gl X x) (hm:X.mg x=none) (hv:bootBuiltins x=some u) (r:RelV v u) (hn:x≠"__name__":=by decide) (hd:(x==("__debug__":Str))=false:=by decide):PE X (.Name x pos) (tC v):=
 fun _ _ _ H _ I h=>a6a I hg hm hv ⟨v,H,I,r,h⟩ hn hd
variable {a b:Expr}{ta tb:TE}{pos:Pos}
def PC (X:Cx) (op:CmpOp) (a b:Expr) (t:TE):Prop:=
 ∀ (pins:List (Addr×Obj)) (s:Shared) (σ:St) (H:Hp) (Q:VK),Inv X pins σ H s->t σ H Q ->
  wpAny (model X.prog X.w) X.A (eval a X.env) (fun v s₁=>wpAny (model X.prog X.w) X.A (eval b X.env) (fun u s₂=>wpAny (model X.prog X.w) X.A (compareOp op v u) (EP X pins σ Q) X.xe s₂) X.xe s₁) X.xe s
def tB (t:TE):TT:=fun σ H Q=>t σ H fun x H1=>∃ c,x=.bl c/\Q c H1
theorem b33 {e:Expr}{t:TE}(h:PE X e t) (he:∀ whole,isTrue e X.env whole=(do let v <- whole;standAt e.pos;holding [v] (truthy v)):=by intro _;rfl):PT X e (tB t):=by
 intro pins s σ H Q I hw;refine isTrue_plain (thn (h pins s σ H _ I hw) fun v s1 ⟨x,H1,I1,r1,q1⟩=>?_) (he _);obtain⟨d,rfl,q⟩:=q1;cases r1;exact wpAny_truthy_bool ⟨H1,I1,q⟩
variable {tA tB':TT}{rest:List Expr}
def tAnd (t u:TT):TT:=fun σ H Q=>t σ H fun c H1=>if c=true then u σ H1 Q else Q false H1
def tOr (t u:TT):TT:=fun σ H Q=>t σ H fun c H1=>if c=true then Q true H1 else u σ H1 Q
def tNot (t:TT):TT:=fun σ H Q=>t σ H fun c H1=>Q (!c) H1
theorem b2y (ha:PT X a tA):PW X (.BoolOp .And [a] pos) tA:=by
 intro wh pins s σ H Q I h;refine isTrue_and (thn (ha pins s σ H Q I h) fun c s1 e=>?_);cases c with
 | true=>exact isTrue_and_nil e
 | false=>exact e
theorem b34 (ha:PT X a tA):PW X (.BoolOp .Or [a] pos) tA:=by
 intro wh pins s σ H Q I h;refine isTrue_or (thn (ha pins s σ H Q I h) fun c s1 e=>?_);cases c with
 | false=>exact isTrue_or_nil e
 | true=>exact e
theorem b35 (ha:PT X a tA) (hb:PW X (.BoolOp .And (b::rest) pos) tB'):PW X (.BoolOp .And (a::b::rest) pos) (tAnd tA tB'):=by
 intro wh pins s σ H Q I h;refine isTrue_and (thn (ha pins s σ H _ I h) fun c s1 ⟨H1,I1,q1⟩=>?_);cases c with
 | true=>exact hb wh pins s1 σ H1 Q I1 q1
 | false=>exact⟨H1,I1,q1⟩
theorem pw_or (ha:PT X a tA) (hb:PW X (.BoolOp .Or (b::rest) pos) tB'):PW X (.BoolOp .Or (a::b::rest) pos) (tOr tA tB'):=by
 intro wh pins s σ H Q I h;refine isTrue_or (thn (ha pins s σ H _ I h) fun c s1 ⟨H1,I1,q1⟩=>?_);cases c with
 | true=>exact⟨H1,I1,q1⟩
 | false=>exact hb wh pins s1 σ H1 Q I1 q1
theorem b36 (ha:PT X a tA):PT X (.UnaryOp .Not a pos) (tNot tA):=by
 intro pins s σ H Q I h;exact isTrue_not (ha pins s σ H (fun c H1=>Q (!c) H1) I h)
def b6h (ta tb:TE):TE:=fun σ H Q=>ta σ H fun x H1=>∃ c,x=.bl c/\if c=true then tb σ H1 Q else Q (.bl false) H1
theorem b37 {op} {t:TE}(h:PE X a t):PE X (.BoolOp op [a] pos) t:=fun pins s σ H Q I hw=>BoolOp_one (h pins s σ H Q I hw)
theorem b38 (ha:PE X a ta) (hb:PE X (.BoolOp .And (b::rest) pos) tb):PE X (.BoolOp .And (a::b::rest) pos) (b6h ta tb):=by
 intro pins s σ H Q I h;refine BoolOp_and (thn (ha pins s σ H _ I h) fun v s1 ⟨x,H1,I1,r1,q1⟩=>?_);obtain⟨c,rfl,q1⟩:=q1;cases r1;refine wpAny_truthy_bool ?_;cases c with
 | true=>exact hb pins s1 σ H1 Q I1 q1
 | false=>exact⟨.bl false,H1,I1,rfl,q1⟩
def tIf (t:TT) (ta tb:TE):TE:=fun σ H Q=>t σ H fun c H1=>if c=true then ta σ H1 Q else tb σ H1 Q
theorem b0M {c:Expr}(hc:PT X c tA) (ha:PE X a ta) (hb:PE X b tb):PE X (.IfExp c a b pos) (tIf tA ta tb):=by
 intro pins s σ H Q I h;refine wpAny_IfExp (thn (hc pins s σ H _ I h) fun d s1 ⟨H1,I1,q1⟩=>?_);cases d with
 | true=>exact ha pins s1 σ H1 Q I1 q1
 | false=>exact hb pins s1 σ H1 Q I1 q1
end
end L2
namespace L2
open PySem PySem.Spec PyProof.Rows
def SqL (K:Fg) (H:Hp) (a:Addr) (xs:List V):Prop:=
 Rd H a (.lst xs) \/
  ∃ (o:Obj) (its:Array Value) (n:Nat),K.lookup a=some o/\o.cls=.type "list"/\o.dict=none/\o.data=.seq its n/\its.size≤sizeLine/\Vals xs its.toList
def SqT (K:Fg) (H:Hp) (a:Addr) (xs:List V):Prop:=
 Rd H a (.tup xs) \/
  ∃ (o:Obj) (its:Array Value) (n:Nat),K.lookup a=some o/\o.cls=.type "tuple"/\o.data=.seq its n/\its.size≤sizeLine/\Vals xs its.toList
def absV:Value->Option V
 | .none=>some .non
 | .bool b=>some (.bl b)
 | .int i _=>some (.int i)
 | .str x _=>some (.str x)
 | .bytes b _=>some (.byt b)
 | .float b _=>some (.flt b)
 | .ref a=>some (.ref a)
 | .type n=>some (.ty n)
 | _=>none
theorem RelV.abs {x:V}{u:Value}(r:RelV x u):absV u=some x:=by
 cases x with
 | non=>cases r;rfl
 | bl _=>cases r;rfl
 | int _=>obtain⟨t,rfl⟩:=r;rfl
 | str _=>obtain⟨t,rfl⟩:=r;rfl
 | byt _=>obtain⟨t,rfl⟩:=r;rfl
 | flt _=>obtain⟨t,rfl⟩:=r;rfl
 | ref _=>cases r;rfl
 | ty _=>cases r;rfl
theorem RelV.inj {x y:V}{u:Value}(r:RelV x u) (q:RelV y u):x=y:=Option.some.inj (r.abs.symm.trans q.abs)
theorem Vals.inj:∀ {xs ys:List V}{us:List Value},Vals xs us->Vals ys us->xs=ys
 | _,_,_,.nil,.nil=>rfl
 | _,_,_,.cons r t,.cons r' t'=>by rw[r.inj r',Vals.inj t t']
section
variable {X:Cx}{pins:List (Addr×Obj)}{σ:St}{H:Hp}{s:Shared}{a:Addr}{xs ys:List V}
theorem SqL.of {K:Fg}(h:H a=some (.lst xs)):SqL K H a xs:=.inl (.inl h)
theorem SqT.of {K:Fg}(h:H a=some (.tup xs)):SqT K H a xs:=.inl (.inl h)
theorem Inv.list (I:Inv X pins σ H s) (h:SqL X.K H a xs):∃ its:List Value,Vals xs its/\PlainL s.heap a its.toArray/\xs.length≤sizeLine:=by
 rcases h with h | ⟨o,its,n,hk,hc,hd,hs,hz,r⟩
 ·obtain⟨z,its,n,r,e⟩:=h.ok I.hok;exact⟨its,r,⟨_,n,e,rfl,rfl,rfl⟩,z⟩
 ·refine⟨its.toList,r,⟨o,n,I.kIn a o hk,hc,hd,by simpa using hs⟩,?_⟩;have e:=r.length;simp only[Array.length_toList]at e;omega
theorem Inv.tuple (I:Inv X pins σ H s) (h:SqT X.K H a xs):∃ its:List Value,Vals xs its/\IsTup s.heap a its.toArray/\xs.length≤sizeLine:=by
 rcases h with h | ⟨o,its,n,hk,hc,hs,hz,r⟩
 ·obtain⟨z,its,r,p⟩:=h.ok I.hok;exact⟨its,r,p,z⟩
 ·refine⟨its.toList,r,⟨o,I.kIn a o hk,hc,n,by simpa using hs⟩,?_⟩;have e:=r.length;simp only[Array.length_toList]at e;omega
theorem Inv.list_inj (I:Inv X pins σ H s) (h:SqL X.K H a xs) (h':SqL X.K H a ys):xs=ys:=by
 obtain⟨its,r,⟨o,n,e,_,_,d⟩,_⟩:=I.list h;obtain⟨its',r',⟨o',n',e',_,_,d'⟩,_⟩:=I.list h';rw[e]at e';cases e';rw[d]at d';injection d' with d1 _
 have:its=its':=by simpa using congrArg Array.toList d1
 subst this;exact r.inj r'
theorem Inv.tuple_inj (I:Inv X pins σ H s) (h:SqT X.K H a xs) (h':SqT X.K H a ys):xs=ys:=by
 obtain⟨its,r,⟨o,e,_,n,d⟩,_⟩:=I.tuple h;obtain⟨its',r',⟨o',e',_,n',d'⟩,_⟩:=I.tuple h';rw[e]at e';cases e';rw[d]at d';injection d' with d1 _
 have:its=its':=by simpa using congrArg Array.toList d1
 subst this;exact r.inj r'
end
abbrev Cx.wish (X:Cx) (E:Value->Shared->Prop):Cx:={ X with xe:=E }
abbrev Cx.nox (X:Cx):Cx:=X.wish fun _ _=>False
theorem Cx.Ok.wish {X:Cx}(ok:X.Ok) (E:Value->Shared->Prop):(X.wish E).Ok:=
 ⟨ok.mod,ok.kind,ok.glob,ok.blt,ok.above,ok.inj,ok.has,ok.cab,ok.hd,ok.frames,ok.stk,ok.exf,ok.bs,ok.bsz,ok.noex,ok.exfs,ok.funs,ok.frf⟩
theorem Cx.Ok.unwish {X:Cx}{E:Value->Shared->Prop}(ok:(X.wish E).Ok):X.Ok:=
 ⟨ok.mod,ok.kind,ok.glob,ok.blt,ok.above,ok.inj,ok.has,ok.cab,ok.hd,ok.frames,ok.stk,ok.exf,ok.bs,ok.bsz,ok.noex,ok.exfs,ok.funs,ok.frf⟩
section
variable {X:Cx}{pins:List (Addr×Obj)}{σ:St}{H:Hp}{s:Shared}{E:Value->Shared->Prop}
theorem Inv.wish (I:Inv X pins σ H s) (E:Value->Shared->Prop):Inv (X.wish E) pins σ H s:=⟨I.ok.wish E,I.os,I.bare,I.base,I.loc,I.cell,I.free,I.freeC,I.pin,I.hok,I.len⟩
theorem Inv.unwish (I:Inv (X.wish E) pins σ H s):Inv X pins σ H s:=⟨I.ok.unwish,I.os,I.bare,I.base,I.loc,I.cell,I.free,I.freeC,I.pin,I.hok,I.len⟩
theorem SP.unwish {D:Ends}{f:Flow}{s':Shared}(h:SP (X.wish E) pins D f s'):SP X pins D f s':=by
 cases f with
 | next=>obtain⟨σ',H',I,q⟩:=h;exact⟨σ',H',I.unwish,q⟩
 | brk=>obtain⟨σ',H',I,q⟩:=h;exact⟨σ',H',I.unwish,q⟩
 | cont=>obtain⟨σ',H',I,q⟩:=h;exact⟨σ',H',I.unwish,q⟩
 | ret u=>obtain⟨v,σ',H',I,r,q⟩:=h;exact⟨v,σ',H',I.unwish,r,q⟩
theorem PE.nox {e:Expr}{t:TE}(h:PE X.nox e t):PE X e t:=fun pins s σ H Q I hw=>
 wpAny_mono (h pins s σ H Q (I.wish _) hw) (fun _ _ ⟨v,H',I',r,q⟩=>⟨v,H',I'.unwish,r,q⟩) fun _ _ z=>False.elim z
theorem PT.nox {e:Expr}{t:TT}(h:PT X.nox e t):PT X e t:=fun pins s σ H Q I hw=>
 wpAny_mono (h pins s σ H Q (I.wish _) hw) (fun _ _ ⟨H',I',q⟩=>⟨H',I'.unwish,q⟩) fun _ _ z=>False.elim z
theorem PSs.nox {st:List Stmt}{t:TS}(h:PSs X.nox st t):PSs X st t:=fun pins s σ H D I hw=>
 wpAny_mono (h pins s σ H D (I.wish _) hw) (fun _ _ q=>q.unwish) fun _ _ z=>False.elim z
end
section
variable {X:Cx}{st:Stmt}{rest:List Stmt}{t u:TS}{e:Expr}{te:TE}{pos:Pos}
def b6i:TS:=fun D σ H=>D.nx σ H
def tSeq (t u:TS):TS:=fun D σ H=>t { D with nx:=u D } σ H
theorem b2z:PSs X [] b6i:=fun _ _ σ H _ I h=>wpAny_execs_nil ⟨σ,H,I,h⟩
theorem a7w (h1:PS X st t) (h2:PSs X rest u):PSs X (st::rest) (tSeq t u):=by
 intro pins s σ H D I h;refine wpAny_execs_cons (thn (h1 pins s σ H { D with nx:=u D } I h) fun f s1 q=>?_);cases f with
 | next=>
  obtain⟨σ',H',I',q⟩:=q;exact h2 pins s1 σ' H' D I' q
 | ret v=>exact q
 | brk=>exact q
 | cont=>exact q
theorem b2A (h1:PS X st t):PSs X [st] t:=by
 intro pins s σ H D I h;refine wpAny_execs_cons (thn (h1 pins s σ H D I h) fun f s1 q=>?_);cases f with
 | next=>exact wpAny_execs_nil q
 | ret v=>exact q
 | brk=>exact q
 | cont=>exact q
theorem Inv.quiet {pins:List (Addr×Obj)}{σ:St}{H:Hp}{s:Shared}(I:Inv X pins σ H s):interactive X.env=false:=by simp[interactive,I.ok.kind]
def b6j (te:TE):TS:=fun D σ H=>te σ H fun _ H1=>D.nx σ H1
theorem b2B (he:PE X e te) (hs:swapsWith e none pos.line X.env=pure false:=by rfl):PS X (.Expr e pos) (b6j te):=by
 intro pins s σ H D I h;exact wpAny_Expr_any (thn (he pins s σ H _ I h) fun v s1 ⟨x,H1,I1,r1,q1⟩=>⟨σ,H1,I1,q1⟩) I.quiet hs
def tRet (te:TE):TS:=fun D σ H=>te σ H D.rt
theorem b39 (he:PE X e te):PS X (.Return (some e) pos) (tRet te):=by
 intro pins s σ H D I h;exact wpAny_Return_some (thn (he pins s σ H _ I h) fun v s1 ⟨x,H1,I1,r1,q1⟩=>⟨x,σ,H1,I1,r1,q1⟩)
def tIfS (c:TT) (t u:TS):TS:=fun D σ H=>c σ H fun b H1=>if b=true then t D σ H1 else u D σ H1
theorem b6k {c:Expr}{a b:List Stmt}{tc:TT}(hc:PT X c tc) (ha:PSs X a t) (hb:PSs X b u):PS X (.If c a b pos) (tIfS tc t u):=by
 intro pins s σ H D I h;refine wpAny_If (thn (hc pins s σ H _ I h) fun d s1 ⟨H1,I1,q1⟩=>?_);cases d with
 | true=>exact ha pins s1 σ H1 D I1 q1
 | false=>exact hb pins s1 σ H1 D I1 q1
end
abbrev TG:=V->St->Hp->(St->Hp->Prop)->Prop
abbrev TGs:=List V->St->Hp->(St->Hp->Prop)->Prop
def PG (X:Cx) (target:Expr) (t:TG):Prop:=
 ∀ (pins:List (Addr×Obj)) (s:Shared) (σ:St) (H:Hp) (v:V) (u:Value) (Q:St->Hp->Prop),Inv X pins σ H s->RelV v u->t v σ H Q ->
  wpAny (model X.prog X.w) X.A (assign target X.env u) (fun _ s'=>∃ σ' H',Inv X pins σ' H' s'/\Q σ' H') X.xe s
def PGs (X:Cx) (ts:List Expr) (t:TGs):Prop:=
 ∀ (pins:List (Addr×Obj)) (s:Shared) (σ:St) (H:Hp) (vs:List V) (us:List Value) (Q:St->Hp->Prop),Inv X pins σ H s->Vals vs us->t vs σ H Q ->
  wpAny (model X.prog X.w) X.A (assignInOrder ((assignEach ts X.env).map (·.2)) us) (fun _ s'=>∃ σ' H',Inv X pins σ' H' s'/\Q σ' H') X.xe s
abbrev TSet:=V->V->V->Hp->(Hp->Prop)->Prop
def PSet (X:Cx) (t:TSet):Prop:=
 ∀ (pins:List (Addr×Obj)) (s:Shared) (σ:St) (H:Hp) (o i v:V) (ov iv u:Value) (Q:Hp->Prop),Inv X pins σ H s->RelV o ov->RelV i iv->RelV v u->t o i v H Q ->
  wpAny (model X.prog X.w) X.A (setItem ov iv u) (fun _ s'=>∃ H',Inv X pins σ H' s'/\Q H') X.xe s
section
variable {X:Cx}{pos:Pos}
def a8Z (i:Nat):TG:=fun v σ H Q=>Q (σ.set i (some v)) H
theorem a0u {i:Nat}{x:Str}(hN:X.N.Nodup) (hi:X.N[i]?=some x) (hx:Loc X.env.scope x) (hf:X.fn x=true\/X.env.scope.names.lookup x=some .local:=by first | exact .inl rfl | exact .inr rfl | assumption):PG X (.Name x pos) (a8Z i):=by
 intro pins s σ H v u Q I r h;exact wpAny_assign_Name (a7v I hN hi hx r (fun s' I'=>⟨_,H,I',h⟩) hf)
def gNil:TGs:=fun vs σ H Q=>vs=[]/\Q σ H
def b4a (t:TG) (u:TGs):TGs:=fun vs σ H Q=>∃ v r,vs=v::r/\t v σ H fun σ' H'=>u r σ' H' Q
theorem a2S:PGs X [] gNil:=by
 intro pins s σ H vs us Q I r h;obtain⟨e,h⟩:=h;subst e;cases r;exact assignInOrder_nil ⟨σ,H,I,h⟩
theorem a0H {e:Expr}{es:List Expr}{t:TG}{u:TGs}(h1:PG X e t) (h2:PGs X es u)
  (hs:(assignEach (e::es) X.env).map (·.2)=assign e X.env::(assignEach es X.env).map (·.2):=by rfl):PGs X (e::es) (b4a t u):=by
 intro pins s σ H vs us Q I r h;obtain⟨v,vr,e1,h⟩:=h;subst e1;cases r with
 | cons r rr=>
  rw[hs];refine assignInOrder_cons (thn (h1 pins s σ H _ _ _ I r h) fun _ s1 ⟨σ1,H1,I1,q1⟩=>?_);exact h2 pins s1 σ1 H1 _ _ Q I1 rr q1
def gTup (K:Fg) (n:Nat) (t:TGs):TG:=fun v σ H Q=>∃ a xs,v=.ref a/\SqT K H a xs/\xs.length=n/\t xs σ H Q
theorem a4m {es:List Expr}{k:Nat}{t:TGs}{n:Nat}(hc:X.calm=true) (h:PGs X es t)
  (hn:(assignEach es X.env).length=n:=by rfl) (hst:(assignEach es X.env).findIdx? (·.1)=none:=by rfl):PG X (.Tuple es k pos) (gTup X.K n t):=by
 intro pins s σ H v u Q I r hw;obtain⟨a,xs,e1,hq,hl,hw⟩:=hw;subst e1;cases r;obtain⟨its,rv,ht,hz⟩:=I.tuple hq;refine assign_Tuple_tuple (I.ok.hd hc) ht (by simp[hn,<- hl,rv.length]) hst fun h' hx=>?_;have I1:Inv X pins σ H { s with heap:=h' }:=I.kept (t':=s.toks) fun b o e=>hx b o (Nat.ne_of_lt (Heap.lt_size e)) e;exact h pins _ σ H xs _ Q I1 (by simpa using rv) hw
def gSub (to ti:TE) (t:TSet):TG:=fun v σ H Q=>to σ H fun o H1=>ti σ H1 fun i H2=>t o i v H2 fun H3=>Q σ H3
theorem b4b {o i:Expr}{to ti:TE}{t:TSet}(ho:PE X o to) (hi:PE X i ti) (hs:PSet X t)
  (ha:∀ v,assign (.Subscript o i pos) X.env v=(do
   let ov <- holding [v] (eval o X.env)
   let iv <- holding [v,ov] (eval i X.env)
   standAt pos
   holding [v,ov,iv] (setItem ov iv v)
   release [v,ov,iv] []):=by intro _;rfl):PG X (.Subscript o i pos) (gSub to ti t):=by
 intro pins s σ H v u Q I r h;rw[ha];refine wpAny_bind (wpAny_holding (thn (ho pins s σ H _ I h) fun ov s1 ⟨x,H1,I1,r1,q1⟩=>?_));refine wpAny_bind (wpAny_holding (thn (hi pins s1 σ H1 _ I1 q1) fun iv s2 ⟨y,H2,I2,r2,q2⟩=>?_));refine wpAny_bind (wpAny_standAt (wpAny_bind (wpAny_holding (thn (hs pins s2 σ H2 x y v ov iv u _ I2 r1 r2 r q2) fun _ s3 ⟨H3,I3,q3⟩=>?_))));exact wpAny_release ⟨σ,H3,I3,q3⟩
def tAsg (te:TE) (g:TG):TS:=fun D σ H=>te σ H fun x H1=>g x σ H1 D.nx
theorem b4c {tg e:Expr}{te:TE}{g:TG}(he:PE X e te) (hg:PG X tg g) (hs:swapsWithSole [tg] e pos.line X.env=pure false:=by rfl) (hw:swappedStores [tg] e X.env=pure none:=by rfl)
  (h1:(assignEach [tg] X.env).map (·.2)=[assign tg X.env]:=by rfl):PS X (.Assign [tg] e pos) (tAsg te g):=by
 intro pins s σ H D I h;refine wpAny_Assign_stores (thn (he pins s σ H _ I h) fun v s1 ⟨x,H1,I1,r1,q1⟩=>?_) hs hw;rw[h1];exact thn (hg pins s1 σ H1 x v _ I1 r1 q1) fun _ s2 q=>q
theorem b4d {i:Nat}{x:Str}{e:Expr}{te:TE}{pos':Pos}(hN:X.N.Nodup) (hi:X.N[i]?=some x) (hx:Loc X.env.scope x) (he:PE X e te) (hs:swapsWith e (some (.Name x pos')) pos.line X.env=pure false:=by rfl) (hf:X.fn x=true\/X.env.scope.names.lookup x=some .local:=by first | exact .inl rfl | exact .inr rfl | assumption) :
  PS X (.Assign [.Name x pos'] e pos) (tAsg te (a8Z i)):=by
 intro pins s σ H D I h;refine wpAny_Assign_Name (thn (he pins s σ H _ I h) fun v s1 ⟨y,H1,I1,r1,q1⟩=>?_) hs;exact a7v I1 hN hi hx r1 (fun s2 I2=>⟨_,H1,I2,q1⟩) hf
end
section
variable {X:Cx}{pos:Pos}
end
structure It where
 go:Nat->Hp->Prop
 yld:Nat->Hp->V->Hp->Prop
 stop:Nat->Hp->Prop
def FpOk (X:Cx) (pins:List (Addr×Obj)) (H:Hp) (b:Addr):Prop:=
 H b=none/\b≠X.env.locals/\b∉X.fs/\(b∈X.ex\/X.s₀.heap.objs.size≤b)/\(∀ x c,X.env.cells.lookup x=some c->c≠b)/\∀ p∈X.pn++pins,p.1≠b
theorem Inv.fpOk {X:Cx}{pins:List (Addr×Obj)}{σ:St}{H H':Hp}{s:Shared}{b:Addr}(I:Inv X pins σ H s) (hb:s.heap.objs.size≤b) (hn:H' b=none):FpOk X pins H' b:=by
 refine⟨hn,Nat.ne_of_gt (Nat.lt_of_lt_of_le I.lt hb),I.nofs hb,.inr (Nat.le_trans I.sz hb),fun x c e z=>?_,fun p hp z=>?_⟩
 ·obtain⟨v,q⟩:=I.cell x c e;exact absurd (Nat.lt_of_lt_of_le q.lt (by rw[z];exact hb)) (Nat.lt_irrefl _)
 ·exact absurd (Nat.lt_of_lt_of_le (Heap.lt_size (I.pin p hp).1) (by rw[z];exact hb)) (Nat.lt_irrefl _)
structure Turn (P:Program) (w:World) (K:Fg) (tg:Expr) (J:It) (fp:List Addr) (it:Addr) (tn:Nat->Heap->Prop):Prop where
 mem:it∈fp
 obj:∀ i h,tn i h->∀ b∈fp,∃ o,h.get? b=some o/\∀ v,o.data≠.cell v
 keep:∀ i h h',tn i h->(∀ b∈fp,∀ o,h.get? b=some o->h'.get? b=some o)->tn i h'
 item:∀ (X:Cx),X.prog=P->X.w=w->X.K=K->X.calm=true->∀ (i:Nat) (pins:List (Addr×Obj)) (s:Shared) (σ:St) (H:Hp) (E:Value->Shared->Prop),Inv X pins σ H s->(∀ b∈fp,FpOk X pins H b)->tn i s.heap->J.go i H ->
  wpAny (model P w) X.A (pyNext (.ref it)) (fun r s1=>∃ u,r=some u /\
   wpAny (model P w) X.A (letOwnedTupleGo tg (.ref it) u) (fun _ s2=>∃ x H',Inv X pins σ H' s2/\RelV x u/\J.yld i H x H'/\tn (i+1) s2.heap/\∀ b∈fp,H' b=none) E s1) E s
 done:∀ (X:Cx),X.prog=P->X.w=w->X.K=K->X.calm=true->∀ (i:Nat) (pins:List (Addr×Obj)) (s:Shared) (σ:St) (H:Hp) (E:Value->Shared->Prop),Inv X pins σ H s->(∀ b∈fp,FpOk X pins H b)->tn i s.heap->J.stop i H ->
  wpAny (model P w) X.A (pyNext (.ref it)) (fun r s1=>r=none/\Inv X pins σ H s1) E s
 self:∀ (A:Around) (i:Nat) (s:Shared) (Q:Value->Shared->Prop) (E:Value->Shared->Prop),tn i s.heap->Q (.ref it) s->wpAny (model P w) A (pyIter (.ref it)) Q E s
abbrev TI:=St->Hp->(It->Hp->Prop)->Prop
def PIE (X:Cx) (pins:List (Addr×Obj)) (σ:St) (tg:Expr) (R:It->Hp->Prop) (itv:Value) (s2:Shared):Prop:=
 ∃ (it:Addr) (fp:List Addr) (tn:Nat->Heap->Prop) (J:It) (H':Hp),itv=.ref it/\Inv X pins σ H' s2/\Turn X.prog X.w X.K tg J fp it tn/\tn 0 s2.heap/\(∀ b∈fp,FpOk X pins H' b)/\R J H'
def PI (X:Cx) (tg iter:Expr) (wi:TI):Prop:=
 ∀ (pins:List (Addr×Obj)) (s:Shared) (σ:St) (H:Hp) (R:It->Hp->Prop),Inv X pins σ H s->wi σ H R ->
  wpAny (model X.prog X.w) X.A (eval iter X.env) (fun v s1=>wpAny (model X.prog X.w) X.A (pyIter v) (PIE X pins σ tg R) X.xe s1) X.xe s
theorem a8o {M:Model}{A:Around}{E:Value->Shared->Prop}{s:Shared}{tg:Expr}{it:Addr}{u:Value}{o:Obj}{n:String}{vs:Array Value}{Q:Unit->Shared->Prop}(ho:s.heap.get? it=some o) (hc:o.cls=.type n) (hd:o.data=.fields vs)
    (hn:["enumerate","zip","dict_itemiterator","dict_reverseitemiterator","odict_iterator","itertools.zip_longest","itertools.pairwise"].contains n=false) (hQ:Q () s):wpAny M A (letOwnedTupleGo tg (.ref it) u) Q E s:=by
  unfold letOwnedTupleGo;cases tg<;>first
    | exact wpAny_pure hQ
    | (cases u<;>first
        | exact wpAny_pure hQ
        | (refine wpAny_bind (wpAny_load ho ?_)
           rw[hc,hd]
           show wpAny M A (if (["enumerate","zip","dict_itemiterator","dict_reverseitemiterator","odict_iterator","itertools.zip_longest","itertools.pairwise"].contains n&&vs[0]?==some (rawInt _))=true then _ else _) Q E s
           rw[if_neg (by intro h;rw[hn,Bool.false_and]at h;cases h)];exact wpAny_pure hQ))
def Itl (K:Fg) (a:Addr):It:=
 ⟨fun i H=>∃ xs x,SqL K H a xs/\xs[i]?=some x,fun i H x H'=>H'=H/\∀ xs,SqL K H a xs->xs[i]?=some x,fun i H=>∃ xs,SqL K H a xs/\xs.length≤i⟩
def Itt (K:Fg) (a:Addr):It:=
 ⟨fun i H=>∃ xs x,SqT K H a xs/\xs[i]?=some x,fun i H x H'=>H'=H/\∀ xs,SqT K H a xs->xs[i]?=some x,fun i H=>∃ xs,SqT K H a xs/\xs.length≤i⟩
def Itr (lo:Int) (n:Nat):It:=⟨fun i _=>i<n,fun i H x H'=>H'=H/\x=.int (lo+i),fun i _=>n≤i⟩
theorem a80 {P:Program}{w:World}{K:Fg}{tg:Expr}(a it:Addr):Turn P w K tg (Itl K a) [it] it (fun i h=>h.IsListIter it a i) where
 mem:=by simp
 obj:=fun i h st b hb=>by
  have e:b=it:=by simpa using hb
  subst e;obtain⟨o,e,c,d⟩:=st;exact⟨o,e,fun v z=>by rw[d]at z;cases z⟩
 keep:=fun i h h' st k=>st.at fun o e=>k it (by simp) o e
 item:=by
  intro X hP hw hK hc i pins s σ H E I hf st hg;subst hP hw hK;obtain⟨xs,x,hq,hx⟩:=hg;obtain⟨its,rv,p,hz⟩:=I.list hq;obtain⟨u,hu,ru⟩:=rv.get hx;obtain⟨f0,f1,f2,f3,f4,f5⟩:=hf it (by simp);refine wpAny_pyNext_list_item st p.isList (x:=u) (by simpa using hu) fun h' st' sb=>?_;have I1:Inv X pins σ H { s with heap:=h' }:=I.turned (t':=s.toks) (fun b o hb e=>(sb.2 b hb).trans e) f0 f1 f3 f4 f5;obtain⟨o,e,c,d⟩:=id st';exact⟨u,rfl,a8o (s:={ s with heap:=h' }) e c d (by decide) ⟨x,H,I1,ru,⟨rfl,fun ys hy=>by rw[I.list_inj hy hq];exact hx⟩,st',fun b hb=>(hf b hb).1⟩⟩
 done:=by
  intro X hP hw hK hc i pins s σ H E I hf st hg;subst hP hw hK;obtain⟨xs,hq,hx⟩:=hg;obtain⟨its,rv,p,hz⟩:=I.list hq;obtain⟨f0,f1,f2,f3,f4,f5⟩:=hf it (by simp);have hl:=rv.length;exact wpAny_pyNext_list_end (I.ok.hd hc) st p.isList (by simp;omega) fun h' eb=>⟨rfl,I.turned (t':=s.toks) (fun b o hb e=>eb b o hb e) f0 f1 f3 f4 f5⟩
 self:=fun _ _ _ _ _ st h=>wpAny_pyIter_listiter st h
theorem a8p {P:Program}{w:World}{K:Fg}{tg:Expr}(a it:Addr):Turn P w K tg (Itt K a) [it] it (fun i h=>h.IsTupleIter it a i) where
 mem:=by simp
 obj:=fun i h st b hb=>by
  have e:b=it:=by simpa using hb
  subst e;obtain⟨o,e,c,d⟩:=st;exact⟨o,e,fun v z=>by rw[d]at z;cases z⟩
 keep:=fun i h h' st k=>st.at fun o e=>k it (by simp) o e
 item:=by
  intro X hP hw hK hc i pins s σ H E I hf st hg;subst hP hw hK;obtain⟨xs,x,hq,hx⟩:=hg;obtain⟨its,rv,p,hz⟩:=I.tuple hq;obtain⟨u,hu,ru⟩:=rv.get hx;obtain⟨f0,f1,f2,f3,f4,f5⟩:=hf it (by simp);refine wpAny_pyNext_tuple_item st (show s.heap.IsTuple a its.toArray from p) (x:=u) (by simpa using hu) fun h' st' sb=>?_;have I1:Inv X pins σ H { s with heap:=h' }:=I.turned (t':=s.toks) (fun b o hb e=>(sb.2 b hb).trans e) f0 f1 f3 f4 f5;obtain⟨o,e,c,d⟩:=id st';exact⟨u,rfl,a8o (s:={ s with heap:=h' }) e c d (by decide) ⟨x,H,I1,ru,⟨rfl,fun ys hy=>by rw[I.tuple_inj hy hq];exact hx⟩,st',fun b hb=>(hf b hb).1⟩⟩
 done:=by
  intro X hP hw hK hc i pins s σ H E I hf st hg;subst hP hw hK;obtain⟨xs,hq,hx⟩:=hg;obtain⟨its,rv,p,hz⟩:=I.tuple hq;obtain⟨f0,f1,f2,f3,f4,f5⟩:=hf it (by simp);have hl:=rv.length;exact wpAny_pyNext_tuple_end (I.ok.hd hc) st (show s.heap.IsTuple a its.toArray from p) (by simp;omega) fun h' eb=>⟨rfl,I.turned (t':=s.toks) (fun b o hb e=>eb b o hb e) f0 f1 f3 f4 f5⟩
 self:=fun _ _ _ _ _ st h=>wpAny_pyIter_tupleiter st h
theorem a8q {P:Program}{w:World}{K:Fg}{tg:Expr}(it:Addr) (lo:Int) (n:Nat):Turn P w K tg (Itr lo n) [it] it (fun i h=>IsRangeIter h it (lo+(i:Nat)*1) ((n:Int) - (i:Nat)) 1) where
 mem:=by simp
 obj:=fun i h st b hb=>by
  have e:b=it:=by simpa using hb
  subst e;exact⟨_,st,fun v z=>by
   have z':Data.fields _=Data.cell v:=z;cases z'⟩
 keep:=fun i h h' st k=>k it (by simp) _ st
 item:=by
  intro X hP hw hK hc i pins s σ H E I hf st hg;subst hP hw hK;obtain⟨f0,f1,f2,f3,f4,f5⟩:=hf it (by simp);have W:=Walks.range (prog:=X.prog) (w:=X.w) (I.ok.hd hc) it lo 1 n;refine W.item i s _ _ hg st fun v h' tk hv st' kk=>?_;obtain⟨t,rfl⟩:=hv;have I1:Inv X pins σ H { s with heap:=h',toks:=tk }:=I.turned (fun b o hb e=>kk b o (by simpa using hb) e) f0 f1 f3 f4 f5;refine⟨_,rfl,a8o (s:={ s with heap:=h',toks:=tk }) (n:="range_iterator") st' rfl rfl (by decide) ⟨.int (lo+i),H,I1,⟨t,?_⟩,⟨rfl,rfl⟩,st',fun b hb=>(hf b hb).1⟩⟩;rw[Int.mul_one]
 done:=by
  intro X hP hw hK hc i pins s σ H E I hf st hg;subst hP hw hK;obtain⟨f0,f1,f2,f3,f4,f5⟩:=hf it (by simp);exact wpAny_pyNext_range_end (I.ok.hd hc) st (by have:n≤i:=hg;omega) fun h' eb=>⟨rfl,I.turned (t':=s.toks) (fun b o hb e=>eb b o hb e) f0 f1 f3 f4 f5⟩
 self:=fun _ _ _ _ _ st h=>wpAny_pyIter_rangeiter st h
end L2
namespace L2
open PySem PySem.Spec PyProof.Rows
section
variable {X:Cx}{tg:Expr}
def b6l (K:Fg) (tl:TE):TI:=fun σ H R=>tl σ H fun x H1=>∃ a,x=.ref a/\(∃ xs,SqL K H1 a xs)/\R (Itl K a) H1
def iTup (K:Fg) (tl:TE):TI:=fun σ H R=>tl σ H fun x H1=>∃ a,x=.ref a/\(∃ xs,SqT K H1 a xs)/\R (Itt K a) H1
theorem b2C {l:Expr}{tl:TE}(hl:PE X l tl):PI X tg l (b6l X.K tl):=by
 intro pins s σ H R I h;refine thn (hl pins s σ H _ I h) fun v s1 ⟨x,H1,I1,r1,q1⟩=>?_;obtain⟨a,e,⟨xs,hq⟩,q⟩:=q1;subst e;cases r1;obtain⟨its,rv,p,hz⟩:=I1.list hq;refine wpAny_pyIter_list p.isList ?_;refine⟨s1.heap.objs.size,[s1.heap.objs.size],_,_,H1,rfl,I1.kept (t':=s1.toks) fun b o e=>Heap.get?_push_of_some _ e,a80 a _,⟨_,Heap.get?_push_size _ rfl,rfl,rfl⟩,fun b hb=>?_,q⟩;have e:b=s1.heap.objs.size:=by simpa using hb
 subst e;exact I1.fpOk (Nat.le_refl _) (I1.hok.fresh (Nat.le_refl _))
theorem b4e {l:Expr}{tl:TE}(hl:PE X l tl):PI X tg l (iTup X.K tl):=by
 intro pins s σ H R I h;refine thn (hl pins s σ H _ I h) fun v s1 ⟨x,H1,I1,r1,q1⟩=>?_;obtain⟨a,e,⟨xs,hq⟩,q⟩:=q1;subst e;cases r1;obtain⟨its,rv,p,hz⟩:=I1.tuple hq;refine wpAny_pyIter_tuple (show s1.heap.IsTuple a its.toArray from p) ?_;refine⟨s1.heap.objs.size,[s1.heap.objs.size],_,_,H1,rfl,I1.kept (t':=s1.toks) fun b o e=>Heap.get?_push_of_some _ e,a8p a _,⟨_,Heap.get?_push_size _ rfl,rfl,rfl⟩,fun b hb=>?_,q⟩;have e:b=s1.heap.objs.size:=by simpa using hb
 subst e;exact I1.fpOk (Nat.le_refl _) (I1.hok.fresh (Nat.le_refl _))
theorem b0N {pins:List (Addr×Obj)}{σ:St}{H:Hp}{s:Shared}{R:It->Hp->Prop}{E:Value->Shared->Prop}{lo hi:Int}{t u v:Tok}{tk:Nat}(I:Inv X pins σ H s) (h1:-(2 ^ 62)≤lo) (h2:lo<2 ^ 62) (h3:-(2 ^ 62)≤hi) (h4:hi<2 ^ 62)
  (q:R (Itr lo (hi - lo).toNat) H):wpAny (model X.prog X.w) X.A (pyIter (.ref s.heap.objs.size)) (PIE X pins σ tg R) E { s with heap:=s.heap.push { cls:=.type "range",data:=.fields #[.int lo t,.int hi u,.int 1 v] },toks:=tk }:=by
 refine wpAny_pyIter_range (IsRange.new ..) (small_one h1 h2 h3 h4) ?_;have I1:Inv X pins σ H { s with heap:=s.heap.push { cls:=.type "range",data:=.fields #[.int lo t,.int hi u,.int 1 v] },toks:=tk }:=I.kept fun b o e=>Heap.get?_push_of_some _ e;refine⟨(s.heap.push { cls:=.type "range",data:=.fields #[.int lo t,.int hi u,.int 1 v] }).objs.size,[(s.heap.push { cls:=.type "range",data:=.fields #[.int lo t,.int hi u,.int 1 v] }).objs.size],_,_,H,rfl,
  I1.kept (t':=tk) fun b o e=>Heap.get?_push_of_some _ e,a8q _ lo (hi - lo).toNat,?_,fun b hb=>?_,q⟩
 ·have e1:lo+((0:Nat):Int)*1=lo:=by simp
  have e2:(((hi - lo).toNat:Nat):Int) - ((0:Nat):Int)=Builtin.Range.rangeSize lo hi 1:=by rw[rangeSize_one];split<;>omega
  show IsRangeIter _ _ (lo+((0:Nat):Int)*1) ((((hi - lo).toNat:Nat):Int) - ((0:Nat):Int)) 1
  rw[e1,e2];exact Heap.get?_push_size _ rfl
 ·have e:b=(s.heap.push { cls:=.type "range",data:=.fields #[.int lo t,.int hi u,.int 1 v] }).objs.size:=by simpa using hb
  subst e;exact I1.fpOk (Nat.le_refl _) (I1.hok.fresh (Nat.le_refl _))
def b4f (ta:TA):TI:=fun σ H R=>ta σ H fun vs H1=>∃ j:Int,vs=[.int j]/\-(2 ^ 62)≤j/\j<2 ^ 62/\R (Itr 0 j.toNat) H1
theorem a81 {a:Expr}{ta:TA}{p pos:Pos}(hg:Gl X "range") (hm:X.mg "range"=none) (ha:PA X [a] ta) (hs:starEach [a] X.env=[(false,eval a X.env)]:=by rfl):PI X tg (.Call (.Name "range" p) [a] [] pos) (b4f ta):=by
 intro pins s σ H R I h;refine Call_ (a6a I hg hm boot_range (PyProof.Rows.callWith_type1 (thn (ha pos pins s σ H _ I h) fun us s1 ⟨vs,H1,I1,r1,q1⟩=>?_) hs rfl));obtain⟨j,e,q1,q2,q⟩:=q1;subst e;cases r1 with
 | cons r rr=>
  cases rr;obtain⟨t,rfl⟩:=r;exact call_range_1 (b0N I1 (by omega) (by omega) q1 q2 (by simpa using q))
def tFor (wi:TI) (g:TG) (tb:TS):TS:=fun D σ H=>wi σ H fun J H1=>∃ W:Nat->Nat->St->Hp->Prop,(∃ m,W 0 m σ H1)/\∀ i m σ H,W i m σ H ->
 (J.stop i H/\D.nx σ H)\/(J.go i H/\∃ N:St->Hp->Prop,(∀ σ' H',N σ' H'->∃ m',m'<m/\W (i+1) m' σ' H')/\∀ x H',J.yld i H x H'->g x σ H' fun σ2 H2=>tb { D with nx:=N,ct:=N,bk:=D.nx } σ2 H2)
def a6b (fp:List Addr) (h:Heap):List (Addr×Obj):=fp.filterMap fun b=>(h.get? b).map fun o=>(b,o)
theorem a2E {fp:List Addr}{h:Heap}{b:Addr}{o:Obj}(hb:b∈fp) (e:h.get? b=some o):(b,o)∈a6b fp h:=List.mem_filterMap.mpr ⟨b,hb,by rw[e];rfl⟩
theorem a82 {fp:List Addr}{h:Heap}{p:Addr×Obj}(hp:p∈a6b fp h):p.1∈fp/\h.get? p.1=some p.2:=by
 obtain⟨b,hb,e⟩:=List.mem_filterMap.mp hp;cases q:h.get? b with
 | none=>rw[q]at e;cases e
 | some o=>
  rw[q]at e;have e':(b,o)=p:=Option.some.inj e;subst e';exact⟨hb,q⟩
theorem Inv.pinned {pins:List (Addr×Obj)}{σ:St}{H:Hp}{s:Shared}{fp:List Addr}(I:Inv X pins σ H s) (hf:∀ b∈fp,FpOk X pins H b) (ho:∀ b∈fp,∃ o,s.heap.get? b=some o/\∀ v,o.data≠.cell v):Inv X (pins++a6b fp s.heap) σ H s:=
 I.pins_of fun p hp=>(List.mem_append.mp hp).elim (fun z=>I.pin p (List.mem_append_right _ z)) fun z=>by
  obtain⟨hb,e⟩:=a82 z;obtain⟨f0,f1,f2,_⟩:=hf p.1 hb;obtain⟨o,e',d⟩:=ho p.1 hb;rw[e]at e';cases e';exact⟨e,f0,f1,f2,d⟩
theorem Inv.unpinned {pins pl:List (Addr×Obj)}{σ:St}{H:Hp}{s:Shared}(I:Inv X (pins++pl) σ H s):Inv X pins σ H s:=I.pins_of fun p hp=>I.pin p (List.mem_append_right _ (List.mem_append_left _ hp))
theorem b4g {iter:Expr}{body:List Stmt}{wi:TI}{g:TG}{tb:TS}{pos:Pos}(hp:PassesOwn (model X.prog X.w) X.A X.env X.xe) (hc:X.calm=true) (hi:PI X tg iter wi) (hg:PG X tg g) (hb:PSs X body tb)
  (hs:∀ x,foldedSetIterable iter X.env x=pure x:=by intro _;rfl):PS X (.For tg iter body [] pos) (tFor wi g tb):=by
 intro pins s σ H D I h;refine wpAny_For (thn (hi pins s σ H _ I h) fun v s1 h1=>thn h1 fun itv s2 h2=>?_) hs;obtain⟨it,fp,tn,J,H2,e,I2,T,st2,f2,W,⟨m0,w0⟩,turn⟩:=h2;subst e;have stat:∀ {H':Hp},(∀ b∈fp,H' b=none)->∀ b∈fp,FpOk X pins H' b:=fun hn b hb=>⟨hn b hb,(f2 b hb).2⟩;refine codeAny_forLoop_any (fun n s'=>∃ i σ' H',Inv X pins σ' H' s'/\tn i s'.heap/\(∀ b∈fp,H' b=none)/\W i n σ' H') ?_ m0 ⟨0,σ,H2,I2,st2,fun b hb=>(f2 b hb).1,w0⟩;rintro n s3 ⟨i,σ3,H3,I3,st3,fr3,w3⟩;rcases turn i n σ3 H3 w3 with ⟨stop,qn⟩ | ⟨go,N,hN,step⟩
 ·refine wpAny_passesOwn hp (thn (T.done X rfl rfl rfl hc i pins s3 σ3 H3 X.xe I3 (stat fr3) st3 stop) fun r s4 ⟨hr,I4⟩=>?_);subst hr;exact wpAny_execs_nil ⟨σ3,H3,I4,qn⟩
 ·refine wpAny_passesOwn hp (thn (T.item X rfl rfl rfl hc i pins s3 σ3 H3 X.xe I3 (stat fr3) st3 go) fun r s4 ⟨u,hr,h4⟩=>?_);subst hr;refine wpAny_passesOwn hp (thn h4 fun _ s5 ⟨x,H5,I5,r5,y5,st5,fr5⟩=>?_);have I5':=I5.pinned (stat fr5) (T.obj _ _ st5);refine wpAny_passesOwn hp (thn (hg _ s5 σ3 H5 x u _ I5' r5 (step x H5 y5)) fun _ s6 ⟨σ6,H6,I6,q6⟩=>?_);refine wpAny_passesOwn hp (thn (hb _ s6 σ6 H6 _ I6 q6) fun f s7 q7=>?_);have again:∀ {σ7:St}{H7:Hp},Inv X (pins++a6b fp s5.heap) σ7 H7 s7->N σ7 H7->∃ m,m<n/\∃ i σ' H',Inv X pins σ' H' s7/\tn i s7.heap/\(∀ b∈fp,H' b=none)/\W i m σ' H':=fun {σ7 H7} I7 n7=>by
   obtain⟨m',hm,w7⟩:=hN σ7 H7 n7;refine⟨m',hm,i+1,σ7,H7,I7.unpinned,T.keep _ _ _ st5 fun b hb o e=>(I7.pin (b,o) (List.mem_append_right _ (List.mem_append_right _ (a2E hb e)))).1,fun b hb=>?_,w7⟩;obtain⟨o,e,d⟩:=T.obj _ _ st5 b hb;exact (I7.pin (b,o) (List.mem_append_right _ (List.mem_append_right _ (a2E hb e)))).2.1
  cases f with
  | next=>obtain⟨σ7,H7,I7,n7⟩:=q7;exact again I7 n7
  | cont=>obtain⟨σ7,H7,I7,n7⟩:=q7;exact again I7 n7
  | brk=>obtain⟨σ7,H7,I7,q7⟩:=q7;exact⟨σ7,H7,I7.unpinned,q7⟩
  | ret v=>obtain⟨x7,σ7,H7,I7,r7,q7⟩:=q7;exact⟨x7,σ7,H7,I7.unpinned,r7,q7⟩
end
end L2
namespace L2
open PySem PySem.Spec PyProof.Rows
abbrev R2:=V->V->Hp->VK->Prop
def OpR (X:Cx) (f:Value->Value->Sem Value) (r:R2):Prop:=
 ∀ (pins:List (Addr×Obj)) (s:Shared) (σ:St) (H:Hp) (x y:V) (v u:Value) (Q:VK),Inv X pins σ H s->RelV x v->RelV y u->r x y H Q ->
  wpAny (model X.prog X.w) X.A (f v u) (EP X pins σ Q) X.xe s
def UnR (X:Cx) (f:Value->Sem Value) (r:V->Hp->VK->Prop):Prop:=
 ∀ (pins:List (Addr×Obj)) (s:Shared) (σ:St) (H:Hp) (x:V) (v:Value) (Q:VK),Inv X pins σ H s->RelV x v->r x H Q ->
  wpAny (model X.prog X.w) X.A (f v) (EP X pins σ Q) X.xe s
def CallR (X:Cx) (f:Value) (r:List V->Hp->VK->Prop):Prop:=
 ∀ (pins:List (Addr×Obj)) (s:Shared) (σ:St) (H:Hp) (xs:List V) (us:List Value) (Q:VK),Inv X pins σ H s->Vals xs us->r xs H Q ->
  wpAny (model X.prog X.w) X.A (call f us) (EP X pins σ Q) X.xe s
def TruR (X:Cx) (r:V->Hp->(Bool->Hp->Prop)->Prop):Prop:=
 ∀ (pins:List (Addr×Obj)) (s:Shared) (σ:St) (H:Hp) (x:V) (v:Value) (Q:Bool->Hp->Prop),Inv X pins σ H s->RelV x v->r x H Q ->
  wpAny (model X.prog X.w) X.A (truthy v) (TP X pins σ Q) X.xe s
def tOp (r:R2) (ta tb:TE):TE:=fun σ H Q=>ta σ H fun x H1=>tb σ H1 fun y H2=>r x y H2 Q
def tUn (r:V->Hp->VK->Prop) (ta:TE):TE:=fun σ H Q=>ta σ H fun x H1=>r x H1 Q
def rI (C:Int->Int->Prop) (g:Int->Int->V):R2:=fun x y H Q=>∃ i j,x=.int i/\y=.int j/\C i j/\Q (g i j) H
def rI0 (g:Int->Int->V):R2:=fun x y H Q=>∃ i j,x=.int i/\y=.int j/\Q (g i j) H
def rU (g:Int->V):V->Hp->VK->Prop:=fun x H Q=>∃ i,x=.int i/\Q (g i) H
section
variable {X:Cx}{a b c:Expr}{ta tb tc:TE}{pos:Pos}
theorem binT (ha:PE X a ta) (hb:PE X b tb) {pins:List (Addr×Obj)}{s:Shared}{σ:St}{H:Hp}{R:V->V->Hp->Prop}(I:Inv X pins σ H s)
  (h:ta σ H fun x H1=>tb σ H1 fun y H2=>R x y H2) {Q:Value->Shared->Prop}{f:Value->Value->Sem Value}
  (hf:∀ v u s2 x y H2,Inv X pins σ H2 s2->RelV x v->RelV y u->R x y H2->wpAny (model X.prog X.w) X.A (f v u) Q X.xe s2) :
  wpAny (model X.prog X.w) X.A (eval a X.env) (fun v s₁=>wpAny (model X.prog X.w) X.A (eval b X.env) (fun u s₂=>wpAny (model X.prog X.w) X.A (f v u) Q X.xe s₂) X.xe s₁) X.xe s:=by
 refine thn (ha pins s σ H _ I h) fun v s1 ⟨x,H1,I1,r1,q1⟩=>?_;refine thn (hb pins s1 σ H1 _ I1 q1) fun u s2 ⟨y,H2,I2,r2,q2⟩=>?_;exact hf v u s2 x y H2 I2 r1 r2 q2
theorem b6m {op:Operator}{r:R2}(ho:OpR X (binaryOp op) r) (ha:PE X a ta) (hb:PE X b tb):PE X (.BinOp a op b pos) (tOp r ta tb):=by
 intro pins s σ H Q I h;exact wpAny_BinOp (binT ha hb I h fun v u s2 x y H2 I2 rx ry q=>ho pins s2 σ H2 x y v u Q I2 rx ry q)
theorem b6n {op:UnaryOp}{r:V->Hp->VK->Prop}(ho:UnR X (unaryOp op) r) (ha:PE X a ta):PE X (.UnaryOp op a pos) (tUn r ta):=by
 intro pins s σ H Q I h;exact UnaryOp_ (thn (ha pins s σ H _ I h) fun v s1 ⟨x,H1,I1,r1,q1⟩=>ho pins s1 σ H1 x v Q I1 r1 q1)
theorem opI {f:Value->Value->Sem Value}{C:Int->Int->Prop}{g:Int->Int->Int}
  (rule:∀ (i j:Int) (t u:Tok) (s:Shared) (Q:Value->Shared->Prop) (E:Value->Shared->Prop),C i j->Q (.int (g i j) s.toks) { s with toks:=s.toks+1 }->wpAny (model X.prog X.w) X.A (f (.int i t) (.int j u)) Q E s) :
  OpR X f (rI C fun i j=>.int (g i j)):=by
 intro pins s σ H x y v u Q I rx ry h;obtain⟨i,j,rfl,rfl,hc,q⟩:=h;obtain⟨t,rfl⟩:=rx;obtain⟨t',rfl⟩:=ry;exact rule i j t t' s _ _ hc ⟨.int (g i j),H,I.tok _,⟨_,rfl⟩,q⟩
theorem opI0 {f:Value->Value->Sem Value}{g:Int->Int->Int}
  (rule:∀ (i j:Int) (t u:Tok) (s:Shared) (Q:Value->Shared->Prop) (E:Value->Shared->Prop),Q (.int (g i j) s.toks) { s with toks:=s.toks+1 }->wpAny (model X.prog X.w) X.A (f (.int i t) (.int j u)) Q E s) :
  OpR X f (rI0 fun i j=>.int (g i j)):=by
 intro pins s σ H x y v u Q I rx ry h;obtain⟨i,j,rfl,rfl,q⟩:=h;obtain⟨t,rfl⟩:=rx;obtain⟨t',rfl⟩:=ry;exact rule i j t t' s _ _ ⟨.int (g i j),H,I.tok _,⟨_,rfl⟩,q⟩
theorem opB0 {f:Value->Value->Sem Value}{g:Int->Int->Bool}
  (rule:∀ (i j:Int) (t u:Tok) (s:Shared) (Q:Value->Shared->Prop) (E:Value->Shared->Prop),Q (.bool (g i j)) s->wpAny (model X.prog X.w) X.A (f (.int i t) (.int j u)) Q E s) :
  OpR X f (rI0 fun i j=>.bl (g i j)):=by
 intro pins s σ H x y v u Q I rx ry h;obtain⟨i,j,rfl,rfl,q⟩:=h;obtain⟨t,rfl⟩:=rx;obtain⟨t',rfl⟩:=ry;exact rule i j t t' s _ _ ⟨.bl (g i j),H,I,rfl,q⟩
def CPow (i j:Int):Prop:=0≤j/\j≤1000000/\i.natAbs<2 ^ 64
def CMul (i j:Int):Prop:=(-(2 ^ 64)<i/\i<2 ^ 64)\/(-(2 ^ 64)<j/\j<2 ^ 64)
theorem CMul.ok {i j:Int}(h:CMul i j):IntMulOk i j:=by
 rcases h with ⟨h1,h2⟩ | ⟨h1,h2⟩
 ·exact .of_left (intBits_le_64 h1 h2)
 ·exact .of_right (intBits_le_64 h1 h2)
theorem op_add:OpR X (binaryOp .Add) (rI0 fun i j=>.int (i+j)):=opI0 fun _ _ _ _ _ _ _ q=>add_int q
theorem b4h:OpR X (binaryOp .Sub) (rI0 fun i j=>.int (i - j)):=opI0 fun _ _ _ _ _ _ _ q=>sub_int q
theorem b4i:OpR X (binaryOp .Mult) (rI CMul fun i j=>.int (i*j)):=opI fun _ _ _ _ _ _ _ hc q=>mul_int q hc.ok
theorem b4j:OpR X (binaryOp .Mod) (rI (fun _ j=>0<j) fun i j=>.int (i % j)):=opI fun i j _ _ _ _ _ hc q=>by
 have h1:(0:Int)<j:=hc;exact mod_int' (by omega) (by rw[Int.fmod_eq_emod_of_nonneg i (by omega)];exact q)
theorem b4k:OpR X (binaryOp .Pow) (rI CPow fun i j=>.int (i ^ j.toNat)):=opI fun _ _ _ _ _ _ _ hc q=>pow_int_small hc.1 hc.2.1 hc.2.2 q
theorem b2D:OpR X (inplaceOp .Add) (rI0 fun i j=>.int (i+j)):=opI0 fun _ _ _ _ _ _ _ q=>iadd_int q
theorem unI {f:Value->Sem Value}{g:Int->Int}
  (rule:∀ (i:Int) (t:Tok) (s:Shared) (Q:Value->Shared->Prop) (E:Value->Shared->Prop),Q (.int (g i) s.toks) { s with toks:=s.toks+1 }->wpAny (model X.prog X.w) X.A (f (.int i t)) Q E s) :
  UnR X f (rU fun i=>.int (g i)):=by
 intro pins s σ H x v Q I rx h;obtain⟨i,rfl,q⟩:=h;obtain⟨t,rfl⟩:=rx;exact rule i t s _ _ ⟨.int (g i),H,I.tok _,⟨_,rfl⟩,q⟩
theorem b4l:UnR X (unaryOp .USub) (rU fun i=>.int (-i)):=unI fun _ _ _ _ _ q=>neg_int q
end
def scal:V->V->Bool
 | .non,.non=>true | .non,.int _=>true | .int _,.non=>true | .non,.bl _=>true | .bl _,.non=>true | .non,.str _=>true | .str _,.non=>true
 | .int _,.int _=>true | .bl _,.bl _=>true | .str _,.str _=>true | .byt _,.byt _=>true
 | .int _,.str _=>true | .str _,.int _=>true | .bl _,.str _=>true | .str _,.bl _=>true
 | _,_=>false
def rEq:R2:=fun x y H Q=>scal x y=true/\Q (.bl (decide (x=y))) H
def rNe:R2:=fun x y H Q=>scal x y=true/\Q (.bl (!decide (x=y))) H
theorem a83 {i j:Int}:decide (V.int i=V.int j)=(i==j):=by
 rw[Bool.eq_iff_iff];simp
theorem a84 {i j:Bool}:decide (V.bl i=V.bl j)=(i==j):=by
 rw[Bool.eq_iff_iff];simp
theorem a85 {i j:Str}:decide (V.str i=V.str j)=(i==j):=by
 rw[Bool.eq_iff_iff];simp
theorem a86 {i j:Array UInt8}:decide (V.byt i=V.byt j)=(i.toList==j.toList):=by
 rw[Bool.eq_iff_iff];cases i;cases j;simp
section
variable {X:Cx}{a b c:Expr}{ta tb tc:TE}{pos:Pos}
theorem a0C {pins:List (Addr×Obj)}{σ:St}{H:Hp}{s:Shared}{Q:VK}{k k':Bool}(I:Inv X pins σ H s) (q:Q (.bl k) H) (e:k=k'):EP X pins σ Q (.bool k') s:=by
 subst e;exact⟨.bl k,H,I,rfl,q⟩
theorem op_eq:OpR X (compareOp .Eq) rEq:=by
 intro pins s σ H x y v u Q I rx ry h;obtain⟨hs,q⟩:=h;cases x with
 | non=>
  cases rx;cases y with
  | non=>cases ry;exact PySem.EqNone.eq_none_none (a0C I q (by simp))
  | bl j=>cases ry;exact PySem.EqNone.eq_none_bool (a0C I q (by simp))
  | int j=>obtain⟨t',rfl⟩:=ry;exact PySem.EqNone.eq_none_int (a0C I q (by simp))
  | str j=>obtain⟨t',rfl⟩:=ry;exact PySem.EqNone.eq_none_str (a0C I q (by simp))
  | _=>exact absurd (show false=true from hs) Bool.false_ne_true
 | bl i=>
  cases rx;cases y with
  | non=>cases ry;exact PySem.EqNone.eq_bool_none (a0C I q (by simp))
  | bl j=>cases ry;exact eq_bool (a0C I q a84)
  | str j=>obtain⟨t',rfl⟩:=ry;exact PySem.EqMixed.eq_bool_str (a0C I q (by simp))
  | _=>exact absurd (show false=true from hs) Bool.false_ne_true
 | int i=>
  obtain⟨t,rfl⟩:=rx;cases y with
  | non=>cases ry;exact PySem.EqNone.eq_int_none (a0C I q (by simp))
  | int j=>obtain⟨t',rfl⟩:=ry;exact eq_int (a0C I q a83)
  | str j=>obtain⟨t',rfl⟩:=ry;exact PySem.EqMixed.eq_int_str (a0C I q (by simp))
  | _=>exact absurd (show false=true from hs) Bool.false_ne_true
 | str i=>
  obtain⟨t,rfl⟩:=rx;cases y with
  | non=>cases ry;exact PySem.EqNone.eq_str_none (a0C I q (by simp))
  | bl j=>cases ry;exact PySem.EqMixed.eq_str_bool (a0C I q (by simp))
  | int j=>obtain⟨t',rfl⟩:=ry;exact PySem.EqMixed.eq_str_int (a0C I q (by simp))
  | str j=>obtain⟨t',rfl⟩:=ry;exact eq_str (a0C I q a85)
  | _=>exact absurd (show false=true from hs) Bool.false_ne_true
 | byt i=>
  obtain⟨t,rfl⟩:=rx;cases y with
  | byt j=>obtain⟨t',rfl⟩:=ry;exact PySem.W.eq_bytes (a0C I q a86)
  | _=>exact absurd (show false=true from hs) Bool.false_ne_true
 | _=>cases y<;>exact absurd (show false=true from hs) Bool.false_ne_true
theorem op_ne:OpR X (compareOp .NotEq) rNe:=by
 intro pins s σ H x y v u Q I rx ry h;obtain⟨hs,q⟩:=h;cases x with
 | non=>
  cases rx;cases y with
  | non=>cases ry;exact PySem.EqNone.ne_none_none (a0C I q (by simp))
  | bl j=>cases ry;exact PySem.EqNone.ne_none_bool (a0C I q (by simp))
  | int j=>obtain⟨t',rfl⟩:=ry;exact PySem.EqNone.ne_none_int (a0C I q (by simp))
  | str j=>obtain⟨t',rfl⟩:=ry;exact PySem.EqNone.ne_none_str (a0C I q (by simp))
  | _=>exact absurd (show false=true from hs) Bool.false_ne_true
 | bl i=>
  cases rx;cases y with
  | non=>cases ry;exact PySem.EqNone.ne_bool_none (a0C I q (by simp))
  | bl j=>cases ry;exact ne_bool (a0C I q (congrArg not a84))
  | str j=>obtain⟨t',rfl⟩:=ry;exact PySem.EqMixed.ne_bool_str (a0C I q (by simp))
  | _=>exact absurd (show false=true from hs) Bool.false_ne_true
 | int i=>
  obtain⟨t,rfl⟩:=rx;cases y with
  | non=>cases ry;exact PySem.EqNone.ne_int_none (a0C I q (by simp))
  | int j=>obtain⟨t',rfl⟩:=ry;exact ne_int (a0C I q (congrArg not a83))
  | str j=>obtain⟨t',rfl⟩:=ry;exact PySem.EqMixed.ne_int_str (a0C I q (by simp))
  | _=>exact absurd (show false=true from hs) Bool.false_ne_true
 | str i=>
  obtain⟨t,rfl⟩:=rx;cases y with
  | non=>cases ry;exact PySem.EqNone.ne_str_none (a0C I q (by simp))
  | bl j=>cases ry;exact PySem.EqMixed.ne_str_bool (a0C I q (by simp))
  | int j=>obtain⟨t',rfl⟩:=ry;exact PySem.EqMixed.ne_str_int (a0C I q (by simp))
  | str j=>obtain⟨t',rfl⟩:=ry;exact ne_str (a0C I q (congrArg not a85))
  | _=>exact absurd (show false=true from hs) Bool.false_ne_true
 | byt i=>
  obtain⟨t,rfl⟩:=rx;cases y with
  | byt j=>obtain⟨t',rfl⟩:=ry;exact PySem.W.ne_bytes (a0C I q (congrArg not a86))
  | _=>exact absurd (show false=true from hs) Bool.false_ne_true
 | _=>cases y<;>exact absurd (show false=true from hs) Bool.false_ne_true
theorem b6o:OpR X (compareOp .Lt) (rI0 fun i j=>.bl (decide (i<j))):=opB0 fun _ _ _ _ _ _ _ q=>lt_int q
theorem b6p:OpR X (compareOp .LtE) (rI0 fun i j=>.bl (decide (i≤j))):=opB0 fun _ _ _ _ _ _ _ q=>le_int q
theorem b6q:OpR X (compareOp .Gt) (rI0 fun i j=>.bl (decide (j<i))):=opB0 fun _ _ _ _ _ _ _ q=>gt_int q
theorem b6r:OpR X (compareOp .GtE) (rI0 fun i j=>.bl (decide (j≤i))):=opB0 fun _ _ _ _ _ _ _ q=>ge_int q
theorem a87:OpR X (compareOp .Lt) (fun x y H Q=>∃ i j,x=.str i/\y=.str j/\Q (.bl (decide (i.cps.toList<j.cps.toList))) H):=by
 intro pins s σ H x y v u Q I rx ry h;obtain⟨i,j,rfl,rfl,q⟩:=h;obtain⟨t,rfl⟩:=rx;obtain⟨t',rfl⟩:=ry;exact lt_str (a0C I q rfl)
theorem op_isN:OpR X (compareOp .Is) (fun x y H Q=>y=.non/\Q (.bl (decide (x=.non))) H):=by
 intro pins s σ H x y v u Q I rx ry h;obtain⟨rfl,q⟩:=h;cases ry;refine is_none_gen (a0C I q ?_);cases x<;>first
  | (cases rx;rfl)
  | (obtain⟨t,rfl⟩:=rx;rfl)
theorem b2E:OpR X (compareOp .IsNot) (fun x y H Q=>y=.non/\Q (.bl (!decide (x=.non))) H):=by
 intro pins s σ H x y v u Q I rx ry h;obtain⟨rfl,q⟩:=h;cases ry;refine isnot_none_gen (a0C I q ?_);cases x<;>first
  | (cases rx;rfl)
  | (obtain⟨t,rfl⟩:=rx;rfl)
theorem OpR.or {f:Value->Value->Sem Value}{r r':R2}(h:OpR X f r) (h':OpR X f r'):OpR X f (fun x y H Q=>r x y H Q\/r' x y H Q):=by
 intro pins s σ H x y v u Q I rx ry q;rcases q with q | q
 ·exact h pins s σ H x y v u Q I rx ry q
 ·exact h' pins s σ H x y v u Q I rx ry q
theorem a0r (b:Expr) {op:CmpOp}(h:op≠.In:=by decide) (h2:op≠.NotIn:=by decide):behindInMarks op b=false:=by
 have e1:(op==CmpOp.In)=false:=by cases op<;>first | rfl | exact absurd rfl h
 have e2:(op==CmpOp.NotIn)=false:=by cases op<;>first | rfl | exact absurd rfl h2
 cases b<;>simp[behindInMarks,e1,e2]
theorem b2F {op:CmpOp}{r:R2}(ho:OpR X (compareOp op) r) (ha:PE X a ta) (hb:PE X b tb) (hm:behindInMarks op b=false):PE X (.Compare a [op] [b] pos) (tOp r ta tb):=by
 intro pins s σ H Q I h;exact wpAny_Compare1 (binT ha hb I h fun v u s2 x y H2 I2 rx ry q=>ho pins s2 σ H2 x y v u Q I2 rx ry q) hm
def b6s (t:TE):TT:=fun σ H Q=>t σ H fun x H'=>∃ k,x=.bl k/\Q k H'
theorem b2G {op:CmpOp}{r:R2}(ho:OpR X (compareOp op) r) (ha:PE X a ta) (hb:PE X b tb) (hm:behindInMarks op b=false):PT X (.Compare a [op] [b] pos) (b6s (tOp r ta tb)):=by
 intro pins s σ H Q I h;refine wpAny_isTrue_Compare1 (thn (ha pins s σ H _ I h) fun v s1 ⟨x,H1,I1,r1,q1⟩=>thn (hb pins s1 σ H1 _ I1 q1) fun u s2 ⟨y,H2,I2,r2,q2⟩=>
  thn (ho pins s2 σ H2 x y v u _ I2 r1 r2 q2) fun c s3 ⟨z,H3,I3,r3,k,e,q3⟩=>?_) hm
 subst e;cases r3;exact wpAny_truthy_bool ⟨H3,I3,q3⟩
def b10 (r r':R2) (ta tb tc:TE):TE:=fun σ H Q=>ta σ H fun x H1=>tb σ H1 fun y H2=>r x y H2 fun z H3=>∃ k,z=.bl k /\
 (if k=true then tc σ H3 fun w' H4=>r' y w' H4 Q else Q (.bl false) H3)
theorem b0O {op op':CmpOp}{r r':R2}(ho:OpR X (compareOp op) r) (ho':OpR X (compareOp op') r') (ha:PE X a ta) (hb:PE X b tb) (hc:PE X c tc)
  (hm:lastMarks [op,op'] [b,c]=false:=by with_unfolding_all rfl):PE X (.Compare a [op,op'] [b,c] pos) (b10 r r' ta tb tc):=by
 intro pins s σ H Q I h;refine Compare_chain (thn (ha pins s σ H _ I h) fun v s1 ⟨x,H1,I1,r1,q1⟩=>chain_link (thn (hb pins s1 σ H1 _ I1 q1) fun u s2 ⟨y,H2,I2,r2,q2⟩=>
  thn (ho pins s2 σ H2 x y v u _ I2 r1 r2 q2) fun d s3 ⟨z,H3,I3,r3,k,e,q3⟩=>?_)) hm
 subst e;cases r3;refine wpAny_truthy_bool ?_;cases k with
 | false=>exact ite_ff ⟨.bl false,H3,I3,rfl,q3⟩
 | true=>exact ite_tt (chain_last (thn (hc pins s3 σ H3 _ I3 q3) fun w' s4 ⟨z',H4,I4,r4,q4⟩=>ho' pins s4 σ H4 y z' u w' Q I4 r2 r4 q4))
def TruV (K:Fg) (x:V) (H:Hp) (k:Bool):Prop:=
 match x with
 | .non=>k=false
 | .bl b=>k=b
 | .int i=>k=(i != 0)
 | .str y=>y.length≤sizeLine/\k=((y.length:Int) != 0)
 | .byt y=>y.size≤sizeLine/\k=((y.size:Int) != 0)
 | .ref p=>(∃ xs,SqL K H p xs/\k=!xs.isEmpty)\/(∃ xs,SqT K H p xs/\k=!xs.isEmpty)\/∃ kvs,H p=some (.dK kvs)/\k=!kvs.isEmpty
 | _=>False
theorem a8r {κ:Type}{kvs:List (κ×V)}{vs:List (κ×Value)}(r:KV kvs vs):(!vs.isEmpty)=!kvs.isEmpty:=by
 cases r<;>rfl
theorem a44 {xs:List V}{its:List Value}(r:Vals xs its):(!its.toArray.isEmpty)=!xs.isEmpty:=by
 cases r<;>simp
theorem a45:(sizeLine:Nat)<2 ^ 63:=by rw[sizeLine_eq];decide
theorem b4m:TruR X (fun x H Q=>∃ k,TruV X.K x H k/\Q k H):=by
 intro pins s σ H x v Q I rx h;obtain⟨k,e,q⟩:=h;have hl:=a45;have hs:sizeLine=16777216:=sizeLine_eq;cases x with
 | non=>
  cases rx;have e':k=false:=e;subst e';exact truthy_none ⟨H,I,q⟩
 | bl b=>
  cases rx;have e':k=b:=e;subst e';exact wpAny_truthy_bool ⟨H,I,q⟩
 | int i=>
  obtain⟨t,rfl⟩:=rx;have e':k=(i != 0):=e;subst e';exact PySem.P.truthy_int ⟨H,I,q⟩
 | str y=>
  obtain⟨t,rfl⟩:=rx;obtain⟨hy,e'⟩:y.length≤sizeLine/\k=((y.length:Int) != 0):=e;subst e';exact PySem.P.truthy_str (by omega) ⟨H,I.tok _,q⟩
 | byt y=>
  obtain⟨t,rfl⟩:=rx;obtain⟨hy,e'⟩:y.size≤sizeLine/\k=((y.size:Int) != 0):=e;subst e';exact PySem.W.truthy_bytes (by omega) ⟨H,I.tok _,q⟩
 | ref p=>
  cases rx;have e':(∃ xs,SqL X.K H p xs/\k=!xs.isEmpty)\/(∃ xs,SqT X.K H p xs/\k=!xs.isEmpty)\/∃ kvs,H p=some (.dK kvs)/\k=!kvs.isEmpty:=e;rcases e' with ⟨xs,hx,e'⟩ | ⟨xs,hx,e'⟩ | ⟨kvs,hx,e'⟩
  ·subst e';obtain⟨its,r,pl,hz⟩:=I.list hx;have hlen:=r.length;exact wpAny_truthy_list pl.isList (by simp only[List.size_toArray];omega) ⟨H,I.tok _,by rw[a44 r];exact q⟩
  ·subst e';obtain⟨its,r,pl,hz⟩:=I.tuple hx;have hlen:=r.length;exact truthy_tuple pl (by simp only[List.size_toArray];omega) ⟨H,I.tok _,by rw[a44 r];exact q⟩
  ·subst e';obtain⟨hz,hS,vs,r,m⟩:kvs.length≤sizeLine/\(p==sysModules)=false/\∃ vs,KV kvs vs/\s.heap.DictOf (a0F X.prog X.w) p vs:=I.hok p _ hx;have hlen:kvs.length=vs.length:=Paired.length r;exact wpAny_truthy_dict hS m (by omega) ⟨H,I.tok _,by rw[a8r r];exact q⟩
 | _=>exact (show False from e).elim
theorem b0P (ha:PE X a ta) (he:∀ whole,isTrue a X.env whole=(do let v <- whole;standAt a.pos;holding [v] (truthy v))) :
  PT X a (fun σ H Q=>ta σ H fun x H'=>∃ k,TruV X.K x H' k/\Q k H'):=by
 intro pins s σ H Q I h;exact isTrue_plain (thn (ha pins s σ H _ I h) fun v s1 ⟨x,H1,I1,r1,q1⟩=>b4m pins s1 σ H1 x v Q I1 r1 q1) (he _)
theorem op_add_str:OpR X (binaryOp .Add) (fun x y H Q=>∃ i j,x=.str i/\y=.str j/\i.length+j.length≤sizeLine/\Q (.str (i++j)) H):=by
 intro pins s σ H x y v u Q I rx ry h;obtain⟨i,j,rfl,rfl,hz,q⟩:=h;obtain⟨t,rfl⟩:=rx;obtain⟨t',rfl⟩:=ry;exact add_str (fun t' tk=>⟨.str (i++j),H,I.tok _,⟨_,rfl⟩,q⟩) hz
theorem a3X {x:V}{us:List Value}(r:Vals [x] us):∃ u,us=[u]/\RelV x u:=by
 cases r with
 | cons r1 r2=>cases r2;exact⟨_,rfl,r1⟩
theorem a88 {x y:V}{us:List Value}(r:Vals [x,y] us):∃ u w',us=[u,w']/\RelV x u/\RelV y w':=by
 cases r with
 | cons r1 r2=>
  cases r2 with
  | cons r3 r4=>cases r4;exact⟨_,_,rfl,r1,r3⟩
theorem a89 (hc:X.calm=true):CallR X (.builtin "max") (fun xs H Q=>∃ i j,xs=[.int i,.int j]/\Q (.int (if j > i then j else i)) H):=by
 intro pins s σ H xs us Q I r h;obtain⟨i,j,rfl,q⟩:=h;obtain⟨u,w',rfl,⟨t,rfl⟩,⟨t',rfl⟩⟩:=a88 r;refine max_two_ints (I.ok.hd hc) fun h' tk k=>⟨_,H,I.kept k,?_,q⟩
 by_cases hj:j > i
 ·rw[if_pos hj,if_pos hj];exact⟨_,rfl⟩
 ·rw[if_neg hj,if_neg hj];exact⟨_,rfl⟩
theorem a9a (hc:X.calm=true):CallR X (.builtin "min") (fun xs H Q=>∃ i j,xs=[.int i,.int j]/\Q (.int (if j<i then j else i)) H):=by
 intro pins s σ H xs us Q I r h;obtain⟨i,j,rfl,q⟩:=h;obtain⟨u,w',rfl,⟨t,rfl⟩,⟨t',rfl⟩⟩:=a88 r;refine min_two_ints (I.ok.hd hc) fun h' tk k=>⟨_,H,I.kept k,?_,q⟩
 by_cases hj:j<i
 ·rw[if_pos hj,if_pos hj];exact⟨_,rfl⟩
 ·rw[if_neg hj,if_neg hj];exact⟨_,rfl⟩
def LenV (K:Fg) (x:V) (H:Hp) (n:Nat):Prop:=
 match x with
 | .str y=>y.length≤sizeLine/\n=y.length
 | .byt y=>y.size≤sizeLine/\n=y.size
 | .ref p=>(∃ xs,SqL K H p xs/\n=xs.length)\/∃ xs,SqT K H p xs/\n=xs.length
 | _=>False
theorem b0Q:CallR X (.builtin "len") (fun xs H Q=>∃ x n,xs=[x]/\LenV X.K x H n/\Q (.int n) H):=by
 intro pins s σ H xs us Q I r h;obtain⟨x,n,rfl,e,q⟩:=h;obtain⟨u,rfl,rx⟩:=a3X r;have hl:=a45;have hs:sizeLine=16777216:=sizeLine_eq;cases x with
 | str y=>
  obtain⟨t,rfl⟩:=rx;obtain⟨hy,e'⟩:y.length≤sizeLine/\n=y.length:=e;subst e';exact len_str (by omega) ⟨.int _,H,I.tok _,⟨_,rfl⟩,q⟩
 | byt y=>
  obtain⟨t,rfl⟩:=rx;obtain⟨hy,e'⟩:y.size≤sizeLine/\n=y.size:=e;subst e';exact PySem.W.len_bytes (by omega) ⟨.int _,H,I.tok _,⟨_,rfl⟩,q⟩
 | ref p=>
  cases rx;have e':(∃ xs,SqL X.K H p xs/\n=xs.length)\/∃ xs,SqT X.K H p xs/\n=xs.length:=e;rcases e' with ⟨xs,hx,e'⟩ | ⟨xs,hx,e'⟩
  ·subst e';obtain⟨its,r',pl,hz⟩:=I.list hx;have hlen:=r'.length;exact Calls.call_len_list pl.isList (by simp only[List.size_toArray];omega) ⟨.int xs.length,H,I.tok _,⟨_,by simp only[List.size_toArray];rw[hlen]⟩,q⟩
  ·subst e';obtain⟨its,r',pl,hz⟩:=I.tuple hx;have hlen:=r'.length;exact len_tuple pl (by simp only[List.size_toArray];omega) ⟨.int xs.length,H,I.tok _,⟨_,by simp only[List.size_toArray];rw[hlen]⟩,q⟩
 | _=>exact (show False from e).elim
end
end L2
namespace L2
open PySem PySem.Spec PyProof.Rows
structure ObjM (h:Heap) (x dx C:Addr) (mA:Str->Option Value):Prop where
 obj:h.get? x=some (PySem.W.instObj C dx)
 ns:h.Ns1 dx mA
 ne:dx≠x
theorem a9b {h:Heap}{dx:Addr}{mA:Str->Option Value}(n:h.Ns1 dx mA):∃ od,h.get? dx=some od/\∀ name,PySem.W.lookIn name od=some (mA name):=by
 obtain⟨o,es,ep,ho,hd,hk,_,hm⟩:=n;refine⟨o,ho,fun name=>?_⟩;have e:=hm name;unfold nsFind findBy at e;rw[<- Array.find?_toList]at e;unfold PySem.W.lookIn;rw[hd];dsimp only
 split
 ·rename_i y q
  rw[q]at e;exact congrArg some e
 ·rename_i q
  rw[q]at e;have a:es.toList.any (·.refKey)=false:=by
   rw[List.any_eq_false];intro y hy;obtain⟨z,t,hkey⟩:=hk y (Array.mem_toList_iff.mp hy);simp[DictEntry.refKey,hkey]
  have a':¬ es.toList.any (·.refKey)=true:=by rw[a];exact Bool.false_ne_true
  rw[if_neg a'];exact congrArg some e
theorem ObjM.look {h:Heap}{x dx C:Addr}{mA:Str->Option Value}(I:ObjM h x dx C mA):∃ od,PySem.W.InstAt h x (PySem.W.instObj C dx) C (some od)/\∀ name,PySem.W.lookIn name od=some (mA name):=
 let ⟨od,ho,hl⟩:=a9b I.ns
 ⟨od,⟨I.obj,rfl,rfl,ho⟩,hl⟩
section
variable {prog:Program}{w:World}{A:Around}{E:Value->Shared->Prop}{s:Shared}{K:Fg}{x dx C f:Addr}{mA:Str->Option Value}{name:Str}{v:Value}
theorem b2H {expr:Bool}{Q:Value->Shared->Prop}(X:K.In s.heap) (I:ObjM s.heap x dx C mA) (hg:PySem.W.plainGet K C name=true) (hh:PySem.W.hasDictIn K C=true)
  (ha:PySem.W.findIn K (.ref C) name=some none) (hv:mA name=some v) (hv':PySem.W.handedIn v=true) (h:Q v { s with toks:=s.toks+1 }) :
  wpAny (model prog w) A (getAttr (.ref x) name expr) Q E s:=by
 obtain⟨od,J,hl⟩:=I.look;exact PySem.W.get_value X J (PySem.W.plainGet_of hg).1 (PySem.W.findObj_own hh ha rfl (by rw[hl,hv])) hv' h
theorem b0R {pl:Sem Bool}{Q:Value×List Value->Shared->Prop}(X:K.In s.heap) (I:ObjM s.heap x dx C mA) (hg:PySem.W.plainGet K C name=true)
  (hf:PySem.W.findIn K (.ref C) name=some (some (.ref f))) (ht:PySem.W.isFn K (.ref f)=true) (hv:mA name=none) (h:Q (.ref f,[.ref x]) s) :
  wpAny (model prog w) A (getMethod (.ref x) name pl) Q E s:=by
 obtain⟨od,J,hl⟩:=I.look;exact PySem.W.method_fn X J (PySem.W.plainGet_of hg).1 (PySem.W.plainGet_of hg).2 hf (beq_iff_eq.mp ht) (by show (PySem.W.lookIn name od).map (·.isSome)=some false;rw[hl,hv];rfl) h
theorem b2I {ns:List Str}{Q:Unit->Shared->Prop}(X:K.In s.heap) (I:ObjM s.heap x dx C mA)
  (hs:PySem.W.findIn K (.ref C) "__setattr__"=some (some (.builtin "object.__setattr__"))) (hp:PySem.W.plainOver K C=true) (ht:PySem.W.takerIn K C name=some none) (hh:PySem.W.hasDictIn K C=true)
  (hw:PySem.Within mA ns) (hsz:ns.length≤sizeLine)
  (h:∀ h',ObjM h' x dx C (fun y=>if y=name then some v else mA y)->Heap.SameBut dx s.heap h'->Q () { s with heap:=h',toks:=s.toks+2 }) :
  wpAny (model prog w) A (setAttr (.ref x) name v) Q E s:=by
 obtain⟨od,J,hl⟩:=I.look;refine PySem.W.set_plain X J hs (PySem.W.osa_open (s:={ s with toks:=s.toks+1 }) (r:=none) X J hp ht fun b=>?_);obtain⟨cd,hc,hd'⟩:=PySem.W.any_some hh;have hx:s.heap.get? x=some ⟨.ref C,some dx,.plain,#[]⟩:=I.obj;refine wpAny_bind (wpAny_pure (wpAny_bind (wpAny_bind (wpAny_loadPart hx (wpAny_bind (PySem.W.Looks.here (s:={ s with toks:=s.toks+1 }) (PySem.W.looks_clsIn X hc) ?_))))));rw[hd'];refine wpAny_pure (a:=some dx) (wpAny_bind (wpAny_pure (wpAny_bind ?_)));refine wpAny_nsSet1 (s:={ s with toks:=s.toks+1 }) I.ns fun h' hn2 hs2=>?_;obtain⟨oD,esD,epD,hoD,hdD,hcD⟩:=hn2.count (PySem.Within.cons name v hw);refine wpAny_bind (wpAny_lookBehind hoD (by rw[hdD];exact pastItsLine_dict (Nat.le_trans hcD (by rw[List.length_cons];omega))) ?_);exact wpAny_pure (h _ ⟨(hs2.2 _ (Ne.symm I.ne)).trans I.obj,hn2,I.ne⟩ hs2)
theorem b0S {R:Result->Shared->Prop}{vs:List Value}{kw:List (Str×Value)}(X:K.In s.heap) (hm:PySem.W.makesIn K C=true)
  (hi:PySem.W.findIn K (.ref C) "__init__"=some (some (.ref f))) (hf:PySem.W.typeIn K (.ref f)=some (.type "function"))
  (h:codeAny (model prog w) (A.under (.builtin "type.__call__" ⟨.ref C::vs,kw⟩)) (.call (.ref f) ⟨.ref (s.heap.objs.size+1)::vs,kw⟩) (PySem.W.InitBack (s.heap.objs.size+1) R)
   { s with heap:=(s.heap.push PySem.W.emptyDict).push (PySem.W.instObj C s.heap.objs.size) }) :
  codeAny (model prog w) A (.call (.ref C) ⟨vs,kw⟩) R s:=by
 obtain⟨hh,g,d,t,os⟩:=s;exact PySem.W.make_core (PySem.W.makes_of X hm) (PySem.W.looks_findIn X hi) (fun self=>PySem.W.bind_fn X self hf) (.inl rfl) h
end
def putF (f:Str) (v:V):List (Str×V)->List (Str×V)
 | []=>[(f,v)]
 | (g,x)::r=>if g=f then (g,v)::r else (g,x)::putF f v r
theorem a4n (f g:Str) (v:V):∀ fs:List (Str×V),(putF f v fs).lookup g=if g=f then some v else fs.lookup g
 | []=>by
  show List.lookup g [(f,v)]=_
  by_cases h:g=f
  ·have hb:(g==f)=true:=beq_iff_eq.mpr h;simp only[List.lookup,hb,if_pos h]
  ·have hb:(g==f)=false:=beq_eq_false_iff_ne.mpr h;simp only[List.lookup,hb,if_neg h]
 | (k,x)::r=>by
  have ih:=a4n f g v r;rw[show putF f v ((k,x)::r)=(if k=f then (k,v)::r else (k,x)::putF f v r) from rfl]
  by_cases hk:k=f
  ·rw[if_pos hk]
   by_cases h:g=k
   ·have hb:(g==k)=true:=beq_iff_eq.mpr h;simp only[List.lookup,hb,if_pos (h.trans hk)]
   ·have hb:(g==k)=false:=beq_eq_false_iff_ne.mpr h;simp only[List.lookup,hb,if_neg (fun e:g=f=>h (e.trans hk.symm))]
  ·rw[if_neg hk]
   by_cases h:g=k
   ·have hb:(g==k)=true:=beq_iff_eq.mpr h;simp only[List.lookup,hb,if_neg (fun e:g=f=>hk (h.symm.trans e))]
   ·have hb:(g==k)=false:=beq_eq_false_iff_ne.mpr h;simp only[List.lookup,hb];exact ih
theorem a4o (f:Str) (v:V):∀ fs:List (Str×V),f∈(putF f v fs).map (·.1)/\∀ g,g∈fs.map (·.1)->g∈(putF f v fs).map (·.1)
 | []=>⟨by simp[putF],fun g h=>by simp at h⟩
 | (k,x)::r=>by
  obtain⟨i1,i2⟩:=a4o f v r;rw[show putF f v ((k,x)::r)=(if k=f then (k,v)::r else (k,x)::putF f v r) from rfl]
  by_cases hk:k=f
  ·rw[if_pos hk];subst hk;exact⟨by simp,fun g h=>by simpa using h⟩
  ·rw[if_neg hk];refine⟨?_,fun g h=>?_⟩
   ·rw[List.map_cons];exact List.mem_cons_of_mem _ i1
   ·rw[List.map_cons]at h ⊢;rcases List.mem_cons.mp h with e | e
    ·exact List.mem_cons.mpr (.inl e)
    ·exact List.mem_cons_of_mem _ (i2 g e)
theorem a4p (f:Str) (v:V):∀ fs:List (Str×V),(putF f v fs).length≤fs.length+1
 | []=>by simp[putF]
 | (k,x)::r=>by
  have ih:=a4p f v r;rw[show putF f v ((k,x)::r)=(if k=f then (k,v)::r else (k,x)::putF f v r) from rfl]
  by_cases hk:k=f
  ·rw[if_pos hk,List.length_cons,List.length_cons];omega
  ·rw[if_neg hk,List.length_cons,List.length_cons];omega
theorem RelO.some_of {v:V}{o:Option Value}(r:RelO (some v) o):∃ u,o=some u/\RelV v u:=by
 cases o with
 | none=>exact (show False from r).elim
 | some u=>exact⟨u,rfl,r⟩
theorem RelO.none_of {o:Option Value}(r:RelO none o):o=none:=by
 cases o with
 | none=>rfl
 | some u=>exact (show False from r).elim
theorem a9c {v:V}{u:Value}(r:RelV v u):PySem.W.handedIn u=true:=by
 cases v with
 | non=>cases (show u=Value.none from r);rfl
 | bl b=>cases (show u=Value.bool b from r);rfl
 | int i=>obtain⟨t,e⟩:=(show ∃ t,u=Value.int i t from r);cases e;rfl
 | str x=>obtain⟨t,e⟩:=(show ∃ t,u=Value.str x t from r);cases e;rfl
 | byt b=>obtain⟨t,e⟩:=(show ∃ t,u=Value.bytes b t from r);cases e;rfl
 | flt b=>obtain⟨t,e⟩:=(show ∃ t,u=Value.float b t from r);cases e;rfl
 | ref a=>cases (show u=Value.ref a from r);rfl
 | ty n=>cases (show u=Value.type n from r);rfl
section
variable {P:Program}{w:World}{H H':Hp}{h h':Heap}{a C dx:Addr}{fs fs':List (Str×V)}
theorem a5w (hok:HOk P w H h) (e:H a=some (.ins C dx fs)):∃ mA,ObjM h a dx C mA/\(∀ f,RelO (fs.lookup f) (mA f))/\PySem.Within mA (fs.map (·.1))/\fs.length≤1000/\H dx=some (.own a):=by
 obtain⟨d,z,ne,ob,mA,n,r,q⟩:=(show ObjOk P w H h a (.ins C dx fs) from hok a _ e);exact⟨mA,⟨ob,n,ne⟩,r,q,z,d⟩
end
structure Cls (K:Fg) (C:Addr):Prop where
 pg:PySem.W.plainGet K C Str.empty=true
 hd:PySem.W.hasDictIn K C=true
 po:PySem.W.plainOver K C=true
 sa:PySem.W.findIn K (.ref C) "__setattr__"=some (some (.builtin "object.__setattr__"))
theorem Cls.get {K:Fg}{C:Addr}(c:Cls K C) (f:Str):PySem.W.plainGet K C f=true:=c.pg
def NoAttr (K:Fg) (C:Addr) (f:Str):Prop:=PySem.W.findIn K (.ref C) f=some none
theorem NoAttr.taker {K:Fg}{C:Addr}{f:Str}(n:NoAttr K C f):PySem.W.takerIn K C f=some none:=by
 unfold PySem.W.takerIn;rw[show PySem.W.findIn K (.ref C) f=some none from n]
 rfl
structure Meth (K:Fg) (C:Addr) (m:Str) (f:Addr):Prop where
 at_:PySem.W.findIn K (.ref C) m=some (some (.ref f))
 fn:PySem.W.isFn K (.ref f)=true
 kp:PySem.W.keepIn K (.ref f)=true
section
variable {X:Cx}{pins:List (Addr×Obj)}{σ:St}{H:Hp}{s:Shared}{a C dx:Addr}{fs:List (Str×V)}{f:Str}{v:V}{A:Around}{E:Value->Shared->Prop}
theorem a46 {b:Bool}{Q:Value->Shared->Prop}(I:Inv X pins σ H s) (e:H a=some (.ins C dx fs)) (c:Cls X.K C) (n:NoAttr X.K C f) (l:fs.lookup f=some v)
  (h:∀ u s',Inv X pins σ H s'->RelV v u->Q u s'):wpAny (model X.prog X.w) A (getAttr (.ref a) f b) Q E s:=by
 obtain⟨mA,O,r,_,_,_⟩:=a5w I.hok e;obtain⟨u,hu,ru⟩:=RelO.some_of (v:=v) (o:=mA f) (by rw[<- l];exact r f);exact b2H I.kIn O (c.get f) c.hd n hu (a9c ru) (h u _ (I.tok _) ru)
theorem a47 {m:Str}{g:Addr}{pl:Sem Bool}{Q:Value×List Value->Shared->Prop}(I:Inv X pins σ H s) (e:H a=some (.ins C dx fs)) (c:Cls X.K C) (k:Meth X.K C m g) (l:fs.lookup m=none)
  (h:Q (.ref g,[.ref a]) s):wpAny (model X.prog X.w) A (getMethod (.ref a) m pl) Q E s:=by
 obtain⟨mA,O,r,_,_,_⟩:=a5w I.hok e;have hn:mA m=none:=RelO.none_of (by rw[<- l];exact r m);exact b0R I.kIn O (c.get m) k.at_ k.fn hn h
theorem a48 {y:V}{u:Value}{Q:Unit->Shared->Prop}(I:Inv X pins σ H s) (e:H a=some (.ins C dx fs)) (c:Cls X.K C) (n:NoAttr X.K C f) (hl:fs.length<1000) (ry:RelV y u)
  (h:∀ s',Inv X pins σ (upd H a (.ins C dx (putF f y fs))) s'->Q () s'):wpAny (model X.prog X.w) A (setAttr (.ref a) f u) Q E s:=by
 obtain⟨mA,O,r,wi,_,ho⟩:=a5w I.hok e;have hz:(fs.map (·.1)).length≤sizeLine:=by rw[List.length_map,sizeLine_eq];omega
 refine b2I I.kIn O c.sa c.po n.taker c.hd wi hz fun h' O' sb=>h _ ?_;have hd:∃ o,h'.get? dx=some o:=let ⟨o,_,_,e',_⟩:=O'.ns;⟨o,e'⟩
 refine I.write (x:=a) (e:=dx) (by rw[e];exact True.intro) (.inr ho) (fun b q hb z=>(sb.2 b hb).trans z) hd ?_;refine⟨by rw[a0v O.ne];exact ho,?_,O.ne,O'.obj,_,O'.ns,fun g=>?_,fun g hg=>?_⟩
 ·have:=a4p f y fs;omega
 ·show RelO ((putF f y fs).lookup g) (if g=f then some u else mA g)
  rw[a4n]
  by_cases q:g=f
  ·rw[if_pos q,if_pos q];exact ry
  ·rw[if_neg q,if_neg q];exact r g
 ·by_cases q:g=f
  ·rw[q];exact (a4o f y fs).1
  ·refine (a4o f y fs).2 g (wi g fun z=>hg ?_)
   show (if g=f then some u else mA g)=none
   rw[if_neg q];exact z
theorem Inv.made (I:Inv X pins σ H s):Inv X pins σ (upd (upd H s.heap.objs.size (.own (s.heap.objs.size+1))) (s.heap.objs.size+1) (.ins C s.heap.objs.size []))
  { s with heap:=(s.heap.push PySem.W.emptyDict).push (PySem.W.instObj C s.heap.objs.size) }:=by
 have e1:(s.heap.push PySem.W.emptyDict).get? s.heap.objs.size=some PySem.W.emptyDict:=Heap.get?_push_size s.heap rfl;have e2:((s.heap.push PySem.W.emptyDict).push (PySem.W.instObj C s.heap.objs.size)).get? (s.heap.objs.size+1)=some (PySem.W.instObj C s.heap.objs.size):=by
  have:=Heap.get?_push_size (s.heap.push PySem.W.emptyDict) (o:=PySem.W.instObj C s.heap.objs.size) rfl
  rwa [Heap.size_push]at this
 have e3:(s.heap.push PySem.W.emptyDict).Ns s.heap.objs.size (fun _=>none):=⟨PySem.W.emptyDict,#[],_,e1,rfl,(fun e he=>absurd he (by simp)),fun _=>rfl⟩;have I1:=I.laid (a:=s.heap.objs.size) (o:=.own (s.heap.objs.size+1)) (h':=s.heap.push PySem.W.emptyDict) (t':=s.toks) (fun b u q=>Heap.get?_push_of_some _ q) (Nat.le_refl _) ⟨_,e1⟩;refine I1.laid (a:=s.heap.objs.size+1) (o:=.ins C s.heap.objs.size []) (t':=s.toks) (fun b u q=>Heap.get?_push_of_some _ q) (Nat.le_of_eq (Heap.size_push _ _)) ?_;have ne:s.heap.objs.size≠s.heap.objs.size+1:=Nat.ne_of_lt (Nat.lt_succ_self _);refine⟨by rw[a0v ne,a0y],Nat.zero_le _,ne,e2,fun _=>none,(Heap.Ns1.of_empty e3).at fun o q=>Heap.get?_push_of_some _ q,fun _=>True.intro,fun y hy=>absurd rfl hy⟩
theorem b2J {prog:Program}{w:World}{env:Env}{e:Expr}{f:Str}{pos:Pos}{s:Shared}{Q:Value->Shared->Prop}(hb:attributeBase e f env (eval e env)=eval e env)
  (h:wpAny (model prog w) A (eval e env) (fun o s₁=>wpAny (model prog w) A (getAttr o f true) Q E s₁) E s):wpAny (model prog w) A (eval (.Attribute e f pos) env) Q E s:=
 Attribute_any_ h (by rw[arm_eval_Attribute,hb])
end
def tFld (K:Fg) (ta:TE) (f:Str):TE:=fun σ H Q=>ta σ H fun x H1=>∃ a C dx fs v,x=.ref a/\H1 a=some (.ins C dx fs)/\Cls K C/\NoAttr K C f/\fs.lookup f=some v/\Q v H1
def sFld (K:Fg) (ta tv:TE) (f:Str):TS:=fun D σ H=>tv σ H fun y H1=>ta σ H1 fun x H2=>∃ a C dx fs,x=.ref a/\H2 a=some (.ins C dx fs)/\Cls K C/\NoAttr K C f/\fs.length<1000 /\
 D.nx σ (upd H2 a (.ins C dx (putF f y fs)))
def InOp (X:Cx) (op:Operator) (rd:V->V->Hp->VK->Prop):Prop:=
 ∀ (pins:List (Addr×Obj)) (s:Shared) (σ:St) (H:Hp) (x y:V) (u v:Value) (Q:VK),Inv X pins σ H s->RelV x u->RelV y v->rd x y H Q->wpAny (model X.prog X.w) X.A (inplaceOp op u v) (EP X pins σ Q) X.xe s
def b2K (K:Fg) (ta tv:TE) (rd:V->V->Hp->VK->Prop) (f:Str):TS:=fun D σ H=>ta σ H fun x H1=>∃ a C dx fs v,x=.ref a/\H1 a=some (.ins C dx fs)/\Cls K C/\NoAttr K C f/\fs.lookup f=some v /\
 tv σ H1 fun y H2=>rd v y H2 fun z H3=>∃ dx' fs',H3 a=some (.ins C dx' fs')/\fs'.length<1000/\D.nx σ (upd H3 a (.ins C dx' (putF f z fs')))
section
variable {X:Cx}{o e value:Expr}{f:Str}{pos pos' tpos:Pos}{ta tv:TE}
theorem b4n (he:PE X e ta) (hb:attributeBase e f X.env (eval e X.env)=eval e X.env):PE X (.Attribute e f pos) (tFld X.K ta f):=by
 intro pins s σ H Q I h;refine b2J hb (thn (he pins s σ H _ I h) fun u s1 ⟨x,H1,I1,rx,a,C,dx,fs,v,ex,ea,c,n,l,q⟩=>?_);subst ex;obtain rfl:u=Value.ref a:=rx;exact a46 I1 ea c n l fun u' s2 I2 ru=>⟨v,H1,I2,ru,q⟩
theorem b4o (ha:PE X o ta) (hv:PE X value tv) (hs:swapsWith value (some (.Attribute o f pos')) pos.line X.env=pure false):PS X (.Assign [.Attribute o f pos'] value pos) (sFld X.K ta tv f):=by
 intro pins s σ H D I h;refine plainObj_wpAny_Assign_Attribute (thn (hv pins s σ H _ I h) fun u s1 ⟨y,H1,I1,ry,q⟩=>thn (ha pins s1 σ H1 _ I1 q) fun ov s2 ⟨x,H2,I2,rx,a,C,dx,fs,ex,ea,c,n,l,q2⟩=>?_) hs;subst ex;obtain rfl:ov=Value.ref a:=rx;exact a48 I2 ea c n l ry fun s3 I3=>⟨σ,_,I3,q2⟩
theorem a9d {op:Operator}{rd:V->V->Hp->VK->Prop}(ha:PE X o ta) (hv:PE X value tv) (hop:InOp X op rd):PS X (.AugAssign (.Attribute o f tpos) op value pos) (b2K X.K ta tv rd f):=by
 intro pins s σ H D I h;refine wpAny_AugAssign_AttributeAny (thn (ha pins s σ H _ I h) fun ov s1 ⟨x,H1,I1,rx,a,C,dx,fs,v,ex,ea,c,n,l,q⟩=>?_);subst ex;obtain rfl:ov=Value.ref a:=rx;refine a46 I1 ea c n l fun u s2 I2 ru=>thn (hv pins s2 σ H1 _ I2 q) fun w3 s3 ⟨y,H2,I3,ry,q3⟩=>thn (hop pins s3 σ H2 v y u w3 _ I3 ru ry q3) fun w4 s4 ⟨z,H3,I4,rz,dx',fs',ea',l',q4⟩=>?_;exact a48 I4 ea' c n l' rz fun s5 I5=>⟨σ,_,I5,q4⟩
end
section
variable {X:Cx}{pins:List (Addr×Obj)}{σ:St}{H:Hp}{s:Shared}{A:Around}{E:Value->Shared->Prop}{Q:Value->Shared->Prop}{c:Value}{b:Bool}
inductive TyOf (K:Fg) (H:Hp):V->Value->Prop where
 | non:TyOf K H .non (.type "NoneType")
 | bl (x:Bool):TyOf K H (.bl x) (.type "bool")
 | int (i:Int):TyOf K H (.int i) (.type "int")
 | str (x:Str):TyOf K H (.str x) (.type "str")
 | flt (x:UInt64):TyOf K H (.flt x) (.type "float")
 | lst {a:Addr} {xs:List V} (e:H a=some (.lst xs)):TyOf K H (.ref a) (.type "list")
 | frz {a:Addr} {o:Obj} {xs:List V} (e:H a=some (.frz o (.lst xs))):TyOf K H (.ref a) (.type "list")
 | tup {a:Addr} {xs:List V} (e:H a=some (.tup xs)):TyOf K H (.ref a) (.type "tuple")
 | dK {a:Addr} {kvs:List (Key×V)} (e:H a=some (.dK kvs)):TyOf K H (.ref a) (.type "dict")
 | dT {a:Addr} {kvs:List (List Key×V)} (e:H a=some (.dT kvs)):TyOf K H (.ref a) (.type "dict")
 | ins {a C dx:Addr} {fs:List (Str×V)} (e:H a=some (.ins C dx fs)) (cl:Cls K C) (ha:PySem.W.findIn K (.ref C) "__class__"=some (some (.builtin "object.__class__")))
   (hn:PySem.W.specialIn K (.builtin "object.__class__") "__get__"=some (some (.builtin "getset_descriptor.__get__"))) (htk:PySem.W.takesIn K (.builtin "object.__class__")=some true)
   (hm:PySem.W.mroIn K C (.type "object")=some true):TyOf K H (.ref a) (.ref C)
theorem a9e {x:V}{u t:Value}(I:Inv X pins σ H s) (rx:RelV x u) (ty:TyOf X.K H x t) (e:PySem.W.kitOne X.K t c=some b) (h:∀ tk,Q (.bool b) { s with toks:=tk }) :
  wpAny (model X.prog X.w) A (call (.builtin "isinstance") [u,c]) Q E s:=by
 cases ty with
 | non=>cases (show u=Value.none from rx);exact PySem.W.kia_one PySem.W.kitx_none I.kIn True.intro e (fun z=>nomatch z) h
 | bl y=>cases (show u=Value.bool y from rx);exact PySem.W.kia_one PySem.W.kitx_bool I.kIn True.intro e (fun z=>nomatch z) h
 | int i=>obtain⟨t,q⟩:=(show ∃ t,u=Value.int i t from rx);cases q;exact PySem.W.kia_one PySem.W.kitx_int I.kIn True.intro e (fun z=>nomatch z) h
 | str y=>obtain⟨t,q⟩:=(show ∃ t,u=Value.str y t from rx);cases q;exact PySem.W.kia_one PySem.W.kitx_str I.kIn True.intro e (fun z=>nomatch z) h
 | flt y=>obtain⟨t,q⟩:=(show ∃ t,u=Value.float y t from rx);cases q;exact PySem.W.kia_one PySem.W.kitx_float I.kIn True.intro e (fun z=>nomatch z) h
 | @lst a xs ea=>
  cases (show u=Value.ref a from rx);obtain⟨_,_,n,_,h1⟩:=(show ObjOk X.prog X.w H s.heap a (.lst xs) from I.hok a _ ea);exact PySem.W.kia_one PySem.W.kitx_list I.kIn ⟨_,h1,rfl⟩ e (fun z=>nomatch z) h
 | @frz a ob xs ea=>
  cases (show u=Value.ref a from rx);obtain⟨_,_,_,n,_,h1⟩:=(show ObjOk X.prog X.w H s.heap a (.frz ob (.lst xs)) from I.hok a _ ea);exact PySem.W.kia_one PySem.W.kitx_list I.kIn ⟨_,h1,rfl⟩ e (fun z=>nomatch z) h
 | @tup a xs ea=>
  cases (show u=Value.ref a from rx);obtain⟨_,_,_,p⟩:=(show ObjOk X.prog X.w H s.heap a (.tup xs) from I.hok a _ ea);obtain⟨o,h1,h2,_⟩:=p;exact PySem.W.kia_one PySem.W.kitx_tuple I.kIn ⟨o,h1,h2⟩ e (fun z=>nomatch z) h
 | @dK a kvs ea=>
  cases (show u=Value.ref a from rx);obtain⟨_,_,vs,_,p⟩:=(show ObjOk X.prog X.w H s.heap a (.dK kvs) from I.hok a _ ea);obtain⟨o,es,ep,h1,h2,_⟩:=p;exact PySem.W.kia_one PySem.W.kitx_dict I.kIn ⟨o,h1,h2.1⟩ e (fun z=>nomatch z) h
 | @dT a kvs ea=>
  cases (show u=Value.ref a from rx);obtain⟨_,_,xs,_,o,es,ep,h1,h2,_⟩:=(show ObjOk X.prog X.w H s.heap a (.dT kvs) from I.hok a _ ea);exact PySem.W.kia_one PySem.W.kitx_dict I.kIn ⟨o,h1,h2.1⟩ e (fun z=>nomatch z) h
 | @ins a C dx fs ea cl ha hn htk hm=>
  cases (show u=Value.ref a from rx);obtain⟨mA,O,_⟩:=a5w I.hok ea;obtain⟨od,J,_⟩:=O.look;exact PySem.W.kia_one (PySem.W.kitx_own (cl.get _) cl.hd ha hn htk hm) I.kIn J e (fun z=>nomatch z) h
end
end L2
namespace L2
open PySem PySem.Spec PyProof.Rows
structure Room (k:Nat) (A:Around):Prop where
 hd:A.handled=none
 dp:A.depth+3*k+5<recursionLimit
 un:A.units+16*k+200<cLine
theorem Room.mono {j k:Nat}{A:Around}(r:Room k A) (h:j≤k):Room j A:=⟨r.hd,by have:=r.dp;omega,by have:=r.un;omega⟩
theorem Room.deeper {k:Nat}{A:Around}(r:Room (k+1) A) (env:Env):Room k (A.deeper env):=
 ⟨r.hd,by have:=r.dp;show A.depth+1+3*k+5<_;omega,by have:=r.un;show A.units+3+16*k+200<_;omega⟩
theorem Room.in1 {k:Nat}{A:Around}(r:Room (k+1) A):Room k A.in1:=
 ⟨r.hd,by have:=r.dp;show A.depth+3*k+5<_;omega,by have:=r.un;show A.units+1+16*k+200<_;omega⟩
theorem a8s {A:Around}{C:Addr}{us:List Value}{kw:List (Str×Value)}:(A.under (.builtin "type.__call__" ⟨.ref C::us,kw⟩)).depth=A.depth+1:=by
 first | rfl | simp[Around.under,Code.weight,Code.isCreation,Code.isGuard,Code.isCaller,Code.frames,Code.isFrame,guardIds]
theorem a8t {A:Around}{C:Addr}{us:List Value}{kw:List (Str×Value)}:(A.under (.builtin "type.__call__" ⟨.ref C::us,kw⟩)).units=A.units+1:=by
 first | rfl | simp[Around.under,Code.cUnits,Code.frames,Code.isFrame]
theorem Room.make {k:Nat}{A:Around}(r:Room (k+1) A) (C:Addr) (us:List Value) (kw:List (Str×Value)):Room k (A.under (.builtin "type.__call__" ⟨.ref C::us,kw⟩)):=
 ⟨r.hd,by have:=r.dp;rw[a8s];omega,by have:=r.un;rw[a8t];omega⟩
theorem Room.depth {k:Nat}{A:Around}(r:Room k A):A.depth<recursionLimit:=by have:=r.dp;omega
theorem Room.units {k:Nat}{A:Around}(r:Room k A):A.units+64<cLine:=by have:=r.un;omega
def tNil:TA:=fun _ H Q=>Q [] H
def b6t (ta:TE) (tr:TA):TA:=fun σ H Q=>ta σ H fun x H1=>tr σ H1 fun xs H2=>Q (x::xs) H2
section
variable {X:Cx}{e:Expr}{es:List Expr}{te:TE}{t:TA}{pos:Pos}
theorem b4p:PA X [] tNil:=fun _ _ _ _ H Q I h=>Calls.spliced_nil ⟨[],H,I,.nil,h⟩
theorem b2L (ha:PE X e te) (hr:PA X es t) (hs:starEach (e::es) X.env=(false,eval e X.env)::starEach es X.env:=by rfl):PA X (e::es) (b6t te t):=by
 intro pos pins s σ H Q I h;rw[hs]
 show wpAny _ _ (spliced ((false,eval e X.env)::backTo pos (starEach es X.env))) _ _ s
 refine Calls.spliced_cons (thn (ha pins s σ H _ I h) fun u s1 ⟨x,H1,I1,r1,q1⟩=>?_);exact thn (hr pos pins s1 σ H1 _ I1 q1) fun us s2 ⟨xs,H2,I2,r2,q2⟩=>⟨x::xs,H2,I2,.cons r1 r2,q2⟩
def tTup (t:TA):TE:=fun σ H Q=>t σ H fun xs H1=>xs.length≤sizeLine/\∀ p,H1 p=none->Q (.ref p) (upd H1 p (.tup xs))
def tLst (t:TA):TE:=fun σ H Q=>t σ H fun xs H1=>xs.length≤sizeLine/\∀ p,H1 p=none->Q (.ref p) (upd H1 p (.lst xs))
theorem b4q {x1} (h:PA X es t):PE X (.Tuple es x1 pos) (tTup t):=by
 intro pins s σ H Q I hq;refine wpAny_Tuple_spliced (thn (h pos pins s σ H _ I hq) fun us s1 ⟨xs,H1,I1,r,z,q⟩=>⟨by rw[<- r.length];exact z,?_⟩);have hf:H1 s1.heap.objs.size=none:=I1.hok.fresh (Nat.le_refl _);refine⟨.ref s1.heap.objs.size,upd H1 s1.heap.objs.size (.tup xs),I1.laid (t':=s1.toks) (fun b u e=>Heap.get?_push_of_some _ e) (Nat.le_refl _) ?_,rfl,q _ hf⟩;exact⟨z,us,r,⟨_,Heap.get?_push_size _ rfl,rfl,_,rfl⟩⟩
theorem b4r (h:PA X es t):PE X (.List es pos) (tLst t):=by
 intro pins s σ H Q I hq;refine wpAny_List_spliced (thn (h pos pins s σ H _ I hq) fun us s1 ⟨xs,H1,I1,r,z,q⟩=>⟨by rw[<- r.length];exact z,?_⟩);have hf:H1 s1.heap.objs.size=none:=I1.hok.fresh (Nat.le_refl _);refine⟨.ref s1.heap.objs.size,upd H1 s1.heap.objs.size (.lst xs),I1.laid (t':=s1.toks) (fun b u e=>Heap.get?_push_of_some _ e) (Nat.le_refl _) ?_,rfl,q _ hf⟩;exact⟨z,us,0,r,Heap.get?_push_size _ rfl⟩
end
abbrev Sp:=List V->Hp->VK->XK->Prop
abbrev CXT:=List Env->Hp->Shared->XK->Value->Shared->Prop
structure Env0 (P:Program) (w:World) (K:Fg) (mg:Str->Option Value) (base:Heap) (A:Around) (outer:List Env) (s:Shared) (H:Hp):Prop where
 frames:A.frames=some outer
 mod:Mod K mg base
 bs:∀ b o,base.get? b=some o->s.heap.get? b=some o/\H b=none
 bsz:base.objs.size≤s.heap.objs.size
 funs:s.heap.FunFrames base outer
 frf:∀ b∈frs outer,H b=none
 hok:HOk P w H s.heap
 bare:AllBare s.gens
def CE (outer:List Env) (P:Program) (w:World) (H:Hp) (s:Shared) (Q:VK) (u:Value) (s':Shared):Prop:=
 ∃ v H',s'.os=s.os/\AllBare s'.gens/\Un (frs outer) [] H H' s.heap s'.heap/\HOk P w H' s'.heap/\RelV v u/\Q v H'
def CR (CX:CXT) (outer:List Env) (P:Program) (w:World) (H:Hp) (s:Shared) (Q:VK) (E:XK) (r:Result) (s':Shared):Prop:=
 match r with
 | .ok (.ret u)=>CE outer P w H s Q u s'
 | .ok _=>False
 | .error e=>CX outer H s E e s'
structure FnOk (P:Program) (w:World) (K:Fg) (mg:Str->Option Value) (base:Heap) (CX:CXT) (k:Nat) (f:Addr) (fd:FuncData) (ps:List Str) (sp:Sp):Prop where
 len:∀ vs H Q E,sp vs H Q E->vs.length=ps.length
 run:∀ (A:Around) (outer:List Env) (s:Shared) (H:Hp) (args:Args) (us:List Value) (vs:List V) (Q:VK) (E:XK),Room k A->Env0 P w K mg base A outer s H->BindsTo s fd args (ps.zip us)->Vals vs us->sp vs H Q E ->
  codeAny (model P w) A (.call (.ref f) args) (CR CX outer P w H s Q E) s
theorem FnOk.mono {P:Program}{w:World}{K:Fg}{mg:Str->Option Value}{base:Heap}{CX:CXT}{j k:Nat}{f:Addr}{fd:FuncData}{ps:List Str}{sp:Sp}(F:FnOk P w K mg base CX j f fd ps sp) (h:j≤k) :
  FnOk P w K mg base CX k f fd ps sp:=⟨F.len,fun A outer s H args us vs Q E hr=>F.run A outer s H args us vs Q E (hr.mono h)⟩
theorem FnOk.imp {P:Program}{w:World}{K:Fg}{mg:Str->Option Value}{base:Heap}{CX:CXT}{k:Nat}{f:Addr}{fd:FuncData}{ps:List Str}{sp sp':Sp}(F:FnOk P w K mg base CX k f fd ps sp)
  (h:∀ vs H Q E,sp' vs H Q E->sp vs H Q E):FnOk P w K mg base CX k f fd ps sp':=
 ⟨fun vs H Q E q=>F.len vs H Q E (h _ _ _ _ q),fun A outer s H args us vs Q E hr he hb hv hs=>F.run A outer s H args us vs Q E hr he hb hv (h _ _ _ _ hs)⟩
theorem Env0.make {P:Program}{w:World}{K:Fg}{mg:Str->Option Value}{base:Heap}{A:Around}{outer:List Env}{s:Shared}{H:Hp}(e:Env0 P w K mg base A outer s H) (C:Addr) (us:List Value) (kw:List (Str×Value)) :
  Env0 P w K mg base (A.under (.builtin "type.__call__" ⟨.ref C::us,kw⟩)) outer s H:=⟨by first | exact e.frames | (simpa[Around.under,Code.envs,Code.isFrame,pushEnvs]using e.frames),e.mod,e.bs,e.bsz,e.funs,e.frf,e.hok,e.bare⟩
theorem Env0.in1 {P:Program}{w:World}{K:Fg}{mg:Str->Option Value}{base:Heap}{A:Around}{outer:List Env}{s:Shared}{H:Hp}(e:Env0 P w K mg base A outer s H) :
  Env0 P w K mg base A.in1 outer s H:=⟨e.frames,e.mod,e.bs,e.bsz,e.funs,e.frf,e.hok,e.bare⟩
section
variable {X:Cx}{pins:List (Addr×Obj)}{σ:St}{H:Hp}{s s':Shared}
theorem Inv.env0 (I:Inv X pins σ H s):Env0 X.prog X.w X.K X.mg X.base X.A X.stack s H:=
 ⟨I.ok.frames,I.ok.mod,I.bs,Nat.le_trans I.ok.bsz I.sz,I.stack,I.stkFree,I.hok,I.bare⟩
theorem Inv.after {Q:VK}{u:Value}(I:Inv X pins σ H s) (h:CE X.stack X.prog X.w H s Q u s'):EP X pins σ Q u s':=by
 obtain⟨v,H',os,bare,un,hok,r,q⟩:=h;obtain⟨hh,g,d,t,os'⟩:=s';obtain rfl:os'=s.os:=os;exact⟨v,H',I.call (h':=hh) (g':=g) (d':=d) (t':=t) (ch:=[]) un hok bare (fun b z=>absurd z (by simp)),r,q⟩
end
def b6u (sp:Sp) (dvs:List V) (E:XK) (t:TA):TE:=fun σ H Q=>t σ H fun vs H1=>sp (vs++dvs) H1 Q E
def b2M (C:Addr) (m:Str) (sp:Sp) (dvs:List V) (E:XK) (ta:TE) (t:TA):TE:=fun σ H Q=>ta σ H fun x H1=>∃ a dx fs,x=.ref a/\H1 a=some (.ins C dx fs)/\fs.lookup m=none /\
 t σ H1 fun vs H2=>sp (x::(vs++dvs)) H2 Q E
def b6v (C:Addr) (sp:Sp) (dvs:List V) (E:XK) (t:TA):TE:=fun σ H Q=>t σ H fun vs H1=>∀ x dx,H1 x=none->H1 dx=none->dx≠x ->
 sp (.ref x::(vs++dvs)) (upd (upd H1 dx (.own x)) x (.ins C dx [])) (fun v H2=>v=.non/\Q (.ref x) H2) E
def Binds (K:Fg) (fd:FuncData) (ps:List Str) (ds:List Value):Prop:=
 ∀ (s:Shared) (us:List Value),K.In s.heap->(us++ds).length=ps.length->BindsTo s fd ⟨us,[]⟩ (ps.zip (us++ds))
theorem Binds.all {K:Fg}{fd:FuncData}{ps:List Str}(h:∀ us:List Value,us.length=ps.length->bindArgs fd ⟨us,[]⟩=pure (ps.zip us)):Binds K fd ps []:=fun s us _ hl=>by
 rw[List.append_nil]at hl ⊢;exact .of_eq (h us hl)
def a2v (CX:CXT) (X:Cx) (E:XK):Prop:=∀ (pins:List (Addr×Obj)) (σ:St) (H:Hp) (s:Shared) (e:Value) (s':Shared),Inv X pins σ H s->CX X.stack H s E e s'->X.xe e s'
section
variable {X:Cx}{CX:CXT}{k:Nat}{f C:Addr}{fd:FuncData}{ps:List Str}{sp:Sp}{dvs:List V}{ds:List Value}{E:XK}{x m:Str}{p pos apos:Pos}{e o:Expr}{es:List Expr}{ta:TE}{t:TA}
theorem a9f {pins:List (Addr×Obj)}{σ:St}{H:Hp}{s:Shared}{Q:VK}{us:List Value}{vs:List V}(F:FnOk X.prog X.w X.K X.mg X.base CX k f fd ps sp) (hr:Room k X.A) (hb:Binds X.K fd ps ds) (hd:Vals dvs ds) (hx:a2v CX X E)
  (I:Inv X pins σ H s) (r:Vals vs us) (h:sp (vs++dvs) H Q E):wpAny (model X.prog X.w) X.A (call (.ref f) us) (EP X pins σ Q) X.xe s:=by
 have r2:Vals (vs++dvs) (us++ds):=r.append hd;have hl:(us++ds).length=ps.length:=by rw[<- r2.length];exact F.len _ _ _ _ h
 refine wpAny_call (codeAny_mono (F.run X.A X.stack s H ⟨us,[]⟩ (us++ds) (vs++dvs) Q E hr I.env0 (hb s us I.kIn hl) r2 h) fun r s' hq=>?_);cases r with
 | error e=>exact hx pins σ H s e s' I hq
 | ok fl=>
  cases fl with
  | ret u=>exact I.after hq
  | next=>exact False.elim hq
  | brk=>exact False.elim hq
  | cont=>exact False.elim hq
theorem a9g (F:FnOk X.prog X.w X.K X.mg X.base CX k f fd ps sp) (hr:Room k X.A) (hg:Gl X x) (hm:X.mg x=some (.ref f)) (hk:PySem.W.keepIn X.K (.ref f)=true) (hb:Binds X.K fd ps ds) (hd:Vals dvs ds) (hx:a2v CX X E)
  (ha:PA X (e::es) t) (hdb:(x==("__debug__":Str))=false:=by decide) (he:starEach (e::es) X.env=(false,eval e X.env)::starEach es X.env:=by rfl) (hpl:(backTo pos (starEach es X.env)).any (·.1)=false:=by rfl) :
  PE X (.Call (.Name x p) (e::es) [] pos) (b6u sp dvs E t):=by
 intro pins s σ H Q I h;refine wpAny_Call_Name_kw (a5v I hg hm ?_ hdb);refine PySem.W.callWith_K (h₀:=X.base) I.ok.mod.kin hk (thn (ha pos pins s σ H _ I h) fun us s1 ⟨vs,H1,I1,r,q⟩=>⟨I1.kIn,?_⟩) he hpl;exact a9f F hr hb hd hx I1 r q
theorem a9h {pl:Sem Bool}(he:PE X o ta) (c:Cls X.K C) (hm:Meth X.K C m f) (F:FnOk X.prog X.w X.K X.mg X.base CX k f fd ps sp) (hr:Room k X.A) (hb:Binds X.K fd ps ds) (hd:Vals dvs ds) (hx:a2v CX X E) (ha:PA X (e::es) t)
  (hst:starEach (e::es) X.env=(false,eval e X.env)::starEach es X.env:=by rfl) (hpl:(backTo pos (starEach es X.env)).any (·.1)=false:=by rfl)
  (ht:eval (.Call (.Attribute o m apos) (e::es) [] pos) X.env=(do
   let ov <- eval o X.env
   standAt apos.atName
   let (f,first) <- holding [ov] (getMethod ov m pl)
   callWith pos f first (backTo pos (starEach (e::es) X.env)) (backToKw pos (keywordEach [] X.env))):=by rfl) :
  PE X (.Call (.Attribute o m apos) (e::es) [] pos) (b2M C m sp dvs E ta t):=by
 intro pins s σ H Q I h;refine PySem.W.methodCall_KW (pl:=pl) (thn (he pins s σ H _ I h) fun u s1 ⟨x,H1,I1,rx,a,dx,fs,ex,ea,l,q⟩=>?_) ht;subst ex;obtain rfl:u=Value.ref a:=rx;refine a47 I1 ea c hm l ?_;refine PySem.W.callWith_K (first:=[.ref a]) (h₀:=X.base) I.ok.mod.kin hm.kp (thn (ha pos pins s1 σ H1 _ I1 q) fun us s2 ⟨vs,H2,I2,r,q2⟩=>⟨I2.kIn,?_⟩) hst hpl;exact a9f (us:=.ref a::us) (vs:=.ref a::vs) F hr hb hd hx I2 (.cons rfl r) q2
theorem b0T {pl:Sem Bool}(he:PE X o ta) (c:Cls X.K C) (hm:Meth X.K C m f) (F:FnOk X.prog X.w X.K X.mg X.base CX k f fd ps sp) (hr:Room k X.A) (hb:Binds X.K fd ps ds) (hd:Vals dvs ds) (hx:a2v CX X E)
  (ht:eval (.Call (.Attribute o m apos) [] [] pos) X.env=(do
   let ov <- eval o X.env
   standAt apos.atName
   let (f,first) <- holding [ov] (getMethod ov m pl)
   callWith pos f first (backTo pos (starEach [] X.env)) (backToKw pos (keywordEach [] X.env))):=by rfl) :
  PE X (.Call (.Attribute o m apos) [] [] pos) (b2M C m sp dvs E ta tNil):=by
 intro pins s σ H Q I h;refine PySem.W.methodCall_KW (pl:=pl) (thn (he pins s σ H _ I h) fun u s1 ⟨x,H1,I1,rx,a,dx,fs,ex,ea,l,q⟩=>?_) ht;subst ex;obtain rfl:u=Value.ref a:=rx;refine a47 I1 ea c hm l ?_;exact PySem.W.callWith_K0 (first:=[.ref a]) I1.kIn hm.kp (a9f (us:=[.ref a]) (vs:=[.ref a]) F hr hb hd hx I1 (.cons rfl .nil) q)
structure Mk (K:Fg) (C f:Addr):Prop where
 makes:PySem.W.makesIn K C=true
 init:PySem.W.findIn K (.ref C) "__init__"=some (some (.ref f))
 fn:PySem.W.isFn K (.ref f)=true
 kp:PySem.W.keepIn K (.ref C)=true
theorem b0U {pins:List (Addr×Obj)}{σ:St}{H:Hp}{s:Shared}{Q:VK}{us:List Value}{vs:List V}(M:Mk X.K C f) (F:FnOk X.prog X.w X.K X.mg X.base CX k f fd ps sp) (hr:Room (k+1) X.A) (hb:Binds X.K fd ps ds) (hd:Vals dvs ds)
  (hx:a2v CX X E) (I:Inv X pins σ H s) (r:Vals vs us)
  (h:∀ x dx,H x=none->H dx=none->dx≠x->sp (.ref x::(vs++dvs)) (upd (upd H dx (.own x)) x (.ins C dx [])) (fun v H2=>v=.non/\Q (.ref x) H2) E) :
  wpAny (model X.prog X.w) X.A (call (.ref C) us) (EP X pins σ Q) X.xe s:=by
 have hq:=h (s.heap.objs.size+1) s.heap.objs.size (I.hok.fresh (Nat.le_succ _)) (I.hok.fresh (Nat.le_refl _)) (Nat.ne_of_lt (Nat.lt_succ_self _));have I2:=Inv.made (C:=C) I;have r2:Vals (V.ref (s.heap.objs.size+1)::(vs++dvs)) (Value.ref (s.heap.objs.size+1)::(us++ds)):=.cons rfl (r.append hd);have hl:(Value.ref (s.heap.objs.size+1)::us++ds).length=ps.length:=by
  have e:=r2.length;rw[F.len _ _ _ _ hq]at e;exact e.symm
 refine wpAny_call (b0S (f:=f) I.kIn M.makes M.init (beq_iff_eq.mp M.fn) (codeAny_mono (F.run _ X.stack _ _ ⟨Value.ref (s.heap.objs.size+1)::us,[]⟩ (Value.ref (s.heap.objs.size+1)::(us++ds)) _ _ E (hr.make C us [])
  (I2.env0.make C us []) (hb _ (Value.ref (s.heap.objs.size+1)::us) I2.kIn hl) r2 hq) fun r s' hq'=>?_))
 cases r with
 | error e=>exact hx pins σ _ _ e s' I2 hq'
 | ok fl=>
  cases fl with
  | ret u=>
   obtain⟨v,H',I3,rv,ev,q3⟩:=I2.after hq';subst ev;exact⟨rv,⟨V.ref (s.heap.objs.size+1),H',I3,rfl,q3⟩⟩
  | next=>exact False.elim hq'
  | brk=>exact False.elim hq'
  | cont=>exact False.elim hq'
theorem b0V (M:Mk X.K C f) (F:FnOk X.prog X.w X.K X.mg X.base CX k f fd ps sp) (hr:Room (k+1) X.A) (hg:Gl X x) (hm:X.mg x=some (.ref C)) (hb:Binds X.K fd ps ds) (hd:Vals dvs ds) (hx:a2v CX X E)
  (hdb:(x==("__debug__":Str))=false:=by decide):PE X (.Call (.Name x p) [] [] pos) (b6v C sp dvs E tNil):=by
 intro pins s σ H Q I h;refine wpAny_Call_Name_kw (a5v I hg hm ?_ hdb);exact PySem.W.callWith_K0 I.kIn M.kp (b0U (us:=[]) M F hr hb hd hx I .nil h)
end
section
variable {X:Cx}{CX:CXT}{k:Nat}{f C:Addr}{fd:FuncData}{ps ks:List Str}{sp:Sp}{E:XK}{x m:Str}{p pos apos kpos:Pos}{e o:Expr}{es:List Expr}{kws:List Keyword}{te ta:TE}{t tk:TA}{nm:Option Str}
variable {g:List Value->List Value->List Value}{gV:List V->List V->List V}
end
structure FnScope (N P:List Str) (sc:Scope):Prop where
 kind:sc.kind=.function
 co:sc.isCoroutine=false
 gen:sc.isGenerator=false
 nd:N.Nodup
 pre:N.take P.length=P
 par:∀ x∈P,sc.names.lookup x=some .local\/sc.names.lookup x=some .cell
 nofree:∀ y∈sc.names,y.2≠.free
theorem a6c {kindOf:Str->Option NameKind}{x:Str}:∀ {binds:List (Str×Value)}{m:Str->Option Value},(∀ v,(x,v)∉binds)->bindL kindOf binds m x=m x
 | [],_,_=>rfl
 | (n,v)::r,m,h=>by
  unfold bindL;rw[a6c fun w hw=>h w (List.mem_cons_of_mem _ hw)]
  split
  ·have:x≠n:=by rintro rfl;exact h v List.mem_cons_self
   simp[this]
  ·rfl
theorem a6d {kindOf:Str->Option NameKind}{x:Str}:∀ {binds:List (Str×Value)}{m:Str->Option Value},(∀ v,(x,v)∉binds)->bindC kindOf binds m x=m x
 | [],_,_=>rfl
 | (n,v)::r,m,h=>by
  unfold bindC;rw[a6d fun w hw=>h w (List.mem_cons_of_mem _ hw)]
  split
  ·rfl
  ·have:x≠n:=by rintro rfl;exact h v List.mem_cons_self
   simp[this]
theorem a6e {kindOf:Str->Option NameKind}{x:Str}{v:Value}:∀ {P:List Str}{vs:List Value}{i:Nat}{m:Str->Option Value},P.Nodup->P[i]?=some x->vs[i]?=some v->kindOf x=some .local ->
  bindL kindOf (P.zip vs) m x=some v
 | [],_,_,_,_,h,_,_=>by simp at h
 | _::_,[],_,_,_,_,h,_=>by simp at h
 | p::P,w::vs,0,m,nd,h1,h2,hk=>by
  simp at h1 h2;subst h1;subst h2
  show bindL kindOf ((p,w)::P.zip vs) m p=_
  unfold bindL;rw[a6c fun v hv=>(List.nodup_cons.mp nd).1 (List.of_mem_zip hv).1,if_pos hk];simp
 | p::P,w::vs,i+1,m,nd,h1,h2,hk=>by
  show bindL kindOf ((p,w)::P.zip vs) m x=_
  unfold bindL;exact a6e (i:=i) (List.nodup_cons.mp nd).2 (by simpa using h1) (by simpa using h2) hk
theorem a6f {kindOf:Str->Option NameKind}{x:Str}{v:Value}:∀ {P:List Str}{vs:List Value}{i:Nat}{m:Str->Option Value},P.Nodup->P[i]?=some x->vs[i]?=some v->kindOf x≠some .local ->
  bindC kindOf (P.zip vs) m x=some v
 | [],_,_,_,_,h,_,_=>by simp at h
 | _::_,[],_,_,_,_,h,_=>by simp at h
 | p::P,w::vs,0,m,nd,h1,h2,hk=>by
  simp at h1 h2;subst h1;subst h2
  show bindC kindOf ((p,w)::P.zip vs) m p=_
  unfold bindC;rw[a6d fun v hv=>(List.nodup_cons.mp nd).1 (List.of_mem_zip hv).1,if_neg hk];simp
 | p::P,w::vs,i+1,m,nd,h1,h2,hk=>by
  show bindC kindOf ((p,w)::P.zip vs) m x=_
  unfold bindC;exact a6f (i:=i) (List.nodup_cons.mp nd).2 (by simpa using h1) (by simpa using h2) hk
def start (N:List Str) (vs:List V):St:=vs.map some++List.replicate (N.length - vs.length) none
def cxOf (CX:CXT) (P:Program) (w:World) (K:Fg) (mg:Str->Option Value) (base:Heap) (N:List Str) (qual:Str) (scope:Scope) (f:Addr) (cd:Value) (A:Around) (outer:List Env) (s:Shared) (H:Hp) (E:XK):Cx where
 prog:=P
 w:=w
 K:=K
 mg:=mg
 base:=base
 A:=A.deeper (envOfC qual scope s.heap.objs.size f cd)
 N:=N
 s₀:=s
 H₀:=H
 env:=envOfC qual scope s.heap.objs.size f cd
 outer:=outer
 stack:=envOfC qual scope s.heap.objs.size f cd::outer
 ex:=[]
 calm:=true
 fn:=fun _=>true
 pn:=[]
 xe:=fun e s'=>wpAny (model P w) (A.deeper (envOfC qual scope s.heap.objs.size f cd)) (leaving (envOfC qual scope s.heap.objs.size f cd) e) (fun _ s''=>CX outer H s E e s'') (fun e' s''=>CX outer H s E e' s'') s'
theorem a7x {sc:Scope}{n:Nat}{x:Str}(h:sc.names.lookup x=some .cell):∃ c,(cellsFrom n sc.names []).lookup x=some c:=by
 have q:=PySem.W.cellsFrom_some sc.names n [] (.inl h);exact Option.isSome_iff_exists.mp q
theorem a9i {CX:CXT}{P:Program}{w:World}{K:Fg}{mg:Str->Option Value}{base:Heap}{N ps:List Str}{qual:Str}{scope:Scope}{f:Addr}{cd:Value}{A:Around}{outer:List Env}{s s1:Shared}{H:Hp}{E:XK}{us:List Value}{vs:List V}
  (S:FnScope N ps scope) (hd:A.handled=none) (e0:Env0 P w K mg base A outer s H) (hl:vs.length=ps.length) (r:Vals vs us)
  (x:InCallC s s.heap.objs.size (bindL (envOfC qual scope s.heap.objs.size f cd).kindOf (ps.zip us) fun _=>none) (cellsFrom (s.heap.objs.size+1) scope.names []) (bindC (envOfC qual scope s.heap.objs.size f cd).kindOf (ps.zip us) fun _=>none) s1) :
  Inv (cxOf CX P w K mg base N qual scope f cd A outer s H E) [] (start N vs) H s1:=by
 have hpl:ps.length≤N.length:=by have:=congrArg List.length S.pre;rw[List.length_take]at this;omega
 obtain⟨h1,tk,rfl,hk⟩:=x.done;have noA:∀ b:Addr,b∉(cxOf CX P w K mg base N qual scope f cd A outer s H E).ex:=fun b z=>absurd (show b∈([]:List Addr) from z) (by simp);refine⟨⟨e0.mod,S.kind,rfl,rfl,Nat.le_refl _,fun y z c h1 h2=>?_,fun y hy=>?_,fun y c _ h=>?_,fun _=>hd,Around.frames_deeper e0.frames,.inr ⟨rfl,rfl⟩,fun b z=>absurd z (noA b),e0.bs,e0.bsz,fun b _ _=>noA b,fun b z=>absurd z (noA b),e0.funs,e0.frf⟩,
  rfl,e0.bare,Un.kept hk,⟨_,x.toInCall.ns,fun i y v h1 h2 h3=>?_⟩,fun y c h=>⟨_,x.cell y c h⟩,e0.hok.fresh (Nat.le_refl _),fun y c h=>?_,fun p hp=>absurd (show p∈([]:List (Addr×Obj)) from hp) (by simp),e0.hok.kept hk,?_⟩
 ·exact name_of_addr x.apart (PySem.mem_of_lookup h1) (PySem.mem_of_lookup h2)
 ·have hy:scope.names.lookup y=some .cell\/scope.names.lookup y=some .free:=hy;rcases hy with hy | hy
  ·exact a7x hy
  ·exact absurd rfl (S.nofree _ (PySem.mem_of_lookup hy))
 ·exact Nat.le_of_lt (x.above y c (PySem.mem_of_lookup h))
 ·have hi:i<vs.length:=by
   unfold start at h2
   by_cases hi:i<vs.length
   ·exact hi
   ·rw[List.getElem?_append_right (by simpa using hi)]at h2;rw[List.getElem?_replicate]at h2
    split at h2<;>cases h2
  have ha:vs[i]?=some v:=by
   unfold start at h2;rw[List.getElem?_append_left (by simpa using hi),List.getElem?_map]at h2;cases e:vs[i]? with
   | none=>rw[e]at h2;cases h2
   | some a=>rw[e]at h2;cases h2;rfl
  obtain⟨u,hu,rv⟩:=r.get ha;have hp:ps[i]?=some y:=by
   rw[<- S.pre,List.getElem?_take_of_lt (by omega)];exact h1
  have ndP:ps.Nodup:=by rw[<- S.pre];exact S.nd.sublist (List.take_sublist _ _)
  refine⟨u,rv,?_⟩;rcases S.par y (List.mem_of_getElem? hp) with k | k
  ·exact .inl ⟨k,a6e ndP hp hu k⟩
  ·obtain⟨c,e⟩:=a7x (n:=s.heap.objs.size+1) k;refine .inr ⟨.inl k,c,e,?_⟩;have q:=x.cell y c e;rw[a6f ndP hp hu (by show scope.names.lookup y≠_;rw[k];decide)]at q;exact q
 ·exact e0.hok.fresh (Nat.le_of_lt (x.above y c (PySem.mem_of_lookup h)))
 ·unfold start
  show _=N.length
  rw[List.length_append,List.length_map,List.length_replicate];omega
theorem b4s {CX:CXT}{P:Program}{w:World}{K:Fg}{mg:Str->Option Value}{base:Heap}{k:Nat}{f:Addr}{name qual:Str}{params:Arguments}{body:List Stmt}{scope:Scope}{dV kV doc pm cdv ct oc:Value}{an od:Option Addr}
  {osl:Array (Option Value)}{N ps:List Str}{sp:Sp}(lk:K.lookup f=some ⟨oc,od,.func (PySem.W.fnOf name qual params body scope dV kV doc pm an cdv ct),osl⟩) (hcd:PySem.W.codeIn K cdv qual=true) (S:FnScope N ps scope)
  (len:∀ vs H Q E,sp vs H Q E->vs.length=ps.length)
  (hbody:∀ (A:Around) (outer:List Env) (s:Shared) (H:Hp) (vs:List V) (Q:VK) (E:XK),Room k (A.deeper (envOfC qual scope s.heap.objs.size f cdv))->sp vs H Q E ->
   ∃ t,PSs (cxOf CX P w K mg base N qual scope f cdv A outer s H E) body t/\t { nx:=fun _ H'=>Q .non H',rt:=Q } (start N vs) H) :
  FnOk P w K mg base CX (k+1) f (PySem.W.fnOf name qual params body scope dV kV doc pm an cdv ct) ps sp:=by
 refine⟨len,fun A outer s H args us vs Q E hr e0 hb r hsp=>?_⟩;have hl:=len _ _ _ _ hsp;have KX:K.In s.heap:=e0.mod.kin.keeps fun b o e=>(e0.bs b o e).1;have lim:s.heap.NoLimit:=e0.mod.nolimit.keeps fun b o e=>(e0.bs b o e).1;have hkind:∀ y∈ps.zip us,scope.names.lookup y.1=some .local\/(scope.names.lookup y.1=some .cell/\((cellsFrom (s.heap.objs.size+1) scope.names []).lookup y.1).isSome=true):=fun ⟨n,v⟩ hy=>by
  rcases S.par n (List.of_mem_zip hy).1 with q | q
  ·exact .inl q
  ·exact .inr ⟨q,PySem.W.cellsFrom_some _ _ _ (.inl q)⟩
 refine codeAny_call_function hr.depth (KX _ _ lk) rfl S.co S.gen rfl (PySem.W.codeRec_of KX hcd) (hb _ _ _ _ ?_);refine wpAny_newFunctionEnv_cells S.kind hkind fun env he s1 x=>?_;subst he;refine⟨lim.keeps x.toInCall.keep,codeAny_func ?_⟩;obtain⟨t,ht,hq⟩:=hbody A outer s H vs Q E (hr.deeper _) hsp;have I:Inv (cxOf CX P w K mg base N qual scope f cdv A outer s H E) [] (start N vs) H s1:=a9i S hr.hd e0 hl r x;refine wpAny_mono (ht [] s1 (start N vs) H _ I hq) (fun fl s' hs=>?_) fun e s' hs=>hs;have fin:∀ {σ':St}{H':Hp}{v:V}{u:Value},Inv (cxOf CX P w K mg base N qual scope f cdv A outer s H E) [] σ' H' s'->RelV v u->Q v H'->CE outer P w H s Q u s':=
  fun {σ' H' v u} J rv q=>⟨v,H',J.os,J.bare,J.base,J.hok,rv,q⟩
 cases fl with
 | ret u=>
  obtain⟨v,σ',H',J,rv,q⟩:=hs;exact fin J rv q
 | next=>
  obtain⟨σ',H',J,q⟩:=hs;exact fin (v:=V.non) (u:=Value.none) J rfl q
 | brk=>
  obtain⟨_,_,_,q⟩:=hs;exact False.elim q
 | cont=>
  obtain⟨_,_,_,q⟩:=hs;exact False.elim q
end L2
namespace L2
open PySem PySem.Spec PyProof.Rows
section
variable {X:Cx}{x:Str}{p pos:Pos}{e:Expr}{es:List Expr}{t:TA}{id T:String}{r:List V->Hp->VK->Prop}
def tCB (r:List V->Hp->VK->Prop) (t:TA):TE:=fun σ H Q=>t σ H fun vs H1=>r vs H1 Q
theorem b0W (hc:CallR X (.builtin id) r) (hg:Gl X x) (hm:X.mg x=none) (hv:bootBuiltins x=some (.builtin id)) (ha:PA X (e::es) t) (hn:x≠"__name__":=by decide) (hdb:(x==("__debug__":Str))=false:=by decide)
  (he:starEach (e::es) X.env=(false,eval e X.env)::starEach es X.env:=by rfl) (hpl:(backTo pos (starEach es X.env)).any (·.1)=false:=by rfl):PE X (.Call (.Name x p) (e::es) [] pos) (tCB r t):=by
 intro pins s σ H Q I h;refine wpAny_Call_Name_kw (a6a I hg hm hv ?_ hn hdb);exact PyProof.Rows.callWith_builtin1 (thn (ha pos pins s σ H _ I h) fun us s1 ⟨vs,H1,I1,r1,q1⟩=>hc pins s1 σ H1 vs us Q I1 r1 q1) he hpl
theorem a9j (hc:CallR X (.type T) r) (hg:Gl X x) (hm:X.mg x=none) (hv:bootBuiltins x=some (.type T)) (ha:PA X (e::es) t) (hn:x≠"__name__":=by decide) (hdb:(x==("__debug__":Str))=false:=by decide)
  (he:starEach (e::es) X.env=(false,eval e X.env)::starEach es X.env:=by rfl) (hpl:(backTo pos (starEach es X.env)).any (·.1)=false:=by rfl):PE X (.Call (.Name x p) (e::es) [] pos) (tCB r t):=by
 intro pins s σ H Q I h;refine wpAny_Call_Name_kw (a6a I hg hm hv ?_ hn hdb);exact PyProof.Rows.callWith_type1 (thn (ha pos pins s σ H _ I h) fun us s1 ⟨vs,H1,I1,r1,q1⟩=>hc pins s1 σ H1 vs us Q I1 r1 q1) he hpl
end
end L2
namespace HT
open PySem PyProof.Rows
section
open PySem.SeqAt
open PySem.AutoSeq1 (wpAny_loadPart')
open PySem.MeetsSeq PySem.MeetsSeq2 PySem.MeetsSeq3
end
section
variable {prog:Program}{w:World}{A:Around}{E:Value->Shared->Prop}{s:Shared}
theorem cat_tup {t b:Addr}{vs ws:List Value}{Q:Value->Shared->Prop}(ht:IsTup s.heap t vs.toArray) (hb:IsTup s.heap b ws.toArray) (hv:vs≠[])
  (h1:ws=[]->Q (.ref t) s) (h2:ws≠[]->Q (.ref s.heap.objs.size) { s with heap:=s.heap.push { cls:=.type "tuple",data:=.seq (vs++ws).toArray } })
  (hsz:vs.length+ws.length≤sizeLine):wpAny (model prog w) A (binaryOp .Add (.ref t) (.ref b)) Q E s:=by
 obtain⟨⟨cls,dd,data,sl⟩,ho,hc,n,hd⟩:=id ht;obtain⟨⟨cls2,dd2,data2,sl2⟩,ho2,hc2,n2,hd2⟩:=id hb;simp only at hc hd hc2 hd2;subst hc hd hc2 hd2;have e:vs.toArray++ws.toArray=(vs++ws).toArray:=by simp
 by_cases hw:ws=[]
 ·exact concat_meets ⟨_,ho,rfl⟩ ⟨_,ho2,rfl⟩ noFill_tuple_add seq_tuple_add PySem.F.slot_tuple_add PySem.F.entry_tuple_add (PySem.F.args_tuple_add_2 _ _)
   (tuple_addW1 t b vs.toArray ws.toArray n n2 dd dd2 sl sl2 (by simpa using hv) (by simp[hw])) ⟨ho,ho2,h1 hw⟩
 ·refine concat_meets ⟨_,ho,rfl⟩ ⟨_,ho2,rfl⟩ noFill_tuple_add seq_tuple_add PySem.F.slot_tuple_add PySem.F.entry_tuple_add (PySem.F.args_tuple_add_2 _ _)
   (tuple_addW2 t b vs.toArray ws.toArray n n2 dd dd2 sl sl2 (by simpa using hv) (by simpa using hw) (by rw[List.size_toArray,List.size_toArray];exact hsz)) ⟨ho,ho2,?_⟩
  rw[e];exact h2 hw
def sIx (n d:Nat):Option Int->Nat
 | none=>d
 | some v=>if v<0 then (v+(n:Int)).toNat else min v.toNat n
theorem sIx_none (n d:Nat):sIx n d none=d:=rfl
theorem sIx_nat (n d k:Nat):sIx n d (some (k:Int))=min k n:=by
 show (if (k:Int)<0 then ((k:Int)+(n:Int)).toNat else min (k:Int).toNat n)=min k n
 rw[if_neg (by omega),Int.toNat_natCast]
theorem b4t (n d:Nat) (hd:d≤n) (o:Option Int):sIx n d o≤n:=by
 cases o with
 | none=>exact hd
 | some v=>
  show (if v<0 then (v+(n:Int)).toNat else min v.toNat n)≤n
  by_cases hv:v<0
  ·rw[if_pos hv];omega
  ·rw[if_neg hv];exact Nat.min_le_right _ _
theorem a9k (v:Int) (n d:Nat):(if v<0 then max (v+(n:Int)) 0 else min v (n:Int))=((sIx n d (some v):Nat):Int):=by
 show (if v<0 then max (v+(n:Int)) 0 else min v (n:Int))=(((if v<0 then (v+(n:Int)).toNat else min v.toNat n):Nat):Int)
 by_cases hv:v<0
 ·simp only[if_pos hv];omega
 ·simp only[if_neg hv];omega
theorem a8u (lo hi:Option Int) (n:Nat):Builtin.Slice.sliceAdjust lo hi 1 (n:Int)=(((sIx n 0 lo:Nat):Int),((sIx n n hi:Nat):Int)):=by
 have h1:¬ ((1:Int)<0):=by omega
 unfold Builtin.Slice.sliceAdjust;simp only[h1,if_false];refine Prod.ext ?_ ?_
 ·cases lo with
  | none=>rfl
  | some v=>exact a9k v n 0
 ·cases hi with
  | none=>rfl
  | some v=>exact a9k v n n
theorem a8v (i j:Nat):Builtin.Slice.slicePlaces (i:Int) (j:Int) 1=j - i:=by
 unfold Builtin.Slice.slicePlaces;have h1:(1:Int) > 0:=by omega
 simp only[h1,if_true,Int.ediv_one]
 split<;>omega
theorem a49 {v:Value}{o:Option Int}{Q:Option Int->Shared->Prop}(p:IsPart v o) (h:Q o s):wpAny (model prog w) A (Builtin.Slice.slicePartIndex v) Q E s:=by
 cases p with
 | none=>exact slicePart_none h
 | int i t=>exact slicePart_int h
theorem a3Y {sl:Addr}{vl vu:Value}{lo hi:Option Int}{n:Nat}{Q:Int×Int×Nat->Shared->Prop}(hs:s.heap.IsSliceOf sl vl vu .none) (pl:IsPart vl lo) (pu:IsPart vu hi)
  (h:Q (((sIx n 0 lo:Nat):Int),1,sIx n n hi - sIx n 0 lo) s):wpAny (model prog w) A (Builtin.Slice.sliceApplied (.ref sl) (pure (n:Int))) Q E s:=by
 obtain⟨os,hos,hcs,hds⟩:=id hs;unfold Builtin.Slice.sliceApplied Builtin.Slice.sliceFields;refine wpAny_bind (wpAny_bind (wpAny_field hos hds (x:=vl) rfl (wpAny_bind (wpAny_field hos hds (x:=vu) rfl (wpAny_bind (wpAny_field hos hds (x:=.none) rfl (wpAny_pure ?_)))))));refine wpAny_bind (slicePart_none ?_)
 show wpAny _ _ (if ((1:Int)==0)=true then _ else _) _ _ s
 rw[if_neg (by decide)];refine wpAny_bind (a49 pl (wpAny_bind (a49 pu (wpAny_bind (wpAny_pure ?_)))))
 show wpAny _ _ (match Builtin.Slice.sliceAdjust lo hi 1 (n:Int) with | (lo,hi)=>pure (lo,(1:Int),Builtin.Slice.slicePlaces lo hi 1)) _ _ s
 rw[a8u lo hi n]
 show wpAny _ _ (pure (((sIx n 0 lo:Nat):Int),(1:Int),Builtin.Slice.slicePlaces ((sIx n 0 lo:Nat):Int) ((sIx n n hi:Nat):Int) 1)) _ _ s
 rw[a8v];exact wpAny_pure h
theorem b0X (xs:Array Value) (i k:Nat):((List.range k).filterMap fun (m:Nat)=>xs[((i:Int)+(m:Int)*1).toNat]?).toArray=((xs.toList.drop i).take k).toArray:=by
 have e:(fun (m:Nat)=>xs[((i:Int)+(m:Int)*1).toNat]?)=fun m=>xs[i+m]?:=by
  funext m
  have:((i:Int)+(m:Int)*1).toNat=i+m:=by omega
  rw[this]
 rw[e]
 have:=pick_run xs i k
 rw[List.filterMap_map]at this;have e2:((fun x=>xs[x]?)∘fun x=>i+x)=fun m=>xs[i+m]?:=rfl;rw[e2]at this;rw[this]
theorem getItem_tuple_cut {t sl:Addr}{items:Array Value}{vl vu:Value}{lo hi:Option Int}{Q:Value->Shared->Prop}(ht:IsTup s.heap t items) (hs:s.heap.IsSliceOf sl vl vu .none) (pl:IsPart vl lo) (pu:IsPart vu hi)
  (hw:¬ (sIx items.size 0 lo=0/\sIx items.size items.size hi=items.size))
  (h:Q (.ref s.heap.objs.size) { s with heap:=s.heap.push { cls:=.type "tuple",data:=.seq ((items.toList.drop (sIx items.size 0 lo)).take (sIx items.size items.size hi - sIx items.size 0 lo)).toArray } })
  (hsz:items.size≤sizeLine):wpAny (model prog w) A (getItem (.ref t) (.ref sl)) Q E s:=by
 have htake:sizeOk (.seq ((items.toList.drop (sIx items.size 0 lo)).take (sIx items.size items.size hi - sIx items.size 0 lo)).toArray):=by
  show ((items.toList.drop (sIx items.size 0 lo)).take (sIx items.size items.size hi - sIx items.size 0 lo)).toArray.size≤sizeLine
  rw[List.size_toArray,List.length_take,List.length_drop,Array.length_toList];omega
 have hj:sIx items.size items.size hi≤items.size:=b4t _ _ (Nat.le_refl _) hi;obtain⟨os,hos,hcs,hds⟩:=id hs;have hTs:s.TypeIs (.ref sl) "slice":=⟨os,hos,hcs⟩;unfold getItem
 try with_reducible refine wpAny_holding ?_
 first | refine wpAny_bind (wpAny_pure ?_) | skip
 refine wpAny_bind (wpAny_sequenceKey ht.typeIs (by decide) ?_);refine wpAny_bind (wpAny_callSpecial?_slot (name:=Str.ofString "__getitem__") ht.typeIs PyProof.Rows.slot_tuple_getitem
  (wpAny_call_entry PyProof.Rows.slot_tuple_getitem ht.typeIs entry_tuple_getitem ?_ (args_tuple_getitem _ _)))
 show wpAny _ _ (Builtin.Tuple.tupleItemsOf (.ref t) >>= _) _ _ s
 refine wpAny_bind (tupleItemsOf_ ht ?_);refine wpAny_bind (wpAny_typeOf hTs ?_);rw[if_pos (by decide)];refine wpAny_bind (a3Y hs pl pu ?_);have hno:¬ ((((sIx items.size 0 lo:Nat):Int)==0&&(1:Int)==1&&(sIx items.size items.size hi - sIx items.size 0 lo)==items.size)=true):=by
  intro q;rw[Bool.and_eq_true,Bool.and_eq_true]at q;have q1:((sIx items.size 0 lo:Nat):Int)=0:=eq_of_beq q.1.1;have q2:sIx items.size items.size hi - sIx items.size 0 lo=items.size:=eq_of_beq q.2;exact hw ⟨by omega,by omega⟩
 show wpAny _ _ (if (((sIx items.size 0 lo:Nat):Int)==0&&(1:Int)==1&&(sIx items.size items.size hi - sIx items.size 0 lo)==items.size)=true then _ else _) _ _ s
 rw[if_neg hno,b0X]
 first
  | exact wpAny_bind (m:=Builtin.Tuple.tupleExact _) (wpAny_newObj_type (wpAny_pure ⟨_,rfl,wpAny_pure h⟩) htake)
  | exact wpAny_bind (m:=Builtin.Tuple.tupleExact _) (wpAny_newObj_type (wpAny_bind (wpAny_pure (wpAny_pure ⟨_,rfl,wpAny_pure h⟩))) htake)
  | exact wpAny_bind (wpAny_bind (m:=Builtin.Tuple.tupleExact _) (wpAny_newObj_type (wpAny_pure (wpAny_pure ⟨_,rfl,wpAny_pure h⟩)) htake))
  | exact wpAny_bind (wpAny_bind (m:=Builtin.Tuple.tupleExact _) (wpAny_newObj_type (wpAny_pure ⟨_,rfl,wpAny_pure h⟩) htake))
end
end HT
namespace L2
open PySem PySem.Spec PyProof.Rows
abbrev TO:=St->Hp->(Option Int->Hp->Prop)->Prop
def PO (X:Cx) (e:Option Expr) (t:TO):Prop:=
 ∀ (pins:List (Addr×Obj)) (s:Shared) (σ:St) (H:Hp) (Q:Option Int->Hp->Prop),Inv X pins σ H s->t σ H Q ->
  wpAny (model X.prog X.w) X.A (evalPart e X.env) (fun u s'=>∃ o H',Inv X pins σ H' s'/\IsPart u o/\Q o H') X.xe s
def b2N:TO:=fun _ H Q=>Q none H
def b6w (t:TE):TO:=fun σ H Q=>t σ H fun x H1=>∃ i,x=.int i/\Q (some i) H1
theorem a8w {ns:List Int}:∀ {us:List Value},Vals (ns.map V.int) us->IntsAre us ns:=by
 induction ns with
 | nil=>intro us r;rw[List.map_nil]at r;cases r;exact .nil
 | cons n ns ih=>
  intro us r;rw[List.map_cons]at r;cases r with
  | cons r1 r2=>
   obtain⟨t,e⟩:=r1;subst e;exact .cons n t (ih r2)
section
variable {X:Cx}{e:Expr}{te:TE}{lo hi:Option Expr}{tl th:TO}{pos p2:Pos}
theorem b2O:PO X none b2N:=by
 intro pins s σ H Q I h;rw[evalPart_none];exact wpAny_pure ⟨none,H,I,.none,h⟩
theorem b2P (h:PE X e te):PO X (some e) (b6w te):=by
 intro pins s σ H Q I hw;rw[evalPart_some];refine thn (h pins s σ H _ I hw) fun u s1 ⟨x,H1,I1,r1,q1⟩=>?_;obtain⟨i,rfl,q⟩:=q1;obtain⟨t,rfl⟩:=r1;exact⟨some i,H1,I1,.int i t,q⟩
def SlR (X:Cx) (r:V->Option Int->Option Int->Hp->VK->Prop):Prop:=
 ∀ (pins:List (Addr×Obj)) (s:Shared) (σ:St) (H:Hp) (x:V) (v vl vu:Value) (lo hi:Option Int) (sl:Addr) (Q:VK),Inv X pins σ H s->RelV x v->s.heap.IsSliceOf sl vl vu .none->IsPart vl lo->IsPart vu hi->r x lo hi H Q ->
  ∃ T id,typeLookup (.type T) "__getitem__"=pure (some (.builtin id))/\s.TypeIs v T/\wpAny (model X.prog X.w) X.A (getItem v (.ref sl)) (EP X pins σ Q) X.xe s
theorem SlR.or {r r':V->Option Int->Option Int->Hp->VK->Prop}(h:SlR X r) (h':SlR X r'):SlR X (fun x lo hi H Q=>r x lo hi H Q\/r' x lo hi H Q):=by
 intro pins s σ H x v vl vu lo hi sl Q I rx hs pl pu q;rcases q with q | q
 ·exact h pins s σ H x v vl vu lo hi sl Q I rx hs pl pu q
 ·exact h' pins s σ H x v vl vu lo hi sl Q I rx hs pl pu q
def tSl (r:V->Option Int->Option Int->Hp->VK->Prop) (te:TE) (tl th:TO):TE:=fun σ H Q=>te σ H fun x H1=>tl σ H1 fun l H2=>th σ H2 fun u H3=>r x l u H3 Q
theorem b0Y {r:V->Option Int->Option Int->Hp->VK->Prop}(hr:SlR X r) (he:PE X e te) (hl:PO X lo tl) (hu:PO X hi th):PE X (.Subscript e (.Slice lo hi none p2) pos) (tSl r te tl th):=by
 intro pins s σ H Q I h;refine Subscript_ (thn (he pins s σ H _ I h) fun v s1 ⟨x,H1,I1,r1,q1⟩=>?_);refine wpAny_Slice (thn (hl pins s1 σ H1 _ I1 q1) fun vl s2 ⟨l,H2,I2,pl,q2⟩=>thn (hu pins s2 σ H2 _ I2 q2) fun vu s3 ⟨u,H3,I3,pu,q3⟩=>?_);rw[evalPart_none];refine wpAny_pure ?_;have I4:Inv X pins σ H3 { s3 with heap:=s3.heap.push { cls:=.type "slice",data:=.fields #[vl,vu,.none] } }:=I3.kept (t':=s3.toks) fun b ob q=>Heap.get?_push_of_some _ q;obtain⟨T,id,hT,ht,hg⟩:=hr pins { s3 with heap:=s3.heap.push { cls:=.type "slice",data:=.fields #[vl,vu,.none] } } σ H3 x v vl vu l u s3.heap.objs.size Q I4 r1 (Heap.IsSliceOf.new ..) pl pu q3
 show wpAny (model X.prog X.w) X.A (subscriptTail e (.Slice lo hi none p2) v (.ref s3.heap.objs.size)) (EP X pins σ Q) X.xe { s3 with heap:=s3.heap.push { cls:=.type "slice",data:=.fields #[vl,vu,.none] } }
 exact tail_any (ops:=[.ref s3.heap.objs.size,v]) ht hT hg (by with_unfolding_all rfl)
def cutV (xs:List V) (lo hi:Option Int):List V:=(xs.drop (HT.sIx xs.length 0 lo)).take (HT.sIx xs.length xs.length hi - HT.sIx xs.length 0 lo)
theorem a4q (xs:List V) (lo hi:Option Int):(cutV xs lo hi).length≤xs.length:=by
 unfold cutV;rw[List.length_take,List.length_drop];omega
def rSlT (K:Fg):V->Option Int->Option Int->Hp->VK->Prop:=fun x lo hi H Q=>∃ a xs,x=.ref a/\SqT K H a xs /\
 ¬ (HT.sIx xs.length 0 lo=0/\HT.sIx xs.length xs.length hi=xs.length)/\∀ p,H p=none->Q (.ref p) (upd H p (.tup (cutV xs lo hi)))
theorem sl_tup:SlR X (rSlT X.K):=by
 intro pins s σ H x v vl vu lo hi sl Q I rx hs pl pu h;obtain⟨a,xs,rfl,hx,hw,q⟩:=h;cases rx;obtain⟨its,r,ht,hz⟩:=I.tuple hx;have hlen:its.toArray.size=xs.length:=by rw[List.size_toArray];exact r.length.symm
 refine⟨"tuple",_,PyProof.Rows.slot_tuple_getitem.lookup,ht.typeIs,?_⟩;refine HT.getItem_tuple_cut ht hs pl pu (by rw[hlen];exact hw) ?_ (by rw[hlen];exact hz);rw[hlen];refine⟨.ref s.heap.objs.size,_,I.laid (t':=s.toks) (o:=.tup (cutV xs lo hi)) (fun b ob q=>Heap.get?_push_of_some _ q) (Nat.le_refl _) ?_,rfl,q _ (I.hok.fresh (Nat.le_refl _))⟩;exact⟨Nat.le_trans (a4q xs lo hi) hz,_,(r.drop (HT.sIx xs.length 0 lo)).take (HT.sIx xs.length xs.length hi - HT.sIx xs.length 0 lo),IsTup.new _ _⟩
def b6x (K:Fg):R2:=fun x y H Q=>∃ a b xs ys,x=.ref a/\y=.ref b/\SqT K H a xs/\SqT K H b ys/\xs≠[]/\xs.length+ys.length≤sizeLine /\
 (ys=[]->Q (.ref a) H)/\(ys≠[]->∀ p,H p=none->Q (.ref p) (upd H p (.tup (xs++ys))))
theorem Vals.nil_iff {xs:List V}{us:List Value}(r:Vals xs us):us=[]↔xs=[]:=by
 cases r with
 | nil=>simp
 | cons _ _=>simp
theorem op_catT:OpR X (binaryOp .Add) (b6x X.K):=by
 intro pins s σ H x y v u Q I rx ry h;obtain⟨a,b,xs,ys,rfl,rfl,ha,hb,hx,hz,q1,q2⟩:=h;cases rx;cases ry;obtain⟨its,r1,p1,_⟩:=I.tuple ha;obtain⟨its2,r2,p2,_⟩:=I.tuple hb;refine HT.cat_tup p1 p2 (fun z=>hx (r1.nil_iff.mp z)) (fun z=>⟨.ref a,H,I,rfl,q1 (r2.nil_iff.mp z)⟩) (fun z=>?_) (by rw[<- r1.length,<- r2.length];exact hz);refine⟨.ref s.heap.objs.size,_,I.laid (t':=s.toks) (o:=.tup (xs++ys)) (fun b ob q=>Heap.get?_push_of_some _ q) (Nat.le_refl _) ?_,rfl,q2 (fun w=>z (r2.nil_iff.mpr w)) _ (I.hok.fresh (Nat.le_refl _))⟩;exact⟨by rw[List.length_append];exact hz,_,r1.append r2,IsTup.new _ _⟩
end
end L2
namespace L2
open PySem PySem.Spec PyProof.Rows
def ixN (n:Nat) (i:Int):Option Nat:=if 0≤i then (if i<n then some i.toNat else none) else if -(n:Int)≤i then some (i+n).toNat else none
def atI {α:Type}(xs:List α) (i:Int):Option α:=(ixN xs.length i).bind fun j=>xs[j]?
theorem a9l {n:Nat}{i:Int}{j:Nat}(h:ixN n i=some j):seqIndex? i n=some j/\j<n/\-(n:Int)≤i/\i<n:=by
 unfold ixN at h
 by_cases h0:0≤i
 ·rw[if_pos h0]at h
  by_cases h1:i<n
  ·rw[if_pos h1]at h;have e:i.toNat=j:=Option.some.inj h;exact⟨by rw[seqIndex_of h0 h1,e],by omega,by omega,h1⟩
  ·rw[if_neg h1]at h;cases h
 ·rw[if_neg h0]at h
  by_cases h1:-(n:Int)≤i
  ·rw[if_pos h1]at h;have e:(i+n).toNat=j:=Option.some.inj h;exact⟨by rw[seqIndex_neg (by omega) h1,e],by omega,h1,by omega⟩
  ·rw[if_neg h1]at h;cases h
theorem a6Z {α:Type}{xs:List α}{i:Int}{v:α}(h:atI xs i=some v):∃ j,seqIndex? i xs.length=some j/\xs[j]?=some v/\j<xs.length/\-(xs.length:Int)≤i/\i<xs.length:=by
 unfold atI at h;cases e:ixN xs.length i with
 | none=>rw[e]at h;cases h
 | some j=>
  rw[e]at h;obtain⟨h1,h2,h3,h4⟩:=a9l e;exact⟨j,h1,h,h2,h3,h4⟩
theorem a13 {α:Type}{xs:List α}{j:Nat}{v:α}(h:xs[j]?=some v):atI xs (j:Int)=some v:=by
 have hj:j<xs.length:=(List.getElem?_eq_some_iff.mp h).1;have e:ixN xs.length (j:Int)=some j:=by
  unfold ixN;rw[if_pos (by omega),if_pos (by omega)];simp
 unfold atI;rw[e];exact h
def a9m (b:Expr):Prop:=∀ o i,subscripted b false o i=operate [o,i] (getItem o i)
def IxR (X:Cx) (r:R2):Prop:=
 ∀ (value slice:Expr) (pins:List (Addr×Obj)) (s:Shared) (σ:St) (H:Hp) (x y:V) (v u:Value) (Q:VK),Inv X pins σ H s->RelV x v->RelV y u->r x y H Q ->
  subscripted slice false v u=operate [v,u] (getItem v u)->wpAny (model X.prog X.w) X.A (subscriptTail value slice v u) (EP X pins σ Q) X.xe s
def MtR (X:Cx) (id:String) (r:V->List V->Hp->VK->Prop):Prop:=
 ∀ (pins:List (Addr×Obj)) (s:Shared) (σ:St) (H:Hp) (x:V) (xs:List V) (v:Value) (us:List Value) (Q:VK),Inv X pins σ H s->RelV x v->Vals xs us->r x xs H Q ->
  wpAny (model X.prog X.w) X.A (call (.builtin id) (v::us)) (EP X pins σ Q) X.xe s
section
variable {X:Cx}{a b:Expr}{ta tb:TE}{pos:Pos}
theorem IxR.or {r r':R2}(h:IxR X r) (h':IxR X r'):IxR X (fun x y H Q=>r x y H Q\/r' x y H Q):=by
 intro value slice pins s σ H x y v u Q I rx ry q hs;rcases q with q | q
 ·exact h value slice pins s σ H x y v u Q I rx ry q hs
 ·exact h' value slice pins s σ H x y v u Q I rx ry q hs
theorem MtR.or {id:String}{r r':V->List V->Hp->VK->Prop}(h:MtR X id r) (h':MtR X id r'):MtR X id (fun x xs H Q=>r x xs H Q\/r' x xs H Q):=by
 intro pins s σ H x xs v us Q I rx rs q;rcases q with q | q
 ·exact h pins s σ H x xs v us Q I rx rs q
 ·exact h' pins s σ H x xs v us Q I rx rs q
theorem b6y {r:R2}(hr:IxR X r) (ha:PE X a ta) (hb:PE X b tb) (hs:a9m b):PE X (.Subscript a b pos) (tOp r ta tb):=by
 intro pins s σ H Q I h;exact Subscript_ (binT ha hb I h fun v u s2 x y H2 I2 rx ry q=>hr a b pins s2 σ H2 x y v u Q I2 rx ry q (hs _ _))
def rIxL (K:Fg):R2:=fun x y H Q=>∃ p xs i v,x=.ref p/\y=.int i/\SqL K H p xs/\atI xs i=some v/\Q v H
def rIxT (K:Fg):R2:=fun x y H Q=>∃ p xs i v,x=.ref p/\y=.int i/\SqT K H p xs/\atI xs i=some v/\Q v H
def rIxS:R2:=fun x y H Q=>∃ z i c,x=.str z/\y=.int i/\z.length≤sizeLine/\atI z.cps.toList i=some c/\Q (.str ⟨#[c]⟩) H
theorem ix_list:IxR X (rIxL X.K):=by
 intro value slice pins s σ H x y v u Q I rx ry h hs;obtain⟨p,xs,i,z,rfl,rfl,hq,he,q⟩:=h;cases rx;obtain⟨t,rfl⟩:=ry;obtain⟨its,r,pl,hz⟩:=I.list hq;obtain⟨j,h1,h2,h3,h4,h5⟩:=a6Z he;obtain⟨w,ew,rw'⟩:=r.get h2;have hl:=r.length;have hn:=a45;have fin:EP X pins σ Q w s:=⟨z,H,I,rw',q⟩
 by_cases h0:0≤i
 ·have hj:i.toNat=j:=by
   rw[seqIndex_of h0 h5]at h1;exact Option.some.inj h1
  exact item_listR pl.isList h0 (by omega) (by rw[hj];simpa using ew) fin hs
 ·have hj:(i+(its.toArray.size:Int)).toNat=j:=by
   rw[seqIndex_neg (by omega) h4]at h1;rw[List.size_toArray,<- hl];exact Option.some.inj h1
  exact subscriptTail_builtinR (x:=w) pl.isList.typeIs slot_list_getitem.lookup
   (wpAny_getItem_list_neg (Q:=fun r s'=>r=w/\EP X pins σ Q r s') pl.isList (by omega) (by rw[List.size_toArray]<;>omega) (by omega) (by rw[hj];simpa using ew) ⟨rfl,fin⟩) hs
theorem ix_tup:IxR X (rIxT X.K):=by
 intro value slice pins s σ H x y v u Q I rx ry h hs;obtain⟨p,xs,i,z,rfl,rfl,hq,he,q⟩:=h;cases rx;obtain⟨t,rfl⟩:=ry;obtain⟨its,r,pl,hz⟩:=I.tuple hq;obtain⟨j,h1,h2,h3,h4,h5⟩:=a6Z he;obtain⟨w,ew,rw'⟩:=r.get h2;have hl:=r.length;have hn:=a45;have fin:EP X pins σ Q w s:=⟨z,H,I,rw',q⟩;exact subscriptTail_builtinR (x:=w) pl.typeIs slot_tuple_getitem.lookup
  (getItem_tuple (j:=j) (Q:=fun r s'=>r=w/\EP X pins σ Q r s') pl (by omega) (by omega) (by rw[List.size_toArray,<- hl];exact h1) (by simpa using ew) ⟨rfl,fin⟩) hs
theorem b4u:IxR X rIxS:=by
 intro value slice pins s σ H x y v u Q I rx ry h hs;obtain⟨z,i,c,rfl,rfl,hz,he,q⟩:=h;obtain⟨t,rfl⟩:=rx;obtain⟨t',rfl⟩:=ry;obtain⟨j,h1,h2,h3,h4,h5⟩:=a6Z he;have hl:z.cps.toList.length=z.length:=by simp[Str.length]
 rw[hl]at h1 h4 h5;have hn:=a45;exact tail_any (typeIs_str s z t) slot_str_getitem.lookup (getItem_str (c:=c) (by
  have e1:decide (i < -(2 ^ 63:Int))=false:=decide_eq_false (by omega);have e2:decide (i≥2 ^ 63)=false:=decide_eq_false (by omega);rw[e1,e2,Bool.or_false]) (by rw[h1];simpa using h2) ⟨.str ⟨#[c]⟩,H,I.tok _,⟨_,rfl⟩,q⟩) hs
def rIx (K:Fg):R2:=fun x y H Q=>rIxL K x y H Q\/rIxT K x y H Q\/rIxS x y H Q
theorem b4v:IxR X (rIx X.K):=ix_list.or (ix_tup.or b4u)
theorem a8x (its:List Value) (n j:Nat) (u:Value):Obj.mapSeq (·.setIfInBounds j u) { cls:=.type "list",data:=.seq its.toArray n }={ cls:=.type "list",data:=.seq (its.set j u).toArray n }:=by
 simp[Obj.mapSeq]
theorem Inv.lst {pins:List (Addr×Obj)}{σ:St}{H:Hp}{s:Shared}{p:Addr}{xs:List V}(I:Inv X pins σ H s) (h:H p=some (.lst xs)) :
  ∃ (its:List Value) (n:Nat),Vals xs its/\s.heap.get? p=some { cls:=.type "list",data:=.seq its.toArray n }/\xs.length≤sizeLine:=by
 obtain⟨z,its,n,r,e⟩:=I.hok p _ h;exact⟨its,n,r,e,z⟩
theorem Inv.lstUpd {pins:List (Addr×Obj)}{σ:St}{H:Hp}{s:Shared}{p:Addr}{xs ys:List V}{its its':List Value}{n n':Nat}{f:Obj->Obj}(I:Inv X pins σ H s) (h:H p=some (.lst xs))
  (ho:s.heap.get? p=some { cls:=.type "list",data:=.seq its.toArray n }) (hf:f { cls:=.type "list",data:=.seq its.toArray n }={ cls:=.type "list",data:=.seq its'.toArray n' }) (r:Vals ys its') (hz:ys.length≤sizeLine) (t:Nat) :
  Inv X pins σ (upd H p (.lst ys)) { s with heap:=s.heap.update p f,toks:=t }:=by
 have e:(s.heap.update p f).get? p=some { cls:=.type "list",data:=.seq its'.toArray n' }:=by
  rw[Heap.get?_update_self f ho (by rw[hf]<;>rfl),hf]
 refine I.write (x:=p) (e:=p) (by rw[h];trivial) (.inl rfl) (fun b u hb q=>(Heap.get?_update_other _ _ (Ne.symm hb)).trans q) ⟨_,e⟩ ?_;exact⟨hz,its',n',r,e⟩
def b6z:V->V->V->Hp->(Hp->Prop)->Prop:=fun o i v H Q=>∃ p xs k j,o=.ref p/\i=.int k/\H p=some (.lst xs)/\ixN xs.length k=some j/\Q (upd H p (.lst (xs.set j v)))
theorem b0Z:PSet X b6z:=by
 intro pins s σ H o i v ov iv u Q I ro ri rv h;obtain⟨p,xs,k,j,rfl,rfl,hp,hj,q⟩:=h;cases ro;obtain⟨t,rfl⟩:=ri;obtain⟨its,n,r,ho,hz⟩:=I.lst hp;obtain⟨h1,h2,h3,h4⟩:=a9l hj;have hl:=r.length;have hn:=a45;have I':Inv X pins σ (upd H p (.lst (xs.set j v))) { s with heap:=s.heap.update p (Obj.mapSeq (·.setIfInBounds j u)) }:=
  I.lstUpd hp ho (a8x its n j u) (r.set rv j) (by rw[List.length_set];exact hz) s.toks
 by_cases h0:0≤k
 ·have hk:k.toNat=j:=by
   rw[seqIndex_of h0 h4]at h1;exact Option.some.inj h1
  exact PySem.W.ki_setAt ho h0 (by omega) (by rw[List.size_toArray,<- hl];exact h4) (by rw[hk];exact⟨_,I',q⟩)
 ·have hk:(k+(its.toArray.size:Int)).toNat=j:=by
   rw[seqIndex_neg (by omega) h3]at h1;rw[List.size_toArray,<- hl];exact Option.some.inj h1
  exact PySem.W.ki_setBack ho (by omega) (by rw[List.size_toArray,<- hl];exact h3) (by omega) (by rw[hk];exact⟨_,I',q⟩)
theorem a6g (lo hi:Option Int) (n:Nat):(sliceBounds lo hi none n).1=((HT.sIx n 0 lo:Nat):Int)/\(sliceBounds lo hi none n).2.1=((HT.sIx n n hi:Nat):Int)/\(sliceBounds lo hi none n).2.2=1:=by
 refine⟨?_,?_,rfl⟩
 ·cases lo with
  | none=>simp[sliceBounds,HT.sIx]
  | some i=>
   simp only[sliceBounds,HT.sIx,Option.getD_none,show (1:Int) > 0 by decide,if_true]
   by_cases h:i<0
   ·simp only[h,if_true]<;>omega
   ·simp only[h,if_false]<;>omega
 ·cases hi with
  | none=>simp[sliceBounds,HT.sIx]
  | some i=>
   simp only[sliceBounds,HT.sIx,Option.getD_none,show (1:Int) > 0 by decide,if_true]
   by_cases h:i<0
   ·simp only[h,if_true]<;>omega
   ·simp only[h,if_false]<;>omega
theorem a5x (its:List Value) (lo hi:Option Int):slicePick its.toArray lo hi none=((its.drop (HT.sIx its.length 0 lo)).take (HT.sIx its.length its.length hi - HT.sIx its.length 0 lo)).toArray:=by
 obtain⟨h1,h2,h3⟩:=a6g lo hi its.toArray.size;unfold slicePick;rw[h1,h2,h3];simp only[sliceRange_one,pick_run,List.size_toArray]<;>rfl
def rSlL (K:Fg):V->Option Int->Option Int->Hp->VK->Prop:=fun x lo hi H Q=>∃ a xs,x=.ref a/\SqL K H a xs/\∀ p,H p=none->Q (.ref p) (upd H p (.lst (cutV xs lo hi)))
theorem sl_list:SlR X (rSlL X.K):=by
 intro pins s σ H x v vl vu lo hi sl Q I rx hs pl pu h;obtain⟨a,xs,rfl,hx,q⟩:=h;cases rx;obtain⟨its,r,ht,hz⟩:=I.list hx;have hlen:=r.length;refine⟨"list",_,slot_list_getitem.lookup,ht.isList.typeIs,?_⟩;refine wpAny_getItem_list_slice ht.isList hs pl pu .none (by simp) ?_ (by rw[List.size_toArray]<;>omega)
 rw[a5x,<- hlen];refine⟨.ref s.heap.objs.size,_,I.laid (t':=s.toks) (o:=.lst (cutV xs lo hi)) (fun b ob q=>Heap.get?_push_of_some _ q) (Nat.le_refl _) ?_,rfl,q _ (I.hok.fresh (Nat.le_refl _))⟩;exact⟨Nat.le_trans (a4q xs lo hi) hz,_,0,(r.drop (HT.sIx xs.length 0 lo)).take (HT.sIx xs.length xs.length hi - HT.sIx xs.length 0 lo),Heap.get?_push_size _ rfl⟩
theorem CallR.or {f:Value}{r r':List V->Hp->VK->Prop}(h:CallR X f r) (h':CallR X f r'):CallR X f (fun xs H Q=>r xs H Q\/r' xs H Q):=by
 intro pins s σ H xs us Q I rs q;rcases q with q | q
 ·exact h pins s σ H xs us Q I rs q
 ·exact h' pins s σ H xs us Q I rs q
theorem a6h:CallR X (.type "list") (fun xs H Q=>∃ p ys,xs=[.ref p]/\(SqL X.K H p ys\/SqT X.K H p ys)/\∀ l,H l=none->Q (.ref l) (upd H l (.lst ys))):=by
 intro pins s σ H xs us Q I r h;obtain⟨p,ys,rfl,hq,q⟩:=h;obtain⟨u,rfl,rx⟩:=a3X r;cases rx;have fin:∀ (its:List Value),Vals ys its->ys.length≤sizeLine->∀ (h':Heap) (c':Nat),(∀ b o',s.heap.get? b=some o'->h'.get? b=some o') ->
   h'.get? s.heap.objs.size=some { cls:=.type "list",dict:=none,data:=.seq its.toArray c',slots:=#[] }->EP X pins σ Q (.ref s.heap.objs.size) { s with heap:=h' }:=fun its r' hz h' c' kp e=>
  ⟨.ref s.heap.objs.size,_,I.laid (t':=s.toks) kp (Nat.le_refl _) (show ObjOk X.prog X.w _ h' _ (.lst ys) from ⟨hz,its,c',r',e⟩),rfl,q _ (I.hok.fresh (Nat.le_refl _))⟩
 rcases hq with hq | hq
 ·obtain⟨its,r',pl,hz⟩:=I.list hq;have hlen:=r'.length;obtain⟨o,ho,hc,n,hd⟩:=pl.isList;exact call_list_seq p (.inl rfl) ho hc hd (fun h' c' kp e=>fin its r' hz h' c' kp e) (by simp only[List.size_toArray]<;>omega)
 ·obtain⟨its,r',pl,hz⟩:=I.tuple hq;have hlen:=r'.length;obtain⟨o,ho,hc,n,hd⟩:=pl;exact call_list_seq p (.inr rfl) ho hc hd (fun h' c' kp e=>fin its r' hz h' c' kp e) (by simp only[List.size_toArray]<;>omega)
theorem a5y:CallR X (.type "tuple") (fun xs H Q=>∃ p ys,xs=[.ref p]/\((SqL X.K H p ys/\∀ l,H l=none->Q (.ref l) (upd H l (.tup ys)))\/(SqT X.K H p ys/\Q (.ref p) H))):=by
 intro pins s σ H xs us Q I r h;obtain⟨p,ys,rfl,h⟩:=h;obtain⟨u,rfl,rx⟩:=a3X r;cases rx;rcases h with ⟨hq,q⟩ | ⟨hq,q⟩
 ·obtain⟨its,r',pl,hz⟩:=I.list hq;have hlen:=r'.length;refine call_tuple_list pl.isList (fun h' kp=>?_) (by simp only[List.size_toArray]<;>omega)
  have I1:Inv X pins σ H { s with heap:=h' }:=I.kept (t':=s.toks) kp;have I2:Inv X pins σ (upd H h'.objs.size (.tup ys)) { s with heap:=h'.push { cls:=.type "tuple",data:=.seq its.toArray } }:=
   I1.laid (t':=s.toks) (fun b o e=>Heap.get?_push_of_some _ e) (Nat.le_refl _) (show ObjOk X.prog X.w _ _ _ (.tup ys) from ⟨hz,its,r',IsTup.new _ _⟩)
  exact⟨.ref h'.objs.size,_,I2,rfl,q _ (I1.hok.fresh (Nat.le_refl _))⟩
 ·obtain⟨its,r',pl,hz⟩:=I.tuple hq;exact call_tuple_same pl ⟨.ref p,H,I,rfl,q⟩
def tyV (K:Fg) (T:String) (x:V) (H:Hp):Prop:=match x with
 | .str _=>T="str"
 | .int _=>T="int"
 | .ref p=>(T="list"/\∃ xs,SqL K H p xs)\/(T="tuple"/\∃ o,K.lookup p=some o/\o.cls=.type "tuple"/\o.dict=none) \/
   (T="dict"/\((∃ kvs,H p=some (.dK kvs))\/(∃ kvs,H p=some (.dT kvs))\/∃ ob kvs,H p=some (.frz ob (.dK kvs))))\/(T="set"/\∃ S n,H p=some (.set S n))
 | _=>False
theorem b4w {pins:List (Addr×Obj)}{σ:St}{H:Hp}{s:Shared}{T:String}{x:V}{v:Value}(I:Inv X pins σ H s) (r:RelV x v) (ty:tyV X.K T x H) :
  s.TypeIs v T/\∀ a,v=.ref a->∃ ob,s.heap.get? a=some ob/\ob.dict=none:=by
 cases x with
 | str z=>
  obtain⟨t,rfl⟩:=r;cases (show T="str" from ty);exact⟨typeIs_str s z t,fun _ e=>nomatch e⟩
 | int i=>
  obtain⟨t,rfl⟩:=r;cases (show T="int" from ty);exact⟨typeIs_int s i t,fun _ e=>nomatch e⟩
 | ref p=>
  cases r;rcases ty with ⟨rfl,xs,hq⟩ | ⟨rfl,o,hk,hc,hd⟩ | ⟨rfl,hk⟩ | ⟨rfl,S,n,hk⟩
  ·obtain⟨its,_,pl,_⟩:=I.list hq;refine⟨pl.isList.typeIs,fun a e=>?_⟩;cases e;obtain⟨o,n,e,c,hd,_⟩:=pl;exact⟨o,e,hd⟩
  ·refine⟨⟨o,I.kIn p o hk,hc⟩,fun a e=>?_⟩;cases e;exact⟨o,I.kIn _ o hk,hd⟩
  ·have z:∃ o,s.heap.get? p=some o/\o.ExactDict:=by
    rcases hk with ⟨kvs,hk⟩ | ⟨kvs,hk⟩ | ⟨ob,kvs,hk⟩
    ·obtain⟨_,_,_,_,o,_,_,e,ex,_⟩:=I.hok p _ hk;exact⟨o,e,ex⟩
    ·obtain⟨_,_,_,_,o,_,_,e,ex,_⟩:=I.hok p _ hk;exact⟨o,e,ex⟩
    ·obtain⟨_,_,_,_,_,o,_,_,e,ex,_⟩:=I.hok p _ hk;exact⟨o,e,ex⟩
   obtain⟨o,e,ex⟩:=z;refine⟨⟨o,e,ex.1⟩,fun a e2=>?_⟩;cases e2;exact⟨o,e,ex.2.1⟩
  ·obtain⟨o,_,_,_,e,ex,_⟩:=I.hok p _ hk;refine⟨⟨o,e,ex.1⟩,fun a e2=>?_⟩;cases e2;exact⟨o,e,ex.2.1⟩
 | _=>exact False.elim ty
def tBM (K:Fg) (T:String) (r:V->List V->Hp->VK->Prop) (to:TE) (t:TA):TE:=fun σ H Q=>to σ H fun x H1=>tyV K T x H1/\t σ H1 fun xs H2=>r x xs H2 Q
variable {o e:Expr}{es:List Expr}{to:TE}{t:TA}{name:Str}{apos cpos:Pos}{T id:String}{r:V->List V->Hp->VK->Prop}
theorem b6A (pa:PlainAttrs T) (slot:Slot T name id) (hty:typeOf (.builtin id)=pure (.type "method_descriptor")) (hm:MtR X id r) (ho:PE X o to) (ha:PA X (e::es) t)
  (hbase:attributeBase o name X.env (eval o X.env)=eval o X.env:=by rfl)
  (hfew:((backTo cpos (starEach (e::es) X.env)).all (fun x=>!x.1)&&(backToKw cpos (keywordEach [] X.env)).all (fun x=>x.1.isSome)
   && decide ((e::es).length+([]:List Keyword).length+(if ([]:List Keyword).isEmpty then 0 else 1)<30))=true:=by rfl)
  (hline:(apos.endLine==cpos.line)=true:=by rfl) (hs:starEach (e::es) X.env=(false,eval e X.env)::starEach es X.env:=by rfl) (hplain:(backTo cpos (starEach es X.env)).any (·.1)=false:=by rfl) :
  PE X (.Call (.Attribute o name apos) (e::es) [] cpos) (tBM X.K T r to t):=by
 intro pins s σ H Q I h;refine wpAny_Call_method_late hbase hfew hline rfl (thn (ho pins s σ H _ I h) fun v s1 ⟨x,H1,I1,r1,ty,q1⟩=>?_);obtain⟨h1,h2⟩:=b4w I1 r1 ty;refine⟨T,id,pa,slot,hty,h1,h2,?_⟩;have hA:=ha cpos pins s1 σ H1 _ I1 q1;rw[hs]at hA ⊢;refine Calls.callWith_builtin (by show (false||(backTo cpos (starEach es X.env)).any (·.1))=false;rw[hplain]<;>rfl) (Calls.evalArgs_plain ?_)
 exact thn hA fun us s2 ⟨vs,H2,I2,r2,q2⟩=>hm pins s2 σ H2 x vs v us Q I2 r1 r2 q2
end
end L2
namespace L2
open PySem PySem.Spec PyProof.Rows
def MtM (X:Cx) (id:String) (r:V->List V->Hp->VK->Prop):Prop:=
 ∀ (pins:List (Addr×Obj)) (s:Shared) (σ:St) (H:Hp) (x:V) (xs:List V) (v:Value) (us:List Value) (Q:VK),Inv X pins σ H s->RelV x v->Vals xs us->r x xs H Q ->
  wpAny (model X.prog X.w) X.A (call (.builtin id) (v::us)) (EP X pins σ Q) X.xe s
theorem Vals.one:∀ {x:V}{us:List Value},Vals [x] us->∃ u,us=[u]/\RelV x u
 | _,_,.cons r .nil=>⟨_,rfl,r⟩
theorem Vals.two:∀ {x y:V}{us:List Value},Vals [x,y] us->∃ u v,us=[u,v]/\RelV x u/\RelV y v:=by
 intro x y us h;cases h with
 | cons r h=>cases h with
  | cons q h=>cases h;exact⟨_,_,rfl,r,q⟩
theorem Vals.zero:∀ {us:List Value},Vals [] us->us=[]
 | _,.nil=>rfl
theorem Vals.dropLast {xs:List V}{us:List Value}(h:Vals xs us):Vals xs.dropLast us.dropLast:=by
 induction h with
 | nil=>exact .nil
 | cons r t ih=>
  cases t with
  | nil=>exact .nil
  | cons q t'=>exact .cons r ih
theorem Vals.eraseIdx:∀ {xs:List V}{us:List Value}(i:Nat),Vals xs us->Vals (xs.eraseIdx i) (us.eraseIdx i)
 | _,_,_,.nil=>.nil
 | _,_,0,.cons _ t=>t
 | _,_,i+1,.cons r t=>.cons r (Vals.eraseIdx i t)
theorem Vals.reverse {xs:List V}{us:List Value}(h:Vals xs us):Vals xs.reverse us.reverse:=by
 induction h with
 | nil=>exact .nil
 | cons r t ih=>rw[List.reverse_cons,List.reverse_cons];exact Vals.append ih (.cons r .nil)
theorem Vals.rep {xs:List V}{us:List Value}(h:Vals xs us):∀ k:Nat,Vals (List.replicate k xs).flatten (List.replicate k us).flatten
 | 0=>.nil
 | k+1=>by
  rw[List.replicate_succ,List.replicate_succ,List.flatten_cons,List.flatten_cons];exact Vals.append h (Vals.rep h k)
theorem a6i (its:List Value):∀ (k:Nat) (acc:List Value),
  List.foldl (fun x1 x2=>x1++x2) acc.toArray (List.replicate k its.toArray)=(acc++(List.replicate k its).flatten).toArray
 | 0,acc=>by simp
 | k+1,acc=>by
  have e:acc.toArray++its.toArray=(acc++its).toArray:=by simp
  have e2:(acc++its)++(List.replicate k its).flatten=acc++(List.replicate (k+1) its).flatten:=by
   rw[List.replicate_succ,List.flatten_cons,List.append_assoc]
  rw[<- e2,<- a6i its k (acc++its),<- e,List.replicate_succ,List.foldl_cons]
section
variable {X:Cx}{pins:List (Addr×Obj)}{σ:St}{H:Hp}{s:Shared}{l b:Addr}{xs ys zs:List V}
theorem Inv.lset {its its':List Value}{n:Nat}{f:Array Value->Array Value}{t':Nat}(I:Inv X pins σ H s) (hH:H l=some (.lst xs))
  (e:s.heap.get? l=some { cls:=.type "list",data:=.seq its.toArray n }) (hf:f its.toArray=its'.toArray) (hv:Vals ys its') (hz:ys.length≤sizeLine) :
  Inv X pins σ (upd H l (.lst ys)) { s with heap:=s.heap.update l (Obj.mapSeq f),toks:=t' }:=by
 have q:=PySem.IsL.update e f;rw[hf]at q;refine I.write (x:=l) (e:=l) (by rw[hH];exact trivial) (.inl rfl) (fun b' u hb hu=>(Heap.get?_update_other s.heap (Obj.mapSeq f) (Ne.symm hb)).trans hu) ⟨_,q⟩ ?_;exact⟨hz,its',_,hv,q⟩
theorem Inv.lnew {its:List Value}{t':Nat}(I:Inv X pins σ H s) (hv:Vals ys its) (hz:ys.length≤sizeLine) :
  Inv X pins σ (upd H s.heap.objs.size (.lst ys)) { s with heap:=s.heap.push { cls:=.type "list",data:=.seq its.toArray },toks:=t' }:=
 I.laid (fun _ _ q=>Heap.get?_push_of_some _ q) (Nat.le_refl _) ⟨hz,its,0,hv,Heap.get?_push_size _ rfl⟩
theorem Inv.fresh (I:Inv X pins σ H s):H s.heap.objs.size=none:=I.hok.fresh (Nat.le_refl _)
theorem Inv.lstM (I:Inv X pins σ H s) (hH:H l=some (.lst xs)):xs.length≤sizeLine/\∃ (its:List Value) (n:Nat),Vals xs its/\xs.length=its.length/\s.heap.get? l=some { cls:=.type "list",data:=.seq its.toArray n }:=by
 obtain⟨z,its,n,r,e⟩:=I.hok l _ hH;exact⟨z,its,n,r,r.length,e⟩
theorem a7y {n:Nat}(h:n≤sizeLine):Builtin.List.listTooLong n=false:=by
 unfold Builtin.List.listTooLong;exact decide_eq_false (by omega)
end
section
variable {X:Cx}
def b2Q:V->List V->Hp->VK->Prop:=fun x vs H Q=>∃ l xs y,x=.ref l/\vs=[y]/\H l=some (.lst xs)/\xs.length<sizeLine/\Q .non (upd H l (.lst (xs++[y])))
theorem a6j:MtM X "list.append" b2Q:=by
 intro pins s σ H x vs v us Q I rx rv h;obtain⟨l,xs,y,rfl,rfl,hH,hz,q⟩:=h;cases rx;obtain⟨u,rfl,ru⟩:=rv.one;obtain⟨z,its,n,r,hl,e⟩:=I.lstM hH;refine call_meets F.slot_list_append ⟨_,e,rfl⟩ F.entry_list_append (F.args_list_append_2 _ _) (PySem.list_append l its.toArray n u (by rw[List.size_toArray];omega)) ⟨e,?_⟩;refine⟨.non,_,I.lset (its':=its++[u]) hH e (by simp) (r.append (.cons ru .nil)) ?_,rfl,q⟩;rw[List.length_append,List.length_singleton];omega
def b2R:V->List V->Hp->VK->Prop:=fun x vs H Q=>∃ l b xs zs,x=.ref l/\vs=[.ref b]/\H l=some (.lst xs)/\H b=some (.lst zs)/\xs.length+zs.length≤sizeLine/\Q .non (upd H l (.lst (xs++zs)))
theorem a9n:MtM X "list.extend" b2R:=by
 intro pins s σ H x vs v us Q I rx rv h;obtain⟨l,b,xs,zs,rfl,rfl,hH,hB,hz,q⟩:=h;cases rx;obtain⟨u,rfl,ru⟩:=rv.one;cases ru;obtain⟨z,its,n,r,hl,e⟩:=I.lstM hH;obtain⟨z2,its2,n2,r2,hl2,e2⟩:=I.lstM hB;have hsz:its.toArray.size+its2.toArray.size≤sizeLine:=by rw[List.size_toArray,List.size_toArray];omega
 have hlong:¬ (!its.toArray.isEmpty&&Builtin.List.listTooLong (its.toArray.size+its2.toArray.size))=true:=by
  rw[a7y hsz,Bool.and_false];exact Bool.false_ne_true
 refine call_meets F.slot_list_extend ⟨_,e,rfl⟩ F.entry_list_extend (F.args_list_extend_2 _ _)
  (AutoSeq1.list_extend_list_list_0 l its.toArray n b its2.toArray n2 hlong (by rw[List.size_toArray];omega) (by omega)) ⟨e,e2,?_⟩
 refine⟨.non,_,I.lset (its':=its++its2) hH e (by simp) (r.append r2) ?_,rfl,q⟩;rw[List.length_append];omega
def rCat:R2:=fun x y H Q=>∃ l b xs zs,x=.ref l/\y=.ref b/\H l=some (.lst xs)/\H b=some (.lst zs)/\xs.length+zs.length≤sizeLine/\∀ p,H p=none->Q (.ref p) (upd H p (.lst (xs++zs)))
theorem b4x:OpR X (binaryOp .Add) rCat:=by
 intro pins s σ H x y v u Q I rx ry h;obtain⟨l,b,xs,zs,rfl,rfl,hH,hB,hz,q⟩:=h;cases rx;cases ry;obtain⟨z,its,n,r,hl,e⟩:=I.lstM hH;obtain⟨z2,its2,n2,r2,hl2,e2⟩:=I.lstM hB;refine PySem.P.add_list e e2 ?_ (by rw[List.size_toArray,List.size_toArray];omega);have ea:its.toArray++its2.toArray=(its++its2).toArray:=by simp
 rw[ea];exact⟨.ref _,_,I.lnew (t':=s.toks) (r.append r2) (by rw[List.length_append];omega),rfl,q _ I.fresh⟩
def rRep:R2:=fun x y H Q=>∃ l k xs,x=.ref l/\y=.int k/\H l=some (.lst xs)/\-(2 ^ 63)≤k/\k<2 ^ 63/\xs.length*k.toNat≤sizeLine /\
 ∀ p,H p=none->Q (.ref p) (upd H p (.lst (List.replicate k.toNat xs).flatten))
theorem b2S {α:Type}(xs:List α) (k:Nat):(List.replicate k xs).flatten.length=k*xs.length:=by
 induction k with
 | zero=>simp
 | succ k ih=>rw[List.replicate_succ,List.flatten_cons,List.length_append,ih,Nat.succ_mul,Nat.add_comm]
theorem b4y:OpR X (binaryOp .Mult) rRep:=by
 intro pins s σ H x y v u Q I rx ry h;obtain⟨l,k,xs,rfl,rfl,hH,h1,h2,hz,q⟩:=h;cases rx;obtain⟨t,rfl⟩:=ry;obtain⟨z,its,n,r,hl,e⟩:=I.lstM hH;have hlen:its.toArray.size*k.toNat≤sizeLine:=by rw[List.size_toArray,<- hl];exact hz
 have hcap:¬ its.toArray.size*k.toNat > (2 ^ 63 - 1) / 8:=by
  have:(sizeLine:Nat)≤(2 ^ 63 - 1) / 8:=by decide
  omega
 have hfit:¬ (!Builtin.List.listFitsIndex k)=true:=by
  rw[fitsIndex_both h1 h2];exact Bool.false_ne_true
 have hlong:¬ Builtin.List.listTooLong (its.toArray.size*k.toNat)=true:=by
  rw[a7y hlen];exact Bool.false_ne_true
 have hnew:List.foldl (fun x1 x2=>x1++x2) #[] (List.replicate (if its.toArray.isEmpty=true then 0 else k.toNat) its.toArray)=(List.replicate k.toNat its).flatten.toArray:=by
  have f0:∀ m:Nat,List.foldl (fun x1 x2=>x1++x2) #[] (List.replicate m its.toArray)=(List.replicate m its).flatten.toArray:=fun m=>by
   have:=a6i its m []
   rw[List.nil_append]at this;exact this
  rw[f0];cases its with
  | nil=>simp
  | cons a r'=>rw[if_neg (by simp)]
 refine wpAny_binaryOp_repeat_ref (T:="list") (U:="int") (by decide) ⟨_,e,rfl⟩ (fun s'=>typeIs_int s' k t) noFill_list_mul F.fills_int_mul F.slot_int_rmul repeat_list F.slot_int_index.lookup
  (call_meets F.slot_int_rmul (typeIs_int s k t) F.entry_int_rmul (F.args_int_rmul_2 _ _) (int___rmul___int_list k t l its.toArray n)
   ⟨e,rfl,⟨_,e,rfl⟩,call_meets F.slot_list_mul ⟨_,e,rfl⟩ F.entry_list_mul (F.args_list_mul_2 _ _) (AutoListH.list___mul___list_int_3 l its.toArray n k t hfit hcap hlong) ⟨e,?_⟩⟩)
 rw[hnew];exact⟨.ref _,_,I.lnew (t':=s.toks) (r.rep k.toNat) (by rw[b2S,Nat.mul_comm];exact hz),rfl,q _ I.fresh⟩
end
section
variable {prog:Program}{w:World}{A:Around}{E:Value->Shared->Prop}{s:Shared}
end
section
variable {X:Cx}
end
end L2
namespace Att
open PySem PySem.W PySem.Calls PyProof.Rows
theorem a4r {P:Params}{h:Heap}:∀ (ns:List Int) (vs:List Value),WellAll P h vs (ns.map WData.int)->IntsAre vs ns:=by
 intro ns
 induction ns with
 | nil=>
  intro vs w;rw[List.map_nil]at w;cases w;exact .nil
 | cons n ns ih=>
  intro vs w;rw[List.map_cons]at w;cases w with
  | cons a b=>
   cases a;exact .cons _ _ (ih _ b)
theorem a9o {l:OpenLaw}{n:Nat}(hn:l.most=some n) {P:Params}{h:Heap}{args:List WData}{vals:List Value}
  (hpre:l.row.toRowW.claim.pre args=true) (hwl:WellAll P h vals args) :
  ∃ a vs ns,vals=[Value.ref a]/\args=[WData.list (ns.map WData.int)]/\h.get? a=some { cls:=.type "list",data:=.seq vs.toArray }/\IntsAre vs ns/\ns.length≤n:=by
 have hsh:WShape.hasAll [] args [.list .int]=true:=(pre_splitW hpre).1;have hc:l.pre.holds [] { args:=args }=true:=(pre_splitW hpre).2;obtain⟨d,r,rfl,h1,h2⟩:=hasAllW_cons hsh;obtain rfl:=hasAllW_nil h2;obtain⟨xs,rfl,h3⟩:=hasW_list h1;obtain⟨ns,rfl⟩:=items_int h3;have hlen:ns.length≤n:=by
  unfold OpenLaw.pre at hc;have h4:(WTm.not (.lt (.lit (.int (n:Int))) (.len (.arg 0)))).holds [] { args:=[.list (ns.map .int)] }=true:=by
   have h4:=(holds_andW hc).1;rw[hn]at h4;exact h4
  have h5:=condW_of h4 (w_not (w_lt w_lit (w_len_list (w_arg rfl))));rw[List.length_map]at h5;refine Nat.le_of_not_lt fun q=>?_;have q':(n:Int)<((ns.length:Nat):Int):=by omega
  first
   | (rw[decide_eq_true q']at h5;exact absurd h5 (by decide))
   | (simp at h5;omega)
 cases hwl with
 | cons w1 w2=>
  cases w2;cases w1 with
  | list ho hall=>exact⟨_,_,ns,rfl,rfl,ho,a4r ns _ hall,hlen⟩
theorem a9p (l:OpenLaw) (args:List WData):l.row.toRowW.claim.post args (.bool true) args=true:=
 postW_of (r:=l.row.toRowW) (X:=(true==true))
  (show WShape.has [] (.bool true) .bool=true by first | rfl | decide | simp[WShape.has,WShape.arms,WShape.armsAll])
  (show (WTm.eq .res (.lit (.bool true))).value [] { args:=args,res:=some (.bool true),after:=args }=some (.bool (true==true)) from w_eq_bool (w_res rfl) w_lit) rfl
theorem attach_call {l:OpenLaw}{n:Nat}{q:Program}{loose:List Str}{XP:(Str->Option Value)->Heap->Prop}{YP:World->Heap->Prop}{d:DefRec}
  (hn:l.most=some n) (hdf:d.params.defaults=[])
  (call:∀ (w:World) (s₀ s₁:Shared) (mg mb:Str->Option Value) (fa:Addr) (o:Obj) (pm cd doc:Value) (a:Addr) (vs:List Value) (ns:List Int),
   Ground q loose [] XP w s₀ mg mb s₁.heap->YP w s₁.heap ->
   s₁.heap.get? fa=some o->o.data=.func (docDef d.name d.params d.body d.scope pm cd doc)->s₁.heap.CodeRec cd d.name->mg d.name=some (.ref fa) ->
   s₁.heap.get? a=some { cls:=.type "list",data:=.seq vs.toArray }->IntsAre vs ns->ns.length≤n->s₁.gens=#[] ->
   codeAny (model l.prog w) callerA (.call (.ref fa) ⟨[.ref a],[]⟩) (fun r s'=>r=.ok (.ret (.bool true))/\OldK s₁.heap s'.heap/\s'.os=s₁.os/\AllBare s'.gens) s₁) :
  WalkO q loose XP YP l.row.toRowW d [] (fun f vs=>PySem.call f vs):=by
 intro w s₀ s₁ mg mb G Y fa o pm cd doc dV kV ho hd hcd hD hmg hg args vals as hpre hlay hrd hwl hlo;obtain rfl:dV=.none:=Dflts.none hD hdf;obtain rfl:kV=.none:=Dflts.noKw hD;obtain⟨a,vs,ns,rfl,rfl,hobj,hints,hlen⟩:=a9o hn hpre hwl;refine enter_call (codeAny_mono (call w s₀ s₁ mg mb fa o pm cd doc a vs ns G Y ho (fd_plain hd) hcd hmg hobj hints hlen hg) fun r s' hq=>?_);obtain⟨rfl,h2,h3,h4⟩:=hq;exact⟨.inl ⟨.bool true,.bool true,[],rfl,fun _=>rfl,.bool true,a9p l _,fun _=>⟨List.Pairwise.nil,fun _ hm=>(nomatch hm)⟩⟩,h2,h3,h4⟩
section
variable {prog:Program}{w:World}{A:Around}{E:Value->Shared->Prop}{s:Shared}{K:Frag}
end
end Att
namespace L2
open PySem PySem.Spec PyProof.Rows
theorem a6k:∀ {vs:List Value}{ns:List Int},IntsAre vs ns->Vals (ns.map V.int) vs
 | _,_,.nil=>.nil
 | _,_,.cons n t h=>.cons ⟨t,rfl⟩ (a6k h)
def Only (H:Hp):Prop:=∀ b,H b=none\/∃ o xs,H b=some (.frz o (.lst xs))
theorem b00 {P:Program}{w:World}{K:Fg}{mg mb:Str->Option Value}{CX:CXT}{k:Nat}{fa a:Addr}{fd:FuncData}{x:Str}{sp:Sp}{s₁:Shared}{vs:List Value}{ns:List Int}
  (KX:K.In s₁.heap) (hns:s₁.heap.Ns mainGlobals mg) (hb:s₁.heap.Ns builtinsNs mb) (hbb:∀ x:Str,x≠"__name__"->mb x=bootBuiltins x) (hlim:s₁.heap.NoLimit) (hg:s₁.gens=#[])
  (ha:s₁.heap.get? a=some { cls:=.type "list",data:=.seq vs.toArray }) (hi:IntsAre vs ns) (hl:ns.length≤sizeLine) (hr:Room k callerA)
  (F:∀ base:Heap,K.In base->base.Ns mainGlobals mg->FnOk P w K mg base CX k fa fd [x] sp) (hbind:∀ (s:Shared) (u:Value),BindsTo s fd ⟨[u],[]⟩ [(x,u)])
  (hsp:∀ H:Hp,Only H->SqL K H a (ns.map V.int)->sp [.ref a] H (fun v _=>v=.bl true) fun _ _ _=>False)
  (hCX:∀ H e s',CX [] H s₁ (fun _ _ _=>False) e s'->False) :
  codeAny (model P w) callerA (.call (.ref fa) ⟨[.ref a],[]⟩) (fun r s'=>r=.ok (.ret (.bool true))/\OldK s₁.heap s'.heap/\s'.os=s₁.os/\AllBare s'.gens) s₁:=by
 have rv:=a6k hi;have lenV:=hi.length;have core:∀ H:Hp,Only H->SqL K H a (ns.map V.int)->HOk P w H s₁.heap->(∀ b,H b≠none->b=a)->(H a≠none->K.lookup a=none) ->
   codeAny (model P w) callerA (.call (.ref fa) ⟨[.ref a],[]⟩) (fun r s'=>r=.ok (.ret (.bool true))/\OldK s₁.heap s'.heap/\s'.os=s₁.os/\AllBare s'.gens) s₁:=by
  intro H hO hS hok hA hK;have base_of:∀ {b:Addr}{o:Obj},s₁.heap.get? b=some o->H b=none->(hidT s₁.heap H).get? b=some o:=fun e n=>b0L e n;have noA:∀ {b:Addr}{o:Obj}{es:Array DictEntry}{ep:Nat},s₁.heap.get? b=some o->o.data=.dict es ep->H b=none:=fun {b o es ep} e d=>by
   cases q:H b with
   | none=>rfl
   | some u=>
    have e':b=a:=hA b (by rw[q];simp);subst e';rw[ha]at e;cases e;have d':Data.seq vs.toArray _=Data.dict es ep:=d;cases d'
  have nsK:∀ {b:Addr}{m:Str->Option Value},s₁.heap.Ns b m->(hidT s₁.heap H).Ns b m:=fun {b m} ⟨o,es,ep,e,d,r⟩=>⟨o,es,ep,base_of e (noA e d),d,r⟩;have hKb:K.In (hidT s₁.heap H):=fun b o e=>base_of (KX b o e) (by
   cases q:H b with
   | none=>rfl
   | some u=>
    have e':b=a:=hA b (by rw[q];simp);subst e';rw[hK (by rw[q];simp)]at e;cases e)
  have hM:Mod K mg (hidT s₁.heap H):=⟨hKb,nsK hns,⟨mb,nsK hb,hbb⟩,let ⟨mc,h1,h2⟩:=hlim;⟨mc,nsK h1,h2⟩⟩;have e0:Env0 P w K mg (hidT s₁.heap H) callerA [] s₁ H:=⟨rfl,hM,fun b o e=>b2v e,Nat.le_of_eq (a8Y _ _),trivial,fun b hb=>absurd (show b∈([]:List Addr) from hb) (by simp),hok,.of_eq hg⟩;refine codeAny_mono ((F _ hKb (nsK hns)).run callerA [] s₁ H ⟨[.ref a],[]⟩ [.ref a] [.ref a] _ _ hr e0 (hbind s₁ (.ref a)) (.cons rfl .nil) (hsp H hO hS)) fun r s' h=>?_;cases r with
  | error e=>exact (hCX H e s' h).elim
  | ok fl=>
   cases fl with
   | next=>exact False.elim h
   | brk=>exact False.elim h
   | cont=>exact False.elim h
   | ret u=>
    obtain⟨v,H',os,bare,un,hok',r',q⟩:=h;have q':v=.bl true:=q;subst q';obtain rfl:u=Value.bool true:=r';refine⟨rfl,OldK.of_keep fun b o e=>?_,os,bare⟩;cases q:H b with
    | none=>exact un.keep b o e q (by intro z;exact absurd (show b∈([]:List Addr) from z) (by simp)) (by simp)
    | some u=>
     rcases hO b with z | ⟨ob,xs,z⟩
     ·rw[q]at z;cases z
     ·have z2:=un.frzs b ob _ z;obtain⟨e1,_⟩:=hok b _ z;obtain⟨e2,_⟩:=hok' b _ z2;rw[e]at e1;cases e1;exact e2
 cases hk:K.lookup a with
 | some o=>
  have e:=KX a o hk;rw[ha]at e;cases e;refine core (fun _=>none) (fun _=>.inl rfl) (.inr ⟨_,vs.toArray,_,hk,rfl,rfl,rfl,by rw[List.size_toArray,lenV];exact hl,by simpa using rv⟩) (fun b u z=>by have z':(none:Option HO)=some u:=z;cases z') (fun b z=>absurd rfl z) fun z=>absurd rfl z
 | none=>
  refine core (fun b=>if b=a then some (.frz { cls:=.type "list",data:=.seq vs.toArray } (.lst (ns.map V.int))) else none) (fun b=>?_) (.inl (.inr ⟨{ cls:=.type "list",data:=.seq vs.toArray },if_pos rfl⟩)) (fun b u z=>?_) (fun b z=>?_) fun _=>hk
  ·by_cases hb:b=a
   ·exact .inr ⟨_,_,if_pos hb⟩
   ·exact .inl (if_neg hb)
  ·by_cases hb:b=a
   ·have z':=(if_pos hb).symm.trans z;cases z';subst hb;exact⟨ha,by rw[List.length_map];exact hl,vs,_,rv,ha⟩
   ·have z':=(if_neg hb).symm.trans z;cases z'
  ·by_cases hb:b=a
   ·exact hb
   ·exact absurd (if_neg hb) z
end L2
namespace L2
open PySem PySem.Spec PyProof.Rows
theorem walk_of {l:PySem.W.OpenLaw}{n k:Nat}{q:Program}{loose:List Str}{XP:(Str->Option Value)->Heap->Prop}{YP:World->Heap->Prop}{d:DefRec}{K:Params->Fg}{CX:World->CXT}{sp:World->Sp}{x:Str}
  (hn:l.most=some n) (hn2:n≤sizeLine) (hdf:d.params.defaults=[]) (hr:Room k callerA)
  (hY:∀ (w:World) (h:Heap),YP w h->(K w.params).In h)
  (F:∀ (w:World) (mg:Str->Option Value) (fa:Addr) (h:Heap),(K w.params).In h->h.Ns mainGlobals mg->mg d.name=some (.ref fa) ->
   ∃ fd:FuncData,(∀ (s:Shared) (u:Value),BindsTo s fd ⟨[u],[]⟩ [(x,u)]) /\
    ∀ base:Heap,(K w.params).In base->base.Ns mainGlobals mg->FnOk l.prog w (K w.params) mg base (CX w) k fa fd [x] (sp w))
  (hsp:∀ (w:World) (H:Hp) (a:Addr) (ns:List Int),ns.length≤n->Only H->SqL (K w.params) H a (ns.map V.int)->sp w [.ref a] H (fun v _=>v=.bl true) fun _ _ _=>False)
  (hCX:∀ (w:World) (H:Hp) (s:Shared) (e:Value) (s':Shared),CX w [] H s (fun _ _ _=>False) e s'->False) :
  PySem.W.WalkO q loose XP YP l.row.toRowW d [] (fun f vs=>PySem.call f vs):=by
 refine Att.attach_call hn hdf fun w s₀ s₁ mg mb fa o pm cd doc a vs ns G Y ho hd hcd hmg hobj hints hlen hg=>?_;have KX:=hY w _ Y;obtain⟨fd,hb,hF⟩:=F w mg fa _ KX G.T.g hmg;exact b00 KX G.T.g G.T.b G.T.builtins G.T.nolimit hg hobj hints (Nat.le_trans hlen hn2) hr hF hb (fun H hO hS=>hsp w H a ns hlen hO hS) fun H e s'=>hCX w H s₁ e s'
end L2
namespace L2
open PySem PySem.Spec PyProof.Rows
def a2w (s:Stmt) (j:Nat):Stmt:=match s with
 | .ClassDef _ _ _ body _ _ _ _ _ _ _=>body.getD j (.Pass ⟨0,0,0,0⟩)
 | _=>.Pass ⟨0,0,0,0⟩
def a2T (s:Stmt):Arguments:=match s with
 | .FunctionDef _ a _ _ _ _ _ _ _ _=>a
 | _=>{ posonlyargs:=[],args:=[],vararg:=none,kwonlyargs:=[],kw_defaults:=[],kwarg:=none,defaults:=[] }
def a1O (s:Stmt):List Stmt:=match s with
 | .FunctionDef _ _ b _ _ _ _ _ _ _=>b
 | _=>[]
def a0g (s:Stmt):Scope:=match s with
 | .FunctionDef _ _ _ _ _ _ sc _ _ _=>sc
 | _=>{ kind:=.function,names:=[],isGenerator:=false,isCoroutine:=false }
abbrev CX0:CXT:=fun _ _ _ _ _ _=>False
abbrev E0:XK:=fun _ _ _=>False
theorem b01 {X:Cx}:a2v CX0 X E0:=fun _ _ _ _ _ _ _ h=>h.elim
structure Fun (K:Fg) (x qual:Str) (st:Stmt) (f:Addr) (fd:FuncData):Prop where
 ex:∃ (oc:Value) (od:Option Addr) (kV doc pm:Value) (an:Option Addr) (cdv ct:Value) (osl:Array (Option Value)),
  fd=PySem.W.fnOf x qual (a2T st) (a1O st) (a0g st) .none kV doc pm an cdv ct/\K.lookup f=some ⟨oc,od,.func fd,osl⟩/\PySem.W.codeIn K cdv qual=true
 kp:PySem.W.keepIn K (.ref f)=true
section
variable {P:Program}{w:World}{K:Fg}{mg:Str->Option Value}{base:Heap}
theorem Fun.ok {x qual:Str}{st:Stmt}{f:Addr}{fd:FuncData}{N ps:List Str}{k:Nat}{sp:Sp}(F:Fun K x qual st f fd) (S:FnScope N ps (a0g st)) (len:∀ vs H Q E,sp vs H Q E->vs.length=ps.length)
  (hbody:∀ (cdv:Value) (A:Around) (outer:List Env) (s:Shared) (H:Hp) (vs:List V) (Q:VK) (E:XK),Room k (A.deeper (envOfC qual (a0g st) s.heap.objs.size f cdv))->sp vs H Q E ->
   ∃ t,PSs (cxOf CX0 P w K mg base N qual (a0g st) f cdv A outer s H E).nox (a1O st) t/\t { nx:=fun _ H'=>Q .non H',rt:=Q } (start N vs) H):FnOk P w K mg base CX0 (k+1) f fd ps sp:=by
 obtain⟨oc,od,kV,doc,pm,an,cdv,ct,osl,rfl,lk,hcd⟩:=F.ex;refine b4s lk hcd S len fun A outer s H vs Q E hr hsp=>?_;obtain⟨t,h,q⟩:=hbody cdv A outer s H vs Q E hr hsp;exact⟨t,h.nox,q⟩
theorem Fun.binds {x qual:Str}{st:Stmt}{f:Addr}{fd:FuncData}{ps:List Str}(F:Fun K x qual st f fd)
  (h:∀ (kV doc pm:Value) (an:Option Addr) (cdv ct:Value) (us:List Value),us.length=ps.length->bindArgs (PySem.W.fnOf x qual (a2T st) (a1O st) (a0g st) .none kV doc pm an cdv ct) ⟨us,[]⟩=pure (ps.zip us)):Binds K fd ps []:=by
 obtain⟨oc,od,kV,doc,pm,an,cdv,ct,osl,rfl,lk,hcd⟩:=F.ex;exact .all (h kV doc pm an cdv ct)
theorem b11 {x qual:Str}{st:Stmt}{f:Addr}{oc:Value}{od an:Option Addr}{osl:Array (Option Value)}{kV doc pm cdv ct:Value}(l:K.lookup f=some ⟨oc,od,.func (PySem.W.fnOf x qual (a2T st) (a1O st) (a0g st) .none kV doc pm an cdv ct),osl⟩)
  (c:PySem.W.codeIn K cdv qual=true) (k:PySem.W.keepIn K (.ref f)=true):Fun K x qual st f (PySem.W.fnOf x qual (a2T st) (a1O st) (a0g st) .none kV doc pm an cdv ct):=⟨⟨oc,od,kV,doc,pm,an,cdv,ct,osl,rfl,l,c⟩,k⟩
end
theorem a0s {n:Nat}(h:n≤1000):n<sizeLine:=Nat.lt_of_le_of_lt h (by decide)
section
variable {X:Cx}
theorem pv (i:Nat) {x:Str}{pos:Pos}(hN:X.N[i]?=some x:=by rfl) (hv:Vis X.env.scope x:=by first | exact Or.inl rfl | exact Or.inr (Or.inl rfl) | exact Or.inr (Or.inr rfl)) (hd:(x==("__debug__":Str))=false:=by decide)
  (hcd:(x==("__classdict__":Str))=false:=by decide):PE X (.Name x pos) (tVar i):=b3Z hN hv hd hcd
end
def Same (H H':Hp):Prop:=∀ b o,H b=some o->H' b=some o
theorem Same.refl (H:Hp):Same H H:=fun _ _ h=>h
theorem Same.trans {H H1 H2:Hp}(a:Same H H1) (b:Same H1 H2):Same H H2:=fun c o h=>b c o (a c o h)
theorem Same.free {H H':Hp}(e:Same H H') {l:Addr}(h:H' l=Option.none):H l=Option.none:=by
 cases q:H l with
 | none=>rfl
 | some o=>
  rw[e l o q]at h;cases h
theorem Same.seq {K:Fg}{H H':Hp}{a:Addr}{xs:List V}(e:Same H H') (h:SqL K H a xs):SqL K H' a xs:=by
 rcases h with (h | ⟨o,h⟩) | h
 ·exact .inl (.inl (e _ _ h))
 ·exact .inl (.inr ⟨o,e _ _ h⟩)
 ·exact .inr h
end L2
namespace L2
open PySem PySem.Spec PyProof.Rows
section
variable {κ:Type}[DecidableEq κ]
def valV (kvs:List (κ×V)) (k:κ):Option V:=(kvs.find? fun kv=>decide (kv.1=k)).map (·.2)
def putK (kvs:List (κ×V)) (k:κ) (v:V):List (κ×V):=
 if (kvs.any fun kv=>decide (kv.1=k))=true then kvs.map (fun kv=>if kv.1=k then (kv.1,v) else kv) else kvs++[(k,v)]
def b4z (kvs:List (κ×V)) (k:κ):List (κ×V):=kvs.filter fun kv=>decide (kv.1≠k)
theorem a5z {p:κ×V}{r:List (κ×V)}{k:κ}(e:p.1=k):valV (p::r) k=some p.2:=by simp[valV,List.find?_cons,e]
theorem a5A {p:κ×V}{r:List (κ×V)}{k:κ}(e:¬ p.1=k):valV (p::r) k=valV r k:=by simp[valV,List.find?_cons,e]
theorem a7z (k:κ):∀ kvs:List (κ×V),(kvs.any fun kv=>decide (kv.1=k))=(valV kvs k).isSome
 | []=>rfl
 | p::r=>by
  rw[List.any_cons]
  by_cases e:p.1=k
  ·simp only[a5z e,decide_eq_true e,Bool.true_or,Option.isSome_some]
  ·rw[a5A e,decide_eq_false e,Bool.false_or];exact a7z k r
theorem a14 (kvs:List (κ×V)) (k:κ) (v:V):(putK kvs k v).length≤kvs.length+1:=by
 unfold putK
 split
 ·rw[List.length_map];omega
 ·rw[List.length_append,List.length_cons,List.length_nil];omega
theorem RelO.isSome_eq {o:Option V}{u:Option Value}(r:RelO o u):o.isSome=u.isSome:=by
 cases o with
 | none=>cases u with
  | none=>rfl
  | some _=>exact (show False from r).elim
 | some _=>cases u with
  | none=>exact (show False from r).elim
  | some _=>rfl
theorem RelO.getD {o:Option V}{u:Option Value}{d:V}{d':Value}(r:RelO o u) (rd:RelV d d'):RelV (o.getD d) (u.getD d'):=by
 cases o with
 | none=>cases u with
  | none=>exact rd
  | some _=>exact (show False from r).elim
 | some _=>cases u with
  | none=>exact (show False from r).elim
  | some _=>exact r
theorem KV.val {kvs:List (κ×V)}{vs:List (κ×Value)}(r:KV kvs vs) (k:κ):RelO (valV kvs k) (valueAt vs k):=by
 unfold KV at r
 induction r with
 | nil=>exact True.intro
 | @cons p q ps qs h t ih=>
  obtain⟨h1,h2⟩:=h
  by_cases e:p.1=k
  ·have e':q.1=k:=h1.symm.trans e;have b:valueAt (q::qs) k=some q.2:=by simp[valueAt,List.find?_cons,e']
   rw[a5z e,b];exact h2
  ·have e':¬ q.1=k:=fun z=>e (h1.trans z);have b:valueAt (q::qs) k=valueAt qs k:=by simp[valueAt,List.find?_cons,e']
   rw[a5A e,b];exact ih
theorem KV.any {kvs:List (κ×V)}{vs:List (κ×Value)}(r:KV kvs vs) (k:κ):(kvs.any fun kv=>decide (kv.1=k))=vs.any fun kv=>decide (kv.1=k):=by
 unfold KV at r
 induction r with
 | nil=>rfl
 | cons h t ih=>rw[List.any_cons,List.any_cons,ih,h.1]
theorem KV.repl {kvs:List (κ×V)}{vs:List (κ×Value)}(r:KV kvs vs) (k:κ) {y:V}{u:Value}(ry:RelV y u) :
  KV (kvs.map fun kv=>if kv.1=k then (kv.1,y) else kv) (vs.map fun kv=>if kv.1=k then (kv.1,u) else kv):=by
 unfold KV at r ⊢
 induction r with
 | nil=>exact .nil
 | @cons p q ps qs h t ih=>
  rw[List.map_cons,List.map_cons];refine .cons ?_ ih;obtain⟨h1,h2⟩:=h
  by_cases e:p.1=k
  ·rw[if_pos e,if_pos (h1.symm.trans e)];exact⟨h1,ry⟩
  ·rw[if_neg e,if_neg (fun z=>e (h1.trans z))];exact⟨h1,h2⟩
theorem KV.put {kvs:List (κ×V)}{vs:List (κ×Value)}(r:KV kvs vs) (k:κ) {y:V}{u:Value}(ry:RelV y u):KV (putK kvs k y) (stored vs k u):=by
 unfold putK stored;rw[r.any k]
 by_cases e:(vs.any fun kv=>decide (kv.1=k))=true
 ·rw[if_pos e,if_pos e];exact r.repl k ry
 ·rw[if_neg e,if_neg e];exact Paired.snoc r ⟨rfl,ry⟩
theorem KV.drop {kvs:List (κ×V)}{vs:List (κ×Value)}(r:KV kvs vs) (k:κ):KV (b4z kvs k) (without vs k):=by
 unfold KV at r ⊢;unfold b4z without
 induction r with
 | nil=>exact .nil
 | @cons p q ps qs h t ih=>
  obtain⟨h1,h2⟩:=h;rw[List.filter_cons,List.filter_cons]
  by_cases e:p.1=k
  ·have a:¬ decide (p.1≠k)=true:=by simp[e]
   have b:¬ decide (q.1≠k)=true:=by simp[h1.symm.trans e]
   rw[if_neg a,if_neg b];exact ih
  ·have e':¬ q.1=k:=fun z=>e (h1.trans z);have a:decide (p.1≠k)=true:=by simp[e]
   have b:decide (q.1≠k)=true:=by simp[e']
   rw[if_pos a,if_pos b];exact .cons ⟨h1,h2⟩ ih
theorem KV.keys {kvs:List (κ×V)}{vs:List (κ×Value)}(r:KV kvs vs):kvs.map (·.1)=vs.map (·.1):=by
 unfold KV at r
 induction r with
 | nil=>rfl
 | cons h t ih=>rw[List.map_cons,List.map_cons,ih,h.1]
theorem KV.length {kvs:List (κ×V)}{vs:List (κ×Value)}(r:KV kvs vs):kvs.length=vs.length:=Paired.length r
end
theorem a8y {P:Program}{w:World}{k:Key}{u:Value}(r:RelV (kV k) u):(a0F P w).is k u=true:=by
 match k,r with
 | .inl (some i),r=>obtain⟨t,e⟩:=(show ∃ t,u=Value.int i t from r);subst e;exact a6X P w i t
 | .inl none,r=>rw[show u=Value.none from r];rfl
 | .inr x,r=>obtain⟨t,e⟩:=(show ∃ t,u=Value.str x t from r);subst e;exact a6Y P w x t
theorem a6l {P:Program}{w:World}:∀ {ks:List Key}{us:List Value},Vals (ks.map kV) us->ItemsAre (a0F P w) ks us
 | [],_,r=>by rw[List.map_nil]at r;cases r;exact .nil
 | k::ks,_,r=>by
  rw[List.map_cons]at r;cases r with
  | cons h t=>exact .cons (a8y h) (a6l t)
abbrev KT (H:Hp):List (List Key×V)->List (List Key×Addr×Value)->Prop:=Paired fun p q=>p.1=q.1/\H q.2.1=some (.tup (p.1.map kV))/\RelV p.2 q.2.2
theorem KT.val {H:Hp}{kvs:List (List Key×V)}{xs:List (List Key×Addr×Value)}(r:KT H kvs xs) (k:List Key):RelO (valV kvs k) ((atKey xs k).map (·.2)):=by
 induction r with
 | nil=>exact True.intro
 | @cons p q ps qs h t ih=>
  obtain⟨h1,_,h2⟩:=h
  by_cases e:p.1=k
  ·have e':q.1=k:=h1.symm.trans e;have b:atKey (q::qs) k=some q.2:=by simp[atKey,List.find?_cons,e']
   rw[a5z e,b];exact h2
  ·have e':¬ q.1=k:=fun z=>e (h1.trans z);have b:atKey (q::qs) k=atKey qs k:=by simp[atKey,List.find?_cons,e']
   rw[a5A e,b];exact ih
theorem KT.repl {H:Hp}{kvs:List (List Key×V)}{xs:List (List Key×Addr×Value)}(r:KT H kvs xs) (k:List Key) {y:V}{u:Value}(ry:RelV y u) :
  KT H (kvs.map fun kv=>if kv.1=k then (kv.1,y) else kv) (xs.map (putAt k u)):=by
 induction r with
 | nil=>exact .nil
 | @cons p q ps qs h t ih=>
  rw[List.map_cons,List.map_cons];refine .cons ?_ ih;obtain⟨h1,h2,h3⟩:=h;unfold putAt
  by_cases e:p.1=k
  ·rw[if_pos e,if_pos (h1.symm.trans e)];exact⟨h1,h2,ry⟩
  ·rw[if_neg e,if_neg (fun z=>e (h1.trans z))];exact⟨h1,h2,h3⟩
theorem KT.put {H:Hp}{kvs:List (List Key×V)}{xs:List (List Key×Addr×Value)}(r:KT H kvs xs) (k:List Key) {b:Addr}{y:V}{u:Value}(hb:H b=some (.tup (k.map kV))) (ry:RelV y u) :
  KT H (putK kvs k y) (storedH xs k b u):=by
 have e:(kvs.any fun kv=>decide (kv.1=k))=(atKey xs k).isSome:=by
  rw[a7z,(r.val k).isSome_eq,Option.isSome_map]
 unfold putK storedH;rw[e]
 by_cases q:(atKey xs k).isSome=true
 ·rw[if_pos q,if_pos q];exact r.repl k ry
 ·rw[if_neg q,if_neg q];exact Paired.snoc r ⟨rfl,hb,ry⟩
theorem KT.keeps {H H':Hp}{kvs:List (List Key×V)}{xs:List (List Key×Addr×Value)}(r:KT H kvs xs) (ht:∀ b ys,H b=some (.tup ys)->H' b=some (.tup ys)):KT H' kvs xs:=
 Paired.mapP r fun _ _ z=>⟨z.1,ht _ _ z.2.1,z.2.2⟩
section
variable {P:Program}{w:World}{H:Hp}{h:Heap}{a:Addr}
theorem b4A {u:HO}(ok:HOk P w H h) (e:Rd H a u):ObjOk P w H h a u:=e.ok ok
theorem b2T {kvs:List (Key×V)}(ok:HOk P w H h) (e:Rd H a (.dK kvs)):kvs.length≤sizeLine/\(a==sysModules)=false/\∃ vs,KV kvs vs/\h.DictOf (a0F P w) a vs:=
 show ObjOk P w H h a (.dK kvs) from b4A ok e
theorem b02 {kvs:List (Key×V)}(ok:HOk P w H h) (e:H a=some (.dK kvs)):kvs.length≤sizeLine/\(a==sysModules)=false/\∃ vs,KV kvs vs/\h.DictOf (a0F P w) a vs:=b2T ok (.inl e)
theorem a7A {ks:List Key}(ok:HOk P w H h) (e:H a=some (.tup (ks.map kV))):(tupleKind (a0F P w)).is h ks a:=by
 obtain⟨_,its,r,o,h1,h2,n,h3⟩:=(show ObjOk P w H h a (.tup (ks.map kV)) from ok a _ e);exact⟨o,its.toArray,n,h1,h2,h3,by simpa using a6l r⟩
theorem b2U {kvs:List (List Key×V)}(ok:HOk P w H h) (e:Rd H a (.dT kvs)):kvs.length≤sizeLine/\(a==sysModules)=false /\
  ∃ xs,KT H kvs xs/\h.DictOfH (tupleKind (a0F P w)) a xs:=by
 obtain⟨z,y,xs,r,o,es,ep,h1,h2,h3,h4,h5⟩:=(show ObjOk P w H h a (.dT kvs) from b4A ok e);refine⟨z,y,xs,r,o,es,ep,h1,h2,h3,h4,fun x hx=>?_,h5⟩;have all:∀ {l:List (List Key×V)}{m:List (List Key×Addr×Value)},KT H l m->∀ x∈m,(tupleKind (a0F P w)).is h x.1 x.2.1:=by
  intro l m q
  induction q with
  | nil=>intro x hx;exact nomatch hx
  | @cons p q ps qs hq t ih=>
   intro x hx;rcases List.mem_cons.mp hx with e | hx
   ·subst e;exact a7A ok (by rw[<- hq.1];exact hq.2.1)
   ·exact ih x hx
 exact all r x hx
theorem b6B {kvs:List (List Key×V)}(ok:HOk P w H h) (e:H a=some (.dT kvs)):kvs.length≤sizeLine/\(a==sysModules)=false /\
  ∃ xs,KT H kvs xs/\h.DictOfH (tupleKind (a0F P w)) a xs:=b2U ok (.inl e)
end
def DGet (H:Hp) (a:Addr) (y:V) (r:Option V):Prop:=
 (∃ kvs k,Rd H a (.dK kvs)/\y=kV k/\r=valV kvs k)\/∃ kvs k b,Rd H a (.dT kvs)/\y=.ref b/\H b=some (.tup (k.map kV))/\r=valV kvs k
def DPut (H:Hp) (a:Addr) (y v:V) (H':Hp):Prop:=
 (∃ kvs k,H a=some (.dK kvs)/\y=kV k/\kvs.length<sizeLine/\H'=upd H a (.dK (putK kvs k v))) \/
 ∃ kvs k b,H a=some (.dT kvs)/\y=.ref b/\H b=some (.tup (k.map kV))/\kvs.length<sizeLine/\H'=upd H a (.dT (putK kvs k v))
theorem DGet.k {H:Hp}{a:Addr}{kvs:List (Key×V)}{k:Key}(e:H a=some (.dK kvs)):DGet H a (kV k) (valV kvs k):=.inl ⟨kvs,k,.inl e,rfl,rfl⟩
theorem DGet.t {H:Hp}{a b:Addr}{kvs:List (List Key×V)}{k:List Key}(e:H a=some (.dT kvs)) (eb:H b=some (.tup (k.map kV))):DGet H a (.ref b) (valV kvs k):=.inr ⟨kvs,k,b,.inl e,rfl,eb,rfl⟩
theorem DPut.k {H:Hp}{a:Addr}{kvs:List (Key×V)}{k:Key}{v:V}(e:H a=some (.dK kvs)) (hl:kvs.length<sizeLine):DPut H a (kV k) v (upd H a (.dK (putK kvs k v))):=.inl ⟨kvs,k,e,rfl,hl,rfl⟩
theorem DPut.t {H:Hp}{a b:Addr}{kvs:List (List Key×V)}{k:List Key}{v:V}(e:H a=some (.dT kvs)) (eb:H b=some (.tup (k.map kV))) (hl:kvs.length<sizeLine) :
  DPut H a (.ref b) v (upd H a (.dT (putK kvs k v))):=.inr ⟨kvs,k,b,e,rfl,eb,hl,rfl⟩
section
variable {X:Cx}{pins:List (Addr×Obj)}{σ:St}{H:Hp}{s:Shared}{a:Addr}{y v:V}{u r:Value}{o:Option V}{A:Around}{E:Value->Shared->Prop}
theorem Inv.big (I:Inv X pins σ H s):sysModules<s.heap.objs.size:=by
 have h:mainGlobals<s.heap.objs.size:=(I.mod.glob.keeps I.bk).lt;exact Nat.lt_trans (by decide) h
theorem b2V {Q:Value->Shared->Prop}(hu:A.units+1<cLine) (I:Inv X pins σ H s) (g:DGet H a y o) (ry:RelV y u) (h:∀ s',Inv X pins σ H s'->Q (.bool (!o.isSome)) s') :
  wpAny (model X.prog X.w) A (compareOp .NotIn u (.ref a)) Q E s:=by
 rcases g with ⟨kvs,k,e,ey,l⟩ | ⟨kvs,k,b,e,ey,eb,l⟩
 ·subst ey;obtain⟨z,hd,vs,rel,dd⟩:=b2T I.hok e;refine wpAny_notIn_of (a8y ry) hd dd.mapOf ?_;rw[<- (rel.val k).isSome_eq,<- l];exact h _ (I.tok _)
 ·subst ey;cases (show u=Value.ref b from ry);obtain⟨z,hd,xs,rel,dd⟩:=b2U I.hok e;refine wpAny_notIn_heap (tupleKind_room_in1 hu) (a7A I.hok eb) hd dd ?_;have q:=(rel.val k).isSome_eq;rw[Option.isSome_map]at q;rw[<- q,<- l];exact h _ (I.tok _)
theorem a5B {h':Heap}{t':Nat}{ob:HO}(I:Inv X pins σ H s) (mu:Mut (H a)) (hs:Heap.SameBut a s.heap h') (he:∃ q,h'.get? a=some q) (new:ObjOk X.prog X.w (upd H a ob) h' a ob) :
  Inv X pins σ (upd H a ob) { s with heap:=h',toks:=t' }:=
 I.write (x:=a) (e:=a) mu (.inl rfl) (fun b q hb z=>(hs.2 b hb).trans z) he new
theorem a9q {P:Program}{w:World}{H':Hp}{h':Heap}{kvs:List (Key×V)}{vs:List (Key×Value)}(z:kvs.length≤sizeLine) (hd:(a==sysModules)=false) (rel:KV kvs vs) (dd:h'.DictOf (a0F P w) a vs) :
  ObjOk P w H' h' a (.dK kvs):=⟨z,hd,vs,rel,dd⟩
theorem a9r {H':Hp}{Q:Unit->Shared->Prop}(hu:A.units+1<cLine) (I:Inv X pins σ H s) (g:DPut H a y v H') (ry:RelV y u) (rv:RelV v r) (h:∀ s',Inv X pins σ H' s'->Q () s') :
  wpAny (model X.prog X.w) A (setItem (.ref a) u r) Q E s:=by
 rcases g with ⟨kvs,k,e,ey,l,eH⟩ | ⟨kvs,k,b,e,ey,eb,l,eH⟩
 ·subst ey eH;obtain⟨z,hd,vs,rel,dd⟩:=b02 I.hok e;have hz:vs.length≤sizeLine:=by rw[<- rel.length];exact z
  have hl:(putK kvs k v).length≤sizeLine:=by have:=a14 kvs k v;omega
  refine wpAny_setItem_pairs (hsz:=hz) (a8y ry) dd fun h' dd' hs=>h _ ?_;have he:∃ q,h'.get? a=some q:=let ⟨q,_,_,hq,_⟩:=dd';⟨q,hq⟩
  exact a5B I (by rw[e];exact True.intro) hs he (a9q hl hd (rel.put k rv) dd')
 ·subst ey eH;cases (show u=Value.ref b from ry);obtain⟨z,hd,xs,rel,dd⟩:=b6B I.hok e;have hz:xs.length≤sizeLine:=by rw[<- Paired.length rel];exact z
  have hl:(putK kvs k v).length≤sizeLine:=by have:=a14 kvs k v;omega
  refine wpAny_setItem_heap (hsz:=hz) (tupleKind_room_in1 hu) (a7A I.hok eb) dd fun h' dd' hs=>h _ ?_;obtain⟨q,es,ep,hq,h2,h3,h4,_,h5⟩:=dd';refine a5B I (by rw[e];exact True.intro) hs ⟨q,hq⟩ ⟨hl,hd,_,(rel.put k eb rv).keeps fun c ys ec=>?_,q,es,ep,hq,h2,h3,h4,h5⟩;rw[a0v (b6f ec e (fun z=>nomatch z))];exact ec
end
section
variable {X:Cx}{pins:List (Addr×Obj)}{σ:St}{H:Hp}{s:Shared}{a:Addr}{kvs:List (Key×V)}{k:Key}{u:Value}{A:Around}{E:Value->Shared->Prop}
end
section
variable {X:Cx}{o i e value:Expr}{pos pos' tpos:Pos}{td ty tv:TE}
end
theorem a7B {P:Program}{w:World}{H:Hp}(h:Heap) (hb:sysModules<h.objs.size):ObjOk P w H (h.push { cls:=.type "dict",data:=.dict #[] }) h.objs.size (.dK []):=
 ⟨Nat.zero_le _,beq_eq_false_iff_ne.mpr (Ne.symm (Nat.ne_of_lt hb)),[],.nil,Heap.DictOf.new h⟩
def b4B:TE:=fun _ H Q=>∀ p,H p=none->Q (.ref p) (upd H p (.dK []))
section
variable {X:Cx}{pos:Pos}
theorem b03:PE X (.Dict [] [] pos) b4B:=fun pins s σ H Q I h=>
 wpAny_Dict_empty ⟨.ref s.heap.objs.size,_,I.laid (a:=s.heap.objs.size) (o:=.dK []) (t':=s.toks) (fun _ _ q=>Heap.get?_push_of_some _ q) (Nat.le_refl _) (a7B s.heap I.big),rfl,h _ (I.hok.fresh (Nat.le_refl _))⟩
end
def a7C:List (TE×TE)->St->Hp->(List (V×V)->Hp->Prop)->Prop
 | [],_,H,Q=>Q [] H
 | (tk,tv)::r,σ,H,Q=>tk σ H fun x H1=>tv σ H1 fun y H2=>a7C r σ H2 fun ps H3=>Q ((x,y)::ps) H3
abbrev VV:List (V×V)->List (Value×Value)->Prop:=Paired fun p q=>RelV p.1 q.1/\RelV p.2 q.2
def PPs (X:Cx) (pos:Pos) (keys:List (Option Expr)) (values:List Expr) (trs:List (TE×TE)):Prop:=
 ∀ (pins:List (Addr×Obj)) (s:Shared) (σ:St) (H:Hp) (Q:List (V×V)->Hp->Prop),Inv X pins σ H s->a7C trs σ H Q ->
  wpAny (model X.prog X.w) X.A (evalPairs (pairTrees keys values X.env pos)) (fun vs s'=>∃ ps H',Inv X pins σ H' s'/\VV ps vs/\Q ps H') X.xe s
theorem b2W {X:Cx}{pos:Pos}:PPs X pos [] [] []:=fun pins s σ H Q I h=>pairTrees_nil_walk ⟨[],H,I,.nil,h⟩
theorem b04 {X:Cx}{pos:Pos}{k v:Expr}{ks:List (Option Expr)}{vs:List Expr}{tk tv:TE}{trs:List (TE×TE)}(hk:PE X k tk) (hv:PE X v tv) (hr:PPs X pos ks vs trs) :
  PPs X pos (some k::ks) (v::vs) ((tk,tv)::trs):=fun pins s σ H Q I h=>
 pairTrees_cons_walk (thn (hk pins s σ H _ I h) fun u s1 ⟨x,H1,I1,rx,q1⟩=>thn (hv pins s1 σ H1 _ I1 q1) fun w2 s2 ⟨y,H2,I2,ry,q2⟩=>
  thn (hr pins s2 σ H2 _ I2 q2) fun ws s3 ⟨ps,H3,I3,rel,q3⟩=>⟨(x,y)::ps,H3,I3,.cons ⟨rx,ry⟩ rel,q3⟩)
def a3R (kvs more:List (Key×V)):List (Key×V):=more.foldl (fun acc kv=>putK acc kv.1 kv.2) kvs
theorem KV.merge:∀ {more:List (Key×V)}{rs:List (Key×Value)}{kvs:List (Key×V)}{vs:List (Key×Value)},KV more rs->KV kvs vs->KV (a3R kvs more) (merged vs rs):=by
 intro more rs kvs vs r;unfold KV at r
 induction r generalizing kvs vs with
 | nil=>intro q;exact q
 | @cons p q ps qs h t ih=>
  intro r0;have e:KV (putK kvs p.1 p.2) (stored vs q.1 q.2):=by
   have:=r0.put p.1 h.2
   rw[<- h.1];exact this
  exact ih e
theorem a28:∀ (more kvs:List (Key×V)),(a3R kvs more).length≤kvs.length+more.length
 | [],kvs=>by show kvs.length≤kvs.length+0;omega
 | p::r,kvs=>by
  have h1:=a28 r (putK kvs p.1 p.2);have h2:=a14 kvs p.1 p.2
  show (a3R (putK kvs p.1 p.2) r).length≤_
  rw[List.length_cons];omega
theorem a5a {P:Program}{w:World}:∀ {kvs:List (Key×V)}{ws:List (Value×Value)},VV (kvs.map fun kv=>(kV kv.1,kv.2)) ws->∃ rs,Carries (a0F P w) ws rs/\KV kvs rs
 | [],_,r=>by rw[List.map_nil]at r;cases r;exact⟨[],True.intro,.nil⟩
 | p::kvs,_,r=>by
  rw[List.map_cons]at r;cases r with
  | @cons a b as bs h t=>
   obtain⟨rs,c,q⟩:=a5a (P:=P) (w:=w) t;obtain⟨b1,b2⟩:=b;exact⟨(p.1,b2)::rs,⟨a8y h.1,rfl,c⟩,.cons ⟨rfl,h.2⟩ q⟩
def b6C (trs:List (TE×TE)):TE:=fun σ H Q=>∀ p,H p=none->a7C trs σ (upd H p (.dK [])) fun ps H2=>H2 p=some (.dK [])/\∃ kvs:List (Key×V),ps=kvs.map (fun kv=>(kV kv.1,kv.2))/\kvs.length≤15/\Q (.ref p) (upd H2 p (.dK (a3R [] kvs)))
theorem b2X {X:Cx}{pos:Pos}{keys:List (Option Expr)}{values:List Expr}{trs:List (TE×TE)}(h:PPs X pos keys values trs) (hall:keys.all (·.isSome)=true) (hl:keys.length=values.length) (h0:keys≠[])
  (h15:keys.length≤15):PE X (.Dict keys values pos) (b6C trs):=by
 intro pins s σ H Q I q;have hn:=I.hok.fresh (Nat.le_refl s.heap.objs.size);have I1:=I.laid (a:=s.heap.objs.size) (o:=.dK []) (h':=s.heap.push { cls:=.type "dict",data:=.dict #[] }) (t':=s.toks) (fun _ _ q=>Heap.get?_push_of_some _ q) (Nat.le_refl _) (a7B s.heap I.big);refine wpAny_Dict_walk (knd:=a0F X.prog X.w) hall hl h0 h15 (thn (h pins _ σ _ _ I1 (q _ hn)) fun ws s2 ⟨ps,H2,I2,rel,e,kvs,ep,lk,q2⟩=>?_);subst ep;obtain⟨rs,c,rk⟩:=a5a (P:=X.prog) (w:=X.w) rel;obtain⟨z,hd,vs0,r0,dd⟩:=b02 I2.hok e;cases r0;refine⟨rs,c,dd,fun h' dd' hs=>⟨.ref s.heap.objs.size,_,?_,rfl,q2⟩⟩;have hz:(a3R [] kvs).length≤sizeLine:=by
  have h1:=a28 kvs [];rw[List.length_nil]at h1;rw[sizeLine_eq];omega
 have he:∃ q,h'.get? s.heap.objs.size=some q:=let ⟨q,_,_,hq,_⟩:=dd';⟨q,hq⟩
 exact a5B I2 (by rw[e];exact True.intro) hs he (a9q hz hd (rk.merge .nil) dd')
section
variable {X:Cx}{pins:List (Addr×Obj)}{σ:St}{H:Hp}{s:Shared}{a:Addr}{y d:V}{u r:Value}{o:Option V}{A:Around}{E:Value->Shared->Prop}
theorem b4C {Q:Value->Shared->Prop}(hu:A.units+1<cLine) (I:Inv X pins σ H s) (g:DGet H a y o) (ry:RelV y u) (rd:RelV d r) (h:∀ w' s',Inv X pins σ H s'->RelV (o.getD d) w'->Q w' s') :
  wpAny (model X.prog X.w) A (call (.builtin "dict.get") [.ref a,u,r]) Q E s:=by
 rcases g with ⟨kvs,k,e,ey,l⟩ | ⟨kvs,k,b,e,ey,eb,l⟩
 ·subst ey;obtain⟨z,hd,vs,rel,dd⟩:=b2T I.hok e;refine call_meetsIn PySem.F.slot_dict_get dd.typeIs PySem.F.entry_dict_get (PySem.F.args_dict_get_3 _ _ _) (meets_dict_get_default (a0F X.prog X.w) a (a8y ry) hd r) ⟨_,dd.mapOf,h _ _ (I.tok _) ?_⟩;rw[l];exact (rel.val k).getD rd
 ·subst ey;cases (show u=Value.ref b from ry);obtain⟨z,hd,xs,rel,dd⟩:=b2U I.hok e;refine call_meetsIn PySem.F.slot_dict_get dd.typeIs PySem.F.entry_dict_get (PySem.F.args_dict_get_3 _ _ _) (meetsH_dict_get_default (tupleKind (a0F X.prog X.w)) a b hd r) ⟨tupleKind_room_in1 hu,k,xs,a7A I.hok eb,dd,h _ _ (I.tok _) ?_⟩;rw[l];exact (rel.val k).getD rd
end
section
variable {X:Cx}{o e f:Expr}{apos cpos:Pos}{td ty tx:TE}
end
section
variable {X:Cx}{pins:List (Addr×Obj)}{σ:St}{H:Hp}{s:Shared}{a:Addr}{kvs:List (Key×V)}{A:Around}{E:Value->Shared->Prop}
end
section
variable {X:Cx}{pins:List (Addr×Obj)}{σ:St}{H:Hp}{s:Shared}{a:Addr}{y:V}{u:Value}{A:Around}{E:Value->Shared->Prop}
end
end L2
namespace PySem
def a0T (env:Env):List (Str×NameKind)->List (Str×Addr)->List (Str×Addr)
 | [],cs=>cs
 | (n,k)::r,cs=>if (k==.free)=true then a0T env r ((n,(env.cells.lookup n).getD 0)::cs) else a0T env r cs
theorem a5C {scope:Scope}{env:Env}(h:∀ x∈scope.names,x.2=.free->∃ c,env.cells.lookup x.1=some c):closureFor scope env=pure (a0T env scope.names []):=by
 simp only[closureFor]
 suffices H:∀ (l:List (Str×NameKind)) (cs:List (Str×Addr)),(∀ x∈l,x.2=.free->∃ c,env.cells.lookup x.1=some c) ->
   (forIn l cs (fun (x:Str×NameKind) (r:List (Str×Addr))=>if (x.snd==NameKind.free)=true then do let a <- cellOf env x.fst;pure (ForInStep.yield ((x.fst,a)::r)) else pure (ForInStep.yield r)):Sem (List (Str×Addr)))=pure (a0T env l cs) by
  rw[H scope.names [] h];rfl
 intro l
 induction l with
 | nil=>intro cs _;rfl
 | cons x l ih=>
  intro cs hx;obtain⟨n,k⟩:=x;have ih':=fun cs=>ih cs fun y hy=>hx y (List.mem_cons_of_mem _ hy);rw[List.forIn_cons]
  by_cases hk:k=.free
  ·subst hk;obtain⟨c,hc⟩:=hx (n,.free) List.mem_cons_self rfl;have hcell:cellOf env n=pure c:=by unfold cellOf;rw[hc]
   dsimp only;rw[if_pos (show (NameKind.free==NameKind.free)=true from rfl),hcell];have e:a0T env ((n,NameKind.free)::l) cs=a0T env l ((n,c)::cs):=by
    show (if (NameKind.free==NameKind.free)=true then _ else _)=_
    rw[if_pos (show (NameKind.free==NameKind.free)=true from rfl)];show a0T env l ((n,(List.lookup n env.cells).getD 0)::cs)=_;rw[show List.lookup n env.cells=some c from hc];rfl
   rw[e,<- ih' ((n,c)::cs)]
   rfl
  ·have hb:(k==NameKind.free)=false:=by simpa using hk
   have e:a0T env ((n,k)::l) cs=a0T env l cs:=by
    show (if (k==NameKind.free)=true then _ else _)=_
    rw[hb];rfl
   rw[e,<- ih' cs];dsimp only;rw[hb,if_neg Bool.false_ne_true]
   rfl
theorem a15 {env:Env}{x:Str}:∀ (l:List (Str×NameKind)) (cs:List (Str×Addr)),(∀ y∈l,y.2=.free->∃ c,env.cells.lookup y.1=some c)->(∀ y c,cs.lookup y=some c->env.cells.lookup y=some c) ->
  ∀ c,(a0T env l cs).lookup x=some c->env.cells.lookup x=some c
 | [],cs,_,hc,c,h=>hc x c h
 | (n,k)::r,cs,hx,hc,c,h=>by
  have hr:=fun y hy=>hx y (List.mem_cons_of_mem _ hy);unfold a0T at h
  split at h
  ·rename_i hk
   have hk':k=.free:=by simpa using hk
   obtain⟨d,hd⟩:=hx (n,k) List.mem_cons_self hk';refine a15 r _ hr (fun y c' h'=>?_) c h;rw[List.lookup_cons]at h';cases e:y==n with
   | true=>
    rw[e]at h';have e':y=n:=by simpa using e
    subst e';have hd':env.cells.lookup y=some d:=hd;rw[hd']at h' ⊢;exact h'
   | false=>rw[e]at h';exact hc y c' h'
  ·exact a15 r cs hr hc c h
theorem a16 {env:Env}{x:Str}:∀ (l:List (Str×NameKind)) (cs:List (Str×Addr)) (c:Addr),cs.lookup x=some c->∃ c',(a0T env l cs).lookup x=some c'
 | [],cs,c,h=>⟨c,h⟩
 | (n,k)::r,cs,c,h=>by
  unfold a0T
  split
  ·cases e:x==n with
   | true=>exact a16 r _ _ (by rw[List.lookup_cons,e])
   | false=>exact a16 r _ c (by rw[List.lookup_cons,e];exact h)
  ·exact a16 r cs c h
theorem a2F {env:Env}{x:Str}:∀ (l:List (Str×NameKind)) (cs:List (Str×Addr)),(x,NameKind.free)∈l->∃ c,(a0T env l cs).lookup x=some c
 | [],cs,h=>by cases h
 | (n,k)::r,cs,h=>by
  unfold a0T;rcases List.mem_cons.mp h with e | e
  ·cases e;rw[if_pos (show (NameKind.free==NameKind.free)=true from rfl)];exact a16 r _ ((env.cells.lookup x).getD 0) (by rw[List.lookup_cons];simp)
  ·split
   ·exact a2F r _ e
   ·exact a2F r _ e
end PySem
namespace PySem
theorem a2P {env:Env}{x:Str}:∀ (names:List (Str×NameKind)),
  (names.map fun (n,k)=>if (k==NameKind.free&&env.scope.kind==.function&&env.kindOf n==some .cell) then (n,NameKind.cell) else (n,k)).lookup x =
   (names.lookup x).map fun k=>if (k==NameKind.free&&env.scope.kind==.function&&env.kindOf x==some .cell)=true then NameKind.cell else k
 | []=>rfl
 | (n,k)::r=>by
  have ih:=a2P (env:=env) (x:=x) r
  show List.lookup x ((if (k==NameKind.free&&env.scope.kind==.function&&env.kindOf n==some .cell)=true then (n,NameKind.cell) else (n,k))::_)=_
  cases hx:x==n with
  | true=>
   have e:x=n:=by simpa using hx
   subst e
   by_cases hc:(k==NameKind.free&&env.scope.kind==.function&&env.kindOf x==some .cell)=true
   ·rw[if_pos hc];simp only[List.lookup_cons,hx,Option.map_some,if_pos hc]
   ·rw[if_neg hc];simp only[List.lookup_cons,hx,Option.map_some,if_neg hc]
  | false=>
   by_cases hc:(k==NameKind.free&&env.scope.kind==.function&&env.kindOf n==some .cell)=true
   ·rw[if_pos hc];simp only[List.lookup_cons,hx];exact ih
   ·rw[if_neg hc];simp only[List.lookup_cons,hx];exact ih
theorem a2U {prog:Program}{w:World}{A:Around}{R:Result->Shared->Prop}{s:Shared}{elt target iter:Expr}{ifs:List Expr}{scope:Scope}{pos:Pos}{it acc:Value}{env:Env}(I:Nat->Shared->Prop)
  (turn:∀ n s,I n s->wpAny (model prog w) A (pyNext it) (fun r s₁=>match r with
   | none=>R (.ok .next) s₁
   | some v=>wpAny (model prog w) A (letOwnedTupleGo target it v) (fun _ s₁=>wpAny (model prog w) A (assign target env v) (fun _ s₂=>
     wpAny (model prog w) A (forIn ifs true fun c r=>if r=true then do let ok <- isTrue c env (eval c env);pure (ForInStep.yield ok) else pure (ForInStep.yield r)) (fun ok s₃=>
      if ok=true then wpAny (model prog w) A (eval elt env) (fun x s₄=>
       wpAny (model prog w) A (call (.builtin "list.append") [acc,x]) (fun _ s₅=>∃ m,m<n/\I m s₅) (notedBy (model prog w) A env fun e s'=>R (.error e) s') s₄) (notedBy (model prog w) A env fun e s'=>R (.error e) s') s₃
      else ∃ m,m<n/\I m s₃) (notedBy (model prog w) A env fun e s'=>R (.error e) s') s₂) (notedBy (model prog w) A env fun e s'=>R (.error e) s') s₁) (fun _ _=>False) s₁) (fun _ _=>False) s)
  (n:Nat) (h:I n s) :
  codeAny (model prog w) A (.compLoop (.ListComp elt [⟨target,iter,ifs,0⟩] scope pos) 0 it acc env) R s:=by
 have up:∀ {α:Type}{t:Sem α}{Q:α->Shared->Prop}{E:Value->Shared->Prop}{s:Shared},wpAny (model prog w) A t Q (fun _ _=>False) s->wpAny (model prog w) A t Q E s:=fun h=>wpAny_mono h (fun _ _ q=>q) fun _ _ f=>f.elim;refine codeAny_loop rfl I (fun n s hI=>?_) n h
 show wpAny _ A ((compTurn (.ListComp elt [⟨target,iter,ifs,0⟩] scope pos) 0 it acc env).onRaise (fun x=>do noteFrame x env;theTreesLotGoes x)) _ _ s
 refine wpAny_noted ?_;rw[compTurn_list];refine wpAny_bind (wpAny_standAt (wpAny_bind (wpAny_mono (turn n s hI) (fun r s₁ h₁=>?_) fun _ _ f=>f.elim)));cases r with
 | none=>exact wpAny_pure h₁
 | some v=>
  refine wpAny_bind (wpAny_mono h₁ (fun _ s₁ h₁=>?_) fun _ _ f=>f.elim);refine wpAny_bind (wpAny_mono h₁ (fun _ s₂ h₂=>wpAny_bind (wpAny_mono h₂ (fun ok s₃ h₃=>?_) fun _ _ f=>f)) fun _ _ f=>f);cases ok with
  | false=>exact wpAny_pure ⟨rfl,h₃⟩
  | true=>
   exact wpAny_bind (wpAny_bind (wpAny_mono h₃ (fun x s₄ h₄=>wpAny_bind (wpAny_mono h₄ (fun _ s₅ h₅=>wpAny_pure (wpAny_pure ⟨rfl,h₅⟩)) fun _ _ f=>f)) fun _ _ f=>f))
end PySem
namespace L2
open PySem PySem.Spec PyProof.Rows
def a29 (cap:List (Option Nat)) (σ:St):St:=cap.map fun o=>o.bind fun j=>(σ[j]?).join
def a1P:St->St->Prop
 | [],[]=>True
 | none::a,_::b=>a1P a b
 | some x::a,y::b=>y=some x/\a1P a b
 | _,_=>False
theorem a3A:∀ {a b:St},a1P a b->a.length=b.length/\∀ (i:Nat) v,a[i]?=some (some v)->b[i]?=some (some v)
 | [],[],_=>⟨rfl,fun i v h=>by simp at h⟩
 | none::a,y::b,h=>by
  have ih:=a3A (a:=a) (b:=b) h;refine⟨by simp[ih.1],fun i v e=>?_⟩;cases i with
  | zero=>simp at e
  | succ i=>simpa using ih.2 i v (by simpa using e)
 | some x::a,y::b,h=>by
  obtain⟨e0,h⟩:=(show y=some x/\a1P a b from h);have ih:=a3A (a:=a) (b:=b) h;refine⟨by simp[ih.1],fun i v e=>?_⟩;cases i with
  | zero=>rw[e0];simpa using e
  | succ i=>simpa using ih.2 i v (by simpa using e)
 | [],_::_,h=>False.elim h
 | none::_,[],h=>False.elim h
 | some _::_,[],h=>False.elim h
theorem a2x:∀ a:St,a1P a a
 | []=>True.intro
 | none::a=>a2x a
 | some _::a=>⟨rfl,a2x a⟩
def capB (N:List Str) (so sc:Scope) (N':List Str) (cap:List (Option Nat)):Bool:=
 decide (sc.kind=.function)&&decide N'.Nodup&&decide (cap.length=N'.length)&&(sc.names.all fun y=>decide (y.2≠.cell)) &&
 (sc.names.all fun y=>decide (y.2=.local->sc.names.lookup y.1=some .local)) &&
 (sc.names.all fun y=>decide (y.2=.free->so.names.lookup y.1=some .cell\/so.names.lookup y.1=some .free)) &&
 ((N'.zip cap).all fun y=>match y.2 with | none=>true | some j=>decide (N[j]?=some y.1)&&decide (sc.names.lookup y.1=some .free))
structure CapOk (N:List Str) (so sc:Scope) (N':List Str) (cap:List (Option Nat)):Prop where
 kind:sc.kind=.function
 nd:N'.Nodup
 len:cap.length=N'.length
 nocell:∀ y∈sc.names,y.2≠.cell
 nms:∀ y∈sc.names,y.2=.local->sc.names.lookup y.1=some .local
 fre:∀ y∈sc.names,y.2=.free->so.names.lookup y.1=some .cell\/so.names.lookup y.1=some .free
 cap:∀ (i:Nat) x j,N'[i]?=some x->cap[i]?=some (some j)->N[j]?=some x/\sc.names.lookup x=some .free
theorem a9s {N:List Str}{so sc:Scope}{N':List Str}{cap:List (Option Nat)}(h:capB N so sc N' cap=true):CapOk N so sc N' cap:=by
 unfold capB at h;simp only[Bool.and_eq_true,decide_eq_true_eq,List.all_eq_true]at h;obtain⟨⟨⟨⟨⟨⟨h1,h2⟩,h3⟩,h4⟩,h5⟩,h6⟩,h7⟩:=h;refine⟨h1,h2,h3,h4,h5,h6,fun i x j e1 e2=>?_⟩;have e3:(N'.zip cap)[i]?=some (x,some j):=by rw[List.getElem?_zip_eq_some];exact⟨e1,e2⟩
 have q:=h7 (x,some j) (List.mem_of_getElem? e3);simpa using q
end L2
namespace L2
open PySem PySem.Spec PyProof.Rows
structure Lk (fr:List Addr) (ex:Addr->Prop) (h h':Heap):Prop where
 keep:∀ b o,h.get? b=some o->b∉fr->¬ ex b->h'.get? b=some o
 slot:∀ b o,h.get? b=some o->¬ ex b->∃ sl,h'.get? b=some { o with slots:=sl }
 size:h.objs.size≤h'.objs.size
theorem Lk.refl {fr:List Addr}{ex:Addr->Prop}{h:Heap}:Lk fr ex h h:=⟨fun _ _ q _ _=>q,fun _ o q _=>⟨o.slots,q⟩,Nat.le_refl _⟩
theorem Lk.trans {fr:List Addr}{ex ex2:Addr->Prop}{h h1 h2:Heap}(a:Lk fr ex h h1) (b:Lk fr ex2 h1 h2) (i:∀ x,ex2 x->ex x\/h.objs.size≤x):Lk fr ex h h2:=by
 have n:∀ {x o},h.get? x=some o->¬ ex x->¬ ex2 x:=fun {x o} q n z=>by
  rcases i x z with z | z
  ·exact n z
  ·exact absurd (Heap.lt_size q) (Nat.not_lt.mpr z)
 refine⟨fun x o q f z=>b.keep x o (a.keep x o q f z) f (n q z),fun x o q z=>?_,Nat.le_trans a.size b.size⟩;obtain⟨sl,e⟩:=a.slot x o q z;obtain⟨sl2,e2⟩:=b.slot x _ e (n q z);exact⟨sl2,e2⟩
theorem Lk.funs {fr:List Addr}{ex:Addr->Prop}{h h' base:Heap}(k:Lk fr ex h h'):∀ {l:List Env},(∀ b∈frs l,¬ ex b)->h.FunFrames base l->h'.FunFrames base l
 | [],_,_=>True.intro
 | env::rest,hx,⟨hk,⟨L,o,hf,hn,ho,hd⟩,hr⟩=>by
  have hL:L∈frs (env::rest):=by show L∈(env::rest).filterMap (·.frame);rw[List.filterMap_cons,hf];exact .head _
  obtain⟨sl,e⟩:=k.slot L o ho (hx L hL);exact⟨hk,⟨L,_,hf,hn,e,hd⟩,k.funs (fun b hb=>hx b (by show b∈(env::rest).filterMap (·.frame);rw[List.filterMap_cons,hf];exact .tail _ hb)) hr⟩
def FlyT (e:Addr) (cls:Value) (T:Addr) (fl:Value) (h:Heap):Prop:=∃ oe vs oT ts,h.get? e=some oe/\(oe.cls=cls/\oe.dict=none)/\oe.data=.fields vs/\vs[1]?=some (.ref T)/\T≠e/\h.get? T=some oT/\oT.data=.fields ts/\ts[3]?=some fl
section
variable {M:Model}{A:Around}{E:Value->Shared->Prop}{s:Shared}{base:Heap}{env:Env}{outer:List Env}{L e T:Addr}{cls fl:Value}{Q:Unit->Shared->Prop}
theorem a4Q (f:Array Value->Array Value) (o:Obj):(o.mapFields f).dict=o.dict:=by
 unfold Obj.mapFields
 split<;>rfl
theorem b12 {oe:Obj}{vs:Array Value}{head:Value}{hn:Bool}(hfr:A.frames=some (env::outer)) (hl:s.heap.FunFrames base (env::outer)) (hf:env.frame=some L) (he:s.heap.get? e=some oe) (hn0:oe.dict=none) (hd:oe.data=.fields vs) (hz:1<vs.size)
  (q:∀ h' T',Lk (frs (env::outer)) (·=e) s.heap h'->FlyT e oe.cls T' (rawInt L) h'->s.heap.objs.size≤T'->Q () { s with heap:=h' }) :
  wpAny M A (do let a <- frameOf env;let pl <- entryPlaceOf L hn;let b <- EntryCells.newEntry head a .none (rawInt L) .none pl;setField (.ref e) 1 b) Q E s:=by
 have nf:e∉frs (env::outer):=fun hm=>by
  obtain⟨_,ob,hob,no⟩:=hl.mem hm;rw[he]at hob;cases hob;exact no vs hd
 refine wpAny_bind (wpAny_frameOf_fun hfr hl hf fun h1 k1=>wpAny_bind (wpAny_entryPlaceOf fun pl hpl=>?_));unfold EntryCells.newEntry;unfold newFields;refine wpAny_bind ?_;refine wpAny_newObj_type ?_ (hpl.sizeOk5 _ _ _ _ _);generalize ht:([head,Value.ref L,.none,rawInt L,.none]++(if pl.isEmpty then List.replicate 6 Value.none else pl)).toArray=ts;have z3:ts[3]?=some (rawInt L):=by rw[<- ht];simp
 have e1:h1.get? e=some oe:=(k1.2.1 e nf).trans he;have lt:=Heap.lt_size e1;have nT:h1.objs.size≠e:=Nat.ne_of_gt lt;have e2:=Heap.get?_push_of_some (h:=h1) { cls:=.type "traceback",dict:=none,data:=.fields ts } e1;have d3:=Obj.data_mapFields hd (·.setIfInBounds 1 (Value.ref h1.objs.size));have e3:=Heap.get?_update_self (Obj.mapFields (·.setIfInBounds 1 (Value.ref h1.objs.size))) e2 (Obj.isFreed_of_fields d3);have t3:=(Heap.get?_update_other (h1.push { cls:=.type "traceback",dict:=none,data:=.fields ts }) (Obj.mapFields (·.setIfInBounds 1 (Value.ref h1.objs.size))) (Ne.symm nT)).trans (Heap.get?_push_size h1 rfl);refine wpAny_setField e2 hd hz (q _ h1.objs.size ?_ ⟨_,_,_,_,e3,⟨Obj.cls_mapFields _ _,(a4Q _ _).trans hn0⟩,d3,by simp[hz],nT,t3,rfl,z3⟩ (Nat.le_of_eq k1.1.symm));have kp:∀ b o,b≠e->h1.get? b=some o->((h1.push { cls:=.type "traceback",dict:=none,data:=.fields ts }).update e (Obj.mapFields (·.setIfInBounds 1 (Value.ref h1.objs.size)))).get? b=some o:=fun b o ne hb=>by
  rw[Heap.get?_update_other _ _ (Ne.symm ne)];exact Heap.get?_push_of_some (h:=h1) _ hb
 refine⟨fun b o hb hx ne=>kp b o ne ((k1.2.1 b hx).trans hb),fun b o hb ne=>?_,?_⟩
 ·obtain⟨sl,q1⟩:=k1.2.2 b o hb;exact⟨sl,kp b _ ne q1⟩
 ·rw[Heap.size_update,<- k1.1];exact Nat.le_of_lt (by rw[size_push'];exact Nat.lt_succ_self _)
theorem a9t {x:Value}(hT:FlyT e cls T fl s.heap) (q:∀ h',(∀ fr,Lk fr (·=T) s.heap h')->FlyT e cls T x h'->Q () { s with heap:=h' }):wpAny M A (setField (.ref T) 3 x) Q E s:=by
 obtain⟨oe,vs,oT,ts,he,hc,hd,h1,nT,hT,dT,h3⟩:=hT;have z3:=(Array.getElem?_eq_some_iff.mp h3).1;refine wpAny_setField hT dT z3 (q _ (fun fr=>?_) ?_)
 all_goals have ot:∀ b,b≠T->(s.heap.update T (Obj.mapFields (·.setIfInBounds 3 x))).get? b=s.heap.get? b:=fun b hb=>Heap.get?_update_other _ _ (Ne.symm hb)
 all_goals have tt:=Heap.get?_update_self (Obj.mapFields (·.setIfInBounds 3 x)) hT (Obj.isFreed_of_fields (Obj.data_mapFields dT _))
 ·exact⟨fun b o hb _ n0=>(ot b n0).trans hb,fun b o hb n0=>⟨o.slots,(ot b n0).trans hb⟩,by rw[Heap.size_update];exact Nat.le_refl _⟩
 ·exact⟨oe,vs,_,_,(ot e (Ne.symm nT)).trans he,hc,hd,h1,nT,tt,Obj.data_mapFields dT _,by simp[z3]⟩
theorem FlyT.field {Q:Value->Shared->Prop}(h:FlyT e cls T fl s.heap) (q:Q (.ref T) s):wpAny M A (field (.ref e) 1) Q E s:=by
 obtain⟨_,_,_,_,he,_,hd,h1,_⟩:=h;exact wpAny_field he hd h1 q
theorem FlyT.mark {Q:Value->Shared->Prop}(h:FlyT e cls T fl s.heap) (q:Q fl s):wpAny M A (PySem.field (.ref T) 3) Q E s:=by
 obtain⟨_,_,_,_,_,_,_,_,_,hT,dT,h3⟩:=h;exact wpAny_field hT dT h3 q
theorem b4D {fo:Option Addr}(hT:FlyT e cls T fl s.heap) (q:∀ h',(∀ fr,Lk fr (·=T) s.heap h')->FlyT e cls T (fo.elim .none fun f=>rawInt f) h'->Q () { s with heap:=h' }):wpAny M A (setFlight (.ref e) fo) Q E s:=by
 unfold setFlight;refine wpAny_bind (hT.field ?_);rw[if_pos (show (Value.ref T != .none)=true by simp)];exact a9t hT q
theorem b05 {oe:Obj}{vs:Array Value}(hfr:A.frames=some (env::outer)) (hl:s.heap.FunFrames base (env::outer)) (hf:env.frame=some L) (he:s.heap.get? e=some oe) (hn0:oe.dict=none) (hd:oe.data=.fields vs) (h1:vs[1]?=some .none)
  (q:∀ h' T',Lk (frs (env::outer)) (·=e) s.heap h'->FlyT e oe.cls T' (rawInt L) h'->s.heap.objs.size≤T'->Q () { s with heap:=h' }):wpAny M A (noteFrame (.ref e) env) Q E s:=by
 unfold noteFrame;simp only[hf];refine wpAny_bind ?_;refine wpAny_field he hd h1 ?_;rw[if_neg (by decide)];exact b12 hfr hl hf he hn0 hd (Array.getElem?_eq_some_iff.mp h1).1 q
theorem b4E (hfr:A.frames=some (env::outer)) (hl:s.heap.FunFrames base (env::outer)) (hf:env.frame=some L) (hT:FlyT e cls T fl s.heap)
  (q:∀ h' T',Lk (frs (env::outer)) (fun b=>b=e\/b=T) s.heap h'->FlyT e cls T' (rawInt L) h'->T'=T\/s.heap.objs.size≤T'->Q () { s with heap:=h' }):wpAny M A (noteFrame (.ref e) env) Q E s:=by
 unfold noteFrame;simp only[hf];refine wpAny_bind (hT.field ?_);rw[if_pos (show (Value.ref T != .none)=true by simp)];refine wpAny_bind (hT.mark ?_)
 by_cases c:(fl==rawInt L)=true
 ·rw[if_pos c];rw[show fl=rawInt L by simpa using c]at hT;exact wpAny_pure (q s.heap T .refl hT (.inl rfl))
 ·rw[if_neg c];refine wpAny_bind (a9t hT fun h1 k1 f1=>?_);have hl1:h1.FunFrames base (env::outer):=(k1 []).funs (fun b hb z=>by
   obtain⟨_,ob,hob,no⟩:=hl.mem hb;obtain⟨_,_,_,ts,_,_,_,_,_,hT',dT,_⟩:=hT;rw[z,hT']at hob;cases hob;exact no ts dT) hl
  obtain⟨oe,vs,oT,ts,he,hc,hd,h1',nT,hT',dT,h3⟩:=f1;refine b12 (s:={ s with heap:=h1 }) hfr hl1 hf he hc.2 hd (Array.getElem?_eq_some_iff.mp h1').1 fun h' T' k f z=>q h' T' ?_ (hc.1▸f) (.inr (Nat.le_trans (k1 []).size z));have k1':Lk (frs (env::outer)) (fun b=>b=e\/b=T) s.heap h1:=⟨fun b o q f n=>(k1 _).keep b o q f fun z=>n (.inr z),fun b o q n=>(k1 []).slot b o q fun z=>n (.inr z),(k1 []).size⟩;exact k1'.trans k fun x z=>.inl (.inl z)
theorem b06 {oe:Obj}{vs:Array Value}(hfr:A.frames=some (env::outer)) (hl:s.heap.FunFrames base (env::outer)) (hf:env.frame=some L) (he:s.heap.get? e=some oe) (hn0:oe.dict=none) (hd:oe.data=.fields vs) (h1:vs[1]?=some .none)
  (q:∀ h' T',Lk (frs (env::outer)) (·=e) s.heap h'->FlyT e oe.cls T' .none h'->s.heap.objs.size≤T'->Q () { s with heap:=h' }):wpAny M A (leaving env (.ref e)) Q E s:=
 wpAny_bind (b05 hfr hl hf he hn0 hd h1 fun _ T' k f z=>b4D f fun h2 k2 f2=>q h2 T' (k.trans (k2 _) fun x w=>.inr (by rw[w];exact z)) f2 z)
theorem b4F (hfr:A.frames=some (env::outer)) (hl:s.heap.FunFrames base (env::outer)) (hf:env.frame=some L) (hT:FlyT e cls T fl s.heap)
  (q:∀ h' T',Lk (frs (env::outer)) (fun b=>b=e\/b=T) s.heap h'->FlyT e cls T' .none h'->T'=T\/s.heap.objs.size≤T'->Q () { s with heap:=h' }):wpAny M A (leaving env (.ref e)) Q E s:=
 wpAny_bind (b4E hfr hl hf hT fun _ T' k f z=>b4D f fun h2 k2 f2=>q h2 T' (k.trans (k2 _) fun x w=>by
  rw[w];rcases z with z | z
  ·exact .inl (.inr z)
  ·exact .inr z) f2 z)
end
end L2
namespace L2
open PySem PySem.Spec PyProof.Rows
theorem Un.lk {fs fr ex0:List Addr}{ex:Addr->Prop}{H0 H:Hp}{h0 h h':Heap}(u:Un fs ex0 H0 H h0 h) (v:Lk fr ex h h') (hf:∀ b∈fr,b∈fs\/h0.get? b=none) (hx:∀ b,ex b->b∈ex0\/h0.get? b=none):Un fs ex0 H0 H h0 h':=by
 have nx:∀ {b o},h0.get? b=some o->b∉ex0->¬ ex b:=fun {b o} q n z=>by
  rcases hx b z with z | z
  ·exact n z
  ·rw[q]at z;cases z
 refine⟨fun b o q n hb n0=>?_,fun b o q n hb n0=>?_,u.free,fun b o q n0=>?_,u.tups,u.frzs,u.tbls⟩
 ·refine v.keep b o (u.keep b o q n hb n0) (fun z=>?_) (nx q n0);rcases hf b z with z | z
  ·exact hb z
  ·rw[q]at z;cases z
 ·obtain⟨sl,e1⟩:=u.slot b o q n hb n0;obtain⟨sl2,e2⟩:=v.slot b _ e1 (nx q n0);exact⟨sl2,e2⟩
 ·obtain⟨o',e1⟩:=u.there b o q n0;obtain⟨sl2,e2⟩:=v.slot b _ e1 (nx q n0);exact⟨_,e2⟩
theorem Un.gone {fs ex:List Addr}{H0 H:Hp}{h0 h:Heap}(u:Un fs ex H0 H h0 h) {b:Addr}(n:h.get? b=none):b∈ex\/h0.get? b=none:=by
 cases q:h0.get? b with
 | none=>exact .inr rfl
 | some o=>
  by_cases c:b∈ex
  ·exact .inl c
  ·obtain⟨o',e⟩:=u.there b o q c;rw[n]at e;cases e
theorem Un.gone0 {fs:List Addr}{H0 H:Hp}{h0 h:Heap}(u:Un fs [] H0 H h0 h) {b:Addr}(n:h.get? b=none):h0.get? b=none:=(u.gone n).resolve_left (by simp)
theorem ObjOk.is {P:Program}{w:World}{H:Hp}{h:Heap}{a:Addr}{o:HO}(x:ObjOk P w H h a o):∃ ob,h.get? a=some ob:=by
 cases o with
 | lst xs=>obtain⟨_,_,_,_,e⟩:=x;exact⟨_,e⟩
 | tup xs=>obtain⟨_,_,_,ob,e,_⟩:=x;exact⟨_,e⟩
 | dK kvs=>obtain⟨_,_,_,_,o,_,_,e,_⟩:=x;exact⟨_,e⟩
 | dT kvs=>obtain⟨_,_,_,_,o,_,_,e,_⟩:=x;exact⟨_,e⟩
 | set S n=>obtain⟨o,_,_,_,e,_⟩:=x;exact⟨_,e⟩
 | ins C dx fs=>obtain⟨_,_,_,e,_⟩:=x;exact⟨_,e⟩
 | own y=>obtain⟨_,e⟩:=x;exact⟨_,e⟩
 | xd fs=>obtain⟨_,⟨_,_,_,e,_⟩,_⟩:=x;exact⟨_,e⟩
 | rng lo hi=>obtain⟨_,_,_,e⟩:=x;exact⟨_,e⟩
 | frz ob u=>obtain⟨e,_⟩:=x;exact⟨_,e⟩
 | tbl ps=>exact⟨_,show h.get? a=some _ from x⟩
 | met f y=>exact⟨_,show h.get? a=some _ from x⟩
 | ext φ=>obtain⟨_,⟨_,e⟩,_⟩:=x;exact⟨_,e⟩
theorem HOk.gone {P:Program}{w:World}{H:Hp}{h:Heap}{a:Addr}(x:HOk P w H h) (n:h.get? a=none):H a=none:=by
 cases q:H a with
 | none=>rfl
 | some u=>obtain⟨ob,e⟩:=(x a u q).is;rw[n]at e;cases e
theorem HOk.lk {P:Program}{w:World}{fr:List Addr}{ex:Addr->Prop}{H:Hp}{h h':Heap}(x:HOk P w H h) (l:Lk fr ex h h') (hf:∀ b∈fr,H b=none) (he:∀ b,ex b->H b=none):HOk P w H h':=fun a o q=>
 (x a o q).stay (fun b u hb r=>by
  have tr:H b≠none:=by
   rcases hb with rfl | hb
   ·rw[q];simp
   ·rw[hb];simp
  exact l.keep b u r (fun z=>tr (hf b z)) fun z=>tr (he b z)) (fun _ q=>q) fun _ _ q=>q
structure Fly (N:Addr->Prop) (H:Hp) (fl:Value) (e:Addr) (cls:Value) (h:Heap):Prop where
 at_:∃ T,FlyT e cls T fl h/\N T/\H T=none
 old:N e
 free:H e=none
def CXx (P:Program) (w:World):CXT:=fun outer H s E ev s'=>∃ e C H',ev=.ref e/\s'.os=s.os/\AllBare s'.gens/\Un (frs outer) [] H H' s.heap s'.heap/\HOk P w H' s'.heap/\Fly (fun b=>s.heap.get? b=none) H' .none e (.ref C) s'.heap/\E (.ref C) none H'
structure TKs (H H':Hp):Prop where
 tup:∀ b xs,H b=some (.tup xs)->H' b=some (.tup xs)
 frz:∀ b o u,H b=some (.frz o u)->H' b=some (.frz o u)
def since (H:Hp) (E:XK):XK:=fun c d H'=>TKs H H'->E c d H'
structure Outs (X:Cx) (E:XK):Prop where
 xe:∀ ev s',wpAny (model X.prog X.w) X.A (leaving X.env ev) (fun _ s''=>CXx X.prog X.w X.outer X.H₀ X.s₀ E ev s'') (fun e' s''=>CXx X.prog X.w X.outer X.H₀ X.s₀ E e' s'') s'->X.xe ev s'
 stk:X.stack=X.env::X.outer
 frm:X.env.frame=some X.env.locals
 ex:X.ex=[]
theorem Outs.of {P:Program}{w:World}{K:Fg}{mg:Str->Option Value}{base:Heap}{N:List Str}{qual:Str}{scope:Scope}{f:Addr}{cd:Value}{A:Around}{outer:List Env}{s:Shared}{H:Hp}{E:XK}:Outs (cxOf (CXx P w) P w K mg base N qual scope f cd A outer s H E) E:=⟨fun _ _ h=>h,rfl,rfl,rfl⟩
section
variable {X:Cx}{E:XK}{pins:List (Addr×Obj)}{σ:St}{H:Hp}{s:Shared}
theorem Outs.frames (O:Outs X E) (I:Inv X pins σ H s):X.A.frames=some (X.env::X.outer):=by rw[<- O.stk];exact I.ok.frames
theorem Outs.sub (O:Outs X E) (I:Inv X pins σ H s):∀ b∈frs (X.env::X.outer),b∈X.fs\/X.s₀.heap.get? b=none:=fun b hb=>by
 rw[<- O.stk]at hb;rcases List.mem_cons.mp (I.stkSub b hb) with z | z
 ·rw[z];exact .inr (Heap.get?_none_of_le I.ok.above)
 ·exact .inl z
theorem Outs.funs (O:Outs X E) (I:Inv X pins σ H s):s.heap.FunFrames X.base (X.env::X.outer):=by rw[<- O.stk];exact I.stack
theorem Outs.free (O:Outs X E) (I:Inv X pins σ H s):∀ b∈frs (X.env::X.outer),H b=none:=by rw[<- O.stk];exact I.stkFree
theorem Outs.base (O:Outs X E) (I:Inv X pins σ H s):Un X.fs [] X.H₀ H X.s₀.heap s.heap:=by have:=I.base;rw[O.ex]at this;exact this
theorem Outs.fin (O:Outs X E) (I:Inv X pins σ H s) {e C T:Addr}{ex:Addr->Prop}{h':Heap}(k:Lk (frs (X.env::X.outer)) ex s.heap h') (f:FlyT e (.ref C) T .none h') (hx:∀ b,ex b->X.s₀.heap.get? b=none/\H b=none) (he:ex e) (hT:ex T\/s.heap.objs.size≤T) (q:since X.H₀ E (.ref C) none H) :
  CXx X.prog X.w X.outer X.H₀ X.s₀ E (.ref e) { s with heap:=h' }:=
 ⟨e,C,H,rfl,I.os,I.bare,(O.base I).lk k (O.sub I) (fun b hb=>.inr (hx b hb).1),I.hok.lk k (O.free I) fun b hb=>(hx b hb).2,⟨⟨T,f,by
  rcases hT with z | z
  ·exact hx T z
  ·exact⟨Heap.get?_none_of_le (Nat.le_trans I.sz z),I.hok.fresh z⟩⟩,(hx e he).1,(hx e he).2⟩,q ⟨I.base.tups,I.base.frzs⟩⟩
theorem b07 (O:Outs X E) (I:Inv X pins σ H s) {h':Heap}{e C:Addr}{vs:List Value}(hm:Heap.MadeExcOf s.heap h' e (.ref C) vs) (q:since X.H₀ E (.ref C) none H):X.xe (.ref e) { s with heap:=h' }:=by
 obtain⟨t,he,nt,_⟩:=hm.there;have I2:Inv X pins σ H { s with heap:=h' }:=I.kept (t':=s.toks) hm.keeps;refine O.xe _ _ (b06 (base:=X.base) (O.frames I) (O.funs I2) O.frm he rfl rfl (by simp) fun h2 T l f z=>?_)
 exact O.fin I2 (ex:=(·=e)) l f (fun b hb=>by rw[hb];exact⟨(O.base I).gone0 hm.new,I.hok.gone hm.new⟩) rfl (.inr z) q
theorem a17 (O:Outs X E):a2v (CXx X.prog X.w) X (since X.H₀ E):=by
 intro pins σ H s ev s' I ⟨e,C,H',e1,os,bare,un,hok,⟨⟨T,f,q9,q10⟩,old,fe⟩,q⟩;subst e1;have I2:Inv X pins σ H' s':=I.call' (ch:=[]) os un hok bare fun _ z=>nomatch z;refine O.xe _ _ (b4F (base:=X.base) (O.frames I) (O.funs I2) O.frm f fun h2 T' l f' z=>?_);refine O.fin I2 (ex:=fun b=>b=e\/b=T) l f' (fun b hb=>?_) (.inl rfl) (by
  rcases z with z | z
  ·exact .inl (.inr z)
  ·exact .inr z) q
 rcases hb with rfl | rfl
 ·exact⟨(O.base I).gone0 old,fe⟩
 ·exact⟨(O.base I).gone0 q9,q10⟩
end
end L2
namespace L2
open PySem PySem.Spec PyProof.Rows
def ExC (X:Cx) (E:XK) (C:Addr) (s:Shared) (H:Hp) (fp:List Addr) (ev:Value) (s':Shared):Prop:=
 ∃ e Cl H',ev=.ref e/\s'.os=s.os/\AllBare s'.gens/\Un (frs X.stack) fp H H' s.heap s'.heap/\HOk X.prog X.w H' s'.heap/\Fly (fun b=>b∈fp\/s.heap.get? b=none) H' .none e (.ref Cl) s'.heap/\(∃ m,s'.heap.Ns C m)/\H' C=none/\C≠e/\E (.ref Cl) none H'
def a5D (X:Cx) (EW:XK) (sc:Scope):Prop:=∀ (pins:List (Addr×Obj)) (σ:St) (H:Hp) (s:Shared) (C:Addr) (fp:List Addr) (use:Option (Value->Sem Unit)) (Fin:Value->Shared->Prop) (acc:Value),Inv X pins σ H s->(∀ b∈fp,FpOk X pins H b)->C=s.heap.objs.size ->
 ∀ ev s',ExC X EW C s H fp ev s'->notedBy (model X.prog X.w) X.A (compEnvC sc (a0T X.env sc.names []) C X.env) (fun e s''=>compPost (model X.prog X.w) X.A X.xe use Fin acc C (.error e) s'') ev s'
theorem a7D {X:Cx}{sc:Scope}:a5D X (fun _ _ _=>False) sc:=by
 rintro pins σ H s C fp use Fin acc _ _ _ ev s' ⟨_,_,_,_,_,_,_,_,_,_,_,_,q⟩;exact q.elim
end L2
namespace L2
open PySem PySem.Spec PyProof.Rows
def cxC (X:Cx) (EW:XK) (N':List Str) (sc:Scope) (C:Addr) (s:Shared) (H:Hp) (fp:List Addr):Cx:=
 { X with N:=N',s₀:=s,H₀:=H,env:=compEnvC sc (a0T X.env sc.names []) C X.env,outer:=X.stack,stack:=X.stack,ex:=fp,fn:=fun _=>false,pn:=[],xe:=ExC X EW C s H fp }
def PIfs (X:Cx) (ifs:List Expr) (t:TT):Prop:=
 ∀ (pins:List (Addr×Obj)) (s:Shared) (σ:St) (H:Hp) (Q:Bool->Hp->Prop),Inv X pins σ H s->t σ H Q ->
  wpAny (model X.prog X.w) X.A (forIn ifs true fun c r=>if r=true then do let ok <- isTrue c X.env (eval c X.env);pure (ForInStep.yield ok) else pure (ForInStep.yield r)) (TP X pins σ Q) X.xe s
def tTT:TT:=fun _ H Q=>Q true H
theorem b08 {X:Cx}:PIfs X [] tTT:=fun _ _ _ H _ I h=>wpAny_tests_nil ⟨H,I,h⟩
theorem b09 {X:Cx}{c:Expr}{t:TT}(h:PT X c t):PIfs X [c] t:=fun pins s σ H Q I q=>wpAny_tests_one (h pins s σ H Q I q)
def LcB (J:It) (cap:List (Option Nat)) (g:TG) (tt:TT) (te:TE) (σ:St) (Q:VK) (D:Addr) (H1:Hp):Prop:=
 ∃ W:Nat->Nat->List V->Hp->Prop,(∃ m,W 0 m [] (upd H1 D (.lst [])))/\∀ i m ys H2,W i m ys H2 ->
  (J.stop i H2/\Q (.ref D) H2) \/
  (J.go i H2/\∃ N:List V->Hp->Prop,(∀ ys' H',N ys' H'->∃ m',m'<m/\W (i+1) m' ys' H')/\∀ x H',J.yld i H2 x H' ->
   g x (a29 cap σ) H' fun σ2 H3=>a1P (a29 cap σ) σ2/\tt σ2 H3 fun b H4=>if b=true then te σ2 H4 fun y H5=>∃ zs,H5 D=some (.lst zs)/\zs.length<sizeLine/\N (zs++[y]) (upd H5 D (.lst (zs++[y]))) else N ys H4)
def tLC (wi:TI) (cap:List (Option Nat)) (g:TG) (tt:TT) (te:TE):TE:=fun σ H Q=>wi σ H fun J H1=>∀ D,H1 D=none->LcB J cap g tt te σ Q D H1
structure CFree (X:Cx) (pins:List (Addr×Obj)) (H:Hp) (C:Addr):Prop where
 free:H C=none
 loc:C≠X.env.locals
 old:X.s₀.heap.objs.size≤C
 cell:∀ x c,X.env.cells.lookup x=some c->c≠C
 pin:∀ p∈X.pn++pins,p.1≠C
section
variable {X:Cx}{pins:List (Addr×Obj)}{σ:St}{H:Hp}{s:Shared}{N':List Str}{sc:Scope}{cap:List (Option Nat)}{C:Addr}{fp:List Addr}{EW:XK}
theorem a9u (I:Inv X pins σ H s) (ck:CapOk X.N X.env.scope sc N' cap):∀ x∈sc.names,x.2=.free->∃ c,X.env.cells.lookup x.1=some c:=fun x hx hf=>
 I.ok.has x.1 (ck.fre x hx hf)
theorem a4s {x:Str}(I:Inv X pins σ H s) (ck:CapOk X.N X.env.scope sc N' cap) {c:Addr}(h:(a0T X.env sc.names []).lookup x=some c):X.env.cells.lookup x=some c:=
 a15 sc.names [] (a9u I ck) (fun y c h=>by simp at h) c h
theorem a9v (env:Env) (x:Str):(compEnvC sc (a0T X.env sc.names []) C env).kindOf x=(sc.names.lookup x).map fun k=>if (k==NameKind.free&&env.scope.kind==.function&&env.kindOf x==some .cell)=true then NameKind.cell else k:=
 a2P sc.names
theorem a1Q {l:List (Str×NameKind)}{x:Str}{k:NameKind}(h:l.lookup x=some k):(x,k)∈l:=PySem.mem_of_lookup h
theorem b6D (I:Inv X pins σ H s) (ck:CapOk X.N X.env.scope sc N' cap) (hf:∀ b∈fp,FpOk X pins H b) (hlt:∀ b∈fp,b<s.heap.objs.size) (hC:C=s.heap.objs.size):(cxC X EW N' sc C s H fp).Ok:=by
 have cl:∀ {x:Str}{c:Addr},(a0T X.env sc.names []).lookup x=some c->X.env.cells.lookup x=some c:=fun h=>a4s I ck h;have cne:∀ {x:Str}{c:Addr},X.env.cells.lookup x=some c->c<s.heap.objs.size:=fun e=>by
  obtain⟨v,q⟩:=I.cell _ _ e;exact q.lt
 refine⟨I.ok.mod,ck.kind,I.ok.glob,I.ok.blt,by rw[hC];exact Nat.le_refl _,fun x y c h1 h2=>I.ok.inj x y c (cl h1) (cl h2),fun x hx=>?_,fun x c h _=>(by cases h),I.ok.hd,I.ok.frames,.inl rfl,fun b hb=>⟨?_,fun x c h=>?_⟩,I.bs,Nat.le_trans I.ok.bsz I.sz,fun b o e hb=>?_,fun b hb hz=>?_,I.stack,I.stkFree⟩
 ·have hx':(sc.names.lookup x).map (fun k=>if (k==NameKind.free&&X.env.scope.kind==.function&&X.env.kindOf x==some .cell)=true then NameKind.cell else k)=some .cell \/
    (sc.names.lookup x).map (fun k=>if (k==NameKind.free&&X.env.scope.kind==.function&&X.env.kindOf x==some .cell)=true then NameKind.cell else k)=some .free:=by
   rw[<- a9v (X:=X) (C:=C) X.env x];exact hx
  cases e:sc.names.lookup x with
  | none=>rw[e]at hx';rcases hx' with z | z<;>cases z
  | some k=>
   have hm:=a1Q e;have hk:k=.free:=by
    rw[e]at hx'
    by_cases hk:k=.free
    ·exact hk
    ·have hb:(k==NameKind.free)=false:=by simpa using hk
     simp only[Option.map_some,hb,Bool.false_and,Bool.false_eq_true,if_false,Option.some.injEq]at hx';rcases hx' with z | z
     ·exact absurd z (ck.nocell _ hm)
     ·exact absurd z hk
   subst hk;exact a2F sc.names [] hm
 ·show b≠C
  rw[hC];exact Nat.ne_of_lt (hlt b hb)
 ·exact (hf b hb).2.2.2.2.1 x c (cl h)
 ·obtain⟨_,_,_,z,_⟩:=hf b hb;rcases z with z | z
  ·exact I.ok.noex b o e z
  ·exact absurd (Nat.lt_of_lt_of_le (Heap.lt_size e) (Nat.le_trans I.ok.bsz z)) (Nat.lt_irrefl _)
 ·rcases List.mem_cons.mp (I.stkSub b hz) with z | z
  ·exact (hf b hb).2.1 z
  ·exact (hf b hb).2.2.1 z
theorem b4G {h₁:Heap}{m:Str->Option Value}{t':Nat}(I:Inv X pins σ H s) (ck:CapOk X.N X.env.scope sc N' cap) (hf:∀ b∈fp,FpOk X pins H b) (hlt:∀ b∈fp,b<s.heap.objs.size) (hC:C=s.heap.objs.size)
  (hn:h₁.Ns C m) (hk:∀ b o,s.heap.get? b=some o->h₁.get? b=some o):Inv (cxC X EW N' sc C s H fp) [] (a29 cap σ) H { s with heap:=h₁,toks:=t' }:=by
 refine⟨b6D I ck hf hlt hC,rfl,I.bare,Un.kept hk,⟨m,hn,fun i x v e1 e2 e3=>?_⟩,fun x c h=>?_,?_,fun x c h=>I.freeC x c (a4s I ck h),fun p hp=>absurd (show p∈([]:List (Addr×Obj)) from hp) (by simp),I.hok.kept hk,?_⟩
 ·have e1':N'[i]?=some x:=e1;unfold a29 at e2;rw[List.getElem?_map]at e2;cases ec:cap[i]? with
  | none=>rw[ec]at e2;cases e2
  | some o=>
   rw[ec]at e2;cases o with
   | none=>simp at e2
   | some j=>
    have e2':(σ[j]?).join=some v:=by simpa using e2
    have e2'':σ[j]?=some (some v):=by
     cases q:σ[j]? with
     | none=>rw[q]at e2';cases e2'
     | some w=>rw[q]at e2';rw[show w=some v from e2']
    obtain⟨a1,a2⟩:=ck.cap i x j e1' ec;have hfr:=ck.fre (x,.free) (a1Q a2) rfl;obtain⟨m0,_,hl⟩:=I.loc;obtain⟨u,ru,lk⟩:=hl j x v a1 e2'' (.inr hfr);refine⟨u,ru,.inr ⟨?_,?_⟩⟩
    ·show (compEnvC sc (a0T X.env sc.names []) C X.env).kindOf x=some .cell\/(compEnvC sc (a0T X.env sc.names []) C X.env).kindOf x=some .free
     rw[a9v,a2];simp only[Option.map_some,beq_self_eq_true,Bool.true_and]
     by_cases hc:(X.env.scope.kind==ScopeKind.function&&X.env.kindOf x==some NameKind.cell)=true
     ·rw[if_pos hc];exact .inl rfl
     ·rw[if_neg hc];exact .inr rfl
    ·obtain⟨c',hc'⟩:=a2F (env:=X.env) sc.names [] (a1Q a2);have hX:=a4s I ck hc';rcases lk with ⟨k,_⟩ | ⟨_,c,ec',z⟩
     ·have k':X.env.scope.names.lookup x=some .local:=k;have hfr':X.env.scope.names.lookup x=some .cell\/X.env.scope.names.lookup x=some .free:=hfr;rw[k']at hfr';rcases hfr' with q | q<;>cases q
     ·rw[hX]at ec';cases ec';obtain⟨oc,ho,hd⟩:=z;exact⟨c',hc',oc,hk _ _ ho,hd⟩
 ·obtain⟨v,oc,ho,hd⟩:=I.cell x c (a4s I ck h);exact⟨v,oc,hk _ _ ho,hd⟩
 ·show H C=none
  rw[hC];exact I.hok.fresh (Nat.le_refl _)
 ·show (a29 cap σ).length=N'.length
  unfold a29;rw[List.length_map];exact ck.len
theorem b2Y {s':Shared}{σ':St}{H':Hp}{pins':List (Addr×Obj)}(I:Inv X pins σ H s) (hf:∀ b∈fp,FpOk X pins H b) (J:Inv (cxC X EW N' sc C s H fp) pins' σ' H' s'):Inv X pins σ H' s':=
 I.call' (ch:=fp) J.os J.base J.hok J.bare fun b hb=>⟨(hf b hb).2.2.2.1,(hf b hb).2.1,(hf b hb).2.2.2.2.1,(hf b hb).2.2.2.2.2⟩
theorem b1a {s':Shared}{σ':St}{H':Hp}{pins':List (Addr×Obj)}(I:Inv X pins σ H s) (hC:C=s.heap.objs.size) (J:Inv (cxC X EW N' sc C s H fp) pins' σ' H' s'):CFree X pins H' C:=by
 refine⟨J.free,by rw[hC];exact Nat.ne_of_gt I.lt,by rw[hC];exact I.sz,fun x c e z=>?_,fun p hp z=>?_⟩
 ·obtain⟨v,q⟩:=I.cell x c e;exact absurd q.lt (by rw[z,hC];exact Nat.lt_irrefl _)
 ·exact absurd (Heap.lt_size (I.pin p hp).1) (by rw[z,hC];exact Nat.lt_irrefl _)
theorem CFree.after {h':Heap}{t':Nat}(F:CFree X pins H C) (I:Inv X pins σ H s) (k:∀ b o,b≠C->s.heap.get? b=some o->h'.get? b=some o):Inv X pins σ H { s with heap:=h',toks:=t' }:=
 I.turned k F.free F.loc (.inr F.old) F.cell F.pin
end
section
variable {X:Cx}{elt tg iter:Expr}{ifs:List Expr}{sc:Scope}{pos:Pos}{wi:TI}{g:TG}{tt:TT}{te:TE}{N':List Str}{cap:List (Option Nat)}{EW:XK}
theorem a9w (hc:X.calm=true) (hE:a5D X EW sc) (ck:CapOk X.N X.env.scope sc N' cap) (hi:PI X tg iter wi)
  (hg:∀ C s H fp,PG (cxC X EW N' sc C s H fp) tg g) (ht:∀ C s H fp,PIfs (cxC X EW N' sc C s H fp) ifs tt) (he:∀ C s H fp,PE (cxC X EW N' sc C s H fp) elt te)
  (hs:∀ x,foldedSetIterable iter X.env x=pure x) {use:Option (Value->Sem Unit)}{Fin:Value->Shared->Prop}{pos':Pos}
  {pins:List (Addr×Obj)}{s:Shared}{σ:St}{H:Hp}{Q:VK}(I:Inv X pins σ H s) (h:tLC wi cap g tt te σ H Q)
  (fin:∀ D s' C m H',Inv X pins σ H' s'->Q (.ref D) H'->s'.heap.Ns C m->CFree X pins H' C->compPost (model X.prog X.w) X.A X.xe use Fin (.ref D) C (.ok .next) s') :
  wpAny (model X.prog X.w) X.A (comprehension (.ListComp elt [⟨tg,iter,ifs,0⟩] sc pos) sc X.env pos' (newList []) false (eval iter X.env) use) Fin X.xe s:=by
 refine wpAny_comprehension_free (use:=use) rfl hs (a5C (a9u I ck)) ck.kind ck.nms ?_;refine thn (hi pins s σ H _ I h) fun v s1 h1=>thn h1 fun itv s2 h2=>?_;obtain⟨it,fp,tn,J,H2,e,I2,T,st2,f2,h2⟩:=h2;subst e;have hD:H2 s2.heap.objs.size=none:=I2.hok.fresh (Nat.le_refl _);obtain⟨W,⟨m0,w0⟩,turn⟩:=h2 s2.heap.objs.size hD;refine wpAny_newObj_type ?_;have I3:Inv X pins σ (upd H2 s2.heap.objs.size (.lst [])) { s2 with heap:=s2.heap.push { cls:=.type "list",data:=.seq ([]:List Value).toArray } }:=I2.lnew (its:=[]) (ys:=[]) (t':=s2.toks) .nil (Nat.zero_le _);generalize hs3:({ s2 with heap:=s2.heap.push { cls:=.type "list",data:=.seq ([]:List Value).toArray } }:Shared)=s3 at I3;generalize hH3:upd H2 s2.heap.objs.size (.lst [])=H3 at I3 w0;have hlt2:∀ b∈fp,b<s2.heap.objs.size:=fun b hb=>by
  obtain⟨o,e,_⟩:=T.obj _ _ st2 b hb;exact Heap.lt_size e
 have sz3:s3.heap.objs.size=s2.heap.objs.size+1:=by rw[<- hs3];exact Heap.size_push _ _
 have hlt3:∀ b∈fp,b<s3.heap.objs.size:=fun b hb=>by rw[sz3];exact Nat.lt_succ_of_lt (hlt2 b hb)
 have f3:∀ b∈fp,FpOk X pins H3 b:=fun b hb=>by
  refine⟨?_,(f2 b hb).2⟩;rw[<- hH3,a0v (Nat.ne_of_lt (hlt2 b hb))];exact (f2 b hb).1
 have st3:tn 0 s3.heap:=T.keep _ _ _ st2 fun b _ o e=>by rw[<- hs3];exact Heap.get?_push_of_some _ e
 refine wpAny_newFunctionEnv ck.nocell (by intro y hy;simp at hy) (fun h₁ hns₁ hsb₁=>?_) ck.kind;have hk:∀ b o,s3.heap.get? b=some o->h₁.get? b=some o:=fun b o e=>hsb₁.extBut b o (Nat.ne_of_lt (Heap.lt_size e)) (Heap.get?_push_of_some _ e);have I4:=b4G (EW:=EW) (C:=s3.heap.objs.size) (t':=s3.toks+([]:List (Str×Value)).length) I3 ck f3 hlt3 rfl hns₁ hk;generalize hs4:({ s3 with heap:=h₁,toks:=s3.toks+([]:List (Str×Value)).length }:Shared)=s4 at I4 ⊢;have st4:tn 0 s4.heap:=T.keep _ _ _ st3 fun b _ o e=>by rw[<- hs4];exact hk b o e
 have stat:∀ {H':Hp}{pins':List (Addr×Obj)},(∀ p∈pins',p.1∉fp)->(∀ b∈fp,H' b=none)->∀ b∈fp,FpOk (cxC X EW N' sc s3.heap.objs.size s3 H3 fp) pins' H' b:=fun {H' pins'} hp hn b hb=>
  ⟨hn b hb,Nat.ne_of_lt (hlt3 b hb),fun z=>by
   rcases List.mem_cons.mp (I3.stkSub b z) with z | z
   ·exact (f3 b hb).2.1 z
   ·exact (f3 b hb).2.2.1 z,.inl hb,fun x c e=>(f3 b hb).2.2.2.2.1 x c (a4s I3 ck e),fun p hp' z=>hp p hp' (by rw[z];exact hb)⟩
 have hx:=hE pins σ H3 s3 s3.heap.objs.size fp use Fin (.ref s2.heap.objs.size) I3 f3 rfl;have loop:codeAny (model X.prog X.w) X.A (.compLoop (.ListComp elt [⟨tg,iter,ifs,0⟩] sc pos) 0 (.ref it) (.ref s2.heap.objs.size) (compEnvC sc (a0T X.env sc.names []) s3.heap.objs.size X.env))
   (compPost (model X.prog X.w) X.A X.xe use Fin (.ref s2.heap.objs.size) s3.heap.objs.size) s4:=by
  refine a2U (fun n s'=>∃ i ys σ' H',Inv (cxC X EW N' sc s3.heap.objs.size s3 H3 fp) [] σ' H' s'/\a1P (a29 cap σ) σ'/\tn i s'.heap/\(∀ b∈fp,H' b=none)/\W i n ys H') ?_ m0
   ⟨0,[],a29 cap σ,H3,I4,a2x _,st4,fun b hb=>(f3 b hb).1,w0⟩
  rintro n s5 ⟨i,ys,σ5,H5,I5,k5,st5,fr5,w5⟩;have kk:=a3A k5;have I5:=I5.weak (σ':=a29 cap σ) kk.1 kk.2;rcases turn i n ys H5 w5 with ⟨stop,q⟩ | ⟨go,N,hN,step⟩
  ·refine thn (T.done (cxC X EW N' sc s3.heap.objs.size s3 H3 fp) rfl rfl rfl hc i [] s5 _ H5 _ I5 (stat (fun p hp=>by cases hp) fr5) st5 stop) fun r s6 ⟨hr,I6⟩=>?_;subst hr;obtain⟨m6,n6,_⟩:=I6.loc;exact fin _ s6 _ m6 H5 (b2Y I3 f3 I6) q n6 (b1a I3 rfl I6)
  ·refine thn (T.item (cxC X EW N' sc s3.heap.objs.size s3 H3 fp) rfl rfl rfl hc i [] s5 _ H5 _ I5 (stat (fun p hp=>by cases hp) fr5) st5 go) fun r s6 ⟨u,hr,h6⟩=>?_;subst hr;refine thn h6 fun _ s7 ⟨x,H7,I7,r7,y7,st7,fr7⟩=>?_;have I7':=I7.pinned (stat (fun p hp=>by cases hp) fr7) (T.obj _ _ st7);have again:∀ {σ9:St}{H9:Hp}{s9:Shared}{ys':List V},Inv (cxC X EW N' sc s3.heap.objs.size s3 H3 fp) ([]++a6b fp s7.heap) σ9 H9 s9->a1P (a29 cap σ) σ9->N ys' H9 ->
     ∃ m,m<n/\∃ i ys σ' H',Inv (cxC X EW N' sc s3.heap.objs.size s3 H3 fp) [] σ' H' s9/\a1P (a29 cap σ) σ'/\tn i s9.heap/\(∀ b∈fp,H' b=none)/\W i m ys H':=fun {σ9 H9 s9 ys'} I9 k9 n9=>by
    obtain⟨m',hm,w9⟩:=hN ys' H9 n9;refine⟨m',hm,i+1,ys',σ9,H9,I9.unpinned,k9,T.keep _ _ _ st7 fun b hb o e=>(I9.pin (b,o) (List.mem_append_right _ (List.mem_append_right _ (a2E hb e)))).1,fun b hb=>?_,w9⟩;obtain⟨o,e,d⟩:=T.obj _ _ st7 b hb;exact (I9.pin (b,o) (List.mem_append_right _ (List.mem_append_right _ (a2E hb e)))).2.1
   refine wpAny_mono (hg _ _ _ _ _ s7 _ H7 x u _ I7' r7 (step x H7 y7)) (fun _ s8 ⟨σ8,H8,I8,k8,q8⟩=>?_) hx;refine wpAny_mono (ht _ _ _ _ _ s8 σ8 H8 _ I8 q8) (fun b s9 ⟨H9,I9,q9⟩=>?_) hx;cases b with
   | false=>
    rw[if_neg Bool.false_ne_true]at q9 ⊢;exact again I9 k8 q9
   | true=>
    rw[if_pos rfl]at q9 ⊢;refine wpAny_mono (he _ _ _ _ _ s9 σ8 H9 _ I9 q9) (fun y s10 ⟨vy,H10,I10,r10,zs,hacc,hsz,q10⟩=>?_) hx;refine wpAny_mono (a6j (X:=cxC X EW N' sc s3.heap.objs.size s3 H3 fp) _ s10 σ8 H10 (.ref s2.heap.objs.size) [vy] (.ref s2.heap.objs.size) [y] (fun _ H'=>N (zs++[vy]) H') I10 rfl (.cons r10 .nil) ⟨_,zs,vy,rfl,rfl,hacc,hsz,q10⟩) (fun _ s11 ⟨_,H11,I11,_,q11⟩=>?_) hx;exact again I11 k8 q11
 exact codeAny_compStart_list loop (T.self _ 0 _ _ _ st4 loop)
theorem b6E {N₀:List Str}{so:Scope}(hc:X.calm=true) (hE:a5D X EW sc) (hNN:X.N=N₀) (hso:X.env.scope=so) (ck:capB N₀ so sc N' cap=true) (hi:PI X tg iter wi)
  (hg:∀ C s H fp,PG (cxC X EW N' sc C s H fp) tg g) (ht:∀ C s H fp,PIfs (cxC X EW N' sc C s H fp) ifs tt) (he:∀ C s H fp,PE (cxC X EW N' sc C s H fp) elt te)
  (hs:∀ x,foldedSetIterable iter X.env x=pure x:=by intro _;rfl):PE X (.ListComp elt [⟨tg,iter,ifs,0⟩] sc pos) (tLC wi cap g tt te):=by
 intro pins s σ H Q I h;rw[eval_ListComp];subst hNN hso;refine a9w hc hE (a9s ck) hi hg ht he hs (use:=none) I h fun D s' C m H' I' q hn F=>?_;exact⟨m,hn,fun h' hs'=>⟨.ref D,H',F.after (t':=s'.toks) I' (fun b o hb e=>hs'.extBut b o hb e),rfl,q⟩⟩
theorem b1b {N₀:List Str}{so:Scope}{i:Nat}{x:Str}{pos' spos:Pos}(hN:X.N.Nodup) (hx:X.N[i]?=some x) (hl:X.env.scope.names.lookup x=some .local) (hc:X.calm=true) (hE:a5D X EW sc) (hNN:X.N=N₀) (hso:X.env.scope=so) (ck:capB N₀ so sc N' cap=true) (hi:PI X tg iter wi)
  (hg:∀ C s H fp,PG (cxC X EW N' sc C s H fp) tg g) (ht:∀ C s H fp,PIfs (cxC X EW N' sc C s H fp) ifs tt) (he:∀ C s H fp,PE (cxC X EW N' sc C s H fp) elt te)
  (hsw:swapsWith (.ListComp elt [⟨tg,iter,ifs,0⟩] sc pos) (some (.Name x pos')) spos.line X.env=pure true:=by rfl)
  (hs:∀ x,foldedSetIterable iter X.env x=pure x:=by intro _;rfl):PS X (.Assign [.Name x pos'] (.ListComp elt [⟨tg,iter,ifs,0⟩] sc pos) spos) (tAsg (tLC wi cap g tt te) (a8Z i)):=by
 subst hNN hso;intro pins s σ H D I h;rw[exec_Assign_Name_used _ _ _ _ hsw];refine wpAny_bind (wpAny_standAt (wpAny_bind ?_))
 show wpAny _ X.A (do let _ <- comprehension (.ListComp elt [⟨tg,iter,ifs,0⟩] sc pos) sc X.env _ (newList []) false (eval iter X.env) (some (assign (.Name x pos') X.env))) _ _ s
 refine wpAny_bind (wpAny_mono (a9w hc hE (a9s ck) hi hg ht he hs (use:=some (assign (.Name x pos') X.env)) (Fin:=fun _ s'=>SP X pins D .next s') I h fun d s' C m H' I' q hn F=>?_) (fun _ s' hq=>wpAny_pure (wpAny_pure hq)) fun _ _ e=>e)
 show wpAny _ _ (assign (.Name x pos') X.env (.ref d)) _ _ s'
 refine wpAny_assign_Name (a59 I' hN hx (.inl hl) (v:=.ref d) rfl (fun s'' I'' hd=>?_) (.inr hl));obtain⟨a,hsb,ha⟩:=hd;have hCa:C≠a:=by
  rcases ha with z | z
  ·rw[z];exact F.loc
  ·exact Ne.symm (F.cell _ _ z)
 exact⟨m,hn.sameBut hsb hCa,fun h' hs'=>⟨_,H',F.after (t':=s''.toks) I'' (fun b o hb e=>hs'.extBut b o hb e),q⟩⟩
end
end L2
namespace L2
open PySem PySem.Spec PyProof.Rows
section
variable {X:Cx}{st:Stmt}{rest:List Stmt}{t u:TS}{e:Expr}{te:TE}{tt:TT}
end
end L2
namespace L2
open PySem PySem.Spec PyProof.Rows
mutual
def DV (H:Hp):PyData->V->Prop
 | .none,x=>x=.non
 | .bool b,x=>x=.bl b
 | .int i,x=>x=.int i
 | .str s,x=>x=.str s
 | .list ds,x=>∃ a vs,x=.ref a/\H a=some (.lst vs)/\DVs H ds vs
 | .tuple ds,x=>∃ a vs,x=.ref a/\H a=some (.tup vs)/\DVs H ds vs
 | .dict _,_=>False
def DVs (H:Hp):List PyData->List V->Prop
 | [],vs=>vs=[]
 | d::ds,vs=>∃ v r,vs=v::r/\DV H d v/\DVs H ds r
end
mutual
theorem DV.reads {P:Program}{w:World}{H:Hp}{h:Heap}(ok:HOk P w H h):∀ {d:PyData}{x:V}{u:Value},DV H d x->RelV x u->∃ as,Reads h u d as
 | .none,x,u,q,r=>by
  unfold DV at q;subst q;cases (show u=Value.none from r);exact⟨_,.none⟩
 | .bool b,x,u,q,r=>by
  unfold DV at q;subst q;cases (show u=Value.bool b from r);exact⟨_,.bool b⟩
 | .int i,x,u,q,r=>by
  unfold DV at q;subst q;obtain⟨t,e⟩:=(show ∃ t,u=Value.int i t from r);subst e;exact⟨_,.int i t⟩
 | .str s,x,u,q,r=>by
  unfold DV at q;subst q;obtain⟨t,e⟩:=(show ∃ t,u=Value.str s t from r);subst e;exact⟨_,.str s t⟩
 | .list ds,x,u,q,r=>by
  unfold DV at q;obtain⟨a,vs,e,ha,q⟩:=q;subst e;cases (show u=Value.ref a from r);obtain⟨_,its,n,rv,e⟩:=ok a _ ha;obtain⟨as,rd⟩:=DVs.reads ok q rv;exact⟨_,.list e rfl rfl (by simpa using rd)⟩
 | .tuple ds,x,u,q,r=>by
  unfold DV at q;obtain⟨a,vs,e,ha,q⟩:=q;subst e;cases (show u=Value.ref a from r);obtain⟨_,its,rv,o,e,c,n,d⟩:=ok a _ ha;obtain⟨as,rd⟩:=DVs.reads ok q rv;exact⟨_,.tuple e c d (by simpa using rd)⟩
 | .dict _,x,u,q,r=>by unfold DV at q;exact q.elim
theorem DVs.reads {P:Program}{w:World}{H:Hp}{h:Heap}(ok:HOk P w H h):∀ {ds:List PyData}{vs:List V}{us:List Value},DVs H ds vs->Vals vs us->∃ as,ReadsAll h us ds as
 | [],vs,us,q,r=>by
  unfold DVs at q;subst q;cases r;exact⟨_,.nil⟩
 | d::ds,vs,us,q,r=>by
  unfold DVs at q;obtain⟨v,rr,e,q1,q2⟩:=q;subst e;cases r with
  | cons r1 r2=>
   obtain⟨as,h1⟩:=DV.reads ok q1 r1;obtain⟨bs,h2⟩:=DVs.reads ok q2 r2;exact⟨_,.cons h1 h2⟩
end
def rEqD:R2:=fun x y H Q=>∃ d e,DV H d x/\DV H e y/\SeqAt.shaped d=true/\SeqAt.shaped e=true/\Q (.bl (PyData.eqv d e)) H
def rNeD:R2:=fun x y H Q=>∃ d e,DV H d x/\DV H e y/\SeqAt.shaped d=true/\SeqAt.shaped e=true/\Q (.bl (!PyData.eqv d e)) H
section
variable {X:Cx}
theorem b4H (hu:X.A.units+66<cLine):OpR X (compareOp .Eq) rEqD:=by
 intro pins s σ H x y v u Q I rx ry h;obtain⟨d,e,h1,h2,h3,h4,q⟩:=h;obtain⟨as,r1⟩:=h1.reads I.hok rx;obtain⟨bs,r2⟩:=h2.reads I.hok ry;exact eq_dataH r1 r2 h3 h4 (by omega) ⟨.bl _,H,I,rfl,q⟩
theorem b4I (hu:X.A.units+66<cLine):OpR X (compareOp .NotEq) rNeD:=by
 intro pins s σ H x y v u Q I rx ry h;obtain⟨d,e,h1,h2,h3,h4,q⟩:=h;obtain⟨as,r1⟩:=h1.reads I.hok rx;obtain⟨bs,r2⟩:=h2.reads I.hok ry;exact ne_dataH r1 r2 h3 h4 (by omega) ⟨.bl _,H,I,rfl,q⟩
def b4J (_ j:Int):Prop:=0<j/\j<2 ^ 64
theorem b1c:OpR X (binaryOp .FloorDiv) (rI b4J fun i j=>.int (i / j)):=opI fun i j _ _ _ _ _ hc q=>by
 have h1:(0:Int)<j:=hc.1;have h2:j<2 ^ 64:=hc.2;refine floordiv_int (by omega) ?_ (.inl (PyProof.noPylong_of_log2 ?_))
 ·rw[Int.fdiv_eq_ediv_of_nonneg i (by omega)];exact q
 ·have h3:j.natAbs<2 ^ 64:=by omega
  have h4:j.natAbs.log2<64:=(Nat.log2_lt (by omega)).mpr h3;omega
def rIsT (K:Fg):List V->Hp->VK->Prop:=fun xs H Q=>∃ x T t b,xs=[x,.ty T]/\TyOf K H x t/\PySem.W.kitOne K t (.type T)=some b/\Q (.bl b) H
theorem b1d:CallR X (.builtin "isinstance") (rIsT X.K):=by
 intro pins s σ H xs us Q I r h;obtain⟨x,T,t,b,rfl,ty,e,q⟩:=h;obtain⟨u,w',rfl,r1,r2⟩:=a88 r;cases (show w'=Value.type T from r2);exact a9e I r1 ty e fun tk=>⟨.bl b,H,I.tok tk,rfl,q⟩
end
end L2
namespace L2
open PySem PySem.Spec PyProof.Rows
abbrev veM:List Value:=[.type "ValueError",.type "Exception",.type "BaseException",.type "object"]
theorem b4K {K:Fg}{C:Addr}(q:PySem.W.excIn K C veM "ValueError.__new__"=true):∃ bm N nm qn bs hd sn sub ab col dd k0 k1 k2 k3 k5,K.lookup C=some (excClassObj nm qn C N bs bm hd sn sub ab col dd k0 k1 k2 k3 k5 "ValueError.__new__") /\
  PySem.W.nsOkIn K N=true/\PySem.W.nsIn K N "__init__"=some none/\PySem.W.tailIn K veM bm=true:=by
 unfold PySem.W.excIn at q
 split at q
 ·rename_i dd cd sl ho
  split at q
  ·rename_i C2 bm k0 k1 k2 k3 nw k5 hm hs
   simp only[Bool.and_eq_true,Bool.not_eq_true',beq_iff_eq]at q;obtain⟨⟨⟨⟨⟨z1,z2⟩,z3⟩,z4⟩,z5⟩,z6⟩:=q;subst z1 z2;obtain⟨nm,bs,mr,ns,qn,hd,sn,sub,ab,col,dl⟩:=cd;dsimp only at hm z3 z5 z6;subst hm z3;have es:sl=#[k0,k1,k2,k3,some (.builtin "ValueError.__new__"),k5]:=by
    cases sl with
    | mk l=>dsimp only at hs;rw[hs]
   subst es;exact⟨bm,ns,nm,qn,bs,hd,sn,sub,ab,col,dd,k0,k1,k2,k3,k5,ho,z5,z6,z4⟩
  ·cases q
 ·cases q
section
variable {X:Cx}{E:XK}
theorem b1e {x:Str}{np cpos pos:Pos}{e0:Expr}{te:TE}{C:Addr}(O:Outs X E) (hc:X.calm=true) (hg:Gl X x) (hm:X.mg x=some (.ref C)) (hq:PySem.W.excIn X.K C veM "ValueError.__new__"=true) (he:PE X e0 te)
  (hs:starEach [e0] X.env=(false,eval e0 X.env)::starEach [] X.env:=by rfl) (hp:(backTo cpos (starEach [] X.env)).any (·.1)=false:=by rfl) (hd:(x==("__debug__":Str))=false:=by decide) :
  PS X (.Raise (some (.Call (.Name x np) [e0] [] cpos)) none pos) (fun _ σ H=>te σ H fun _ H1=>since X.H₀ E (.ref C) none H1):=by
 intro pins s σ H D I h;obtain⟨bm,N,nm,qn,bs,hd',sn,sub,ab,col,dd,k0,k1,k2,k3,k5,hC,z5,z6,z4⟩:=b4K hq;have B:=I.mod.kin;have hN:X.base.Ns N (X.base.nsMap N):=.of_isNs (PySem.W.isNs_of_in B z5);have hi:=PySem.W.nsMap_none_of_in B z5 z6;have T:OwnTail X.base veM bm:=PySem.W.tail_of_in B z4;refine wpAny_Raise_call_subT (C:=C) (nm:=nm) (q:=qn) (N:=N) (bs:=bs) (bm:=bm) (hdct:=hd') (sn:=sn) (sub:=sub) (ab:=ab) (col:=col) (dd:=dd) (k0:=k0) (k1:=k1) (k2:=k2) (k3:=k3) (k5:=k5) PySem.F.excBase_ValueError (mN:=X.base.nsMap N) (T.hasType (by decide)) (I.ok.hd hc)
  (by rw[hs];show (false||(backTo cpos (starEach [] X.env)).any (·.1))=false;rw[hp];rfl) hi (a5v I hg hm ⟨rfl,?_⟩ hd)
 rw[hs];refine Calls.evalArgs_plain (Calls.spliced_cons (thn (he pins s σ H _ I h) fun v s2 ⟨y,H2,I2,_,q2⟩=>Calls.spliced_nil ⟨rfl,Nat.le_of_lt (a0s (Nat.le_of_ble_eq_true rfl)),I2.bk _ _ (B _ _ hC),hN.keeps I2.bk,T.keeps I2.bk,fun h' e hm=>b07 O I2 hm q2⟩))
end
end L2
namespace L2
open PySem PySem.Spec PyProof.Rows
section
variable {X:Cx}{E:XK}
end
end L2
namespace L2
open PySem PySem.Spec PySem.Calls PyProof.Rows PySem.W
section
variable {prog:Program}{w:World}{A:Around}{E:Value->Shared->Prop}{s:Shared}{K:Frag}{x D:Addr}{ox:Obj}
end
end L2
namespace L2
open PySem PySem.Spec PyProof.Rows
section
variable {X:Cx}{pins:List (Addr×Obj)}{σ σ':St}{H:Hp}{s:Shared}
theorem Inv.lk {ex:Addr->Prop}{h':Heap}{t':Nat}(I:Inv X pins σ H s) (k:Lk (frs X.stack) ex s.heap h') (hx:∀ b,ex b->X.s₀.heap.get? b=none/\H b=none/\(∀ x c,X.env.cells.lookup x=some c->c≠b)/\∀ p∈X.pn++pins,p.1≠b)
  (hl:∃ m,h'.Ns X.env.locals m/\∀ (i:Nat) (x:Str) (v:V),X.N[i]?=some x->σ'[i]?=some (some v)->Vis X.env.scope x->∃ u,RelV v u/\Look X.env h' m x u) (hn:σ'.length=σ.length):Inv X pins σ' H { s with heap:=h',toks:=t' }:=by
 refine⟨I.ok,I.os,I.bare,I.base.lk k (fun b hb=>?_) (fun b hb=>.inr (hx b hb).1),hl,fun x c e=>?_,I.free,I.freeC,fun p hp=>?_,I.hok.lk k I.stkFree fun b hb=>(hx b hb).2.1,hn.trans I.len⟩
 ·rcases List.mem_cons.mp (I.stkSub b hb) with z | z
  ·rw[z];exact .inr (Heap.get?_none_of_le I.ok.above)
  ·exact .inl z
 ·obtain⟨v,o,ho,hd⟩:=I.cell x c e;obtain⟨sl,e1⟩:=k.slot c o ho fun z=>(hx c z).2.2.1 x c e rfl;exact⟨v,_,e1,hd⟩
 ·obtain⟨e1,e2,e3,e4,e5⟩:=I.pin p hp;refine⟨k.keep _ _ e1 (fun z=>?_) (fun z=>(hx _ z).2.2.2 p hp rfl),e2,e3,e4,e5⟩;rcases List.mem_cons.mp (I.stkSub _ z) with z | z
  ·exact e3 z
  ·exact e4 z
abbrev Cx.hnd (X:Cx) (e:Addr) (oe:Obj):Cx:={ X with A:=X.A.mark (some (.ref e)),calm:=false,pn:=(e,oe)::X.pn,xe:=fun _ _=>False }
theorem Inv.hnd {e:Addr}{oe:Obj}(I:Inv X pins σ H s) (h1:s.heap.get? e=some oe) (h2:H e=none) (h3:e≠X.env.locals) (h4:e∉X.fs) (h5:∀ v,oe.data≠.cell v):Inv (X.hnd e oe) pins σ H s:=
 ⟨⟨I.ok.mod,I.ok.kind,I.ok.glob,I.ok.blt,I.ok.above,I.ok.inj,I.ok.has,I.ok.cab,(fun z=>nomatch z),I.ok.frames,I.ok.stk,I.ok.exf,I.ok.bs,I.ok.bsz,I.ok.noex,I.ok.exfs,I.ok.funs,I.ok.frf⟩,I.os,I.bare,I.base,I.loc,I.cell,I.free,I.freeC,(fun p hp=>by
  rcases List.mem_cons.mp (show p∈(e,oe)::(X.pn++pins) from hp) with rfl | hp
  ·exact⟨h1,h2,h3,h4,h5⟩
  ·exact I.pin p hp),I.hok,I.len⟩
end
section
variable {X:Cx}{k:Nat}{f C D:Addr}{fd:FuncData}{ps:List Str}{sp:Sp}{x n:Str}{p pos np hpos tpos:Pos}{e ce:Expr}{es:List Expr}{t:TA}
end
end L2
namespace L3
open PySem PySem.Spec PyProof.Rows L2
inductive Z where
 | non | bl (b:Bool) | int (i:Int) | str (x:Str) | ref (a:Addr) | ty (n:String) | scr (a:Addr) (ns:List Int)
 | tup (ws:List Z)
mutual
def eqZ:Z->Z->Bool
 | .non,.non=>true
 | .bl a,.bl b=>a==b
 | .int a,.int b=>decide (a=b)
 | .str a,.str b=>decide (a=b)
 | .ref a,.ref b=>decide (a=b)
 | .ty a,.ty b=>decide (a=b)
 | .scr a ns,.scr b ms=>decide (a=b)&&decide (ns=ms)
 | .tup a,.tup b=>eqZs a b
 | _,_=>false
def eqZs:List Z->List Z->Bool
 | [],[]=>true
 | a::as,b::bs=>eqZ a b&&eqZs as bs
 | _,_=>false
end
mutual
theorem a9x:∀ x y:Z,eqZ x y=true↔x=y
 | .tup a,y=>by
  cases y with
  | tup b=>simp only[eqZ,Z.tup.injEq];exact a7E a b
  | _=>simp[eqZ]
 | .non,y=>by cases y<;>simp[eqZ]
 | .bl _,y=>by cases y<;>simp[eqZ]
 | .int _,y=>by cases y<;>simp[eqZ]
 | .str _,y=>by cases y<;>simp[eqZ]
 | .ref _,y=>by cases y<;>simp[eqZ]
 | .ty _,y=>by cases y<;>simp[eqZ]
 | .scr _ _,y=>by cases y<;>simp[eqZ]
theorem a7E:∀ x y:List Z,eqZs x y=true↔x=y
 | [],y=>by cases y<;>simp[eqZs]
 | a::as,y=>by
  cases y with
  | nil=>simp[eqZs]
  | cons b bs=>simp only[eqZs,Bool.and_eq_true,List.cons.injEq,a9x a b,a7E as bs]
end
instance:DecidableEq Z:=fun x y=>decidable_of_iff _ (a9x x y)
section
variable {K:Fg}{H H' H1 H2:Hp}{a p:Addr}{xs:List V}
def Fz (K:Fg) (H:Hp) (a:Addr) (xs:List V):Prop:=
 (∃ o,H a=some (.frz o (.lst xs)))\/∃ (o:Obj) (its:Array Value) (n:Nat),K.lookup a=some o/\o.cls=.type "list"/\o.dict=none/\o.data=.seq its n/\its.size≤sizeLine/\Vals xs its.toList
theorem Fz.sq (h:Fz K H a xs):SqL K H a xs:=by
 rcases h with ⟨o,h⟩ | h
 ·exact .inl (.inr ⟨o,h⟩)
 ·exact .inr h
theorem Fz.of (hO:Only H) (h:SqL K H a xs):Fz K H a xs:=by
 rcases h with (h | h) | h
 ·rcases hO a with z | ⟨o,ys,z⟩
  ·rw[h]at z;cases z
  ·rw[h]at z;cases z
 ·exact .inl h
 ·exact .inr h
structure TW (K:Fg) (H H':Hp):Prop where
 tup:∀ a xs,H a=some (.tup xs)->H' a=some (.tup xs)
 frz:∀ a xs,Fz K H a xs->Fz K H' a xs
structure TK (K:Fg) (H H':Hp):Prop where
 tup:∀ a xs,H a=some (.tup xs)->H' a=some (.tup xs)
 frz:∀ a xs,Fz K H a xs->Fz K H' a xs
 frd:∀ a o u,H a=some (.frz o u)->H' a=some (.frz o u)
theorem TK.refl (K:Fg) (H:Hp):TK K H H:=⟨fun _ _ h=>h,fun _ _ h=>h,fun _ _ _ h=>h⟩
theorem TK.trans (a:TK K H H1) (b:TK K H1 H2):TK K H H2:=⟨fun c xs h=>b.tup c xs (a.tup c xs h),fun c xs h=>b.frz c xs (a.frz c xs h),fun c o u h=>b.frd c o u (a.frd c o u h)⟩
theorem TK.upd {o:HO}(h:∀ xs,H p≠some (.tup xs)) (h2:∀ o u,H p≠some (.frz o u)):TK K H (L2.upd H p o):=by
 refine⟨fun c xs e=>?_,fun c xs e=>?_,fun c o' u e=>by rw[a0v (by rintro rfl;exact h2 _ _ e)];exact e⟩
 ·rw[a0v (by rintro rfl;exact h _ e)];exact e
 ·rcases e with ⟨o',e⟩ | e
  ·exact .inl ⟨o',by rw[a0v (by rintro rfl;exact h2 _ _ e)];exact e⟩
  ·exact .inr e
theorem TK.new {o:HO}(h:H p=none):TK K H (L2.upd H p o):=.upd (fun xs e=>by rw[h]at e;cases e) (fun o u e=>by rw[h]at e;cases e)
theorem TK.lst {o:HO}(h:H p=some (.lst xs)):TK K H (L2.upd H p o):=.upd (fun xs e=>by rw[h]at e;cases e) (fun o u e=>by rw[h]at e;cases e)
theorem TK.dK {o:HO}{kvs:List (Key×V)}(h:H p=some (.dK kvs)):TK K H (L2.upd H p o):=.upd (fun xs e=>by rw[h]at e;cases e) (fun o u e=>by rw[h]at e;cases e)
theorem TK.ins {o:HO}{C dx:Addr}{fs:List (Str×V)}(h:H p=some (.ins C dx fs)):TK K H (L2.upd H p o):=.upd (fun xs e=>by rw[h]at e;cases e) (fun o u e=>by rw[h]at e;cases e)
end
mutual
def Rep (K:Fg) (H:Hp):Z->V->Prop
 | .non,v=>v=.non
 | .bl b,v=>v=.bl b
 | .int i,v=>v=.int i
 | .str x,v=>v=.str x
 | .ref a,v=>v=.ref a
 | .ty n,v=>v=.ty n
 | .scr a ns,v=>v=.ref a/\Fz K H a (ns.map V.int)
 | .tup ws,v=>∃ a vs,v=.ref a/\H a=some (.tup vs)/\Reps K H ws vs
def Reps (K:Fg) (H:Hp):List Z->List V->Prop
 | [],vs=>vs=[]
 | w::ws,vs=>∃ v r,vs=v::r/\Rep K H w v/\Reps K H ws r
end
section
variable {K:Fg}{H H':Hp}
theorem a00 {v:V}:Rep K H .non v=(v=.non):=by unfold Rep;rfl
theorem a0O {b:Bool}{v:V}:Rep K H (.bl b) v=(v=.bl b):=by unfold Rep;rfl
theorem a0q {i:Int}{v:V}:Rep K H (.int i) v=(v=.int i):=by unfold Rep;rfl
theorem a0A {x:Str}{v:V}:Rep K H (.str x) v=(v=.str x):=by unfold Rep;rfl
theorem a0m {a:Addr}{v:V}:Rep K H (.ref a) v=(v=.ref a):=by unfold Rep;rfl
theorem a7F {n:String}{v:V}:Rep K H (.ty n) v=(v=.ty n):=by unfold Rep;rfl
theorem a1R {a:Addr}{ns:List Int}{v:V}:Rep K H (.scr a ns) v=(v=.ref a/\Fz K H a (ns.map V.int)):=by unfold Rep;rfl
theorem a0U {ws:List Z}{v:V}:Rep K H (.tup ws) v=(∃ a vs,v=.ref a/\H a=some (.tup vs)/\Reps K H ws vs):=by conv=>lhs;unfold Rep
theorem a0w {vs:List V}:Reps K H [] vs=(vs=[]):=by unfold Reps;rfl
theorem a0o {w:Z}{ws:List Z}{vs:List V}:Reps K H (w::ws) vs=(∃ v r,vs=v::r/\Rep K H w v/\Reps K H ws r):=by conv=>lhs;unfold Reps
mutual
theorem Rep.monoW (t:TW K H H'):∀ (w:Z) (v:V),Rep K H w v->Rep K H' w v
 | .tup ws,v,h=>by
  rw[a0U]at h ⊢;obtain⟨a,vs,e,h,r⟩:=h;exact⟨a,vs,e,t.tup _ _ h,Reps.monoW t ws vs r⟩
 | .scr a ns,v,h=>by
  rw[a1R]at h ⊢;exact⟨h.1,t.frz _ _ h.2⟩
 | .non,v,h=>by rw[a00]at h ⊢;exact h
 | .bl _,v,h=>by rw[a0O]at h ⊢;exact h
 | .int _,v,h=>by rw[a0q]at h ⊢;exact h
 | .str _,v,h=>by rw[a0A]at h ⊢;exact h
 | .ref _,v,h=>by rw[a0m]at h ⊢;exact h
 | .ty _,v,h=>by rw[a7F]at h ⊢;exact h
theorem Reps.monoW (t:TW K H H'):∀ (ws:List Z) (vs:List V),Reps K H ws vs->Reps K H' ws vs
 | [],vs,h=>by rw[a0w]at h ⊢;exact h
 | w::ws,vs,h=>by
  rw[a0o]at h ⊢;obtain⟨v,r,e,h1,h2⟩:=h;exact⟨v,r,e,Rep.monoW t w v h1,Reps.monoW t ws r h2⟩
end
theorem Rep.mono (t:TK K H H') (w:Z) (v:V) (h:Rep K H w v):Rep K H' w v:=Rep.monoW ⟨t.tup,t.frz⟩ w v h
theorem Reps.mono (t:TK K H H') (ws:List Z) (vs:List V) (h:Reps K H ws vs):Reps K H' ws vs:=Reps.monoW ⟨t.tup,t.frz⟩ ws vs h
theorem Reps.cons {w:Z}{v:V}{ws:List Z}{vs:List V}(a:Rep K H w v) (b:Reps K H ws vs):Reps K H (w::ws) (v::vs):=by rw[a0o];exact⟨v,vs,rfl,a,b⟩
theorem Reps.nil:Reps K H [] []:=by rw[a0w]
theorem Reps.length:∀ {ws:List Z}{vs:List V},Reps K H ws vs->ws.length=vs.length
 | [],vs,h=>by rw[a0w]at h;rw[h];rfl
 | w::ws,vs,h=>by
  rw[a0o]at h;obtain⟨v,r,e,_,h2⟩:=h;rw[e,List.length_cons,List.length_cons,Reps.length h2]
theorem Reps.get:∀ {ws:List Z}{vs:List V}{i:Nat}{w:Z},Reps K H ws vs->ws[i]?=some w->∃ v,vs[i]?=some v/\Rep K H w v
 | [],_,_,_,_,e=>by simp at e
 | w::ws,vs,i,x,h,e=>by
  rw[a0o]at h;obtain⟨v,r,rfl,h1,h2⟩:=h;cases i with
  | zero=>simp at e;subst e;exact⟨v,rfl,h1⟩
  | succ i=>simpa using Reps.get (i:=i) h2 (by simpa using e)
theorem Reps.tog {ws:List Z}{vs:List V}{i:Nat}{v:V}(h:Reps K H ws vs) (e:vs[i]?=some v):∃ w,ws[i]?=some w/\Rep K H w v:=by
 have hl:=h.length;have hi:i<ws.length:=by
  have:=(List.getElem?_eq_some_iff.mp e).1
  omega
 obtain⟨v',e',r⟩:=h.get (List.getElem?_eq_getElem hi);rw[e]at e';cases e';exact⟨_,List.getElem?_eq_getElem hi,r⟩
theorem Reps.append:∀ {ws ws':List Z}{vs vs':List V},Reps K H ws vs->Reps K H ws' vs'->Reps K H (ws++ws') (vs++vs')
 | [],_,vs,_,h,h'=>by rw[a0w]at h;subst h;exact h'
 | w::ws,_,vs,_,h,h'=>by
  rw[a0o]at h;obtain⟨v,r,rfl,h1,h2⟩:=h;exact .cons h1 (Reps.append h2 h')
theorem Reps.drop:∀ {ws:List Z}{vs:List V}(n:Nat),Reps K H ws vs->Reps K H (ws.drop n) (vs.drop n)
 | [],vs,n,h=>by rw[a0w]at h;subst h;simpa using Reps.nil
 | w::ws,vs,0,h=>h
 | w::ws,vs,n+1,h=>by
  rw[a0o]at h;obtain⟨v,r,rfl,h1,h2⟩:=h;exact Reps.drop n h2
theorem Reps.take:∀ {ws:List Z}{vs:List V}(n:Nat),Reps K H ws vs->Reps K H (ws.take n) (vs.take n)
 | [],vs,n,h=>by rw[a0w]at h;subst h;simpa using Reps.nil
 | w::ws,vs,0,h=>by simpa using Reps.nil
 | w::ws,vs,n+1,h=>by
  rw[a0o]at h;obtain⟨v,r,rfl,h1,h2⟩:=h;exact .cons h1 (Reps.take n h2)
theorem Reps.set {w:Z}{v:V}(r:Rep K H w v):∀ {ws:List Z}{vs:List V}(i:Nat),Reps K H ws vs->Reps K H (ws.set i w) (vs.set i v)
 | [],vs,i,h=>by rw[a0w]at h;subst h;simpa using Reps.nil
 | x::ws,vs,i,h=>by
  rw[a0o]at h;obtain⟨y,s,rfl,h1,h2⟩:=h;cases i with
  | zero=>exact .cons r h2
  | succ i=>exact .cons h1 (Reps.set r i h2)
theorem Reps.reverse:∀ {ws:List Z}{vs:List V},Reps K H ws vs->Reps K H ws.reverse vs.reverse
 | [],vs,h=>by rw[a0w]at h;subst h;exact Reps.nil
 | x::ws,vs,h=>by
  rw[a0o]at h;obtain⟨y,s,rfl,h1,h2⟩:=h;rw[List.reverse_cons,List.reverse_cons];exact (Reps.reverse h2).append (.cons h1 .nil)
theorem a6m:∀ {ns:List Int}{vs:List V},Reps K H (ns.map Z.int) vs->vs=ns.map V.int
 | [],vs,h=>by rw[List.map_nil,a0w]at h;subst h;rfl
 | n::ns,vs,h=>by
  rw[List.map_cons,a0o]at h;obtain⟨v,r,rfl,h1,h2⟩:=h;rw[a0q]at h1;rw[h1,a6m h2];rfl
theorem a2y:∀ (ns:List Int),Reps K H (ns.map Z.int) (ns.map V.int)
 | []=>Reps.nil
 | n::ns=>.cons (by rw[a0q]) (a2y ns)
theorem Reps.one {w:Z}{vs:List V}(h:Reps K H [w] vs):∃ v,vs=[v]/\Rep K H w v:=by
 rw[a0o]at h;obtain⟨v,r,rfl,h1,h2⟩:=h;rw[a0w]at h2;exact⟨v,by rw[h2],h1⟩
theorem Reps.two {w w':Z}{vs:List V}(h:Reps K H [w,w'] vs):∃ v v',vs=[v,v']/\Rep K H w v/\Rep K H w' v':=by
 rw[a0o]at h;obtain⟨v,r,rfl,h1,h2⟩:=h;obtain⟨v',rfl,h3⟩:=h2.one;exact⟨v,v',rfl,h1,h3⟩
end
inductive O where
 | lst (ws:List Z)
 | dK (kvs:List (Key×Z))
 | ins (C dx:Addr) (fs:List (Str×Z))
 | dF (kvs:List (Key×Z))
abbrev Hq:=Addr->Option O
def put (G:Hq) (a:Addr) (o:O):Hq:=fun b=>if b=a then some o else G b
theorem a0d {G:Hq}{a:Addr}{o:O}:put G a o a=some o:=by unfold put;rw[if_pos rfl]
theorem a0B {G:Hq}{a b:Addr}{o:O}(h:b≠a):put G a o b=G b:=by unfold put;rw[if_neg h]
theorem a1S {G:Hq}{a:Addr}{o u:O}:put (put G a o) a u=put G a u:=by
 funext b;unfold put;split<;>rfl
theorem a0x {G:Hq}{a b:Addr}{o:O}(h:G a=some o) (h':G b=none):a≠b:=by
 intro e;subst e;rw[h]at h';cases h'
theorem a0n {G:Hq}{a b:Addr}{o u:O}(h:G b=some u) (n:G a=none):put G a o b=some u:=by rw[a0B (a0x h n)];exact h
def ROb (K:Fg) (H:Hp) (a:Addr):O->Prop
 | .lst ws=>∃ vs,H a=some (.lst vs)/\Reps K H ws vs
 | .dK kvs=>∃ us,H a=some (.dK us)/\us.map (·.1)=kvs.map (·.1)/\Reps K H (kvs.map (·.2)) (us.map (·.2))
 | .ins C dx fs=>∃ gs,H a=some (.ins C dx gs)/\gs.map (·.1)=fs.map (·.1)/\Reps K H (fs.map (·.2)) (gs.map (·.2))
 | .dF kvs=>∃ o us,H a=some (.frz o (.dK us))/\us.map (·.1)=kvs.map (·.1)/\Reps K H (kvs.map (·.2)) (us.map (·.2))
def RH (K:Fg) (G:Hq) (H:Hp):Prop:=∀ a o,G a=some o->ROb K H a o
section
variable {K:Fg}{H H':Hp}{G:Hq}{a p:Addr}{o:O}{u:HO}
theorem ROb.some (h:ROb K H a o):∃ u,H a=some u:=by
 cases o with
 | lst ws=>obtain⟨vs,e,_⟩:=h;exact⟨_,e⟩
 | dK kvs=>obtain⟨vs,e,_⟩:=h;exact⟨_,e⟩
 | ins C dx fs=>obtain⟨vs,e,_⟩:=h;exact⟨_,e⟩
 | dF kvs=>obtain⟨ob,vs,e,_⟩:=h;exact⟨_,e⟩
theorem ROb.stay (t:TK K H H') (e:H' a=H a) (h:ROb K H a o):ROb K H' a o:=by
 cases o with
 | lst ws=>obtain⟨vs,q,r⟩:=h;exact⟨vs,e.trans q,r.mono t⟩
 | dK kvs=>obtain⟨vs,q,n,r⟩:=h;exact⟨vs,e.trans q,n,r.mono t⟩
 | ins C dx fs=>obtain⟨vs,q,n,r⟩:=h;exact⟨vs,e.trans q,n,r.mono t⟩
 | dF kvs=>obtain⟨ob,vs,q,n,r⟩:=h;exact⟨ob,vs,e.trans q,n,r.mono t⟩
theorem RH.out (h:RH K G H) (e:H a=none):G a=none:=by
 cases q:G a with
 | none=>rfl
 | some o=>obtain⟨u,z⟩:=(h a o q).some;rw[e]at z;cases z
theorem RH.hid (h:RH K G H) (e:H p=none):RH K G (upd H p u):=fun b o q=>
 (h b o q).stay (.new e) (a0v (by rintro rfl;obtain⟨u,z⟩:=(h _ o q).some;rw[e]at z;cases z))
theorem RH.set (h:RH K G H) (t:TK K H (upd H p u)) (n:ROb K (upd H p u) p o):RH K (put G p o) (upd H p u):=fun b o' q=>by
 by_cases hb:b=p
 ·subst hb;rw[a0d]at q;cases q;exact n
 ·rw[a0B hb]at q;exact (h b o' q).stay t (a0v hb)
end
abbrev S3:=List (Option Z)
abbrev K3:=Z->Hq->Prop
abbrev C3:=S3->Hq->Prop
abbrev E3:=S3->Hq->K3->Prop
abbrev T3:=S3->Hq->(Bool->Hq->Prop)->Prop
abbrev A3:=S3->Hq->(List Z->Hq->Prop)->Prop
abbrev X3:=C3->K3->C3->C3->S3->Hq->Prop
def ROp (K:Fg) (H:Hp) (ow:Option Z) (ov:Option V):Prop:=∀ w,ow=some w->∃ v,ov=some v/\Rep K H w v
def RSt (K:Fg) (H:Hp):S3->L2.St->Prop:=Paired (ROp K H)
section
variable {K:Fg}{H H':Hp}
theorem RSt.mono (t:TK K H H'):∀ {σ:S3}{τ:L2.St},RSt K H σ τ->RSt K H' σ τ
 | _,_,.nil=>.nil
 | _,_,.cons r s=>.cons (fun w e=>let ⟨v,q,h⟩:=r w e;⟨v,q,h.mono t⟩) (RSt.mono t s)
theorem RSt.get:∀ {σ:S3}{τ:L2.St}{i:Nat}{w:Z},RSt K H σ τ->σ[i]?=some (some w)->∃ v,τ[i]?=some (some v)/\Rep K H w v
 | _,_,_,_,.nil,e=>by simp at e
 | _,_,0,w,.cons r _,e=>by
  obtain⟨v,q,h⟩:=r w (by simpa using e);exact⟨v,by rw[q];rfl,h⟩
 | _,_,i+1,w,.cons _ s,e=>by
  obtain⟨v,q,h⟩:=RSt.get (i:=i) s (by simpa using e);exact⟨v,by simpa using q,h⟩
theorem RSt.set {w:Z}{v:V}(r:Rep K H w v):∀ {σ:S3}{τ:L2.St}(i:Nat),RSt K H σ τ->RSt K H (σ.set i (some w)) (τ.set i (some v))
 | _,_,_,.nil=>.nil
 | _,_,0,.cons _ s=>.cons (fun _ e=>by cases e;exact⟨v,rfl,r⟩) s
 | _,_,i+1,.cons q s=>.cons q (RSt.set r i s)
theorem RSt.length {σ:S3}{τ:L2.St}(h:RSt K H σ τ):σ.length=τ.length:=Paired.length h
theorem RSt.nones:∀ n:Nat,RSt K H (List.replicate n none) (List.replicate n none)
 | 0=>.nil
 | n+1=>.cons (fun _ e=>nomatch e) (RSt.nones n)
theorem RSt.app:∀ {σ σ':S3}{τ τ':L2.St},RSt K H σ τ->RSt K H σ' τ'->RSt K H (σ++σ') (τ++τ')
 | _,_,_,_,.nil,h=>h
 | _,_,_,_,.cons r s,h=>.cons r (RSt.app s h)
theorem RSt.ofVals:∀ {ws:List Z}{vs:List V},Reps K H ws vs->RSt K H (ws.map some) (vs.map some)
 | [],vs,h=>by rw[a0w]at h;subst h;exact .nil
 | w::ws,vs,h=>by
  rw[a0o]at h;obtain⟨v,r,rfl,h1,h2⟩:=h;exact .cons (fun _ e=>by cases e;exact⟨v,rfl,h1⟩) (RSt.ofVals h2)
end
def a3S (N:List Str) (ws:List Z):S3:=ws.map some++List.replicate (N.length - ws.length) none
theorem RSt.start {K:Fg}{H:Hp}{N:List Str}{ws:List Z}{vs:List V}(h:Reps K H ws vs):RSt K H (a3S N ws) (L2.start N vs):=by
 unfold a3S L2.start;rw[h.length];exact (RSt.ofVals h).app (RSt.nones _)
def UpV (K:Fg) (H:Hp) (R:K3) (Q:VK):Prop:=∀ w G v H',R w G->Rep K H' w v->RH K G H'->TK K H H'->Q v H'
def UpB (K:Fg) (H:Hp) (R:Bool->Hq->Prop) (Q:Bool->Hp->Prop):Prop:=∀ b G H',R b G->RH K G H'->TK K H H'->Q b H'
def UpA (K:Fg) (H:Hp) (R:List Z->Hq->Prop) (Q:List V->Hp->Prop):Prop:=∀ ws G vs H',R ws G->Reps K H' ws vs->RH K G H'->TK K H H'->Q vs H'
def UpS (K:Fg) (H:Hp) (R:C3) (Q:L2.St->Hp->Prop):Prop:=∀ σ G τ H',R σ G->RSt K H' σ τ->RH K G H'->TK K H H'->Q τ H'
section
variable {K:Fg}{H H':Hp}
theorem UpV.mono {R:K3}{Q:VK}(h:UpV K H R Q) (t:TK K H H'):UpV K H' R Q:=fun w G v H2 q r g t2=>h w G v H2 q r g (t.trans t2)
theorem UpB.mono {R:Bool->Hq->Prop}{Q:Bool->Hp->Prop}(h:UpB K H R Q) (t:TK K H H'):UpB K H' R Q:=fun w G H2 q g t2=>h w G H2 q g (t.trans t2)
theorem UpA.mono {R:List Z->Hq->Prop}{Q:List V->Hp->Prop}(h:UpA K H R Q) (t:TK K H H'):UpA K H' R Q:=fun w G v H2 q r g t2=>h w G v H2 q r g (t.trans t2)
theorem UpS.mono {R:C3}{Q:L2.St->Hp->Prop}(h:UpS K H R Q) (t:TK K H H'):UpS K H' R Q:=fun w G v H2 q r g t2=>h w G v H2 q r g (t.trans t2)
end
def low (K:Fg) (t:E3):TE:=fun τ H Q=>∃ σ G R,RSt K H σ τ/\RH K G H/\t σ G R/\UpV K H R Q
theorem low.un {K:Fg}{t:E3}{τ:L2.St}{H:Hp}{Q:VK}{C:Prop}(z:low K t τ H Q) (f:∀ σ G R,(RSt K H σ τ)->(RH K G H)->(t σ G R)->(UpV K H R Q)->C):C:=by obtain⟨σ,G,R,q0,q1,q2,q3⟩:=z;exact f _ _ _ q0 q1 q2 q3
def lowT (K:Fg) (t:T3):TT:=fun τ H Q=>∃ σ G R,RSt K H σ τ/\RH K G H/\t σ G R/\UpB K H R Q
theorem lowT.un {K:Fg}{t:T3}{τ:L2.St}{H:Hp}{Q:Bool->Hp->Prop}{C:Prop}(z:lowT K t τ H Q) (f:∀ σ G R,(RSt K H σ τ)->(RH K G H)->(t σ G R)->(UpB K H R Q)->C):C:=by obtain⟨σ,G,R,q0,q1,q2,q3⟩:=z;exact f _ _ _ q0 q1 q2 q3
def lowA (K:Fg) (t:A3):TA:=fun τ H Q=>∃ σ G R,RSt K H σ τ/\RH K G H/\t σ G R/\UpA K H R Q
theorem lowA.un {K:Fg}{t:A3}{τ:L2.St}{H:Hp}{Q:List V->Hp->Prop}{C:Prop}(z:lowA K t τ H Q) (f:∀ σ G R,(RSt K H σ τ)->(RH K G H)->(t σ G R)->(UpA K H R Q)->C):C:=by obtain⟨σ,G,R,q0,q1,q2,q3⟩:=z;exact f _ _ _ q0 q1 q2 q3
def lowS (K:Fg) (t:X3):TS:=fun D τ H=>∃ σ G nx rt bk ct,RSt K H σ τ/\RH K G H/\t nx rt bk ct σ G/\UpS K H nx D.nx/\UpV K H rt D.rt/\UpS K H bk D.bk/\UpS K H ct D.ct
theorem lowS.un {K:Fg}{t:X3}{D:Ends}{τ:L2.St}{H:Hp}{C:Prop}(z:lowS K t D τ H) (f:∀ σ G nx rt bk ct,(RSt K H σ τ)->(RH K G H)->(t nx rt bk ct σ G)->(UpS K H nx D.nx)->(UpV K H rt D.rt)->(UpS K H bk D.bk)->(UpS K H ct D.ct)->C):C:=by obtain⟨σ,G,nx,rt,bk,ct,q0,q1,q2,q3,q4,q5,q6⟩:=z;exact f _ _ _ _ _ _ q0 q1 q2 q3 q4 q5 q6
structure QE (X:Cx) (e:Expr) (t:E3):Prop where
 p:PE X e (low X.K t)
structure QT (X:Cx) (e:Expr) (t:T3):Prop where
 p:PT X e (lowT X.K t)
structure QW (X:Cx) (e:Expr) (t:T3):Prop where
 p:PW X e (lowT X.K t)
structure QA (X:Cx) (es:List Expr) (t:A3):Prop where
 p:PA X es (lowA X.K t)
structure QS (X:Cx) (st:Stmt) (t:X3):Prop where
 p:PS X st (lowS X.K t)
structure QSs (X:Cx) (st:List Stmt) (t:X3):Prop where
 p:PSs X st (lowS X.K t)
theorem QW.qt {X:Cx}{e:Expr}{t:T3}(h:QW X e t):QT X e t:=⟨PW.pt h.p⟩
section
variable {X:Cx}{e:Expr}{es:List Expr}{st:Stmt}{sts:List Stmt}
theorem a1r {t t':TE}(h:PE X e t') (i:∀ σ H Q,t σ H Q->t' σ H Q):PE X e t:=fun pins s σ H Q I q=>h pins s σ H Q I (i σ H Q q)
theorem b1f {t t':TT}(h:PT X e t') (i:∀ σ H Q,t σ H Q->t' σ H Q):PT X e t:=fun pins s σ H Q I q=>h pins s σ H Q I (i σ H Q q)
theorem b4L {t t':TT}(h:PW X e t') (i:∀ σ H Q,t σ H Q->t' σ H Q):PW X e t:=fun w pins s σ H Q I q=>h w pins s σ H Q I (i σ H Q q)
theorem b4M {t t':TA}(h:PA X es t') (i:∀ σ H Q,t σ H Q->t' σ H Q):PA X es t:=fun pos pins s σ H Q I q=>h pos pins s σ H Q I (i σ H Q q)
theorem a4R {t t':TS}(h:PS X st t') (i:∀ D σ H,t D σ H->t' D σ H):PS X st t:=fun pins s σ H D I q=>h pins s σ H D I (i D σ H q)
theorem a9y {t t':TS}(h:PSs X sts t') (i:∀ D σ H,t D σ H->t' D σ H):PSs X sts t:=fun pins s σ H D I q=>h pins s σ H D I (i D σ H q)
end
end L3
namespace L3
open PySem PySem.Spec PyProof.Rows L2
abbrev R3:=Z->Z->Hq->K3->Prop
def low2 (K:Fg) (r:R3):R2:=fun x y H Q=>∃ a b G R,Rep K H a x/\Rep K H b y/\RH K G H/\r a b G R/\UpV K H R Q
theorem low2.un {K:Fg}{r:R3}{x y:V}{H:Hp}{Q:VK}{C:Prop}(z:low2 K r x y H Q) (f:∀ a b G R,(Rep K H a x)->(Rep K H b y)->(RH K G H)->(r a b G R)->(UpV K H R Q)->C):C:=by obtain⟨a,b,G,R,q0,q1,q2,q3,q4⟩:=z;exact f _ _ _ _ q0 q1 q2 q3 q4
def low1 (K:Fg) (r:Z->Hq->K3->Prop):V->Hp->VK->Prop:=fun x H Q=>∃ a G R,Rep K H a x/\RH K G H/\r a G R/\UpV K H R Q
theorem low1.un {K:Fg}{r:Z->Hq->K3->Prop}{x:V}{H:Hp}{Q:VK}{C:Prop}(z:low1 K r x H Q) (f:∀ a G R,(Rep K H a x)->(RH K G H)->(r a G R)->(UpV K H R Q)->C):C:=by obtain⟨a,G,R,q0,q1,q2,q3⟩:=z;exact f _ _ _ q0 q1 q2 q3
def lowC (K:Fg) (r:List Z->Hq->K3->Prop):List V->Hp->VK->Prop:=fun xs H Q=>∃ ws G R,Reps K H ws xs/\RH K G H/\r ws G R/\UpV K H R Q
theorem lowC.un {K:Fg}{r:List Z->Hq->K3->Prop}{xs:List V}{H:Hp}{Q:VK}{C:Prop}(z:lowC K r xs H Q) (f:∀ ws G R,(Reps K H ws xs)->(RH K G H)->(r ws G R)->(UpV K H R Q)->C):C:=by obtain⟨ws,G,R,q0,q1,q2,q3⟩:=z;exact f _ _ _ q0 q1 q2 q3
def lowM (K:Fg) (r:Z->List Z->Hq->K3->Prop):V->List V->Hp->VK->Prop:=fun x xs H Q=>∃ w ws G R,Rep K H w x/\Reps K H ws xs/\RH K G H/\r w ws G R/\UpV K H R Q
theorem lowM.un {K:Fg}{r:Z->List Z->Hq->K3->Prop}{x:V}{xs:List V}{H:Hp}{Q:VK}{C:Prop}(z:lowM K r x xs H Q) (f:∀ w ws G R,(Rep K H w x)->(Reps K H ws xs)->(RH K G H)->(r w ws G R)->(UpV K H R Q)->C):C:=by obtain⟨w,ws,G,R,q0,q1,q2,q3,q4⟩:=z;exact f _ _ _ _ q0 q1 q2 q3 q4
def OpQ (X:Cx) (f:Value->Value->Sem Value) (r:R3):Prop:=OpR X f (low2 X.K r)
def UnQ (X:Cx) (f:Value->Sem Value) (r:Z->Hq->K3->Prop):Prop:=UnR X f (low1 X.K r)
def a2V (X:Cx) (f:Value) (r:List Z->Hq->K3->Prop):Prop:=CallR X f (lowC X.K r)
def IxQ (X:Cx) (r:R3):Prop:=IxR X (low2 X.K r)
def MtQ (X:Cx) (id:String) (r:Z->List Z->Hq->K3->Prop):Prop:=MtR X id (lowM X.K r)
theorem a4S {X:Cx}{f:Value->Value->Sem Value}{r r':R2}(h:OpR X f r') (i:∀ x y H Q,r x y H Q->r' x y H Q):OpR X f r:=fun pins s σ H x y v u Q I rx ry q=>h pins s σ H x y v u Q I rx ry (i x y H Q q)
theorem b6F {X:Cx}{f:Value->Sem Value}{r r':V->Hp->VK->Prop}(h:UnR X f r') (i:∀ x H Q,r x H Q->r' x H Q):UnR X f r:=fun pins s σ H x v Q I rx q=>h pins s σ H x v Q I rx (i x H Q q)
theorem a1y {X:Cx}{f:Value}{r r':List V->Hp->VK->Prop}(h:CallR X f r') (i:∀ xs H Q,r xs H Q->r' xs H Q):CallR X f r:=fun pins s σ H xs us Q I rx q=>h pins s σ H xs us Q I rx (i xs H Q q)
theorem b6G {X:Cx}{r r':R2}(h:IxR X r') (i:∀ x y H Q,r x y H Q->r' x y H Q):IxR X r:=fun a b pins s σ H x y v u Q I rx ry q=>h a b pins s σ H x y v u Q I rx ry (i x y H Q q)
theorem a9z {X:Cx}{id:String}{r r':V->List V->Hp->VK->Prop}(h:MtR X id r') (i:∀ x xs H Q,r x xs H Q->r' x xs H Q):MtR X id r:=fun pins s σ H x xs v us Q I rx rs q=>h pins s σ H x xs v us Q I rx rs (i x xs H Q q)
def uVar (i:Nat):E3:=fun σ G R=>∃ w,σ[i]?=some (some w)/\R w G
def uC (w:Z):E3:=fun _ G R=>R w G
section
variable {X:Cx}{e a b c:Expr}{pos:Pos}{ta tb tc:E3}
theorem a0b {i:Nat}(h:PE X e (tVar i)):QE X e (uVar i):=⟨a1r h fun τ H Q ⟨σ,G,R,hs,hg,⟨w,e,q⟩,up⟩=>by
 obtain⟨v,e',r⟩:=hs.get e;exact⟨v,e',up w G v H q r hg (.refl _ _)⟩⟩
theorem a8z {v:V}{w:Z}(h:PE X e (tC v)) (hr:∀ H,Rep X.K H w v):QE X e (uC w):=⟨a1r h fun τ H Q hx=>hx.un fun σ G R hs hg q up=>up w G v H q (hr H) hg (.refl _ _)⟩
theorem a0f {i j pos}:QE X (.Constant (.int i) j pos) (uC (.int i)):=a8z b30 fun _=>by rw[a0q]
theorem q_bl {b j pos}:QE X (.Constant (.bool b) j pos) (uC (.bl b)):=a8z b6g fun _=>by rw[a0O]
theorem a18 {j pos}:QE X (.Constant .none j pos) (uC .non):=a8z b31 fun _=>by rw[a00]
theorem a3Z {x j pos}:QE X (.Constant (.str x) j pos) (uC (.str x)):=a8z b32 fun _=>by rw[a0A]
theorem b13 {i:Int}(h:PE X e (tC (.int i))):QE X e (uC (.int i)):=a8z h fun _=>by rw[a0q]
theorem q_ty {n:String}(h:PE X e (tC (.ty n))):QE X e (uC (.ty n)):=a8z h fun _=>by rw[a7F]
def uOp (r:R3) (ta tb:E3):E3:=fun σ G R=>ta σ G fun x G1=>tb σ G1 fun y G2=>r x y G2 R
def uUn (r:Z->Hq->K3->Prop) (ta:E3):E3:=fun σ G R=>ta σ G fun x G1=>r x G1 R
theorem a7G {K:Fg}{r:R3}{τ:L2.St}{H:Hp}{Q:VK}(h:low K (uOp r ta tb) τ H Q):tOp (low2 K r) (low K ta) (low K tb) τ H Q:=by
 obtain⟨σ,G,R,hs,hg,h,up⟩:=h;refine⟨σ,G,_,hs,hg,h,fun w G1 v H1 h1 rv hg1 t1=>?_⟩;refine⟨σ,G1,_,hs.mono t1,hg1,h1,fun w' G2 v' H2 h2 rv' hg2 t2=>?_⟩;exact⟨w,w',G2,R,rv.mono t2,rv',hg2,h2,up.mono (t1.trans t2)⟩
theorem b4N {K:Fg}{r:Z->Hq->K3->Prop}{τ:L2.St}{H:Hp}{Q:VK}(h:low K (uUn r ta) τ H Q):tUn (low1 K r) (low K ta) τ H Q:=by
 obtain⟨σ,G,R,hs,hg,h,up⟩:=h;exact⟨σ,G,_,hs,hg,h,fun w G1 v H1 h1 rv hg1 t1=>⟨w,G1,R,rv,hg1,h1,up.mono t1⟩⟩
theorem q_op {op:Operator}{r:R3}(ho:OpQ X (binaryOp op) r) (ha:QE X a ta) (hb:QE X b tb):QE X (.BinOp a op b pos) (uOp r ta tb):=⟨a1r (b6m ho ha.p hb.p) fun _ _ _=>a7G⟩
theorem q_un {op:UnaryOp}{r:Z->Hq->K3->Prop}(ho:UnQ X (unaryOp op) r) (ha:QE X a ta):QE X (.UnaryOp op a pos) (uUn r ta):=⟨a1r (b6n ho ha.p) fun _ _ _=>b4N⟩
theorem a9A {op:CmpOp}{r:R3}(ho:OpQ X (compareOp op) r) (ha:QE X a ta) (hb:QE X b tb) (hm:behindInMarks op b=false):QE X (.Compare a [op] [b] pos) (uOp r ta tb):=⟨a1r (b2F ho ha.p hb.p hm) fun _ _ _=>a7G⟩
def b1g (t:E3):T3:=fun σ G R=>t σ G fun x G1=>∃ k,x=.bl k/\R k G1
theorem a7H {K:Fg}{τ:L2.St}{H:Hp}{Q:Bool->Hp->Prop}(h:lowT K (b1g ta) τ H Q):low K ta τ H fun x H'=>∃ k,x=.bl k/\Q k H':=by
 obtain⟨σ,G,R,hs,hg,h,up⟩:=h;refine⟨σ,G,_,hs,hg,h,fun w G1 v H1 ⟨k,e,h1⟩ rv hg1 t1=>?_⟩;subst e;rw[a0O]at rv;exact⟨k,rv,up _ _ _ h1 hg1 t1⟩
theorem a0t {op:CmpOp}{r:R3}(ho:OpQ X (compareOp op) r) (ha:QE X a ta) (hb:QE X b tb) (hm:behindInMarks op b=false):QT X (.Compare a [op] [b] pos) (b1g (uOp r ta tb)):=⟨b1f (b2G ho ha.p hb.p hm) fun _ _ _ h=>a7G (a7H h)⟩
def a9B (r r':R3) (ta tb tc:E3):E3:=fun σ G R=>ta σ G fun x G1=>tb σ G1 fun y G2=>r x y G2 fun z G3=>∃ k,z=.bl k/\(if k=true then tc σ G3 fun w G4=>r' y w G4 R else R (.bl false) G3)
theorem a9C {K:Fg}{r r':R3}{τ:L2.St}{H:Hp}{Q:VK}(h:low K (a9B r r' ta tb tc) τ H Q):b10 (low2 K r) (low2 K r') (low K ta) (low K tb) (low K tc) τ H Q:=by
 obtain⟨σ,G,R,hs,hg,h,up⟩:=h;refine⟨σ,G,_,hs,hg,h,fun w G1 v H1 h1 rv hg1 t1=>?_⟩;refine⟨σ,G1,_,hs.mono t1,hg1,h1,fun w' G2 v' H2 h2 rv' hg2 t2=>?_⟩;refine⟨w,w',G2,_,rv.mono t2,rv',hg2,h2,fun z G3 vz H3 ⟨k,ek,h3⟩ rz hg3 t3=>?_⟩;subst ek;rw[a0O]at rz;refine⟨k,rz,?_⟩;cases k with
 | false=>exact up _ _ _ _ (by simpa using h3) (by rw[a0O]) hg3 ((t1.trans t2).trans t3)
 | true=>
  rw[if_pos rfl]at h3 ⊢;refine⟨σ,G3,_,hs.mono ((t1.trans t2).trans t3),hg3,h3,fun w4 G4 v4 H4 h4 r4 hg4 t4=>?_⟩;exact⟨w',w4,G4,R,rv'.mono (t3.trans t4),r4,hg4,h4,up.mono (((t1.trans t2).trans t3).trans t4)⟩
theorem a9D {op op':CmpOp}{r r':R3}(ho:OpQ X (compareOp op) r) (ho':OpQ X (compareOp op') r') (ha:QE X a ta) (hb:QE X b tb) (hc:QE X c tc)
  (hm:lastMarks [op,op'] [b,c]=false:=by with_unfolding_all rfl):QE X (.Compare a [op,op'] [b,c] pos) (a9B r r' ta tb tc):=⟨a1r (b0O ho ho' ha.p hb.p hc.p hm) fun _ _ _=>a9C⟩
def uAnd (t u:T3):T3:=fun σ G R=>t σ G fun c G1=>if c=true then u σ G1 R else R false G1
def uOr (t u:T3):T3:=fun σ G R=>t σ G fun c G1=>if c=true then R true G1 else u σ G1 R
def uNot (t:T3):T3:=fun σ G R=>t σ G fun c G1=>R (!c) G1
variable {t u:T3}{rest:List Expr}
theorem a3a (ha:QT X a t):QW X (.BoolOp .And [a] pos) t:=⟨b2y ha.p⟩
theorem a4T (ha:QT X a t):QW X (.BoolOp .Or [a] pos) t:=⟨b34 ha.p⟩
theorem a30 (ha:QT X a t) (hb:QW X (.BoolOp .And (b::rest) pos) u):QW X (.BoolOp .And (a::b::rest) pos) (uAnd t u):=⟨b4L (b35 ha.p hb.p) fun τ H Q hx=>hx.un fun σ G R hs hg h up=>by
 refine⟨σ,G,_,hs,hg,h,fun k G1 H1 h1 hg1 t1=>?_⟩;cases k with
 | false=>exact up _ _ _ (by simpa using h1) hg1 t1
 | true=>rw[if_pos rfl]at h1 ⊢;exact⟨σ,G1,R,hs.mono t1,hg1,h1,up.mono t1⟩⟩
theorem q_or (ha:QT X a t) (hb:QW X (.BoolOp .Or (b::rest) pos) u):QW X (.BoolOp .Or (a::b::rest) pos) (uOr t u):=⟨b4L (pw_or ha.p hb.p) fun τ H Q hx=>hx.un fun σ G R hs hg h up=>by
 refine⟨σ,G,_,hs,hg,h,fun k G1 H1 h1 hg1 t1=>?_⟩;cases k with
 | true=>exact up _ _ _ (by simpa using h1) hg1 t1
 | false=>rw[if_neg (by decide)]at h1 ⊢;exact⟨σ,G1,R,hs.mono t1,hg1,h1,up.mono t1⟩⟩
theorem a2l (ha:QT X a t):QT X (.UnaryOp .Not a pos) (uNot t):=⟨b1f (b36 ha.p) fun τ H Q hx=>hx.un fun σ G R hs hg h up=>
 ⟨σ,G,_,hs,hg,h,fun k G1 H1 h1 hg1 t1=>up _ _ _ h1 hg1 t1⟩⟩
def b4O (ta tb:E3):E3:=fun σ G R=>ta σ G fun x G1=>∃ c,x=.bl c/\if c=true then tb σ G1 R else R (.bl false) G1
theorem b4P {op} (h:QE X a ta):QE X (.BoolOp op [a] pos) ta:=⟨b37 h.p⟩
theorem b14 (ha:QE X a ta) (hb:QE X (.BoolOp .And (b::rest) pos) tb):QE X (.BoolOp .And (a::b::rest) pos) (b4O ta tb):=⟨a1r (b38 ha.p hb.p) fun τ H Q hx=>hx.un fun σ G R hs hg h up=>by
 refine⟨σ,G,_,hs,hg,h,fun x G1 v H1 ⟨k,ek,h1⟩ rv hg1 t1=>?_⟩;subst ek;rw[a0O]at rv;refine⟨k,rv,?_⟩;cases k with
 | false=>exact up _ _ _ _ (by simpa using h1) (by rw[a0O]) hg1 t1
 | true=>rw[if_pos rfl]at h1 ⊢;exact⟨σ,G1,R,hs.mono t1,hg1,h1,up.mono t1⟩⟩
def uIf (t:T3) (ta tb:E3):E3:=fun σ G R=>t σ G fun c G1=>if c=true then ta σ G1 R else tb σ G1 R
theorem q_if (hc:QT X c t) (ha:QE X a ta) (hb:QE X b tb):QE X (.IfExp c a b pos) (uIf t ta tb):=⟨a1r (b0M hc.p ha.p hb.p) fun τ H Q hx=>hx.un fun σ G R hs hg h up=>by
 refine⟨σ,G,_,hs,hg,h,fun k G1 H1 h1 hg1 t1=>?_⟩;cases k with
 | true=>rw[if_pos rfl]at h1 ⊢;exact⟨σ,G1,R,hs.mono t1,hg1,h1,up.mono t1⟩
 | false=>rw[if_neg (by decide)]at h1 ⊢;exact⟨σ,G1,R,hs.mono t1,hg1,h1,up.mono t1⟩⟩
def tru:Z->Hq->(Bool->Hq->Prop)->Prop
 | .non,G,R=>R false G
 | .bl b,G,R=>R b G
 | .int i,G,R=>R (i != 0) G
 | .str y,G,R=>y.length≤sizeLine/\R ((y.length:Int) != 0) G
 | .tup ws,G,R=>R (!ws.isEmpty) G
 | .scr _ ns,G,R=>R (!ns.isEmpty) G
 | .ref p,G,R=>(∃ ws,G p=some (.lst ws)/\R (!ws.isEmpty) G)\/∃ kvs,G p=some (.dK kvs)/\R (!kvs.isEmpty) G
 | .ty _,_,_=>False
def uTru (ta:E3):T3:=fun σ G R=>ta σ G fun x G1=>tru x G1 R
theorem a19 {α β:Type}{a:List α}{b:List β}(h:a.length=b.length):a.isEmpty=b.isEmpty:=by
 cases a<;>cases b<;>simp_all
theorem b2Z {K:Fg}{w:Z}{v:V}{G:Hq}{H:Hp}{R:Bool->Hq->Prop}{Q:Bool->Hp->Prop}(h:tru w G R) (r:Rep K H w v) (hg:RH K G H) (up:UpB K H R Q):∃ k,TruV K v H k/\Q k H:=by
 cases w with
 | non=>rw[a00]at r;subst r;exact⟨_,rfl,up _ _ _ h hg (.refl _ _)⟩
 | bl b=>rw[a0O]at r;subst r;exact⟨_,rfl,up _ _ _ h hg (.refl _ _)⟩
 | int i=>rw[a0q]at r;subst r;exact⟨_,rfl,up _ _ _ h hg (.refl _ _)⟩
 | str y=>rw[a0A]at r;subst r;exact⟨_,⟨h.1,rfl⟩,up _ _ _ h.2 hg (.refl _ _)⟩
 | ty n=>exact False.elim h
 | scr a ns=>rw[a1R]at r;obtain⟨rfl,f⟩:=r;exact⟨!ns.isEmpty,.inl ⟨_,f.sq,by rw[a19 (List.length_map ..).symm]⟩,up _ _ _ h hg (.refl _ _)⟩
 | tup ws=>
  rw[a0U]at r;obtain⟨a,vs,rfl,e,rs⟩:=r;exact⟨!ws.isEmpty,.inr (.inl ⟨vs,SqT.of e,by rw[a19 rs.length]⟩),up _ _ _ h hg (.refl _ _)⟩
 | ref p=>
  rw[a0m]at r;subst r;rcases h with ⟨ws,e,h⟩ | ⟨kvs,e,h⟩
  ·obtain⟨vs,e',rs⟩:=hg p _ e;exact⟨_,.inl ⟨vs,SqL.of e',by rw[<- a19 rs.length]⟩,up _ _ _ h hg (.refl _ _)⟩
  ·obtain⟨us,e',hn,rs⟩:=hg p _ e;exact⟨_,.inr (.inr ⟨us,e',by rw[a19 (show kvs.length=us.length by rw[<- List.length_map (f:=(·.2)) (as:=kvs),rs.length,List.length_map])]⟩),up _ _ _ h hg (.refl _ _)⟩
theorem b4Q (ha:QE X a ta) (he:∀ whole,isTrue a X.env whole=(do let v <- whole;standAt a.pos;holding [v] (truthy v))):QT X a (uTru ta):=⟨b1f (b0P ha.p he) fun τ H Q hx=>hx.un fun σ G R hs hg h up=>
 ⟨σ,G,_,hs,hg,h,fun w G1 v H1 h1 rv hg1 t1=>b2Z h1 rv hg1 (up.mono t1)⟩⟩
theorem a2W (ha:QE X a ta) (he:∀ whole,isTrue a X.env whole=(do let v <- whole;standAt a.pos;holding [v] (truthy v)):=by intro _;rfl):QT X a (b1g ta):=⟨b1f (b33 ha.p he) fun _ _ _ h=>a7H h⟩
end
section
variable {env:Env}{es:List Expr}{pos:Pos}
theorem a0e {c k p}:starEach (.Constant c k p::es) env=(false,eval (.Constant c k p) env)::starEach es env:=rfl
theorem a0a {x p}:starEach (.Name x p::es) env=(false,eval (.Name x p) env)::starEach es env:=rfl
theorem a0I {a o b p}:starEach (.BinOp a o b p::es) env=(false,eval (.BinOp a o b p) env)::starEach es env:=rfl
theorem a5b {a o b p}:starEach (.Compare a o b p::es) env=(false,eval (.Compare a o b p) env)::starEach es env:=rfl
theorem a5E {a p}:starEach (.List a p::es) env=(false,eval (.List a p) env)::starEach es env:=rfl
theorem a3b {a k p}:starEach (.Tuple a k p::es) env=(false,eval (.Tuple a k p) env)::starEach es env:=rfl
theorem a0h {a b p}:starEach (.Subscript a b p::es) env=(false,eval (.Subscript a b p) env)::starEach es env:=rfl
theorem a1q {a b p}:starEach (.Attribute a b p::es) env=(false,eval (.Attribute a b p) env)::starEach es env:=rfl
theorem a0N {a b c p}:starEach (.Call a b c p::es) env=(false,eval (.Call a b c p) env)::starEach es env:=rfl
theorem a1z {a b c p}:starEach (.ListComp a b c p::es) env=(false,eval (.ListComp a b c p) env)::starEach es env:=rfl
theorem a0j:(backTo pos (starEach [] env)).any (·.1)=false:=rfl
theorem a0k {e:Expr}(h:starEach (e::es) env=(false,eval e env)::starEach es env) (r:(backTo pos (starEach es env)).any (·.1)=false):(backTo pos (starEach (e::es) env)).any (·.1)=false:=by
 rw[h]
 show (false||(backTo pos (starEach es env)).any (·.1))=false
 rw[r];rfl
end
section
variable {X:Cx}{e a b:Expr}{es:List Expr}{pos p2:Pos}{te ta tb:E3}{t:A3}
theorem q_ix {r:R3}(hr:IxQ X r) (ha:QE X a ta) (hb:QE X b tb) (hs:a9m b):QE X (.Subscript a b pos) (uOp r ta tb):=⟨a1r (b6y hr ha.p hb.p hs) fun _ _ _=>a7G⟩
abbrev O3:=S3->Hq->(Option Int->Hq->Prop)->Prop
def a9E:O3:=fun _ G R=>R none G
def b4R (t:E3):O3:=fun σ G R=>t σ G fun x G1=>∃ i,x=.int i/\R (some i) G1
def lowO (K:Fg) (t:O3):TO:=fun τ H Q=>∃ σ G R,RSt K H σ τ/\RH K G H/\t σ G R/\∀ o G' H',R o G'->RH K G' H'->TK K H H'->Q o H'
theorem lowO.un {K:Fg}{t:O3}{τ:L2.St}{H:Hp}{Q:Option Int->Hp->Prop}{C:Prop}(z:lowO K t τ H Q) (f:∀ σ G R,(RSt K H σ τ)->(RH K G H)->(t σ G R)->(∀ o G' H',R o G'->RH K G' H'->TK K H H'->Q o H')->C):C:=by obtain⟨σ,G,R,q0,q1,q2,q3⟩:=z;exact f _ _ _ q0 q1 q2 q3
def QO (X:Cx) (e:Option Expr) (t:O3):Prop:=PO X e (lowO X.K t)
theorem a1o:QO X none a9E:=fun pins s τ H Q I ⟨σ,G,R,hs,hg,h,up⟩=>b2O pins s τ H Q I (up _ _ _ h hg (.refl _ _))
theorem a1w (h:QE X e te):QO X (some e) (b4R te):=fun pins s τ H Q I ⟨σ,G,R,hs,hg,q,up⟩=>b2P h.p pins s τ H Q I ⟨σ,G,_,hs,hg,q,fun w G1 v H1 ⟨i,ei,h1⟩ rv hg1 t1=>by
 subst ei;rw[a0q]at rv;exact⟨i,rv,up _ _ _ h1 hg1 t1⟩⟩
abbrev L3r:=Z->Option Int->Option Int->Hq->K3->Prop
def lowL (K:Fg) (r:L3r):V->Option Int->Option Int->Hp->VK->Prop:=fun x lo hi H Q=>∃ w G R,Rep K H w x/\RH K G H/\r w lo hi G R/\UpV K H R Q
theorem lowL.un {K:Fg}{r:L3r}{x:V}{lo hi:Option Int}{H:Hp}{Q:VK}{C:Prop}(z:lowL K r x lo hi H Q) (f:∀ w G R,(Rep K H w x)->(RH K G H)->(r w lo hi G R)->(UpV K H R Q)->C):C:=by obtain⟨w,G,R,q0,q1,q2,q3⟩:=z;exact f _ _ _ q0 q1 q2 q3
def SlQ (X:Cx) (r:L3r):Prop:=SlR X (lowL X.K r)
theorem b6H {r r':V->Option Int->Option Int->Hp->VK->Prop}(h:SlR X r') (i:∀ x lo hi H Q,r x lo hi H Q->r' x lo hi H Q):SlR X r:=fun pins s σ H x v vl vu lo hi sl Q I rx hs pl pu q=>h pins s σ H x v vl vu lo hi sl Q I rx hs pl pu (i _ _ _ _ _ q)
def uSl (r:L3r) (te:E3) (tl th:O3):E3:=fun σ G R=>te σ G fun x G1=>tl σ G1 fun l G2=>th σ G2 fun u G3=>r x l u G3 R
theorem a1h {r:L3r}{lo hi:Option Expr}{tl th:O3}(hr:SlQ X r) (he:QE X e te) (hl:QO X lo tl) (hu:QO X hi th):QE X (.Subscript e (.Slice lo hi none p2) pos) (uSl r te tl th):=⟨a1r (b0Y hr he.p hl hu) fun τ H Q hx=>hx.un fun σ G R hs hg h up=>
 ⟨σ,G,_,hs,hg,h,fun w G1 v H1 h1 rv hg1 t1=>⟨σ,G1,_,hs.mono t1,hg1,h1,fun l G2 H2 h2 hg2 t2=>⟨σ,G2,_,hs.mono (t1.trans t2),hg2,h2,fun u G3 H3 h3 hg3 t3=>
  ⟨w,G3,R,rv.mono (t2.trans t3),hg3,h3,up.mono ((t1.trans t2).trans t3)⟩⟩⟩⟩⟩
def uNil:A3:=fun _ G R=>R [] G
def b4S (ta:E3) (tr:A3):A3:=fun σ G R=>ta σ G fun x G1=>tr σ G1 fun xs G2=>R (x::xs) G2
theorem a0i:QA X [] uNil:=⟨b4M b4p fun τ H Q hx=>hx.un fun σ G R hs hg h up=>up _ _ _ _ h .nil hg (.refl _ _)⟩
theorem a0c (ha:QE X e te) (hr:QA X es t) (hs:starEach (e::es) X.env=(false,eval e X.env)::starEach es X.env:=by rfl):QA X (e::es) (b4S te t):=⟨b4M (b2L ha.p hr.p hs) fun τ H Q hx=>hx.un fun σ G R hs hg h up=>
 ⟨σ,G,_,hs,hg,h,fun w G1 v H1 h1 rv hg1 t1=>⟨σ,G1,_,hs.mono t1,hg1,h1,fun ws G2 vs H2 h2 rs hg2 t2=>up _ _ _ _ h2 (.cons (rv.mono t2) rs) hg2 (t1.trans t2)⟩⟩⟩
def uTup (t:A3):E3:=fun σ G R=>t σ G fun xs G1=>xs.length≤sizeLine/\R (.tup xs) G1
def uLst (t:A3):E3:=fun σ G R=>t σ G fun xs G1=>xs.length≤sizeLine/\∀ p,G1 p=none->R (.ref p) (put G1 p (.lst xs))
theorem a4t {x1} (h:QA X es t):QE X (.Tuple es x1 pos) (uTup t):=⟨a1r (b4q h.p) fun τ H Q hx=>hx.un fun σ G R hs hg h up=>
 ⟨σ,G,_,hs,hg,h,fun ws G1 vs H1 ⟨hz,h1⟩ rv hg1 t1=>⟨by rw[<- rv.length];exact hz,fun p hp=>up _ _ _ _ h1 (by rw[a0U];exact⟨p,vs,rfl,a0y,rv.mono (.new hp)⟩) (hg1.hid hp) (t1.trans (.new hp))⟩⟩⟩
theorem a1s {K:Fg}{H:Hp}{p:Addr}{ws:List Z}{vs:List V}(r:Reps K H ws vs) (t:TK K H (upd H p (.lst vs))):ROb K (upd H p (.lst vs)) p (.lst ws):=⟨vs,a0y,r.mono t⟩
theorem a2a (h:QA X es t):QE X (.List es pos) (uLst t):=⟨a1r (b4r h.p) fun τ H Q hx=>hx.un fun σ G R hs hg h up=>
 ⟨σ,G,_,hs,hg,h,fun ws G1 vs H1 ⟨hz,h1⟩ rv hg1 t1=>⟨by rw[<- rv.length];exact hz,fun p hp=>up _ _ _ _ (h1 p (hg1.out hp)) (by rw[a0m]) (hg1.set (.new hp) (a1s rv (.new hp))) (t1.trans (.new hp))⟩⟩⟩
def uCB (r:List Z->Hq->K3->Prop) (t:A3):E3:=fun σ G R=>t σ G fun ws G1=>r ws G1 R
theorem b15 {K:Fg}{r:List Z->Hq->K3->Prop}{τ:L2.St}{H:Hp}{Q:VK}(h:low K (uCB r t) τ H Q):tCB (lowC K r) (lowA K t) τ H Q:=by
 obtain⟨σ,G,R,hs,hg,h,up⟩:=h;exact⟨σ,G,_,hs,hg,h,fun ws G1 vs H1 h1 rs hg1 t1=>⟨ws,G1,R,rs,hg1,h1,up.mono t1⟩⟩
variable {x:Str}{p:Pos}{id T:String}{r:List Z->Hq->K3->Prop}
theorem a0z (hc:a2V X (.builtin id) r) (hg:Gl X x) (hm:X.mg x=none) (hv:bootBuiltins x=some (.builtin id)) (ha:QA X (e::es) t) (hn:x≠"__name__":=by decide) (hdb:(x==("__debug__":Str))=false:=by decide)
  (he:starEach (e::es) X.env=(false,eval e X.env)::starEach es X.env:=by rfl) (hpl:(backTo pos (starEach es X.env)).any (·.1)=false:=by rfl):QE X (.Call (.Name x p) (e::es) [] pos) (uCB r t):=⟨a1r (b0W hc hg hm hv ha.p hn hdb he hpl) fun _ _ _=>b15⟩
theorem a5F (hc:a2V X (.type T) r) (hg:Gl X x) (hm:X.mg x=none) (hv:bootBuiltins x=some (.type T)) (ha:QA X (e::es) t) (hn:x≠"__name__":=by decide) (hdb:(x==("__debug__":Str))=false:=by decide)
  (he:starEach (e::es) X.env=(false,eval e X.env)::starEach es X.env:=by rfl) (hpl:(backTo pos (starEach es X.env)).any (·.1)=false:=by rfl):QE X (.Call (.Name x p) (e::es) [] pos) (uCB r t):=⟨a1r (a9j hc hg hm hv ha.p hn hdb he hpl) fun _ _ _=>b15⟩
def tyZ (T:String) (x:Z) (G:Hq):Prop:=match x with
 | .str _=>T="str"
 | .int _=>T="int"
 | .ref p=>(T="list"/\∃ ws,G p=some (.lst ws))\/(T="dict"/\∃ kvs,G p=some (.dK kvs)\/G p=some (.dF kvs))
 | .scr _ _=>T="list"
 | _=>False
theorem b20 {K:Fg}{G:Hq}{H:Hp}{w:Z}{v:V}(h:tyZ T w G) (r:Rep K H w v) (hg:RH K G H):tyV K T v H:=by
 cases w with
 | str y=>rw[a0A]at r;subst r;exact h
 | int y=>rw[a0q]at r;subst r;exact h
 | ref q=>
  rw[a0m]at r;subst r;rcases h with ⟨e,ws,g⟩ | ⟨e,kvs,g⟩
  ·obtain⟨vs,e',_⟩:=hg q _ g;exact .inl ⟨e,vs,SqL.of e'⟩
  ·rcases g with g | g
   ·obtain⟨vs,e',_⟩:=hg q _ g;exact .inr (.inr (.inl ⟨e,.inl ⟨vs,e'⟩⟩))
   ·obtain⟨ob,vs,e',_⟩:=hg q _ g;exact .inr (.inr (.inl ⟨e,.inr (.inr ⟨ob,vs,e'⟩)⟩))
 | scr q ns=>rw[a1R]at r;obtain⟨rfl,f⟩:=r;exact .inl ⟨h,_,f.sq⟩
 | _=>exact False.elim h
def uBM (T:String) (r:Z->List Z->Hq->K3->Prop) (to:E3) (t:A3):E3:=fun σ G R=>to σ G fun x G1=>tyZ T x G1/\t σ G1 fun xs G2=>r x xs G2 R
variable {o:Expr}{to:E3}{name:Str}{apos cpos:Pos}{rm:Z->List Z->Hq->K3->Prop}
theorem q_bm (pa:PlainAttrs T) (slot:Slot T name id) (hty:typeOf (.builtin id)=pure (.type "method_descriptor")) (hm:MtQ X id rm) (ho:QE X o to) (ha:QA X (e::es) t)
  (hbase:attributeBase o name X.env (eval o X.env)=eval o X.env:=by rfl)
  (hfew:((backTo cpos (starEach (e::es) X.env)).all (fun x=>!x.1)&&(backToKw cpos (keywordEach [] X.env)).all (fun x=>x.1.isSome)
   && decide ((e::es).length+([]:List Keyword).length+(if ([]:List Keyword).isEmpty then 0 else 1)<30))=true:=by rfl)
  (hline:(apos.endLine==cpos.line)=true:=by rfl) (hs:starEach (e::es) X.env=(false,eval e X.env)::starEach es X.env:=by rfl) (hplain:(backTo cpos (starEach es X.env)).any (·.1)=false:=by rfl) :
  QE X (.Call (.Attribute o name apos) (e::es) [] cpos) (uBM T rm to t):=⟨a1r (b6A pa slot hty hm ho.p ha.p hbase hfew hline hs hplain) fun τ H Q hx=>hx.un fun σ G R hs hg h up=>
  ⟨σ,G,_,hs,hg,h,fun w G1 v H1 ⟨ty,h1⟩ rv hg1 t1=>⟨b20 ty rv hg1,σ,G1,_,hs.mono t1,hg1,h1,fun ws G2 vs H2 h2 rs hg2 t2=>⟨w,ws,G2,R,rv.mono t2,rs,hg2,h2,up.mono (t1.trans t2)⟩⟩⟩⟩
abbrev P3:=List Z->Hq->K3->Prop
def lowP (K:Fg) (sp:P3):Sp:=fun vs H Q _=>lowC K sp vs H Q
def b4T (sp:P3) (t:A3):E3:=fun σ G R=>t σ G fun ws G1=>sp ws G1 R
variable {k:Nat}{f:Addr}{fd:FuncData}{ps:List Str}{sp:P3}
theorem a0M (F:FnOk X.prog X.w X.K X.mg X.base CX0 k f fd ps (lowP X.K sp)) (hr:Room k X.A) (hg:Gl X x) (hm:X.mg x=some (.ref f)) (hk:PySem.W.keepIn X.K (.ref f)=true) (hb:Binds X.K fd ps []) (ha:QA X (e::es) t)
  (hdb:(x==("__debug__":Str))=false:=by decide) (he:starEach (e::es) X.env=(false,eval e X.env)::starEach es X.env:=by rfl) (hpl:(backTo pos (starEach es X.env)).any (·.1)=false:=by rfl) :
  QE X (.Call (.Name x p) (e::es) [] pos) (b4T sp t):=⟨a1r (a9g F hr hg hm hk hb .nil b01 ha.p hdb he hpl) fun τ H Q hx=>hx.un fun σ G R hs hg h up=>⟨σ,G,_,hs,hg,h,fun ws G1 vs H1 h1 rs hg1 t1=>⟨ws,G1,R,by rw[List.append_nil];exact rs,hg1,h1,up.mono t1⟩⟩⟩
end
end L3
namespace L3
open PySem PySem.Spec PyProof.Rows L2
section
variable {X:Cx}{e c tg:Expr}{st:Stmt}{rest sa sb:List Stmt}{pos:Pos}{te:E3}{t u:X3}{tc:T3}
def b4U:X3:=fun nx _ _ _ σ G=>nx σ G
def uSeq (t u:X3):X3:=fun nx rt bk ct σ G=>t (u nx rt bk ct) rt bk ct σ G
theorem a0V:QSs X [] b4U:=⟨a9y b2z fun D τ H hx=>hx.un fun σ G nx rt bk ct hs hg h u1 u2 u3 u4=>u1 _ _ _ _ h hs hg (.refl _ _)⟩
theorem a0l (h1:QS X st t) (h2:QSs X rest u):QSs X (st::rest) (uSeq t u):=⟨a9y (a7w h1.p h2.p) fun D τ H hx=>hx.un fun σ G nx rt bk ct hs hg h u1 u2 u3 u4=>
 ⟨σ,G,_,rt,bk,ct,hs,hg,h,fun σ' G' τ' H' h' hs' hg' t'=>⟨σ',G',nx,rt,bk,ct,hs',hg',h',u1.mono t',u2.mono t',u3.mono t',u4.mono t'⟩,u2,u3,u4⟩⟩
theorem a0p (h1:QS X st t):QSs X [st] t:=⟨b2A h1.p⟩
def uCut (t u:X3):X3:=fun nx rt bk ct σ G=>∃ M:C3,t M rt bk ct σ G/\∀ σ' G',M σ' G'->u nx rt bk ct σ' G'
theorem b1h (h1:QS X st t) (h2:QSs X rest u):QSs X (st::rest) (uCut t u):=⟨a9y (a7w h1.p h2.p) fun D τ H hx=>hx.un fun σ G nx rt bk ct hs hg h0 u1 u2 u3 u4=>by
 obtain⟨M,h,hM⟩:=h0;exact⟨σ,G,M,rt,bk,ct,hs,hg,h,fun σ' G' τ' H' h' hs' hg' t'=>⟨σ',G',nx,rt,bk,ct,hs',hg',hM _ _ h',u1.mono t',u2.mono t',u3.mono t',u4.mono t'⟩,u2,u3,u4⟩⟩
def b4V (te:E3):X3:=fun nx _ _ _ σ G=>te σ G fun _ G1=>nx σ G1
theorem a05 (he:QE X e te) (hs:swapsWith e none pos.line X.env=pure false:=by rfl):QS X (.Expr e pos) (b4V te):=⟨a4R (b2B he.p hs) fun D τ H hx=>hx.un fun σ G nx rt bk ct hs hg h u1 u2 u3 u4=>
 ⟨σ,G,_,hs,hg,h,fun w G1 v H1 h1 rv hg1 t1=>u1 _ _ _ _ h1 (hs.mono t1) hg1 t1⟩⟩
def uRet (te:E3):X3:=fun _ rt _ _ σ G=>te σ G rt
theorem a0G (he:QE X e te):QS X (.Return (some e) pos) (uRet te):=⟨a4R (b39 he.p) fun D τ H hx=>hx.un fun σ G nx rt bk ct hs hg h u1 u2 u3 u4=>⟨σ,G,_,hs,hg,h,u2⟩⟩
def uIfS (c:T3) (t u:X3):X3:=fun nx rt bk ct σ G=>c σ G fun b G1=>if b=true then t nx rt bk ct σ G1 else u nx rt bk ct σ G1
theorem z_if (hc:QT X c tc) (ha:QSs X sa t) (hb:QSs X sb u):QS X (.If c sa sb pos) (uIfS tc t u):=⟨a4R (b6k hc.p ha.p hb.p) fun D τ H hx=>hx.un fun σ G nx rt bk ct hs hg h u1 u2 u3 u4=>by
 refine⟨σ,G,_,hs,hg,h,fun b G1 H1 h1 hg1 t1=>?_⟩;cases b with
 | true=>rw[if_pos rfl]at h1 ⊢;exact⟨σ,G1,nx,rt,bk,ct,hs.mono t1,hg1,h1,u1.mono t1,u2.mono t1,u3.mono t1,u4.mono t1⟩
 | false=>rw[if_neg (by decide)]at h1 ⊢;exact⟨σ,G1,nx,rt,bk,ct,hs.mono t1,hg1,h1,u1.mono t1,u2.mono t1,u3.mono t1,u4.mono t1⟩⟩
inductive Pt where
 | nm (i:Nat)
 | tp (is:List Nat)
def gsOf:List Nat->TGs
 | []=>gNil
 | i::is=>b4a (a8Z i) (gsOf is)
def gP (K:Fg):Pt->TG
 | .nm i=>a8Z i
 | .tp is=>gTup K is.length (gsOf is)
def sets:List Nat->List Z->S3->S3
 | i::is,w::ws,σ=>sets is ws (σ.set i (some w))
 | _,_,σ=>σ
def a4U:Pt->Z->S3->Option S3
 | .nm i,w,σ=>some (σ.set i (some w))
 | .tp is,.tup ws,σ=>if ws.length=is.length then some (sets is ws σ) else none
 | _,_,_=>none
def Pt.slots:Pt->List Nat
 | .nm i=>[i]
 | .tp is=>is
def a31:List Nat->List V->L2.St->L2.St
 | i::is,w::ws,σ=>a31 is ws (σ.set i (some w))
 | _,_,σ=>σ
theorem a9F {H:Hp}{Q:L2.St->Hp->Prop}:∀ {is:List Nat}{vs:List V}{τ:L2.St},vs.length=is.length->Q (a31 is vs τ) H->gsOf is vs τ H Q
 | [],[],_,_,q=>⟨rfl,q⟩
 | i::is,v::vs,τ,h,q=>⟨v,vs,rfl,a9F (is:=is) (vs:=vs) (by simpa using h) q⟩
 | [],_::_,_,h,_=>by simp at h
 | _::_,[],_,h,_=>by simp at h
theorem a6n {K:Fg}{H:Hp}:∀ {is:List Nat}{ws:List Z}{vs:List V}{σ:S3}{τ:L2.St},Reps K H ws vs->RSt K H σ τ->RSt K H (sets is ws σ) (a31 is vs τ)
 | [],ws,vs,σ,τ,_,h=>by unfold sets a31;exact h
 | i::is,[],vs,σ,τ,r,h=>by rw[a0w]at r;subst r;exact h
 | i::is,w::ws,vs,σ,τ,r,h=>by
  rw[a0o]at r;obtain⟨v,vs',rfl,r1,r2⟩:=r;exact a6n (is:=is) r2 (h.set r1 i)
theorem a5c:∀ {is:List Nat}{vs:List V}{τ:L2.St}{j:Nat},j∉is->(a31 is vs τ)[j]?=τ[j]?
 | [],_,_,_,_=>by unfold a31;rfl
 | i::is,[],_,_,_=>by unfold a31;rfl
 | i::is,v::vs,τ,j,h=>by
  have h1:j≠i:=fun z=>h (by rw[z];exact List.mem_cons_self ..);have h2:j∉is:=fun z=>h (List.mem_cons_of_mem _ z)
  show (a31 is vs (τ.set i (some v)))[j]?=τ[j]?
  rw[a5c h2,List.getElem?_set_ne (Ne.symm h1)]
theorem a3T:∀ {is:List Nat}{vs:List V}{τ:L2.St},(a31 is vs τ).length=τ.length
 | [],_,_=>by unfold a31;rfl
 | i::is,[],_=>by unfold a31;rfl
 | i::is,v::vs,τ=>by
  show (a31 is vs (τ.set i (some v))).length=τ.length
  rw[a3T,List.length_set]
theorem b21 {K:Fg}{H:Hp}{pt:Pt}{w:Z}{v:V}{σ σ':S3}{τ:L2.St}{Q:L2.St->Hp->Prop}(r:Rep K H w v) (hs:RSt K H σ τ) (hb:a4U pt w σ=some σ')
  (q:∀ τ',RSt K H σ' τ'->τ'.length=τ.length->(∀ j,j∉pt.slots->τ'[j]?=τ[j]?)->Q τ' H):gP K pt v τ H Q:=by
 cases pt with
 | nm i=>
  cases hb;exact q _ (hs.set r i) (by rw[List.length_set]) fun j hj=>by rw[List.getElem?_set_ne];intro z;exact hj (by rw[z];exact List.mem_cons_self ..)
 | tp is=>
  cases w with
  | tup ws=>
   rw[a0U]at r;obtain⟨a,vs,rfl,e,rs⟩:=r;have hb':(if ws.length=is.length then some (sets is ws σ) else none)=some σ':=hb
   by_cases hl:ws.length=is.length
   ·rw[if_pos hl]at hb';cases hb';exact⟨a,vs,rfl,SqT.of e,by rw[<- rs.length];exact hl,a9F (by rw[<- rs.length];exact hl) (q _ (a6n rs hs) a3T fun j hj=>a5c hj)⟩
   ·rw[if_neg hl]at hb';cases hb'
  | _=>cases hb
def QP (X:Cx) (tg:Expr) (pt:Pt):Prop:=PG X tg (gP X.K pt)
def uAsg (te:E3) (pt:Pt):X3:=fun nx _ _ _ σ G=>te σ G fun x G1=>∃ σ',a4U pt x σ=some σ'/\nx σ' G1
theorem a9G {D:Ends}{pt:Pt}{K:Fg}{τ:L2.St}{H:Hp}(h:lowS K (uAsg te pt) D τ H):tAsg (low K te) (gP K pt) D τ H:=by
 obtain⟨σ,G,nx,rt,bk,ct,hs,hg,h,u1,u2,u3,u4⟩:=h;exact⟨σ,G,_,hs,hg,h,fun w G1 v H1 ⟨σ',hb,h1⟩ rv hg1 t1=>b21 rv (hs.mono t1) hb fun τ' hs' _ _=>u1 _ _ _ _ h1 hs' hg1 t1⟩
theorem a0Z {i:Nat}{x:Str}{pos':Pos}(hN:X.N.Nodup) (hi:X.N[i]?=some x) (hx:Loc X.env.scope x) (he:QE X e te) (hs:swapsWith e (some (.Name x pos')) pos.line X.env=pure false:=by rfl) (hf:X.fn x=true\/X.env.scope.names.lookup x=some .local:=by first | exact .inl rfl | exact .inr rfl | assumption) :
  QS X (.Assign [.Name x pos'] e pos) (uAsg te (.nm i)):=⟨a4R (b4d hN hi hx he.p hs hf) fun _ _ _=>a9G (pt:=.nm i)⟩
abbrev Z3:=Z->Z->Z->Hq->(Hq->Prop)->Prop
def lowZ (K:Fg) (r:Z3):TSet:=fun o i v H Q=>∃ a b w G R,Rep K H a o/\Rep K H b i/\Rep K H w v/\RH K G H/\r a b w G R/\∀ G' H',R G'->RH K G' H'->TK K H H'->Q H'
theorem lowZ.un {K:Fg}{r:Z3}{o i v:V}{H:Hp}{Q:Hp->Prop}{C:Prop}(z:lowZ K r o i v H Q) (f:∀ a b w G R,(Rep K H a o)->(Rep K H b i)->(Rep K H w v)->(RH K G H)->(r a b w G R)->(∀ G' H',R G'->RH K G' H'->TK K H H'->Q H')->C):C:=by obtain⟨a,b,w,G,R,q0,q1,q2,q3,q4,q5⟩:=z;exact f _ _ _ _ _ q0 q1 q2 q3 q4 q5
def SetQ (X:Cx) (r:Z3):Prop:=PSet X (lowZ X.K r)
theorem b16 {r r':TSet}(h:PSet X r') (i:∀ o j v H Q,r o j v H Q->r' o j v H Q):PSet X r:=fun pins s σ H o j v ov iv u Q I ro ri rv q=>h pins s σ H o j v ov iv u Q I ro ri rv (i _ _ _ _ _ q)
def uPut (te to ti:E3) (r:Z3):X3:=fun nx _ _ _ σ G=>te σ G fun w G1=>to σ G1 fun o G2=>ti σ G2 fun i G3=>r o i w G3 fun G4=>nx σ G4
theorem b6I {to ti:E3}{r:Z3}(h:PS X st (tAsg (low X.K te) (gSub (low X.K to) (low X.K ti) (lowZ X.K r)))):QS X st (uPut te to ti r):=⟨a4R h fun D τ H hx=>hx.un fun σ G nx rt bk ct hs hg h u1 u2 u3 u4=>
 ⟨σ,G,_,hs,hg,h,fun w G1 v H1 h1 rv hg1 t1=>⟨σ,G1,_,hs.mono t1,hg1,h1,fun w2 G2 v2 H2 h2 rv2 hg2 t2=>⟨σ,G2,_,hs.mono (t1.trans t2),hg2,h2,fun w3 G3 v3 H3 h3 rv3 hg3 t3=>
  ⟨w2,w3,w,G3,_,rv2.mono t3,rv3,rv.mono (t2.trans t3),hg3,h3,fun G4 H4 h4 hg4 t4=>u1 _ _ _ _ h4 (hs.mono (((t1.trans t2).trans t3).trans t4)) hg4 (((t1.trans t2).trans t3).trans t4)⟩⟩⟩⟩⟩
theorem a5d {o i:Expr}{to ti:E3}{r:Z3}{p':Pos}(he:QE X e te) (ho:QE X o to) (hi:QE X i ti) (hr:SetQ X r) (hs:swapsWithSole [.Subscript o i p'] e pos.line X.env=pure false:=by rfl) (hw:swappedStores [.Subscript o i p'] e X.env=pure none:=by rfl)
  (h1:(assignEach [.Subscript o i p'] X.env).map (·.2)=[assign (.Subscript o i p') X.env]:=by rfl) (ha:∀ v,assign (.Subscript o i p') X.env v=(do
   let ov <- holding [v] (eval o X.env)
   let iv <- holding [v,ov] (eval i X.env)
   standAt p'
   holding [v,ov,iv] (setItem ov iv v)
   release [v,ov,iv] []):=by intro _;rfl):QS X (.Assign [.Subscript o i p'] e pos) (uPut te to ti r):=b6I (b4c he.p (b4b ho.p hi.p hr ha) hs hw h1)
end
abbrev I3:=S3->Hq->(List Z->(Hq->Prop)->Hq->Prop)->Prop
def a5G (K:Fg) (ws:List Z) (ok:Hq->Prop) (J:It) (H0:Hp):Prop:=∀ i G H,RH K G H->TK K H0 H->ok G->i≤ws.length ->
 (i=ws.length->J.stop i H)/\∀ w,ws[i]?=some w->J.go i H/\∀ x H',J.yld i H x H'->Rep K H' w x/\RH K G H'/\TK K H H'
def lowI (K:Fg) (wi:I3):TI:=fun τ H R2=>∃ σ G R,RSt K H σ τ/\RH K G H/\wi σ G R/\∀ ws ok G' J H',R ws ok G'->a5G K ws ok J H'->RH K G' H'->TK K H H'->R2 J H'
theorem lowI.un {K:Fg}{wi:I3}{τ:L2.St}{H:Hp}{R2:It->Hp->Prop}{C:Prop}(z:lowI K wi τ H R2) (f:∀ σ G R,(RSt K H σ τ)->(RH K G H)->(wi σ G R)->(∀ ws ok G' J H',R ws ok G'->a5G K ws ok J H'->RH K G' H'->TK K H H'->R2 J H')->C):C:=by obtain⟨σ,G,R,q0,q1,q2,q3⟩:=z;exact f _ _ _ q0 q1 q2 q3
def QI (X:Cx) (tg iter:Expr) (wi:I3):Prop:=PI X tg iter (lowI X.K wi)
theorem a8A {X:Cx}{tg iter:Expr}{wi wi':TI}(h:PI X tg iter wi') (i:∀ σ H R,wi σ H R->wi' σ H R):PI X tg iter wi:=fun pins s σ H R I q=>h pins s σ H R I (i σ H R q)
def FORB (ws:List Z) (ok:Hq->Prop) (pt:Pt) (tb:X3) (nx:C3) (rt:K3) (σ:S3) (G1:Hq):Prop:=∃ I:Nat->S3->Hq->Prop,I 0 σ G1/\(∀ i σ G,i≤ws.length->I i σ G->ok G) /\
 (∀ i x σ G,ws[i]?=some x->I i σ G->∃ σ',a4U pt x σ=some σ'/\tb (I (i+1)) rt nx (I (i+1)) σ' G)/\∀ σ G,I ws.length σ G->nx σ G
def uFor (wi:I3) (pt:Pt) (tb:X3):X3:=fun nx rt _ _ σ G=>wi σ G fun ws ok G1=>FORB ws ok pt tb nx rt σ G1
theorem a06 {ws:List Z}{ok:Hq->Prop}{pt:Pt}{tb:X3}{nx:C3}{rt:K3}{σ:S3}{G:Hq}(I:Nat->S3->Hq->Prop) (h0:I 0 σ G) (hok:∀ i σ G,i≤ws.length->I i σ G->ok G)
  (step:∀ i x σ G,ws[i]?=some x->I i σ G->∃ σ',a4U pt x σ=some σ'/\tb (I (i+1)) rt nx (I (i+1)) σ' G) (fin:∀ σ G,I ws.length σ G->nx σ G):FORB ws ok pt tb nx rt σ G:=⟨I,h0,hok,step,fin⟩
theorem a2X {X:Cx}{tg iter:Expr}{sb:List Stmt}{t:X3}{wi:I3}{pt:Pt}{pos:Pos}(hp:PassesOwn (model X.prog X.w) X.A X.env X.xe) (hc:X.calm=true) (hi:QI X tg iter wi) (hg:QP X tg pt) (hb:QSs X sb t)
  (hs:∀ x,foldedSetIterable iter X.env x=pure x:=by intro _;rfl):QS X (.For tg iter sb [] pos) (uFor wi pt t):=⟨a4R (b4g hp hc hi hg hb.p hs) fun D τ H hx=>hx.un fun σ G nx rt bk ct hs hg h u1 u2 u3 u4=>by
 refine⟨σ,G,_,hs,hg,h,?_⟩;rintro ws ok G1 J H1 ⟨I,i0,hok,step,fin⟩ hJ hg1 t1;refine⟨fun i m τ' H'=>m=ws.length - i/\i≤ws.length/\∃ σ' G',RSt X.K H' σ' τ'/\RH X.K G' H'/\TK X.K H1 H'/\I i σ' G',⟨ws.length,by simp,Nat.zero_le _,σ,G1,hs.mono t1,hg1,.refl _ _,i0⟩,?_⟩;rintro i m τ2 H2 ⟨rfl,hle,σ2,G2,hs2,hg2,t2,i2⟩;have hJ2:=hJ i G2 H2 hg2 t2 (hok i σ2 G2 hle i2) hle
 by_cases hlt:i<ws.length
 ·obtain⟨go,yl⟩:=hJ2.2 _ (List.getElem?_eq_getElem hlt);refine .inr ⟨go,fun τ' H'=>i+1≤ws.length/\∃ σ' G',RSt X.K H' σ' τ'/\RH X.K G' H'/\TK X.K H1 H'/\I (i+1) σ' G',fun σ' H' q=>⟨ws.length - (i+1),by omega,rfl,q.1,q.2⟩,fun x H3 y3=>?_⟩;obtain⟨rx,hg3,t3⟩:=yl x H3 y3;obtain⟨σ',hb',h3⟩:=step i _ σ2 G2 (List.getElem?_eq_getElem hlt) i2;refine b21 rx (hs2.mono t3) hb' fun τ' hs' _ _=>⟨σ',G2,_,rt,nx,_,hs',hg3,h3,?_,u2.mono ((t1.trans t2).trans t3),u1.mono ((t1.trans t2).trans t3),?_⟩
  ·exact fun σ4 G4 τ4 H4 h4 hs4 hg4 t4=>⟨hlt,σ4,G4,hs4,hg4,(t2.trans t3).trans t4,h4⟩
  ·exact fun σ4 G4 τ4 H4 h4 hs4 hg4 t4=>⟨hlt,σ4,G4,hs4,hg4,(t2.trans t3).trans t4,h4⟩
 ·have e:i=ws.length:=by omega
  subst e;exact .inl ⟨hJ2.1 rfl,u1 _ _ _ _ (fin σ2 G2 i2) hs2 hg2 (t1.trans t2)⟩⟩
section
variable {X:Cx}{tg l:Expr}{tl:E3}
def wkL (x:Z) (G:Hq) (R:List Z->(Hq->Prop)->Hq->Prop):Prop:=match x with
 | .ref a=>∃ ws,G a=some (.lst ws)/\R ws (fun G=>G a=some (.lst ws)) G
 | .scr _ ns=>R (ns.map Z.int) (fun _=>True) G
 | _=>False
def iL (tl:E3):I3:=fun σ G R=>tl σ G fun x G1=>wkL x G1 R
theorem a8B {K:Fg}{a:Addr}{ws:List Z}{H:Hp}:a5G K ws (fun G=>G a=some (.lst ws)) (Itl K a) H:=fun i G H hg t ok hi=>by
 obtain⟨vs,e,rs⟩:=hg a _ ok;refine⟨fun h=>⟨vs,SqL.of e,by rw[<- rs.length,h];exact Nat.le_refl _⟩,fun w hw=>?_⟩;obtain⟨v,ev,rv⟩:=rs.get hw;refine⟨⟨vs,v,SqL.of e,ev⟩,?_⟩;rintro x H' ⟨rfl,y⟩
 have:=y vs (SqL.of e)
 rw[ev]at this;cases this;exact⟨rv,hg,.refl _ _⟩
theorem a9H {K:Fg}{a:Addr}{ns:List Int}{H0:Hp}(f:Fz K H0 a (ns.map V.int)):a5G K (ns.map Z.int) (fun _=>True) (Itl K a) H0:=fun i G H hg t ok hi=>by
 have fs:=(t.frz _ _ f).sq;have rs:Reps K H (ns.map Z.int) (ns.map V.int):=a2y ns;refine⟨fun h=>⟨_,fs,by rw[<- rs.length,h];exact Nat.le_refl _⟩,fun w hw=>?_⟩;obtain⟨v,ev,rv⟩:=rs.get hw;refine⟨⟨_,v,fs,ev⟩,?_⟩;rintro x H' ⟨rfl,y⟩
 have:=y _ fs
 rw[ev]at this;cases this;exact⟨rv,hg,.refl _ _⟩
theorem a01 (hl:QE X l tl):QI X tg l (iL tl):=a8A (b2C hl.p) fun τ H R2 hx=>hx.un fun σ G R hs hg h up=>by
 refine⟨σ,G,_,hs,hg,h,fun w G1 v H1 h1 rv hg1 t1=>?_⟩;cases w with
 | ref a=>
  rw[a0m]at rv;obtain⟨ws,e,h1⟩:=h1;obtain⟨vs,e',_⟩:=hg1 a _ e;exact⟨a,rv,⟨vs,SqL.of e'⟩,up _ _ _ _ _ h1 a8B hg1 t1⟩
 | scr a ns=>
  rw[a1R]at rv;exact⟨a,rv.1,⟨_,rv.2.sq⟩,up _ _ _ _ _ h1 (a9H rv.2) hg1 t1⟩
 | _=>exact False.elim h1
def wkT (x:Z) (G:Hq) (R:List Z->(Hq->Prop)->Hq->Prop):Prop:=match x with
 | .tup ws=>R ws (fun _=>True) G
 | _=>False
def iT (tl:E3):I3:=fun σ G R=>tl σ G fun x G1=>wkT x G1 R
theorem a9I {K:Fg}{a:Addr}{ws:List Z}{vs:List V}{H0:Hp}(e:H0 a=some (.tup vs)) (rs:Reps K H0 ws vs):a5G K ws (fun _=>True) (Itt K a) H0:=fun i G H hg t ok hi=>by
 have e:=t.tup _ _ e;have rs:=rs.mono t;refine⟨fun h=>⟨vs,SqT.of e,by rw[<- rs.length,h];exact Nat.le_refl _⟩,fun w hw=>?_⟩;obtain⟨v,ev,rv⟩:=rs.get hw;refine⟨⟨vs,v,SqT.of e,ev⟩,?_⟩;rintro x H' ⟨rfl,y⟩
 have:=y vs (SqT.of e)
 rw[ev]at this;cases this;exact⟨rv,hg,.refl _ _⟩
theorem b17 (hl:QE X l tl):QI X tg l (iT tl):=a8A (b4e hl.p) fun τ H R2 hx=>hx.un fun σ G R hs hg h up=>by
 refine⟨σ,G,_,hs,hg,h,fun w G1 v H1 h1 rv hg1 t1=>?_⟩;cases w with
 | tup ws=>
  rw[a0U]at rv;obtain⟨a,vs,rfl,e,rs⟩:=rv;exact⟨a,rfl,⟨vs,SqT.of e⟩,up _ _ _ _ _ h1 (a9I e rs) hg1 t1⟩
 | _=>exact False.elim h1
def rng (lo:Int):Nat->List Z
 | 0=>[]
 | n+1=>.int lo::rng (lo+1) n
theorem a1X:∀ (lo:Int) (n:Nat),(rng lo n).length=n
 | _,0=>rfl
 | lo,n+1=>by rw[rng,List.length_cons,a1X]
theorem a3B:∀ {lo:Int}{n i:Nat}{w:Z},(rng lo n)[i]?=some w->i<n/\w=.int (lo+i)
 | _,0,_,_,h=>by simp[rng]at h
 | lo,n+1,0,w,h=>by simp[rng]at h;exact⟨by omega,by rw[<- h];simp⟩
 | lo,n+1,i+1,w,h=>by
  have:=a3B (lo:=lo+1) (n:=n) (i:=i) (w:=w) (by simpa[rng]using h)
  refine⟨by omega,?_⟩;rw[this.2]
  congr 1
  omega
theorem a9J {K:Fg}{lo:Int}{n:Nat}{H0:Hp}:a5G K (rng lo n) (fun _=>True) (Itr lo n) H0:=fun i G H hg t ok hi=>by
 rw[a1X];refine⟨fun h=>by rw[h];exact Nat.le_refl _,fun w hw=>?_⟩;obtain⟨h1,h2⟩:=a3B hw;refine⟨h1,?_⟩;rintro x H' ⟨rfl,rfl⟩;exact⟨by rw[h2,a0q],hg,.refl _ _⟩
variable {t:A3}
def iR1 (t:A3):I3:=fun σ G R=>t σ G fun ws G1=>∃ j:Int,ws=[.int j]/\-(2 ^ 62)≤j/\j<2 ^ 62/\R (rng 0 j.toNat) (fun _=>True) G1
theorem a9K {wi:Expr}(h:PI X tg wi (b4f (lowA X.K t))):QI X tg wi (iR1 t):=a8A h fun τ H R2 hx=>hx.un fun σ G R hs hg h up=>by
 refine⟨σ,G,_,hs,hg,h,fun ws G1 vs H1 ⟨j,e,a,b,h1⟩ rv hg1 t1=>?_⟩;subst e;obtain⟨v,rfl,r⟩:=rv.one;rw[a0q]at r;subst r;exact⟨j,rfl,a,b,up _ _ _ _ _ h1 a9J hg1 t1⟩
end
section
variable {X:Cx}{tg a b:Expr}{p pos:Pos}{t:A3}
theorem a2G (hg:Gl X "range") (hm:X.mg "range"=none) (ha:QA X [a] t) (hs:starEach [a] X.env=[(false,eval a X.env)]:=by rfl):QI X tg (.Call (.Name "range" p) [a] [] pos) (iR1 t):=a9K (a81 hg hm ha.p hs)
end
def cap3 (cap:List (Option Nat)) (σ:S3):S3:=cap.map fun o=>o.bind fun j=>(σ[j]?).join
theorem a60 {K:Fg}{H:Hp}{σ:S3}{τ:L2.St}(h:RSt K H σ τ):∀ cap:List (Option Nat),RSt K H (cap3 cap σ) (a29 cap τ)
 | []=>.nil
 | none::cap=>.cons (fun _ e=>nomatch e) (a60 h cap)
 | some j::cap=>.cons (fun w e=>by
   have e':(σ[j]?).join=some w:=e;have e2:σ[j]?=some (some w):=by
    cases q:σ[j]? with
    | none=>rw[q]at e';cases e'
    | some o=>rw[q]at e';cases o with
     | none=>cases e'
     | some z=>cases e';rfl
   obtain⟨v,ev,r⟩:=h.get e2;exact⟨v,by show (τ[j]?).join=some v;rw[ev];rfl,r⟩) (a60 h cap)
theorem a3C:∀ {a b:L2.St},b.length=a.length->(∀ (i:Nat) v,a[i]?=some (some v)->b[i]?=some (some v))->a1P a b
 | [],[],_,_=>True.intro
 | none::a,_::b,h,k=>a3C (a:=a) (b:=b) (by simpa using h) fun i v e=>by simpa using k (i+1) v (by simpa using e)
 | some x::a,y::b,h,k=>⟨by simpa using k 0 x rfl,a3C (a:=a) (b:=b) (by simpa using h) fun i v e=>by simpa using k (i+1) v (by simpa using e)⟩
 | [],_::_,h,_=>by simp at h
 | _::_,[],h,_=>by simp at h
def LCB (ws:List Z) (ok:Hq->Prop) (cap:List (Option Nat)) (pt:Pt) (tt:T3) (te:E3) (σ:S3) (R:K3) (D:Addr) (G1:Hq):Prop:=∃ I:Nat->List Z->Hq->Prop,I 0 [] (put G1 D (.lst []))/\(∀ i ys G,i≤ws.length->I i ys G->ok G) /\
 (∀ i x ys G,ws[i]?=some x->I i ys G->∃ σ',a4U pt x (cap3 cap σ)=some σ'/\tt σ' G fun b G4=>if b=true then te σ' G4 fun y G5=>G5 D=some (.lst ys)/\ys.length<sizeLine/\I (i+1) (ys++[y]) (put G5 D (.lst (ys++[y]))) else I (i+1) ys G4) /\
 ∀ ys G,I ws.length ys G->R (.ref D) G
def uLC (wi:I3) (cap:List (Option Nat)) (pt:Pt) (tt:T3) (te:E3):E3:=fun σ G R=>wi σ G fun ws ok G1=>∀ D,G1 D=none->LCB ws ok cap pt tt te σ R D G1
theorem a8C {ws:List Z}{ok:Hq->Prop}{cap:List (Option Nat)}{pt:Pt}{tt:T3}{te:E3}{σ:S3}{R:K3}{D:Addr}{G1:Hq}(I:Nat->List Z->Hq->Prop) (h0:I 0 [] (put G1 D (.lst []))) (hok:∀ i ys G,i≤ws.length->I i ys G->ok G)
  (step:∀ i x ys G,ws[i]?=some x->I i ys G->∃ σ',a4U pt x (cap3 cap σ)=some σ'/\tt σ' G fun b G4=>if b=true then te σ' G4 fun y G5=>G5 D=some (.lst ys)/\ys.length<sizeLine/\I (i+1) (ys++[y]) (put G5 D (.lst (ys++[y]))) else I (i+1) ys G4)
  (fin:∀ ys G,I ws.length ys G->R (.ref D) G):LCB ws ok cap pt tt te σ R D G1:=⟨I,h0,hok,step,fin⟩
theorem a1G {α β:Type}{f:α->Option β}{ws:List α}{i:Nat}{x:α}(h:ws[i]?=some x):(ws.take (i+1)).filterMap f=(ws.take i).filterMap f++(f x).toList:=by
 rw[List.take_add_one,List.filterMap_append,h];cases e:f x<;>simp[e]
theorem b22 {ws:List Z}{ok:Hq->Prop}{cap:List (Option Nat)}{pt:Pt}{tt:T3}{te:E3}{σ:S3}{R:K3}{D:Addr}{G1:Hq}(f:Z->Option Z) (hok:∀ ys,ok (put G1 D (.lst ys))) (hz:ws.length≤1000)
  (turn:∀ x,x∈ws->∀ (ys:List Z) (K1:K3) (K2:Hq->Prop),(∀ y,f x=some y->K1 y (put G1 D (.lst ys)))->(f x=none->K2 (put G1 D (.lst ys)))->∃ σ',a4U pt x (cap3 cap σ)=some σ'/\tt σ' (put G1 D (.lst ys)) fun b G4=>if b=true then te σ' G4 K1 else K2 G4)
  (fin:R (.ref D) (put G1 D (.lst (ws.filterMap f)))):LCB ws ok cap pt tt te σ R D G1:=by
 refine⟨fun i ys G=>ys=(ws.take i).filterMap f/\G=put G1 D (.lst ys),⟨by simp,rfl⟩,?_,?_,?_⟩
 ·rintro i ys G _ ⟨_,rfl⟩;exact hok ys
 ·rintro i x ys G hx ⟨e,rfl⟩;refine turn x (List.mem_of_getElem? hx) ys _ _ (fun y hy=>⟨a0d,?_,?_,?_⟩) fun hn=>⟨?_,rfl⟩
  ·rw[e];exact Nat.lt_of_le_of_lt (Nat.le_trans (List.length_filterMap_le _ _) (by rw[List.length_take];omega)) (a0s (Nat.le_refl 1000))
  ·rw[a1G hx,hy,e];rfl
  ·rw[a1S]
  ·rw[a1G hx,hn,e];simp
 ·rintro ys G ⟨e,rfl⟩;rw[List.take_length]at e;rw[e];exact fin
def QIfs (X:Cx) (ifs:List Expr) (t:T3):Prop:=PIfs X ifs (lowT X.K t)
def uTT:T3:=fun _ G R=>R true G
theorem a5H {X:Cx}:QIfs X [] uTT:=fun pins s τ H Q I ⟨σ,G,R,hs,hg,h,up⟩=>b08 pins s τ H Q I (up _ _ _ h hg (.refl _ _))
theorem a3D {X:Cx}{c:Expr}{t:T3}(h:QT X c t):QIfs X [c] t:=b09 h.p
theorem b23 {cap:List (Option Nat)}{pt:Pt}(hc:(pt.slots.all fun j=>decide (cap[j]?=some none))=true) {τ:L2.St}{i:Nat}{v:V}(h:(a29 cap τ)[i]?=some (some v)):i∉pt.slots:=fun hm=>by
 have q:=of_decide_eq_true ((List.all_eq_true.mp hc) i hm);unfold a29 at h;rw[List.getElem?_map,q]at h;cases h
theorem b18 {K:Fg}{wi:I3}{cap:List (Option Nat)}{pt:Pt}{tt:T3}{te:E3}(hc:(pt.slots.all fun j=>decide (cap[j]?=some none))=true) {τ:L2.St}{H:Hp}{Q:VK}(h:low K (uLC wi cap pt tt te) τ H Q) :
  tLC (lowI K wi) cap (gP K pt) (lowT K tt) (low K te) τ H Q:=by
 obtain⟨σ,G,R,hs,hg,h,up⟩:=h;refine⟨σ,G,_,hs,hg,h,fun ws ok G1 J H1 h1 hJ hg1 t1 D hD=>?_⟩;obtain⟨I,i0,hok,step,fin⟩:=h1 D (hg1.out hD);refine⟨fun i m _ H'=>m=ws.length - i/\i≤ws.length/\∃ ys G',RH K G' H'/\TK K H1 H'/\I i ys G',⟨ws.length,by simp,Nat.zero_le _,[],_,hg1.set (o:=.lst []) (.new hD) ⟨[],a0y,.nil⟩,.new hD,i0⟩,?_⟩;rintro i m vs H2 ⟨rfl,hle,ys,G2,hg2,t2,i2⟩;have hJ2:=hJ i G2 H2 hg2 t2 (hok i ys G2 hle i2) hle
 by_cases hlt:i<ws.length
 ·obtain⟨go,yl⟩:=hJ2.2 _ (List.getElem?_eq_getElem hlt);refine .inr ⟨go,fun _ H'=>i+1≤ws.length/\∃ ys G',RH K G' H'/\TK K H1 H'/\I (i+1) ys G',fun vs' H' q=>⟨ws.length - (i+1),by omega,rfl,q.1,q.2⟩,fun x H3 y3=>?_⟩;obtain⟨rx,hg3,t3⟩:=yl x H3 y3;obtain⟨σ',hb',h3⟩:=step i _ ys G2 (List.getElem?_eq_getElem hlt) i2;refine b21 rx (a60 (hs.mono ((t1.trans t2).trans t3)) cap) hb' fun τ' hs' hl' hk'=>⟨a3C hl' fun j v ej=>by rw[hk' j (b23 hc ej)];exact ej,?_⟩;refine⟨σ',G2,_,hs',hg3,h3,fun b G4 H4 h4 hg4 t4=>?_⟩;cases b with
  | false=>
   rw[if_neg (by decide)]at h4 ⊢;exact⟨hlt,ys,G4,hg4,(t2.trans t3).trans t4,h4⟩
  | true=>
   rw[if_pos rfl]at h4 ⊢;refine⟨σ',G4,_,hs'.mono t4,hg4,h4,fun y G5 v5 H5 ⟨hD5,hsz,h5⟩ r5 hg5 t5=>?_⟩;obtain⟨vs5,e5,rs5⟩:=hg5 D _ hD5;refine⟨vs5,e5,by rw[<- rs5.length];exact hsz,hlt,_,_,hg5.set (.lst e5) (a1s (rs5.append (.cons r5 .nil)) (.lst e5)),?_,h5⟩;exact (((t2.trans t3).trans t4).trans t5).trans (.lst e5)
 ·have e:i=ws.length:=by omega
  subst e;exact .inl ⟨hJ2.1 rfl,up _ _ _ _ (fin ys G2 i2) (by rw[a0m]) hg2 (t1.trans t2)⟩
section
variable {X:Cx}{N':List Str}{sc:Scope}{cap:List (Option Nat)}{tg iter elt:Expr}{ifs:List Expr}{wi:I3}{pt:Pt}{tt:T3}{te:E3}{pos:Pos}
theorem q_lc {N₀:List Str}{so:Scope}(hc:X.calm=true) (hNN:X.N=N₀) (hso:X.env.scope=so) (ck:capB N₀ so sc N' cap=true) (hp:(pt.slots.all fun j=>decide (cap[j]?=some none))=true) (hi:QI X tg iter wi)
  (hg:∀ C s H fp,QP (cxC X E0 N' sc C s H fp) tg pt) (ht:∀ C s H fp,QIfs (cxC X E0 N' sc C s H fp) ifs tt) (he:∀ C s H fp,QE (cxC X E0 N' sc C s H fp) elt te)
  (hs:∀ x,foldedSetIterable iter X.env x=pure x:=by intro _;rfl):QE X (.ListComp elt [⟨tg,iter,ifs,0⟩] sc pos) (uLC wi cap pt tt te):=⟨a1r (b6E (g:=gP X.K pt) (tt:=lowT X.K tt) (te:=low X.K te) hc a7D hNN hso ck hi hg ht (fun C s H fp=>(he C s H fp).p) hs) fun _ _ _=>b18 hp⟩
theorem a9L {N₀:List Str}{so:Scope}{i:Nat}{x:Str}{pos' spos:Pos}(hN:X.N.Nodup) (hx:X.N[i]?=some x) (hl:X.env.scope.names.lookup x=some .local) (hc:X.calm=true) (hNN:X.N=N₀) (hso:X.env.scope=so) (ck:capB N₀ so sc N' cap=true)
  (hp:(pt.slots.all fun j=>decide (cap[j]?=some none))=true) (hi:QI X tg iter wi)
  (hg:∀ C s H fp,QP (cxC X E0 N' sc C s H fp) tg pt) (ht:∀ C s H fp,QIfs (cxC X E0 N' sc C s H fp) ifs tt) (he:∀ C s H fp,QE (cxC X E0 N' sc C s H fp) elt te)
  (hsw:swapsWith (.ListComp elt [⟨tg,iter,ifs,0⟩] sc pos) (some (.Name x pos')) spos.line X.env=pure true:=by rfl)
  (hs:∀ x,foldedSetIterable iter X.env x=pure x:=by intro _;rfl):QS X (.Assign [.Name x pos'] (.ListComp elt [⟨tg,iter,ifs,0⟩] sc pos) spos) (uAsg (uLC wi cap pt tt te) (.nm i)):=⟨a4R (b1b (g:=gP X.K pt) (tt:=lowT X.K tt) (te:=low X.K te) hN hx hl hc a7D hNN hso ck hi hg ht (fun C s H fp=>(he C s H fp).p) hsw hs) fun D τ H h=>b18 hp (a9G (pt:=.nm i) h)⟩
end
section
variable {P:Program}{w:World}{K:Fg}{mg:Str->Option Value}{base:Heap}
theorem fn3 {x qual:Str}{st:Stmt}{f:Addr}{fd:FuncData}{N ps:List Str}{k:Nat}{sp:P3}(F:Fun K x qual st f fd) (S:FnScope N ps (a0g st)) (len:∀ ws G R,sp ws G R->ws.length=ps.length)
  (hbody:∀ (cdv:Value) (A:Around) (outer:List Env) (s:Shared) (H:Hp) (E:XK) (ws:List Z) (G:Hq) (R:K3),Room k (A.deeper (envOfC qual (a0g st) s.heap.objs.size f cdv))->sp ws G R ->
   ∃ t,QSs (cxOf CX0 P w K mg base N qual (a0g st) f cdv A outer s H E).nox (a1O st) t/\t (fun _ G'=>R .non G') R (fun _ _=>False) (fun _ _=>False) (a3S N ws) G):FnOk P w K mg base CX0 (k+1) f fd ps (lowP K sp):=by
 refine F.ok S (fun vs H Q E ⟨ws,G,R,rs,hg,h,up⟩=>by rw[<- rs.length];exact len _ _ _ h) ?_;rintro cdv A outer s H vs Q E hr ⟨ws,G,R,rs,hg,h,up⟩;obtain⟨t,ht,hq⟩:=hbody cdv A outer s H E ws G R hr h;exact⟨_,ht.p,a3S N ws,G,_,R,_,_,.start rs,hg,hq,fun σ' G' τ' H' h' hs' hg' t'=>up _ _ _ _ h' (by rw[a00]) hg' t',up,fun _ _ _ _ h _ _ _=>h.elim,fun _ _ _ _ h _ _ _=>h.elim⟩
end
end L3
namespace L3
open PySem PySem.Spec PyProof.Rows L2
section
variable {X:Cx}
def zAdd:R3:=fun x y G R=>match x,y with
 | .int i,.int j=>R (.int (i+j)) G
 | .str a,.str b=>a.length+b.length≤sizeLine/\R (.str (a++b)) G
 | .tup xs,.tup ys=>xs≠[]/\xs.length+ys.length≤sizeLine/\R (.tup (xs++ys)) G
 | .ref p,.ref q=>∃ xs ys,G p=some (.lst xs)/\G q=some (.lst ys)/\xs.length+ys.length≤sizeLine/\∀ t,G t=none->R (.ref t) (put G t (.lst (xs++ys)))
 | _,_=>False
theorem a1Y:OpQ X (binaryOp .Add) zAdd:=a4S (op_add.or (op_add_str.or (op_catT.or b4x))) fun x y H Q hx=>hx.un fun a b G R ra rb hg h up=>by
 cases a with
 | int i=>
  cases b with
  | int j=>rw[a0q]at ra rb;exact .inl ⟨_,_,ra,rb,up _ _ _ _ h (by rw[a0q]) hg (.refl _ _)⟩
  | _=>exact False.elim h
 | str i=>
  cases b with
  | str j=>rw[a0A]at ra rb;exact .inr (.inl ⟨_,_,ra,rb,h.1,up _ _ _ _ h.2 (by rw[a0A]) hg (.refl _ _)⟩)
  | _=>exact False.elim h
 | tup us=>
  cases b with
  | tup ws=>
   rw[a0U]at ra rb;obtain⟨p,xs,rfl,e1,r1⟩:=ra;obtain⟨q,ys,rfl,e2,r2⟩:=rb;obtain⟨h0,hz,h⟩:=h;refine .inr (.inr (.inl ⟨p,q,xs,ys,rfl,rfl,SqT.of e1,SqT.of e2,fun z=>?_,by rw[<- r1.length,<- r2.length];exact hz,fun z=>?_,fun z t ht=>?_⟩))
   ·subst z;exact h0 (List.length_eq_zero_iff.mp r1.length)
   ·subst z;have e:ws=[]:=List.length_eq_zero_iff.mp r2.length;subst e;rw[List.append_nil]at h;exact up _ _ _ _ h (by rw[a0U];exact⟨p,xs,rfl,e1,r1⟩) hg (.refl _ _)
   ·exact up _ _ _ _ h (by rw[a0U];exact⟨t,xs++ys,rfl,a0y,Reps.mono (.new ht) _ _ (r1.append r2)⟩) (hg.hid ht) (.new ht)
  | _=>exact False.elim h
 | ref p=>
  cases b with
  | ref q=>
   rw[a0m]at ra rb;subst ra rb;obtain⟨xs,ys,e1,e2,hz,h⟩:=h;obtain⟨vs,e1',r1⟩:=hg _ _ e1;obtain⟨us,e2',r2⟩:=hg _ _ e2;exact .inr (.inr (.inr ⟨_,_,vs,us,rfl,rfl,e1',e2',by rw[<- r1.length,<- r2.length];exact hz,fun t ht=>up _ _ _ _ (h t (hg.out ht)) (by rw[a0m]) (hg.set (.new ht) (a1s (r1.append r2) (.new ht))) (.new ht)⟩))
  | _=>exact False.elim h
 | _=>exact False.elim h
def zI (C:Int->Int->Prop) (g:Int->Int->Z):R3:=fun x y G R=>match x,y with
 | .int i,.int j=>C i j/\R (g i j) G
 | _,_=>False
def zI0 (g:Int->Int->Z):R3:=fun x y G R=>match x,y with
 | .int i,.int j=>R (g i j) G
 | _,_=>False
theorem oI {f:Value->Value->Sem Value}{C:Int->Int->Prop}{g:Int->Int->Int}(h:OpR X f (rI C fun i j=>.int (g i j))):OpQ X f (zI C fun i j=>.int (g i j)):=a4S h fun x y H Q hx=>hx.un fun a b G R ra rb hg h up=>by
 cases a<;>cases b<;>first
  | exact False.elim h
  | (rw[a0q]at ra rb;exact⟨_,_,ra,rb,h.1,up _ _ _ _ h.2 (by rw[a0q]) hg (.refl _ _)⟩)
theorem oI0 {f:Value->Value->Sem Value}{g:Int->Int->Int}(h:OpR X f (rI0 fun i j=>.int (g i j))):OpQ X f (zI0 fun i j=>.int (g i j)):=a4S h fun x y H Q hx=>hx.un fun a b G R ra rb hg h up=>by
 cases a<;>cases b<;>first
  | exact False.elim h
  | (rw[a0q]at ra rb;exact⟨_,_,ra,rb,up _ _ _ _ h (by rw[a0q]) hg (.refl _ _)⟩)
theorem a8D:OpQ X (binaryOp .Sub) (zI0 fun i j=>.int (i - j)):=oI0 b4h
theorem b1i:OpQ X (binaryOp .Mult) (zI CMul fun i j=>.int (i*j)):=oI b4i
theorem a9M:OpQ X (binaryOp .FloorDiv) (zI b4J fun i j=>.int (i / j)):=oI b1c
theorem a3E:OpQ X (binaryOp .Mod) (zI (fun _ j=>0<j) fun i j=>.int (i % j)):=oI b4j
theorem a61:OpQ X (binaryOp .Pow) (zI CPow fun i j=>.int (i ^ j.toNat)):=oI b4k
theorem b4W:OpQ X (inplaceOp .Add) (zI0 fun i j=>.int (i+j)):=oI0 b2D
def zNeg:Z->Hq->K3->Prop:=fun x G R=>match x with
 | .int i=>R (.int (-i)) G
 | _=>False
theorem a2b:UnQ X (unaryOp .USub) zNeg:=b6F b4l fun x H Q hx=>hx.un fun a G R ra hg h up=>by
 cases a<;>first
  | exact False.elim h
  | (rw[a0q]at ra;exact⟨_,ra,up _ _ _ _ h (by rw[a0q]) hg (.refl _ _)⟩)
theorem a9N:OpR X (compareOp .LtE) (fun x y H Q=>∃ i j,x=.str i/\y=.str j/\Q (.bl (!decide (j.cps.toList<i.cps.toList))) H):=by
 intro pins s σ H x y v u Q I rx ry h;obtain⟨i,j,rfl,rfl,q⟩:=h;obtain⟨t,rfl⟩:=rx;obtain⟨t',rfl⟩:=ry;exact PySem.P.le_str (a0C I q rfl)
theorem a9O:OpR X (compareOp .Gt) (fun x y H Q=>∃ i j,x=.str i/\y=.str j/\Q (.bl (decide (j.cps.toList<i.cps.toList))) H):=by
 intro pins s σ H x y v u Q I rx ry h;obtain⟨i,j,rfl,rfl,q⟩:=h;obtain⟨t,rfl⟩:=rx;obtain⟨t',rfl⟩:=ry;exact PySem.P.gt_str (a0C I q rfl)
theorem a9P:OpR X (compareOp .GtE) (fun x y H Q=>∃ i j,x=.str i/\y=.str j/\Q (.bl (!decide (i.cps.toList<j.cps.toList))) H):=by
 intro pins s σ H x y v u Q I rx ry h;obtain⟨i,j,rfl,rfl,q⟩:=h;obtain⟨t,rfl⟩:=rx;obtain⟨t',rfl⟩:=ry;exact PySem.P.ge_str (a0C I q rfl)
def zC (f:Int->Int->Bool) (g:Str->Str->Bool):R3:=fun x y G R=>match x,y with
 | .int i,.int j=>R (.bl (f i j)) G
 | .str i,.str j=>R (.bl (g i j)) G
 | _,_=>False
theorem oC {op:CmpOp}{f:Int->Int->Bool}{g:Str->Str->Bool}(h:OpR X (compareOp op) (rI0 fun i j=>.bl (f i j))) (h':OpR X (compareOp op) (fun x y H Q=>∃ i j,x=.str i/\y=.str j/\Q (.bl (g i j)) H)) :
  OpQ X (compareOp op) (zC f g):=a4S (h.or h') fun x y H Q hx=>hx.un fun a b G R ra rb hg h up=>by
 cases a<;>cases b<;>first
  | exact False.elim h
  | (rw[a0q]at ra rb;exact .inl ⟨_,_,ra,rb,up _ _ _ _ h (by rw[a0O]) hg (.refl _ _)⟩)
  | (rw[a0A]at ra rb;exact .inr ⟨_,_,ra,rb,up _ _ _ _ h (by rw[a0O]) hg (.refl _ _)⟩)
abbrev ltS (x y:Str):Bool:=decide (x.cps.toList<y.cps.toList)
theorem o_lt:OpQ X (compareOp .Lt) (zC (fun i j=>decide (i<j)) fun x y=>ltS x y):=oC b6o a87
theorem o_le:OpQ X (compareOp .LtE) (zC (fun i j=>decide (i≤j)) fun x y=>!ltS y x):=oC b6p a9N
theorem o_gt:OpQ X (compareOp .Gt) (zC (fun i j=>decide (j<i)) fun x y=>ltS y x):=oC b6q a9O
theorem o_ge:OpQ X (compareOp .GtE) (zC (fun i j=>decide (j≤i)) fun x y=>!ltS x y):=oC b6r a9P
def zIs (neg:Bool):R3:=fun x y G R=>match y with
 | .non=>R (.bl (if neg then !decide (x=.non) else decide (x=.non))) G
 | .bl b=>match x with
  | .bl a=>neg=false/\R (.bl (a==b)) G
  | _=>False
 | _=>False
theorem a5e {K:Fg}{H:Hp}{w:Z}{v:V}(r:Rep K H w v):decide (v=.non)=decide (w=.non):=by
 cases w with
 | non=>rw[a00]at r;subst r;rfl
 | bl _=>rw[a0O]at r;subst r;simp
 | int _=>rw[a0q]at r;subst r;simp
 | str _=>rw[a0A]at r;subst r;simp
 | ref _=>rw[a0m]at r;subst r;simp
 | ty _=>rw[a7F]at r;subst r;simp
 | scr _ _=>rw[a1R]at r;obtain⟨rfl,_⟩:=r;simp
 | tup _=>rw[a0U]at r;obtain⟨_,_,rfl,_⟩:=r;simp
end
mutual
def dZ:Z->PyData
 | .bl b=>.bool b
 | .int i=>.int i
 | .str x=>.str x
 | .tup ws=>.tuple (dZs ws)
 | _=>.none
def dZs:List Z->List PyData
 | []=>[]
 | w::ws=>dZ w::dZs ws
end
def flat:Nat->Z->Bool
 | _,.non=>true
 | _,.int _=>true
 | _,.str x=>PyData.strOk x
 | n+1,.tup ws=>ws.all (flat n)
 | _,_=>false
theorem b19:∀ (n:Nat) (d:Z),flat n d=true->(dZ d).canLay0=true/\(dZ d).depth≤n:=by
 have all:∀ (n:Nat),(∀ d,flat n d=true->(dZ d).canLay0=true/\(dZ d).depth≤n)->∀ ds:List Z,(∀ d∈ds,flat n d=true)->PyData.canLayAll0 (dZs ds)=true/\PyData.depthAll (dZs ds)≤n:=by
  intro n ih ds
  induction ds with
  | nil=>intro _;simp[dZs,PyData.canLayAll0,PyData.depthAll]
  | cons d ds hi=>
   intro h;have h1:=ih d (h d (.head _));have h2:=hi fun e he=>h e (.tail _ he);simp only[dZs,PyData.canLayAll0,PyData.depthAll,h1.1,h2.1,Bool.and_self,true_and];have a1:=h1.2;have a2:=h2.2;omega
 intro n
 induction n with
 | zero=>
  intro d h;cases d<;>simp_all[flat,dZ,PyData.canLay0,PyData.depth]
 | succ n ih=>
  intro d h;cases d with
  | non=>simp[dZ,PyData.canLay0,PyData.depth]
  | int i=>simp[dZ,PyData.canLay0,PyData.depth]
  | str x=>simp[flat]at h;simp[dZ,PyData.canLay0,PyData.depth,h]
  | tup ds=>
   have q:=all n ih ds (by simpa[flat]using h);have q2:=q.2;simp only[dZ,PyData.canLay0,PyData.depth,q.1,true_and];omega
  | _=>simp[flat]at h
theorem b24 (n:Nat) (ds:List Z) (h:ds.all (flat n)=true):PyData.canLayAll0 (dZs ds)=true/\PyData.depthAll (dZs ds)≤n:=by
 have q:=b19 (n+1) (.tup ds) (by simpa[flat]using h);simp only[dZ,PyData.canLay0,PyData.depth]at q;exact⟨q.1,by omega⟩
theorem b2a:∀ (n:Nat) (d e:Z) (k:Nat),flat n d=true->flat k e=true->(PyData.eqv (dZ d) (dZ e)=true↔d=e):=by
 have all:∀ (n:Nat),(∀ d e k,flat n d=true->flat k e=true->(PyData.eqv (dZ d) (dZ e)=true↔d=e))->∀ (k:Nat) (ds es:List Z),(∀ d∈ds,flat n d=true)->(∀ d∈es,flat k d=true) ->
   (PyData.eqvAll (dZs ds) (dZs es)=true↔ds=es):=by
  intro n ih k ds
  induction ds with
  | nil=>intro es _ _;cases es<;>simp[dZs,PyData.eqvAll]
  | cons d ds hi=>
   intro es h1 h2;cases es with
   | nil=>simp[dZs,PyData.eqvAll]
   | cons e es=>
    have q1:=ih d e k (h1 d (.head _)) (h2 e (.head _));have q2:=hi es (fun x hx=>h1 x (.tail _ hx)) fun x hx=>h2 x (.tail _ hx);simp only[dZs,PyData.eqvAll,Bool.and_eq_true,q1,q2,List.cons.injEq]
 intro n
 induction n with
 | zero=>
  intro d e k h1 h2;cases d<;>cases e<;>simp_all[flat,dZ,PyData.eqv]
 | succ n ih=>
  intro d e k h1 h2;cases d with
  | tup ds=>
   cases e with
   | tup es=>
    cases k with
    | zero=>simp[flat]at h2
    | succ k=>
     simp only[dZ,PyData.eqv,Z.tup.injEq];exact all n ih k ds es (by simpa[flat]using h1) (by simpa[flat]using h2)
   | _=>simp_all[flat,dZ,PyData.eqv]
  | _=>cases e<;>simp_all[flat,dZ,PyData.eqv]
theorem b25 (n k:Nat) (ds es:List Z) (h:ds.all (flat n)=true) (h':es.all (flat k)=true):PyData.eqvAll (dZs ds) (dZs es)=true↔ds=es:=by
 have q:=b2a (n+1) (.tup ds) (.tup es) (k+1) (by simpa[flat]using h) (by simpa[flat]using h');simpa only [dZ,PyData.eqv,Z.tup.injEq]using q
section
variable {K:Fg}{H:Hp}
theorem b26:∀ (n:Nat) (w:Z) (v:V),flat n w=true->Rep K H w v->DV H (dZ w) v:=by
 have all:∀ (n:Nat),(∀ w v,flat n w=true->Rep K H w v->DV H (dZ w) v)->∀ (ws:List Z) (vs:List V),(∀ d∈ws,flat n d=true)->Reps K H ws vs->DVs H (dZs ws) vs:=by
  intro n ih ws
  induction ws with
  | nil=>intro vs _ r;rw[a0w]at r;simp only[dZs];unfold DVs;exact r
  | cons w ws hi=>
   intro vs h r;rw[a0o]at r;obtain⟨v,r',e,r1,r2⟩:=r;simp only[dZs];unfold DVs;exact⟨v,r',e,ih w v (h w (.head _)) r1,hi r' (fun d hd=>h d (.tail _ hd)) r2⟩
 intro n
 induction n with
 | zero=>
  intro w v h r;cases w with
  | non=>rw[a00]at r;simp only[dZ];unfold DV;exact r
  | int i=>rw[a0q]at r;simp only[dZ];unfold DV;exact r
  | str x=>rw[a0A]at r;simp only[dZ];unfold DV;exact r
  | _=>simp[flat]at h
 | succ n ih=>
  intro w v h r;cases w with
  | non=>rw[a00]at r;simp only[dZ];unfold DV;exact r
  | int i=>rw[a0q]at r;simp only[dZ];unfold DV;exact r
  | str x=>rw[a0A]at r;simp only[dZ];unfold DV;exact r
  | tup ws=>
   rw[a0U]at r;obtain⟨a,vs,e,ea,rs⟩:=r;simp only[dZ];unfold DV;exact⟨a,vs,e,ea,all n ih ws vs (by simpa[flat]using h) rs⟩
  | _=>simp[flat]at h
theorem a9Q (n:Nat):∀ (ws:List Z) (vs:List V),ws.all (flat n)=true->Reps K H ws vs->DVs H (dZs ws) vs
 | [],vs,_,r=>by rw[a0w]at r;simp only[dZs];unfold DVs;exact r
 | w::ws,vs,h,r=>by
  rw[a0o]at r;obtain⟨v,r',e,r1,r2⟩:=r;rw[List.all_cons,Bool.and_eq_true]at h;simp only[dZs];unfold DVs;exact⟨v,r',e,b26 n w v h.1 r1,a9Q n ws r' h.2 r2⟩
end
theorem a4u {n:Nat}{w:Z}(h:flat n w=true) (hn:n≤64):SeqAt.shaped (dZ w)=true:=by
 have q:=b19 n w h;unfold SeqAt.shaped;rw[q.1,Bool.true_and];exact decide_eq_true (by omega)
theorem a4v {n:Nat}{ws:List Z}(h:ws.all (flat n)=true) (hn:n≤63):SeqAt.shaped (.list (dZs ws))=true:=by
 have q:=b24 n ws h;unfold SeqAt.shaped;simp only[PyData.canLay0,PyData.depth,q.1,Bool.true_and];exact decide_eq_true (by omega)
theorem a9R {a:Bool}{p:Prop}[Decidable p] (h:a=true↔p):a=decide p:=by
 cases a with
 | true=>exact (decide_eq_true (h.mp rfl)).symm
 | false=>exact (decide_eq_false fun q=>by cases h.mpr q).symm
theorem a0J {p q:Prop}[Decidable p] [Decidable q] (h:p=q):decide p=decide q:=by
 by_cases k:q
 ·rw[decide_eq_true k,decide_eq_true (h▸k)]
 ·rw[decide_eq_false k,decide_eq_false (h▸k)]
def zEq (f:Bool->Bool):R3:=fun x y G R=>match x,y with
 | .bl a,.bl b=>R (.bl (f (a==b))) G
 | .int a,.int b=>R (.bl (f (decide (a=b)))) G
 | .str a,.str b=>R (.bl (f (decide (a=b)))) G
 | .ref p,.ref q=>∃ xs ys,G p=some (.lst xs)/\G q=some (.lst ys)/\xs.all (flat 8)=true/\ys.all (flat 8)=true/\R (.bl (f (decide (xs=ys)))) G
 | x,y=>flat 8 x=true/\flat 8 y=true/\R (.bl (f (decide (x=y)))) G
section
variable {X:Cx}
theorem b2b {f:Bool->Bool}{K:Fg}{x y:V}{H:Hp}{Q:VK}(h:low2 K (zEq f) x y H Q) :
    (scal x y=true/\Q (.bl (f (decide (x=y)))) H)\/∃ d e,DV H d x/\DV H e y/\SeqAt.shaped d=true/\SeqAt.shaped e=true/\Q (.bl (f (PyData.eqv d e))) H:=by
  obtain⟨a,b,G,R,ra,rb,hg,h,up⟩:=h;have flt:flat 8 a=true/\flat 8 b=true/\R (.bl (f (decide (a=b)))) G->∃ d e,DV H d x/\DV H e y/\SeqAt.shaped d=true/\SeqAt.shaped e=true/\Q (.bl (f (PyData.eqv d e))) H:=fun ⟨h1,h2,h3⟩=>by
    refine⟨dZ a,dZ b,b26 8 _ _ h1 ra,b26 8 _ _ h2 rb,a4u h1 (by decide),a4u h2 (by decide),?_⟩;rw[a9R (b2a 8 a b 8 h1 h2)];exact up _ _ _ _ h3 (by rw[a0O]) hg (.refl _ _)
  cases a<;>cases b<;>first
    | exact .inr (flt h)
    | (rw[a0O]at ra rb;subst ra rb;exact .inl ⟨rfl,by rw[a84];exact up _ _ _ _ h (by rw[a0O]) hg (.refl _ _)⟩)
    | (rw[a0q]at ra rb;subst ra rb;exact .inl ⟨rfl,by rw[a0J (V.int.injEq _ _)];exact up _ _ _ _ h (by rw[a0O]) hg (.refl _ _)⟩)
    | (rw[a0A]at ra rb;subst ra rb;exact .inl ⟨rfl,by rw[a0J (V.str.injEq _ _)];exact up _ _ _ _ h (by rw[a0O]) hg (.refl _ _)⟩)
    | (rw[a0m]at ra rb
       subst ra rb;obtain⟨xs,ys,e1,e2,f1,f2,h⟩:=h;obtain⟨vs,e1',r1⟩:=hg _ _ e1;obtain⟨us,e2',r2⟩:=hg _ _ e2;refine .inr ⟨.list (dZs xs),.list (dZs ys),?_,?_,a4v f1 (by decide),a4v f2 (by decide),?_⟩
       · unfold DV;exact⟨_,vs,rfl,e1',a9Q 8 _ _ f1 r1⟩
       · unfold DV;exact⟨_,us,rfl,e2',a9Q 8 _ _ f2 r2⟩
       · simp only[PyData.eqv]
         rw[a9R (b25 8 8 xs ys f1 f2)];exact up _ _ _ _ h (by rw[a0O]) hg (.refl _ _))
theorem o_eq (hu:X.A.units+66<cLine):OpQ X (compareOp .Eq) (zEq id):=a4S (op_eq.or (b4H hu)) fun x y H Q h=>b2b h
theorem o_ne (hu:X.A.units+66<cLine):OpQ X (compareOp .NotEq) (zEq not):=a4S (op_ne.or (b4I hu)) fun x y H Q h=>b2b h
end
end L3
namespace L2
open PySem PySem.Spec PyProof.Rows
def Its (x:Str):It:=⟨fun i _=>i<x.cps.size,fun i H v H'=>H'=H/\∃ c,x.cps[i]?=some c/\v=.str ⟨#[c]⟩,fun i _=>i=x.cps.size⟩
theorem a7I {P:Program}{w:World}{K:Fg}{tg:Expr}{it:Addr}{ty:String}{x:Str}{t:Tok}
  (hty:["enumerate","zip","dict_itemiterator","dict_reverseitemiterator","odict_iterator","itertools.zip_longest","itertools.pairwise"].contains ty=false)
  (W:∀ A':Around,A'.handled=none->Walks P w A' it [it] [it] x.cps.size (SignAt x) (fun i h=>h.IsStrIter it ty x t i))
  (hself:∀ (A:Around) (i:Nat) (s:Shared) (Q:Value->Shared->Prop) (E:Value->Shared->Prop),s.heap.IsStrIter it ty x t i->Q (.ref it) s->wpAny (model P w) A (pyIter (.ref it)) Q E s) :
  Turn P w K tg (Its x) [it] it (fun i h=>h.IsStrIter it ty x t i) where
 mem:=by simp
 obj:=fun i h st b hb=>by
  have e:b=it:=by simpa using hb
  subst e;obtain⟨o,e,c,d⟩:=st;exact⟨o,e,fun v z=>by rw[d]at z;cases z⟩
 keep:=fun i h h' st k=>let ⟨o,e,r⟩:=st;⟨o,k it (by simp) o e,r⟩
 item:=by
  intro X hP hw hK hc i pins s σ H E I hf st hg;subst hP hw hK;obtain⟨f0,f1,f2,f3,f4,f5⟩:=hf it (by simp);refine (W X.A (I.ok.hd hc)).item i s _ _ hg st fun v h' tk ⟨c,u,hx,e⟩ st' k=>?_;subst e;have I1:Inv X pins σ H { s with heap:=h',toks:=tk }:=I.turned (t':=tk) (fun b o hb e=>k b o (by simpa using hb) e) f0 f1 f3 f4 f5;obtain⟨o,e,cl,d⟩:=id st';exact⟨_,rfl,a8o (s:={ s with heap:=h',toks:=tk }) e cl d hty ⟨.str ⟨#[c]⟩,H,I1,⟨_,rfl⟩,⟨rfl,c,hx,rfl⟩,st',fun b hb=>(hf b hb).1⟩⟩
 done:=by
  intro X hP hw hK hc i pins s σ H E I hf st hg;subst hP hw hK;obtain⟨f0,f1,f2,f3,f4,f5⟩:=hf it (by simp);have hg':i=x.cps.size:=hg;subst hg';exact (W X.A (I.ok.hd hc)).done s _ _ st fun h' tk k=>⟨rfl,I.turned (t':=tk) (fun b o hb e=>k b o (by simpa using hb) e) f0 f1 f3 f4 f5⟩
 self:=hself
def iStr (tl:TE):TI:=fun σ H R=>tl σ H fun v H1=>∃ x,v=.str x/\R (Its x) H1
theorem b4X {X:Cx}{tg l:Expr}{tl:TE}(hl:PE X l tl):PI X tg l (iStr tl):=by
 intro pins s σ H R I h;refine thn (hl pins s σ H _ I h) fun v s1 ⟨x,H1,I1,r1,q1⟩=>?_;obtain⟨y,e,q⟩:=q1;subst e;obtain⟨t,rfl⟩:=r1;have fp:∀ (o:Obj),∀ b∈[s1.heap.objs.size],FpOk X pins H1 b:=fun o b hb=>by
  have e:b=s1.heap.objs.size:=by simpa using hb
  subst e;exact I1.fpOk (Nat.le_refl _) (I1.hok.fresh (Nat.le_refl _))
 cases ha:y.cps.all (·<128)
 ·refine wpAny_pyIter_wide ha ?_;exact⟨s1.heap.objs.size,[s1.heap.objs.size],_,_,H1,rfl,I1.kept (t':=s1.toks) (fun b o e=>Heap.get?_push_of_some _ e),a7I (by decide) (fun A' hA=>Walks.strWide hA _ y t) (fun _ _ _ _ _ st h=>wpAny_pyIter_striter_wide st h),
   ⟨_,Heap.get?_push_size _ rfl,rfl,rfl⟩,fp default,q⟩
 ·refine wpAny_pyIter_ascii ha ?_;exact⟨s1.heap.objs.size,[s1.heap.objs.size],_,_,H1,rfl,I1.kept (t':=s1.toks) (fun b o e=>Heap.get?_push_of_some _ e),a7I (by decide) (fun A' hA=>Walks.strAscii hA _ y t) (fun _ _ _ _ _ st h=>wpAny_pyIter_striter_ascii st h),
   ⟨_,Heap.get?_push_size _ rfl,rfl,rfl⟩,fp default,q⟩
theorem Vals.tog:∀ {xs:List V}{us:List Value}{i:Nat}{u:Value},Vals xs us->us[i]?=some u->∃ x,xs[i]?=some x/\RelV x u
 | _,_,_,_,.nil,e=>by simp at e
 | _,_,0,_,.cons r _,e=>by simp at e;subst e;exact⟨_,rfl,r⟩
 | _,_,i+1,u,.cons _ t,e=>by
  obtain⟨x,h1,h2⟩:=Vals.tog (i:=i) (u:=u) t (by simpa using e);exact⟨x,by simpa using h1,h2⟩
theorem a5f:∀ {ys:List Str}{us:List Value},Vals (ys.map V.str) us->StrsAre us ys
 | [],us,r=>by rw[List.map_nil]at r;cases r;exact .nil
 | y::ys,us,r=>by
  rw[List.map_cons]at r;cases r with
  | cons r1 r2=>
   obtain⟨t,e⟩:=r1;subst e;exact .cons y t (a5f r2)
theorem a9S (bs:List Bool):(List.range bs.length).all (fun i=>bs.getD i false)=bs.all id:=by
 rw[Bool.eq_iff_iff];simp only[List.all_eq_true,List.mem_range,id]
 constructor
 ·intro h b hb;obtain⟨i,hi,e⟩:=List.getElem_of_mem hb
  have:=h i hi
  rw[List.getD_eq_getElem?_getD,List.getElem?_eq_getElem hi]at this;rw[<- e];exact this
 ·intro h i hi;rw[List.getD_eq_getElem?_getD,List.getElem?_eq_getElem hi];exact h _ (List.getElem_mem hi)
section
variable {X:Cx}
theorem a9T (hc:X.calm=true):CallR X (.builtin "all") (fun xs H Q=>∃ (p:Addr) (bs:List Bool),xs=[.ref p]/\SqL X.K H p (bs.map V.bl)/\Q (.bl (bs.all id)) H):=by
 intro pins s σ H xs us Q I r h;obtain⟨p,bs,rfl,hq,q⟩:=h;obtain⟨u,rfl,r1⟩:=a3X r;cases r1;obtain⟨its,rv,pl,_⟩:=I.list hq;have hp:p<s.heap.objs.size:=by obtain⟨o,_,e,_⟩:=pl;exact Heap.lt_size e
 refine call_all_walk (wpAny_pyIter_list pl.isList ?_);have hh:X.A.in1.handled=none:=I.ok.hd hc;have il:(s.heap.push { cls:=.type "list_iterator",data:=.fields #[.ref p,rawInt 0] }).IsList p its.toArray:=by
  obtain⟨o,e,c⟩:=pl.isList;exact⟨o,Heap.get?_push_of_some _ e,c⟩
 refine⟨_,_,_,_,_,_,fun i=>bs.getD i false,rfl,Walks.list hh s.heap.objs.size p (Nat.ne_of_lt hp) its.toArray,⟨⟨_,Heap.get?_push_size _ rfl,rfl,rfl⟩,il⟩,?_,?_⟩
 ·intro i v s' Q' E' hv hQ;obtain⟨x,hx,rx⟩:=Vals.tog rv (by simpa using hv);rw[List.getElem?_map]at hx;cases hb:bs[i]? with
  | none=>rw[hb]at hx;cases hx
  | some b=>
   rw[hb]at hx;cases hx;cases rx;refine wpAny_truthy_bool ?_
   have:bs.getD i false=b:=by rw[List.getD_eq_getElem?_getD,hb];rfl
   dsimp only at hQ;rw[this]at hQ;exact hQ
 ·intro h' tk k;have e:(List.range its.toArray.size).all (fun i=>bs.getD i false)=bs.all id:=by
   have hl:its.toArray.size=bs.length:=by rw[List.size_toArray,<- rv.length,List.length_map]
   rw[hl];exact a9S bs
  rw[e];exact⟨.bl _,H,I.kept (t':=tk) (fun b o eb=>k b o (by simpa using Nat.ne_of_lt (Heap.lt_size eb)) (Heap.get?_push_of_some _ eb)),rfl,q⟩
theorem b4Y:OpR X (compareOp .Is) (fun x y H Q=>∃ a b,x=.bl a/\y=.bl b/\Q (.bl (a==b)) H):=by
 intro pins s σ H x y v u Q I rx ry h;obtain⟨a,b,rfl,rfl,q⟩:=h;cases rx;cases ry;exact wpAny_is_plain rfl (a0C I q (by cases a<;>cases b<;>rfl))
theorem b27:MtR X "str.join" (fun x vs H Q=>∃ (z:Str) (p:Addr) (ys:List Str),x=.str z/\vs=[.ref p]/\SqL X.K H p (ys.map V.str)/\(ys.map (·.length)).sum+ys.length*z.length≤16777216/\Q (.str (Txt.join z ys)) H):=by
 intro pins s σ H x xs v us Q I rx rs h;obtain⟨z,p,ys,rfl,rfl,hq,hz,q⟩:=h;obtain⟨t,rfl⟩:=rx;obtain⟨u,rfl,r1⟩:=a3X rs;cases r1;obtain⟨its,rv,pl,_⟩:=I.list hq;exact join_list pl.isList (by simpa using a5f rv) hz fun t' k=>⟨.str _,H,I.tok k,⟨_,rfl⟩,q⟩
def rSlS:V->Option Int->Option Int->Hp->VK->Prop:=fun x lo hi H Q=>∃ z,x=.str z/\z.length≤sizeLine/\Q (.str (Txt.slice z lo hi)) H
theorem b4Z:SlR X rSlS:=by
 intro pins s σ H x v vl vu lo hi sl Q I rx hs pl pu h;obtain⟨z,rfl,hz,q⟩:=h;obtain⟨t,rfl⟩:=rx;obtain⟨o,e,c,d⟩:=hs;have fin:∀ lo hi,Q (.str (Txt.slice z lo hi)) H->(Txt.slice z lo hi).length≤sizeLine/\∀ t' k,EP X pins σ Q (.str (Txt.slice z lo hi) t') { s with toks:=k }:=fun lo hi q=>
  ⟨Nat.le_trans (Txt.slice_le z _ _) hz,fun t' k=>⟨.str _,H,I.tok k,⟨_,rfl⟩,q⟩⟩
 cases pl with
 | none=>
  cases pu with
  | none=>exact⟨"str",_,F.slot_str_getitem.lookup,typeIs_str _ _ _,wpAny_getItem_str_slice (l:=none) (u:=none) (st:=none) ⟨o,e,c,d⟩ rfl (post_val_or_str (fin _ _ q))⟩
  | int j u=>exact⟨"str",_,F.slot_str_getitem.lookup,typeIs_str _ _ _,wpAny_getItem_str_slice (l:=none) (u:=some (j,u)) (st:=none) ⟨o,e,c,d⟩ rfl (post_val_or_str (fin _ _ q))⟩
 | int i v=>
  cases pu with
  | none=>exact⟨"str",_,F.slot_str_getitem.lookup,typeIs_str _ _ _,wpAny_getItem_str_slice (l:=some (i,v)) (u:=none) (st:=none) ⟨o,e,c,d⟩ rfl (post_val_or_str (fin _ _ q))⟩
  | int j u=>exact⟨"str",_,F.slot_str_getitem.lookup,typeIs_str _ _ _,wpAny_getItem_str_slice (l:=some (i,v)) (u:=some (j,u)) (st:=none) ⟨o,e,c,d⟩ rfl (post_val_or_str (fin _ _ q))⟩
end
end L2
namespace L3
open PySem PySem.Spec PyProof.Rows L2
section
variable {X:Cx}
theorem o_is:OpQ X (compareOp .Is) (zIs false):=a4S (op_isN.or b4Y) fun x y H Q hx=>hx.un fun a b G R ra rb hg h up=>by
 cases b with
 | non=>rw[a00]at rb;exact .inl ⟨rb,by rw[a5e ra];exact up _ _ _ _ h (by rw[a0O];rfl) hg (.refl _ _)⟩
 | bl b=>
  cases a with
  | bl a=>rw[a0O]at ra rb;exact .inr ⟨_,_,ra,rb,up _ _ _ _ h.2 (by rw[a0O]) hg (.refl _ _)⟩
  | _=>exact False.elim h
 | _=>exact False.elim h
theorem a5I:OpQ X (compareOp .IsNot) (zIs true):=a4S b2E fun x y H Q hx=>hx.un fun a b G R ra rb hg h up=>by
 cases b with
 | non=>rw[a00]at rb;exact⟨rb,by rw[a5e ra];exact up _ _ _ _ h (by rw[a0O];rfl) hg (.refl _ _)⟩
 | bl b=>
  cases a with
  | bl a=>exact nomatch h.1
  | _=>exact False.elim h
 | _=>exact False.elim h
def zIx:R3:=fun x y G R=>match x,y with
 | .ref p,.int i=>∃ ws w,G p=some (.lst ws)/\atI ws i=some w/\R w G
 | .scr _ ns,.int i=>∃ n,atI ns i=some n/\R (.int n) G
 | .tup ws,.int i=>∃ w,atI ws i=some w/\R w G
 | .str z,.int i=>∃ c,z.length≤sizeLine/\atI z.cps.toList i=some c/\R (.str ⟨#[c]⟩) G
 | _,_=>False
theorem a9U {K:Fg}{H:Hp}{ws:List Z}{vs:List V}{i:Int}{w:Z}(r:Reps K H ws vs) (h:atI ws i=some w):∃ v,atI vs i=some v/\Rep K H w v:=by
 unfold atI at h ⊢;rw[<- r.length];cases e:ixN ws.length i with
 | none=>rw[e]at h;cases h
 | some j=>
  rw[e]at h;exact r.get h
theorem b28 {α β:Type}{f:α->β}{xs:List α}{i:Int}{x:α}(h:atI xs i=some x):atI (xs.map f) i=some (f x):=by
 unfold atI at h ⊢;rw[List.length_map];cases e:ixN xs.length i with
 | none=>rw[e]at h;cases h
 | some j=>
  rw[e]at h;have h':xs[j]?=some x:=h
  show (xs.map f)[j]?=some (f x)
  rw[List.getElem?_map,h'];rfl
theorem x_ix:IxQ X zIx:=b6G b4v fun x y H Q hx=>hx.un fun a b G R ra rb hg h up=>by
  cases a<;>cases b<;>first
    | exact False.elim h
    | (rw[a0m]at ra
       rw[a0q]at rb;obtain⟨ws,w,e,hw,h⟩:=h;obtain⟨vs,e',rs⟩:=hg _ _ e;obtain⟨v,hv,rv⟩:=a9U rs hw;exact .inl ⟨_,_,_,v,ra,rb,SqL.of e',hv,up _ _ _ _ h rv hg (.refl _ _)⟩)
    | (rw[a1R]at ra
       rw[a0q]at rb;obtain⟨n,hn,h⟩:=h;exact .inl ⟨_,_,_,_,ra.1,rb,ra.2.sq,b28 hn,up _ _ _ _ h (by rw[a0q]) hg (.refl _ _)⟩)
    | (rw[a0U]at ra
       rw[a0q]at rb;obtain⟨p,vs,e,e',rs⟩:=ra;obtain⟨w,hw,h⟩:=h;obtain⟨v,hv,rv⟩:=a9U rs hw;exact .inr (.inl ⟨p,vs,_,v,e,rb,SqT.of e',hv,up _ _ _ _ h rv hg (.refl _ _)⟩))
    | (rw[a0A]at ra
       rw[a0q]at rb;obtain⟨c,hz,hc,h⟩:=h;exact .inr (.inr ⟨_,_,c,ra,rb,hz,hc,up _ _ _ _ h (by rw[a0A]) hg (.refl _ _)⟩))
def cutZ {α:Type}(xs:List α) (lo hi:Option Int):List α:=(xs.drop (HT.sIx xs.length 0 lo)).take (HT.sIx xs.length xs.length hi - HT.sIx xs.length 0 lo)
theorem b29 (xs:List V) (lo hi:Option Int):cutV xs lo hi=cutZ xs lo hi:=rfl
theorem a62 {α:Type}(xs:List α) (lo hi:Option Int):(cutZ xs lo hi).length≤xs.length:=by
 unfold cutZ;rw[List.length_take,List.length_drop];omega
theorem Reps.cut {K:Fg}{H:Hp}{ws:List Z}{vs:List V}(r:Reps K H ws vs) (lo hi:Option Int):Reps K H (cutZ ws lo hi) (cutV vs lo hi):=by
 unfold cutZ cutV;rw[<- r.length];exact (r.drop _).take _
theorem b1j {α β:Type}(f:α->β) (xs:List α) (lo hi:Option Int):cutZ (xs.map f) lo hi=(cutZ xs lo hi).map f:=by
 unfold cutZ;rw[List.length_map,List.map_take,List.map_drop]
def zSl:L3r:=fun x lo hi G R=>match x with
 | .ref p=>∃ ws,G p=some (.lst ws)/\∀ t,G t=none->R (.ref t) (put G t (.lst (cutZ ws lo hi)))
 | .scr _ ns=>∀ t,G t=none->R (.ref t) (put G t (.lst ((cutZ ns lo hi).map Z.int)))
 | .tup ws=>¬ (HT.sIx ws.length 0 lo=0/\HT.sIx ws.length ws.length hi=ws.length)/\R (.tup (cutZ ws lo hi)) G
 | .str z=>z.length≤sizeLine/\R (.str (Txt.slice z lo hi)) G
 | _=>False
theorem x_sl:SlQ X zSl:=b6H (sl_list.or (sl_tup.or b4Z)) fun x lo hi H Q hx=>hx.un fun a G R ra hg h up=>by
 cases a with
 | ref p=>
  rw[a0m]at ra;obtain⟨ws,e,h⟩:=h;obtain⟨vs,e',rs⟩:=hg _ _ e;exact .inl ⟨p,vs,ra,SqL.of e',fun t ht=>up _ _ _ _ (h t (hg.out ht)) (by rw[a0m]) (hg.set (.new ht) (a1s (rs.cut lo hi) (.new ht))) (.new ht)⟩
 | scr p ns=>
  rw[a1R]at ra;refine .inl ⟨p,_,ra.1,ra.2.sq,fun t ht=>?_⟩;rw[b29,b1j];exact up _ _ _ _ (h t (hg.out ht)) (by rw[a0m]) (hg.set (.new ht) (a1s (a2y _) (.new ht))) (.new ht)
 | tup ws=>
  rw[a0U]at ra;obtain⟨p,vs,e,e',rs⟩:=ra;exact .inr (.inl ⟨p,vs,e,SqT.of e',by rw[<- rs.length];exact h.1,fun t ht=>up _ _ _ _ h.2 (by rw[a0U];exact⟨t,_,rfl,a0y,(rs.cut lo hi).mono (.new ht)⟩) (hg.hid ht) (.new ht)⟩)
 | str z=>
  rw[a0A]at ra;exact .inr (.inr ⟨z,ra,h.1,up _ _ _ _ h.2 (by rw[a0A]) hg (.refl _ _)⟩)
 | _=>exact False.elim h
def zSet:Z3:=fun o i v G R=>match o,i with
 | .ref p,.int k=>∃ ws j,G p=some (.lst ws)/\ixN ws.length k=some j/\R (put G p (.lst (ws.set j v)))
 | _,_=>False
theorem b3a:SetQ X zSet:=b16 b0Z fun o i v H Q hx=>hx.un fun a b w G R ra rb rw' hg h up=>by
  cases a<;>cases b<;>first
    | exact False.elim h
    | (rw[a0m]at ra
       rw[a0q]at rb;obtain⟨ws,j,e,hj,h⟩:=h;obtain⟨vs,e',rs⟩:=hg _ _ e;exact⟨_,vs,_,j,ra,rb,e',by rw[<- rs.length];exact hj,up _ _ h (hg.set (.lst e') (a1s (rs.set rw' j) (.lst e'))) (.lst e')⟩)
def zLen:List Z->Hq->K3->Prop:=fun xs G R=>match xs with
 | [.str z]=>z.length≤sizeLine/\R (.int z.length) G
 | [.ref p]=>∃ ws,G p=some (.lst ws)/\R (.int ws.length) G
 | [.tup ws]=>R (.int ws.length) G
 | [.scr _ ns]=>R (.int ns.length) G
 | _=>False
theorem b_len:a2V X (.builtin "len") zLen:=a1y b0Q fun xs H Q hx=>hx.un fun ws G R rs hg h up=>by
 match ws,h with
 | [.str z],h=>
  obtain⟨v,rfl,r⟩:=rs.one;rw[a0A]at r;exact⟨v,z.length,rfl,by rw[r];exact⟨h.1,rfl⟩,up _ _ _ _ h.2 (by rw[a0q]) hg (.refl _ _)⟩
 | [.ref p],h=>
  obtain⟨v,rfl,r⟩:=rs.one;rw[a0m]at r;obtain⟨ys,e,h⟩:=h;obtain⟨vs,e',rs'⟩:=hg _ _ e;exact⟨v,ys.length,rfl,by rw[r];exact .inl ⟨vs,SqL.of e',rs'.length⟩,up _ _ _ _ h (by rw[a0q]) hg (.refl _ _)⟩
 | [.tup ys],h=>
  obtain⟨v,rfl,r⟩:=rs.one;rw[a0U]at r;obtain⟨p,vs,e,e',rs'⟩:=r;exact⟨v,ys.length,rfl,by rw[e];exact .inr ⟨vs,SqT.of e',rs'.length⟩,up _ _ _ _ h (by rw[a0q]) hg (.refl _ _)⟩
 | [.scr p ns],h=>
  obtain⟨v,rfl,r⟩:=rs.one;rw[a1R]at r;exact⟨v,ns.length,rfl,by rw[r.1];exact .inl ⟨_,r.2.sq,(List.length_map ..).symm⟩,up _ _ _ _ h (by rw[a0q]) hg (.refl _ _)⟩
def zMM (f:Int->Int->Int):List Z->Hq->K3->Prop:=fun xs G R=>match xs with
 | [.int i,.int j]=>R (.int (f i j)) G
 | _=>False
theorem bMM {id:String}{f:Int->Int->Int}(hf:CallR X (.builtin id) (fun xs H Q=>∃ i j,xs=[.int i,.int j]/\Q (.int (f i j)) H)):a2V X (.builtin id) (zMM f):=a1y hf fun xs H Q hx=>hx.un fun ws G R rs hg h up=>by
 match ws,h with
 | [.int i,.int j],h=>
  obtain⟨v,v',rfl,r,r'⟩:=rs.two;rw[a0q]at r r';exact⟨i,j,by rw[r,r'],up _ _ _ _ h (by rw[a0q]) hg (.refl _ _)⟩
theorem b_max (hc:X.calm=true):a2V X (.builtin "max") (zMM fun i j=>if j > i then j else i):=bMM (a89 hc)
theorem b_min (hc:X.calm=true):a2V X (.builtin "min") (zMM fun i j=>if j<i then j else i):=bMM (a9a hc)
def zAll:List Z->Hq->K3->Prop:=fun xs G R=>match xs with
 | [.ref p]=>∃ bs:List Bool,G p=some (.lst (bs.map Z.bl))/\R (.bl (bs.all id)) G
 | _=>False
theorem a7J {K:Fg}{H:Hp}:∀ {bs:List Bool}{vs:List V},Reps K H (bs.map Z.bl) vs->vs=bs.map V.bl
 | [],vs,h=>by rw[List.map_nil,a0w]at h;subst h;rfl
 | n::ns,vs,h=>by
  rw[List.map_cons,a0o]at h;obtain⟨v,r,rfl,h1,h2⟩:=h;rw[a0O]at h1;rw[h1,a7J h2];rfl
theorem a6o {K:Fg}{H:Hp}:∀ {bs:List Str}{vs:List V},Reps K H (bs.map Z.str) vs->vs=bs.map V.str
 | [],vs,h=>by rw[List.map_nil,a0w]at h;subst h;rfl
 | n::ns,vs,h=>by
  rw[List.map_cons,a0o]at h;obtain⟨v,r,rfl,h1,h2⟩:=h;rw[a0A]at h1;rw[h1,a6o h2];rfl
theorem b_all (hc:X.calm=true):a2V X (.builtin "all") zAll:=a1y (a9T hc) fun xs H Q hx=>hx.un fun ws G R rs hg h up=>by
 match ws,h with
 | [.ref p],h=>
  obtain⟨v,rfl,r⟩:=rs.one;rw[a0m]at r;obtain⟨bs,e,h⟩:=h;obtain⟨vs,e',rs'⟩:=hg _ _ e
  have:=a7J rs'
  subst this;exact⟨p,bs,by rw[r],SqL.of e',up _ _ _ _ h (by rw[a0O]) hg (.refl _ _)⟩
def b40:List Z->Hq->K3->Prop:=fun xs G R=>match xs with
 | [.ref p]=>∃ ws,G p=some (.lst ws)/\∀ t,G t=none->R (.ref t) (put G t (.lst ws))
 | [.tup ws]=>∀ t,G t=none->R (.ref t) (put G t (.lst ws))
 | [.scr _ ns]=>∀ t,G t=none->R (.ref t) (put G t (.lst (ns.map Z.int)))
 | _=>False
theorem b_list:a2V X (.type "list") b40:=a1y a6h fun xs H Q hx=>hx.un fun ws G R rs hg h up=>by
 match ws,h with
 | [.ref p],h=>
  obtain⟨v,rfl,r⟩:=rs.one;rw[a0m]at r;obtain⟨ys,e,h⟩:=h;obtain⟨vs,e',rs'⟩:=hg _ _ e;exact⟨p,vs,by rw[r],.inl (SqL.of e'),fun t ht=>up _ _ _ _ (h t (hg.out ht)) (by rw[a0m]) (hg.set (.new ht) (a1s rs' (.new ht))) (.new ht)⟩
 | [.tup ys],h=>
  obtain⟨v,rfl,r⟩:=rs.one;rw[a0U]at r;obtain⟨p,vs,e,e',rs'⟩:=r;exact⟨p,vs,by rw[e],.inr (SqT.of e'),fun t ht=>up _ _ _ _ (h t (hg.out ht)) (by rw[a0m]) (hg.set (.new ht) (a1s rs' (.new ht))) (.new ht)⟩
 | [.scr p ns],h=>
  obtain⟨v,rfl,r⟩:=rs.one;rw[a1R]at r;exact⟨p,_,by rw[r.1],.inl r.2.sq,fun t ht=>up _ _ _ _ (h t (hg.out ht)) (by rw[a0m]) (hg.set (.new ht) (a1s (a2y _) (.new ht))) (.new ht)⟩
def kit0 (n T:String):Option Bool:=if (Value.type n==Value.type T)=true then some true else if PySem.W.kitMeta T=true then (PySem.fastBuiltinMro n).map (·.contains (.type T)) else none
theorem b41 {K:Fg}{n T:String}:PySem.W.kitOne K (.type n) (.type T)=kit0 n T:=rfl
def tyN (G:Hq):Z->Option String
 | .non=>some "NoneType"
 | .bl _=>some "bool"
 | .int _=>some "int"
 | .str _=>some "str"
 | .tup _=>some "tuple"
 | .ref p=>match G p with
  | some (.lst _)=>some "list"
  | some (.dK _)=>some "dict"
  | _=>none
 | _=>none
def zIsT:List Z->Hq->K3->Prop:=fun xs G R=>match xs with
 | [x,.ty T]=>∃ n b,tyN G x=some n/\kit0 n T=some b/\R (.bl b) G
 | _=>False
theorem b1k {K:Fg}{G:Hq}{H:Hp}{x:Z}{v:V}{n:String}(h:tyN G x=some n) (r:Rep K H x v) (hg:RH K G H):TyOf K H v (.type n):=by
 cases x with
 | non=>rw[a00]at r;subst r;cases h;exact .non
 | bl _=>rw[a0O]at r;subst r;cases h;exact .bl _
 | int _=>rw[a0q]at r;subst r;cases h;exact .int _
 | str _=>rw[a0A]at r;subst r;cases h;exact .str _
 | tup ws=>rw[a0U]at r;obtain⟨a,vs,rfl,e,_⟩:=r;cases h;exact .tup e
 | ref p=>
  rw[a0m]at r;subst r;cases e:G p with
  | none=>simp[tyN,e]at h
  | some o=>
   cases o with
   | lst ws=>simp[tyN,e]at h;subst h;obtain⟨vs,e',_⟩:=hg _ _ e;exact .lst e'
   | dK kvs=>simp[tyN,e]at h;subst h;obtain⟨vs,e',_⟩:=hg _ _ e;exact .dK e'
   | ins C dx fs=>simp[tyN,e]at h
   | dF kvs=>simp[tyN,e]at h
 | ty _=>cases h
 | scr _ _=>cases h
theorem a5J:a2V X (.builtin "isinstance") zIsT:=a1y b1d fun xs H Q hx=>hx.un fun ws G R rs hg h up=>by
 match ws,h with
 | [x,.ty T],h=>
  obtain⟨v,v',rfl,r,r'⟩:=rs.two;rw[a7F]at r';obtain⟨n,b,e,k,h⟩:=h;exact⟨v,T,.type n,b,by rw[r'],b1k e r hg,by rw[b41];exact k,up _ _ _ _ h (by rw[a0O]) hg (.refl _ _)⟩
def a63:Z->List Z->Hq->K3->Prop:=fun x xs G R=>match x,xs with
 | .ref p,[y]=>∃ ws,G p=some (.lst ws)/\ws.length<sizeLine/\R .non (put G p (.lst (ws++[y])))
 | _,_=>False
theorem a1p:MtQ X "list.append" a63:=a9z a6j fun x xs H Q hx=>hx.un fun w ws G R rw' rs hg h up=>by
 match w,ws,h with
 | .ref p,[y],h=>
  rw[a0m]at rw';obtain⟨v,rfl,r⟩:=rs.one;obtain⟨ys,e,hz,h⟩:=h;obtain⟨vs,e',rs'⟩:=hg _ _ e;exact⟨p,vs,v,rw',rfl,e',by rw[<- rs'.length];exact hz,up _ _ _ _ h (by rw[a00]) (hg.set (.lst e') (a1s (rs'.append (.cons r .nil)) (.lst e'))) (.lst e')⟩
def a9V:Z->List Z->Hq->K3->Prop:=fun x xs G R=>match x,xs with
 | .ref p,[.ref q]=>∃ ws ys,G p=some (.lst ws)/\G q=some (.lst ys)/\ws.length+ys.length≤sizeLine/\R .non (put G p (.lst (ws++ys)))
 | _,_=>False
theorem b1l:MtQ X "list.extend" a9V:=a9z a9n fun x xs H Q hx=>hx.un fun w ws G R rw' rs hg h up=>by
 match w,ws,h with
 | .ref p,[.ref q],h=>
  rw[a0m]at rw';obtain⟨v,rfl,r⟩:=rs.one;rw[a0m]at r;obtain⟨ys,zs,e,e2,hz,h⟩:=h;obtain⟨vs,e',rs'⟩:=hg _ _ e;obtain⟨us,e2',rs2⟩:=hg _ _ e2;exact⟨p,q,vs,us,rw',by rw[r],e',e2',by rw[<- rs'.length,<- rs2.length];exact hz,up _ _ _ _ h (by rw[a00]) (hg.set (.lst e') (a1s (rs'.append rs2) (.lst e'))) (.lst e')⟩
def b42:Z->List Z->Hq->K3->Prop:=fun x xs G R=>match x,xs with
 | .str z,[.ref p]=>∃ ys:List Str,G p=some (.lst (ys.map Z.str))/\(ys.map (·.length)).sum+ys.length*z.length≤16777216/\R (.str (Txt.join z ys)) G
 | _,_=>False
theorem b43:MtQ X "str.join" b42:=a9z b27 fun x xs H Q hx=>hx.un fun w ws G R rw' rs hg h up=>by
 match w,ws,h with
 | .str z,[.ref p],h=>
  rw[a0A]at rw';obtain⟨v,rfl,r⟩:=rs.one;rw[a0m]at r;obtain⟨ys,e,hz,h⟩:=h;obtain⟨vs,e',rs'⟩:=hg _ _ e
  have:=a6o rs'
  subst this;exact⟨z,p,ys,rw',by rw[r],SqL.of e',hz,up _ _ _ _ h (by rw[a0A]) hg (.refl _ _)⟩
def b44:E3:=fun _ G R=>∀ p,G p=none->R (.ref p) (put G p (.dK []))
theorem b45 {pos:Pos}:QE X (.Dict [] [] pos) b44:=⟨a1r b03 fun τ H Q ⟨σ,G,R,hs,hg,h,up⟩ p hp=>up _ _ _ _ (h p (hg.out hp)) (by rw[a0m]) (hg.set (o:=.dK []) (.new hp) ⟨[],a0y,rfl,.nil⟩) (.new hp)⟩
def a32 (x:Str):List Z:=x.cps.toList.map fun c=>.str ⟨#[c]⟩
def wkS (x:Z) (G:Hq) (R:List Z->(Hq->Prop)->Hq->Prop):Prop:=match x with
 | .str z=>R (a32 z) (fun _=>True) G
 | _=>False
def iS (tl:E3):I3:=fun σ G R=>tl σ G fun x G1=>wkS x G1 R
theorem a9W {K:Fg}{x:Str}{H0:Hp}:a5G K (a32 x) (fun _=>True) (Its x) H0:=fun i G H hg t ok hi=>by
 have hl:(a32 x).length=x.cps.size:=by unfold a32;rw[List.length_map,Array.length_toList]
 refine⟨fun h=>by rw[h,hl];rfl,fun w hw=>?_⟩;unfold a32 at hw;rw[List.getElem?_map]at hw;cases hc:x.cps.toList[i]? with
 | none=>rw[hc]at hw;cases hw
 | some c=>
  rw[hc]at hw;cases hw;have hc':x.cps[i]?=some c:=by simpa using hc
  refine⟨(Array.getElem?_eq_some_iff.mp hc').1,?_⟩;rintro v H' ⟨rfl,c2,h2,rfl⟩;rw[hc']at h2;cases h2;exact⟨by rw[a0A],hg,.refl _ _⟩
theorem b46 {tg l:Expr}{tl:E3}(hl:QE X l tl):QI X tg l (iS tl):=a8A (b4X hl.p) fun τ H R2 hx=>hx.un fun σ G R hs hg h up=>by
 refine⟨σ,G,_,hs,hg,h,fun w G1 v H1 h1 rv hg1 t1=>?_⟩;cases w with
 | str x=>
  rw[a0A]at rv;exact⟨x,rv,up _ _ _ _ _ h1 a9W hg1 t1⟩
 | _=>exact False.elim h1
end
end L3
namespace L3
open PySem PySem.Spec PyProof.Rows L2
section
variable {σ:S3}{G:Hq}{R:K3}{Rb:Bool->Hq->Prop}{Ra:List Z->Hq->Prop}{nx bk ct:C3}{rt:K3}{t u:X3}{te ta tb tc to ti:E3}{c d:T3}{al:A3}{r r':R3}{w x y:Z}{i:Nat}
theorem b6J (e:σ[i]?=some (some w)) (h:R w G):uVar i σ G R:=⟨w,e,h⟩
theorem i_c (h:R w G):uC w σ G R:=h
theorem i_op (h:ta σ G fun x G1=>tb σ G1 fun y G2=>r x y G2 R):uOp r ta tb σ G R:=h
theorem i_un {r:Z->Hq->K3->Prop}(h:ta σ G fun x G1=>r x G1 R):uUn r ta σ G R:=h
theorem b47 (h:ta σ G fun x G1=>∃ k,x=.bl k/\Rb k G1):b1g ta σ G Rb:=h
theorem b3b (h:ta σ G fun x G1=>tb σ G1 fun y G2=>r x y G2 fun z G3=>∃ k,z=.bl k/\(if k=true then tc σ G3 fun w G4=>r' y w G4 R else R (.bl false) G3)):a9B r r' ta tb tc σ G R:=h
theorem b6K (h:c σ G fun k G1=>if k=true then d σ G1 Rb else Rb false G1):uAnd c d σ G Rb:=h
theorem i_or (h:c σ G fun k G1=>if k=true then Rb true G1 else d σ G1 Rb):uOr c d σ G Rb:=h
theorem b6L (h:c σ G fun k G1=>Rb (!k) G1):uNot c σ G Rb:=h
theorem b48 (h:ta σ G fun x G1=>∃ c,x=.bl c/\if c=true then tb σ G1 R else R (.bl false) G1):b4O ta tb σ G R:=h
theorem i_if (h:c σ G fun k G1=>if k=true then ta σ G1 R else tb σ G1 R):uIf c ta tb σ G R:=h
theorem b6M (h:ta σ G fun x G1=>tru x G1 Rb):uTru ta σ G Rb:=h
theorem b2c {p:Addr}{ws:List Z}(e:G p=some (.lst ws)) (h:Rb (!ws.isEmpty) G):tru (.ref p) G Rb:=.inl ⟨ws,e,h⟩
theorem i_sl {r:L3r}{tl th:O3}(h:te σ G fun x G1=>tl σ G1 fun l G2=>th σ G2 fun u G3=>r x l u G3 R):uSl r te tl th σ G R:=h
theorem b1m {Ro:Option Int->Hq->Prop}(h:Ro none G):a9E σ G Ro:=h
theorem b49 {Ro:Option Int->Hq->Prop}(h:te σ G fun x G1=>∃ i,x=.int i/\Ro (some i) G1):b4R te σ G Ro:=h
theorem b6N (h:Ra [] G):uNil σ G Ra:=h
theorem b5a (h:ta σ G fun x G1=>al σ G1 fun xs G2=>Ra (x::xs) G2):b4S ta al σ G Ra:=h
theorem b6O (h:al σ G fun xs G1=>xs.length≤sizeLine/\R (.tup xs) G1):uTup al σ G R:=h
theorem b6P (h:al σ G fun xs G1=>xs.length≤sizeLine/\∀ p,G1 p=none->R (.ref p) (put G1 p (.lst xs))):uLst al σ G R:=h
theorem i_cb {r:List Z->Hq->K3->Prop}(h:al σ G fun ws G1=>r ws G1 R):uCB r al σ G R:=h
theorem i_bm {T:String}{r:Z->List Z->Hq->K3->Prop}(h:to σ G fun x G1=>tyZ T x G1/\al σ G1 fun xs G2=>r x xs G2 R):uBM T r to al σ G R:=h
theorem b5b {sp:P3}(h:al σ G fun ws G1=>sp ws G1 R):b4T sp al σ G R:=h
theorem b5c (h:nx σ G):b4U nx rt bk ct σ G:=h
theorem b6Q (h:t (u nx rt bk ct) rt bk ct σ G):uSeq t u nx rt bk ct σ G:=h
theorem b5d (h:te σ G fun _ G1=>nx σ G1):b4V te nx rt bk ct σ G:=h
theorem b6R (h:te σ G rt):uRet te nx rt bk ct σ G:=h
theorem b6S (h:c σ G fun b G1=>if b=true then t nx rt bk ct σ G1 else u nx rt bk ct σ G1):uIfS c t u nx rt bk ct σ G:=h
theorem b6T {pt:Pt}(h:te σ G fun x G1=>∃ σ',a4U pt x σ=some σ'/\nx σ' G1):uAsg te pt nx rt bk ct σ G:=h
theorem b6U {r:Z3}(h:te σ G fun w G1=>to σ G1 fun o G2=>ti σ G2 fun i G3=>r o i w G3 fun G4=>nx σ G4):uPut te to ti r nx rt bk ct σ G:=h
theorem b1n (M:C3) (h:t M rt bk ct σ G) (h':∀ σ' G',M σ' G'->u nx rt bk ct σ' G'):uCut t u nx rt bk ct σ G:=⟨M,h,h'⟩
theorem b5e {a b:Int}(h:R (.int (a+b)) G):zAdd (.int a) (.int b) G R:=h
theorem a9X {a b:Str}(z:a.length+b.length≤sizeLine) (h:R (.str (a++b)) G):zAdd (.str a) (.str b) G R:=⟨z,h⟩
theorem b5f {xs ys:List Z}(e:xs≠[]) (z:xs.length+ys.length≤sizeLine) (h:R (.tup (xs++ys)) G):zAdd (.tup xs) (.tup ys) G R:=⟨e,z,h⟩
theorem b2d {p q:Addr}{xs ys:List Z}(e:G p=some (.lst xs)) (e':G q=some (.lst ys)) (z:xs.length+ys.length≤sizeLine) (h:∀ t,G t=none->R (.ref t) (put G t (.lst (xs++ys)))):zAdd (.ref p) (.ref q) G R:=⟨xs,ys,e,e',z,h⟩
theorem i_I {C:Int->Int->Prop}{g:Int->Int->Z}{a b:Int}(k:C a b) (h:R (g a b) G):zI C g (.int a) (.int b) G R:=⟨k,h⟩
theorem i_I0 {g:Int->Int->Z}{a b:Int}(h:R (g a b) G):zI0 g (.int a) (.int b) G R:=h
theorem b6V {a:Int}(h:R (.int (-a)) G):zNeg (.int a) G R:=h
theorem i_CI {f:Int->Int->Bool}{g:Str->Str->Bool}{a b:Int}(h:R (.bl (f a b)) G):zC f g (.int a) (.int b) G R:=h
theorem i_CS {f:Int->Int->Bool}{g:Str->Str->Bool}{a b:Str}(h:R (.bl (g a b)) G):zC f g (.str a) (.str b) G R:=h
theorem b6W (h:R (.bl (decide (x=.non))) G):zIs false x .non G R:=h
theorem b5g (h:R (.bl (!decide (x=.non))) G):zIs true x .non G R:=h
theorem b5h {f:Bool->Bool}{a b:Int}(h:R (.bl (f (decide (a=b)))) G):zEq f (.int a) (.int b) G R:=h
theorem b6X {f:Bool->Bool}{a b:Str}(h:R (.bl (f (decide (a=b)))) G):zEq f (.str a) (.str b) G R:=h
theorem a64 {f:Bool->Bool}{p q:Addr}{xs ys:List Z}(e:G p=some (.lst xs)) (e':G q=some (.lst ys)) (f1:xs.all (flat 8)=true) (f2:ys.all (flat 8)=true) (h:R (.bl (f (decide (xs=ys)))) G):zEq f (.ref p) (.ref q) G R:=⟨xs,ys,e,e',f1,f2,h⟩
theorem a0D {p:Addr}{ws:List Z}{k:Int}(e:G p=some (.lst ws)) (a:atI ws k=some w) (h:R w G):zIx (.ref p) (.int k) G R:=⟨ws,w,e,a,h⟩
theorem b6Y {p:Addr}{ns:List Int}{k n:Int}(a:atI ns k=some n) (h:R (.int n) G):zIx (.scr p ns) (.int k) G R:=⟨n,a,h⟩
theorem a33 {ws:List Z}{k:Int}(a:atI ws k=some w) (h:R w G):zIx (.tup ws) (.int k) G R:=⟨w,a,h⟩
theorem b3c {z:Str}{k:Int}{ch:Nat}(l:z.length≤sizeLine) (a:atI z.cps.toList k=some ch) (h:R (.str ⟨#[ch]⟩) G):zIx (.str z) (.int k) G R:=⟨ch,l,a,h⟩
theorem b3d {z:Str}{lo hi:Option Int}(l:z.length≤sizeLine) (h:R (.str (Txt.slice z lo hi)) G):zSl (.str z) lo hi G R:=⟨l,h⟩
theorem b3e {p:Addr}{ws:List Z}{lo hi:Option Int}(e:G p=some (.lst ws)) (h:∀ t,G t=none->R (.ref t) (put G t (.lst (cutZ ws lo hi)))):zSl (.ref p) lo hi G R:=⟨ws,e,h⟩
theorem b5i {p:Addr}{ns:List Int}{lo hi:Option Int}(h:∀ t,G t=none->R (.ref t) (put G t (.lst ((cutZ ns lo hi).map Z.int)))):zSl (.scr p ns) lo hi G R:=h
theorem a9Y {ws:List Z}{lo hi:Option Int}(n:¬ (HT.sIx ws.length 0 lo=0/\HT.sIx ws.length ws.length hi=ws.length)) (h:R (.tup (cutZ ws lo hi)) G):zSl (.tup ws) lo hi G R:=⟨n,h⟩
theorem b3f {p:Addr}{ws:List Z}{k:Int}{j:Nat}{Rg:Hq->Prop}(e:G p=some (.lst ws)) (a:ixN ws.length k=some j) (h:Rg (put G p (.lst (ws.set j w)))):zSet (.ref p) (.int k) w G Rg:=⟨ws,j,e,a,h⟩
theorem b5j (h:∀ p,G p=none->R (.ref p) (put G p (.dK []))):b44 σ G R:=h
theorem a7K {z:Str}(l:z.length≤sizeLine) (h:R (.int z.length) G):zLen [.str z] G R:=⟨l,h⟩
theorem a3U {p:Addr}{ws:List Z}(e:G p=some (.lst ws)) (h:R (.int ws.length) G):zLen [.ref p] G R:=⟨ws,e,h⟩
theorem b5k {ws:List Z}(h:R (.int ws.length) G):zLen [.tup ws] G R:=h
theorem b5l {p:Addr}{ns:List Int}(h:R (.int ns.length) G):zLen [.scr p ns] G R:=h
theorem i_mm {f:Int->Int->Int}{a b:Int}(h:R (.int (f a b)) G):zMM f [.int a,.int b] G R:=h
theorem b6Z {p:Addr}{bs:List Bool}(e:G p=some (.lst (bs.map Z.bl))) (h:R (.bl (bs.all id)) G):zAll [.ref p] G R:=⟨bs,e,h⟩
theorem a9Z {p:Addr}{ws:List Z}(e:G p=some (.lst ws)) (h:∀ t,G t=none->R (.ref t) (put G t (.lst ws))):b40 [.ref p] G R:=⟨ws,e,h⟩
theorem a8E {n T:String}{b:Bool}(e:tyN G x=some n) (k:kit0 n T=some b) (h:R (.bl b) G):zIsT [x,.ty T] G R:=⟨n,b,e,k,h⟩
theorem a07 {p:Addr}{ws:List Z}(e:G p=some (.lst ws)) (z:ws.length<sizeLine) (h:R .non (put G p (.lst (ws++[y])))):a63 (.ref p) [y] G R:=⟨ws,e,z,h⟩
theorem b1o {p q:Addr}{ws ys:List Z}(e:G p=some (.lst ws)) (e':G q=some (.lst ys)) (z:ws.length+ys.length≤sizeLine) (h:R .non (put G p (.lst (ws++ys)))):a9V (.ref p) [.ref q] G R:=⟨ws,ys,e,e',z,h⟩
theorem b5m {z:Str}{p:Addr}{ys:List Str}(e:G p=some (.lst (ys.map Z.str))) (l:(ys.map (·.length)).sum+ys.length*z.length≤16777216) (h:R (.str (Txt.join z ys)) G):b42 (.str z) [.ref p] G R:=⟨ys,e,l,h⟩
theorem b60 {z:Str}{P:Prop}(h:P):tyZ "str" (.str z) G/\P:=⟨rfl,h⟩
theorem a3c {p:Addr}{ws:List Z}{P:Prop}(e:G p=some (.lst ws)) (h:P):tyZ "list" (.ref p) G/\P:=⟨.inl ⟨rfl,ws,e⟩,h⟩
theorem i_nm {j:Nat}(h:nx (σ.set j (some w)) G):∃ σ',a4U (.nm j) w σ=some σ'/\nx σ' G:=⟨_,rfl,h⟩
theorem b5n {wi:I3}{pt:Pt}{tb:X3}(h:wi σ G fun ws ok G1=>FORB ws ok pt tb nx rt σ G1):uFor wi pt tb nx rt bk ct σ G:=h
theorem b61 {wi:I3}{cap:List (Option Nat)}{pt:Pt}{tt:T3}(h:wi σ G fun ws ok G1=>∀ D,G1 D=none->LCB ws ok cap pt tt te σ R D G1):uLC wi cap pt tt te σ G R:=h
variable {Ri:List Z->(Hq->Prop)->Hq->Prop}
theorem i_iL (h:te σ G fun x G1=>wkL x G1 Ri):iL te σ G Ri:=h
theorem i_iT (h:te σ G fun x G1=>wkT x G1 Ri):iT te σ G Ri:=h
theorem i_iS (h:te σ G fun x G1=>wkS x G1 Ri):iS te σ G Ri:=h
theorem b62 (h:al σ G fun ws G1=>∃ j:Int,ws=[.int j]/\-(2 ^ 62)≤j/\j<2 ^ 62/\Ri (rng 0 j.toNat) (fun _=>True) G1):iR1 al σ G Ri:=h
theorem a2z {p:Addr}{ws:List Z}(e:G p=some (.lst ws)) (h:Ri ws (fun G=>G p=some (.lst ws)) G):wkL (.ref p) G Ri:=⟨ws,e,h⟩
theorem b63 {ws:List Z}(h:Ri ws (fun _=>True) G):wkT (.tup ws) G Ri:=h
theorem b64 {z:Str}(h:Ri (a32 z) (fun _=>True) G):wkS (.str z) G Ri:=h
theorem i_tt (h:Rb true G):uTT σ G Rb:=h
end
theorem ifD {p A B:Prop}[Decidable p] (h1:p->A) (h2:¬ p->B):if decide p=true then A else B:=by
 by_cases c:p
 ·rw[if_pos (decide_eq_true c)];exact h1 c
 ·rw[if_neg (fun z=>c (of_decide_eq_true z))];exact h2 c
theorem ifN {p A B:Prop}[Decidable p] (h1:¬ p->A) (h2:p->B):if (!decide p)=true then A else B:=by
 by_cases c:p
 ·rw[if_neg (by simp[c])];exact h2 c
 ·rw[if_pos (by simp[c])];exact h1 c
theorem ifB {b:Bool}{A B:Prop}(h1:b=true->A) (h2:b=false->B):if b=true then A else B:=by
 cases b with
 | true=>rw[if_pos rfl];exact h1 rfl
 | false=>rw[if_neg (by decide)];exact h2 rfl
theorem ifNB {b:Bool}{A B:Prop}(h1:b=false->A) (h2:b=true->B):if (!b)=true then A else B:=by
 cases b with
 | false=>rw[if_pos (show (!false)=true from rfl)];exact h1 rfl
 | true=>rw[if_neg (by decide)];exact h2 rfl
theorem ifT {A B:Prop}(h:A):if true=true then A else B:=by rw[if_pos rfl];exact h
theorem ifF {A B:Prop}(h:B):if false=true then A else B:=by rw[if_neg (by decide)];exact h
theorem ifNN {A B:Prop}(h:A):if decide (Z.non=Z.non)=true then A else B:=by rw[if_pos (decide_eq_true rfl)];exact h
theorem ifNI {A B:Prop}{i:Int}(h:B):if decide (Z.int i=Z.non)=true then A else B:=by rw[if_neg (by simp)];exact h
theorem ifMN {A B:Prop}(h:B):if (!decide (Z.non=Z.non))=true then A else B:=by rw[if_neg (by simp)];exact h
theorem ifMI {A B:Prop}{i:Int}(h:A):if (!decide (Z.int i=Z.non))=true then A else B:=by rw[if_pos (by simp)];exact h
theorem at0 {α:Type}{a:α}{r:List α}:atI (a::r) 0=some a:=a13 (j:=0) rfl
theorem at1 {α:Type}{a b:α}{r:List α}:atI (a::b::r) 1=some b:=a13 (j:=1) rfl
def Sm (G G':Hq):Prop:=∀ b o,G b=some o->G' b=some o
theorem Sm.refl (G:Hq):Sm G G:=fun _ _ h=>h
theorem Sm.trans {G G1 G2:Hq}(a:Sm G G1) (b:Sm G1 G2):Sm G G2:=fun c o h=>b c o (a c o h)
theorem Sm.get {G G':Hq}{b:Addr}{o:O}(s:Sm G G') (h:G b=some o):G' b=some o:=s b o h
theorem Sm.new {G:Hq}{p:Addr}{o:O}(h:G p=none):Sm G (put G p o):=fun _ _ e=>a0n e h
theorem Sm.free {G G':Hq}(s:Sm G G') {p:Addr}(h:G' p=none):G p=none:=by
 cases e:G p with
 | none=>rfl
 | some o=>rw[s p o e]at h;cases h
def Kq (r:Addr) (G G':Hq):Prop:=∀ b o,G b=some o->b≠r->G' b=some o
theorem Kq.refl (r:Addr) (G:Hq):Kq r G G:=fun _ _ h _=>h
theorem Kq.trans {r:Addr}{G G1 G2:Hq}(a:Kq r G G1) (b:Kq r G1 G2):Kq r G G2:=fun c o h n=>b c o (a c o h n) n
theorem Kq.new {r p:Addr}{G:Hq}{o:O}(h:G p=none):Kq r G (put G p o):=fun _ _ e _=>a0n e h
theorem Kq.at {r:Addr}{G:Hq}{o:O}:Kq r G (put G r o):=fun _ _ e n=>by rw[a0B n];exact e
theorem Sm.kq {r:Addr}{G G':Hq}(s:Sm G G'):Kq r G G':=fun b o e _=>s b o e
theorem Sm.put {G G':Hq}{p:Addr}{o:O}(s:Sm G G') (h:G p=none):Sm G (put G' p o):=fun b u e=>by rw[a0B (a0x e h)];exact s b u e
end L3
set_option maxHeartbeats 4000000
namespace Tim
open PySem PyProof.Rows
abbrev KF:=Keyed->Int
def Kk (κ:KF) (xs:Array Keyed) (i:Nat):Int:=match xs[i]? with
 | some p=>κ p
 | none=>0
section
variable {κ:KF}{xs ys:Array Keyed}{i j:Nat}{p:Keyed}
theorem a65 (h:xs[i]?=some p):Kk κ xs i=κ p:=by unfold Kk;rw[h]
theorem a4w (h:xs[i]?=ys[j]?):Kk κ xs i=Kk κ ys j:=by unfold Kk;rw[h]
end
def LtOk (M:Model) (A:Around) (E:Value->Shared->Prop) (s:Shared) (κ:KF) (k0:SortKind) (a₀:Array Keyed):Prop:=
 ∀ x y,x∈a₀.toList->y∈a₀.toList->∀ (st:SortSt) (Q:Option Bool->SortSt->Prop),kindOf st=k0->Q (some (decide (κ x<κ y))) st->wpS M A E s (lt' x y) Q st
structure TB (k0:SortKind) (a₀:Array Keyed) (st:SortSt):Prop where
 pm:(arrOf st).Perm a₀
 kd:kindOf st=k0
 fl:failedOf st=none
theorem TB.sz {k0:SortKind}{a₀:Array Keyed}{st:SortSt}(h:TB k0 a₀ st):(arrOf st).size=a₀.size:=h.pm.size_eq
theorem TB.mem {k0:SortKind}{a₀:Array Keyed}{st:SortSt}(h:TB k0 a₀ st) {i:Nat}{p:Keyed}(e:(arrOf st)[i]?=some p):p∈a₀.toList:=by
 have hm:p∈(arrOf st).toList:=by rw[Array.mem_toList_iff];exact Array.mem_of_getElem? e
 exact (Array.perm_iff_toList_perm.mp h.pm).mem_iff.mp hm
theorem TB.arr {k0:SortKind}{a₀:Array Keyed}{st:SortSt}(h:TB k0 a₀ st) {xs:Array Keyed}(hp:xs.Perm (arrOf st)):TB k0 a₀ (setArr st xs):=⟨hp.trans h.pm,h.kd,h.fl⟩
section
variable {M:Model}{A:Around}{E:Value->Shared->Prop}{s:Shared}{κ:KF}{k0:SortKind}{a₀:Array Keyed}{st:SortSt}
theorem a0W {arr:Array Keyed}{i:Nat}{p:Keyed}{Q:Keyed->SortSt->Prop}(e:arr[i]?=some p) (h:Q p st):wpS M A E s (elem' arr i) Q st:=by
 rw[elem'_eq,e];exact wpS_pure h
theorem a6p {i j:Nat}{Q:Option Bool->SortSt->Prop}(L:LtOk M A E s κ k0 a₀) (B:TB k0 a₀ st) (hi:i<a₀.size) (hj:j<a₀.size)
  (h:Q (some (decide (Kk κ (arrOf st) i<Kk κ (arrOf st) j))) st):wpS M A E s (ltAt' i j) Q st:=by
 have e1:(arrOf st)[i]?=some ((arrOf st)[i]'(by rw[B.sz];exact hi)):=getElem?_pos ..;have e2:(arrOf st)[j]?=some ((arrOf st)[j]'(by rw[B.sz];exact hj)):=getElem?_pos ..;rw[ltAt'_eq];refine wpS_bind (wpS_get ?_);refine wpS_bind (a0W e1 (wpS_bind (a0W e2 ?_)));refine L _ _ (B.mem e1) (B.mem e2) st Q B.kd ?_;rw[a65 e1,a65 e2]at h;exact h
end
def a1T:Bool->Keyed->Array Keyed->Nat->Nat->Nat->StateT SortSt Sem (Option Nat):=sortPriv% PySem.Builtin.gallop
def bey (lft:Bool) (ky:Keyed) (ar:Array Keyed) (bs:Nat) (q:Nat):StateT SortSt Sem (Option Bool):=do
  let z <- elem' ar (bs+q)
  if lft then lt' z ky else return (<- lt' ky z).map (!·)
theorem a8F (lft:Bool) (ky:Keyed) (ar:Array Keyed) (bs n hnt:Nat):a1T lft ky ar bs n hnt=(do
 let mut lst:=0
 let mut oo:=1
 let mut l:=0
 let mut h:=0
 let some rgt <- bey lft ky ar bs hnt | return none
 if rgt then
  let mx:=n - hnt
  for _ in [0:n] do
   if oo≥mx then break
   let some mo <- bey lft ky ar bs (hnt+oo) | return none
   if !mo then break
   lst:=oo
   oo:=2*oo+1
  l:=hnt+lst+1
  h:=hnt+min oo mx
 else
  let mx:=hnt+1
  for _ in [0:n] do
   if oo≥mx then break
   let some fo <- bey lft ky ar bs (hnt - oo) | return none
   if fo then break
   lst:=oo
   oo:=2*oo+1
  l:=hnt+1 - min oo mx
  h:=hnt - lst
 for _ in [0:n] do
  if l≥h then break
  let m:=l+(h - l) / 2
  let some mo <- bey lft ky ar bs m | return none
  if mo then l:=m+1 else h:=m
 return some h):=rfl
def bq (lft:Bool) (k x:Int):Bool:=if lft then decide (x<k) else !decide (k<x)
section
variable {M:Model}{A:Around}{E:Value->Shared->Prop}{s:Shared}{κ:KF}{k0:SortKind}{a₀:Array Keyed}{st:SortSt}
theorem a90 {lft:Bool}{ky:Keyed}{ar:Array Keyed}{bs q:Nat}{Q:Option Bool->SortSt->Prop}(L:LtOk M A E s κ k0 a₀) (hk:kindOf st=k0) (hm:ky∈a₀.toList) (ha:∀ p∈ar.toList,p∈a₀.toList) (hq:bs+q<ar.size)
  (h:Q (some (bq lft (κ ky) (Kk κ ar (bs+q)))) st):wpS M A E s (bey lft ky ar bs q) Q st:=by
 have e1:ar[bs+q]?=some (ar[bs+q]'hq):=getElem?_pos ..;have hz:ar[bs+q]∈a₀.toList:=ha _ (by simp);unfold bey;refine wpS_bind (a0W e1 ?_);rw[a65 e1]at h;cases lft with
 | true=>
  simp only[if_true];exact L _ _ hz hm st Q hk h
 | false=>
  simp only[Bool.false_eq_true,if_false];exact wpS_bind (L _ _ hm hz st _ hk (wpS_pure h))
theorem a2H {lft:Bool}{ky:Keyed}{ar:Array Keyed}{bs n hnt:Nat}{Q:Option Nat->SortSt->Prop}(L:LtOk M A E s κ k0 a₀) (hk:kindOf st=k0) (hm:ky∈a₀.toList) (ha:∀ p∈ar.toList,p∈a₀.toList)
  (hn:bs+n≤ar.size) (hh:hnt<n) (mono:∀ i j,i≤j->j<n->Kk κ ar (bs+i)≤Kk κ ar (bs+j))
  (h:∀ h,h≤n->(∀ i,i<h->bq lft (κ ky) (Kk κ ar (bs+i))=true)->(∀ i,h≤i->i<n->bq lft (κ ky) (Kk κ ar (bs+i))=false)->Q (some h) st):wpS M A E s (a1T lft ky ar bs n hnt) Q st:=by
 have down:∀ i j,i≤j->j<n->bq lft (κ ky) (Kk κ ar (bs+j))=true->bq lft (κ ky) (Kk κ ar (bs+i))=true:=fun i j hij hj hb=>by
  have:=mono i j hij hj
  unfold bq at *;cases lft<;>simp at *<;>omega
 have up:∀ i j,i≤j->j<n->bq lft (κ ky) (Kk κ ar (bs+i))=false->bq lft (κ ky) (Kk κ ar (bs+j))=false:=fun i j hij hj hb=>by
  cases e:bq lft (κ ky) (Kk κ ar (bs+j)) with
  | false=>rfl
  | true=>rw[down i j hij hj e]at hb;cases hb
 rw[a8F];refine wpS_bind (a90 L hk hm ha (by omega) ?_);dsimp only;cases e0:bq lft (κ ky) (Kk κ ar (bs+hnt)) with
 | true=>
  rw[if_pos rfl];refine wpS_bind (wpS_mono (wpS_forRange (I:=fun x c st'=>st'=st/\∃ lst oo,c=(none,lst,oo)/\lst<oo/\x+1≤oo/\hnt+lst<n/\bq lft (κ ky) (Kk κ ar (bs+(hnt+lst)))=true)
   (Q:=fun c st'=>st'=st/\∃ lst oo,c=(none,lst,oo)/\lst<oo/\hnt+lst<n/\bq lft (κ ky) (Kk κ ar (bs+(hnt+lst)))=true/\(n - hnt≤oo\/(hnt+oo<n/\bq lft (κ ky) (Kk κ ar (bs+(hnt+oo)))=false))) ?step ?fin ?init) ?post)
  case init=>exact⟨rfl,0,1,rfl,by omega,by omega,by omega,e0⟩
  case fin=>
   rintro c st' ⟨rfl,lst,oo,rfl,a1,a2,a3,a4⟩;exact⟨rfl,lst,oo,rfl,a1,a3,a4,.inl (by omega)⟩
  case step=>
   rintro x c st' _ hx ⟨rfl,lst,oo,rfl,a1,a2,a3,a4⟩;dsimp only
   by_cases hge:oo≥n - hnt
   ·rw[if_pos hge];exact wpS_pure ⟨rfl,lst,oo,rfl,a1,a3,a4,.inl hge⟩
   ·rw[if_neg hge];refine wpS_bind (a90 L hk hm ha (by omega) ?_);cases e:bq lft (κ ky) (Kk κ ar (bs+(hnt+oo))) with
    | true=>
     dsimp only;rw[if_neg (by decide)];exact wpS_pure ⟨rfl,oo,2*oo+1,rfl,by omega,by omega,by omega,e⟩
    | false=>
     dsimp only;rw[if_pos (show (!false)=true from rfl)];exact wpS_pure ⟨rfl,lst,oo,rfl,a1,a3,a4,.inr ⟨by omega,e⟩⟩
  case post=>
   rintro c st' ⟨e1,lst,oo,rfl,a1,a3,a4,a5⟩;have e1:=e1.symm;subst e1;dsimp only;have hlh:hnt+lst+1≤hnt+min oo (n - hnt):=by omega
   have hhn:hnt+min oo (n - hnt)≤n:=by omega
   have hlo:∀ i,i<hnt+lst+1->bq lft (κ ky) (Kk κ ar (bs+i))=true:=fun i hi=>down i _ (by omega) (by omega) a4;have hhi:∀ i,hnt+min oo (n - hnt)≤i->i<n->bq lft (κ ky) (Kk κ ar (bs+i))=false:=fun i h1 h2=>by
    rcases a5 with a5 | ⟨a5,a6⟩
    ·omega
    ·exact up _ i (by omega) h2 a6
   generalize hnt+lst+1=l0 at hlh hlo ⊢;generalize hnt+min oo (n - hnt)=h0 at hlh hhn hhi ⊢;refine wpS_bind (wpS_mono (wpS_forRange (I:=fun x c st'=>st'=st/\∃ l r,c=(none,l,r)/\l≤r/\r≤n/\r - l≤n - x/\(∀ i,i<l->bq lft (κ ky) (Kk κ ar (bs+i))=true)/\(∀ i,r≤i->i<n->bq lft (κ ky) (Kk κ ar (bs+i))=false))
    (Q:=fun c st'=>st'=st/\∃ l,c=(none,l,l)/\l≤n/\(∀ i,i<l->bq lft (κ ky) (Kk κ ar (bs+i))=true)/\(∀ i,l≤i->i<n->bq lft (κ ky) (Kk κ ar (bs+i))=false)) ?st2 ?fi2 ?in2) ?po2)
   case in2=>exact⟨rfl,l0,h0,rfl,hlh,hhn,by omega,hlo,hhi⟩
   case fi2=>
    rintro c st' ⟨rfl,l,r,rfl,a1,a2,a3,a4,a5⟩
    have:l=r:=by omega
    subst this;exact⟨rfl,l,rfl,a2,a4,a5⟩
   case st2=>
    rintro x c st' _ hx ⟨rfl,l,r,rfl,a1,a2,a3,a4,a5⟩;dsimp only
    by_cases hge:l≥r
    ·rw[if_pos hge]
     have:l=r:=by omega
     subst this;exact wpS_pure ⟨rfl,l,rfl,a2,a4,a5⟩
    ·rw[if_neg hge];refine wpS_bind (a90 L hk hm ha (by omega) ?_);cases e:bq lft (κ ky) (Kk κ ar (bs+(l+(r - l) / 2))) with
     | true=>
      dsimp only;rw[if_pos rfl];exact wpS_pure ⟨rfl,_,r,rfl,by omega,a2,by omega,fun i hi=>down i _ (by omega) (by omega) e,a5⟩
     | false=>
      dsimp only;rw[if_neg (by decide)];exact wpS_pure ⟨rfl,l,_,rfl,by omega,by omega,by omega,a4,fun i h1 h2=>up _ i h1 h2 e⟩
   case po2=>
    rintro c st' ⟨rfl,l,rfl,a2,a4,a5⟩;exact wpS_pure (h l a2 a4 a5)
 | false=>
  rw[if_neg (by decide)];refine wpS_bind (wpS_mono (wpS_forRange (I:=fun x c st'=>st'=st/\∃ lst oo,c=(none,lst,oo)/\lst<oo/\x+1≤oo/\lst≤hnt/\bq lft (κ ky) (Kk κ ar (bs+(hnt - lst)))=false)
   (Q:=fun c st'=>st'=st/\∃ lst oo,c=(none,lst,oo)/\lst<oo/\lst≤hnt/\bq lft (κ ky) (Kk κ ar (bs+(hnt - lst)))=false/\(hnt+1≤oo\/(oo≤hnt/\bq lft (κ ky) (Kk κ ar (bs+(hnt - oo)))=true))) ?step ?fin ?init) ?post)
  case init=>exact⟨rfl,0,1,rfl,by omega,by omega,by omega,e0⟩
  case fin=>
   rintro c st' ⟨rfl,lst,oo,rfl,a1,a2,a3,a4⟩;exact⟨rfl,lst,oo,rfl,a1,a3,a4,.inl (by omega)⟩
  case step=>
   rintro x c st' _ hx ⟨rfl,lst,oo,rfl,a1,a2,a3,a4⟩;dsimp only
   by_cases hge:oo≥hnt+1
   ·rw[if_pos hge];exact wpS_pure ⟨rfl,lst,oo,rfl,a1,a3,a4,.inl hge⟩
   ·rw[if_neg hge];refine wpS_bind (a90 L hk hm ha (by omega) ?_);cases e:bq lft (κ ky) (Kk κ ar (bs+(hnt - oo))) with
    | true=>
     dsimp only;rw[if_pos rfl];exact wpS_pure ⟨rfl,lst,oo,rfl,a1,a3,a4,.inr ⟨by omega,e⟩⟩
    | false=>
     dsimp only;rw[if_neg (by decide)];exact wpS_pure ⟨rfl,oo,2*oo+1,rfl,by omega,by omega,by omega,e⟩
  case post=>
   rintro c st' ⟨e1,lst,oo,rfl,a1,a3,a4,a5⟩;have e1:=e1.symm;subst e1;dsimp only;have hlh:hnt+1 - min oo (hnt+1)≤hnt - lst:=by omega
   have hhn:hnt - lst≤n:=by omega
   have hlo:∀ i,i<hnt+1 - min oo (hnt+1)->bq lft (κ ky) (Kk κ ar (bs+i))=true:=fun i hi=>by
    rcases a5 with a5 | ⟨a5,a6⟩
    ·omega
    ·exact down i _ (by omega) (by omega) a6
   have hhi:∀ i,hnt - lst≤i->i<n->bq lft (κ ky) (Kk κ ar (bs+i))=false:=fun i h1 h2=>up _ i h1 h2 a4;generalize hnt+1 - min oo (hnt+1)=l0 at hlh hlo ⊢;generalize hnt - lst=h0 at hlh hhn hhi ⊢;refine wpS_bind (wpS_mono (wpS_forRange (I:=fun x c st'=>st'=st/\∃ l r,c=(none,l,r)/\l≤r/\r≤n/\r - l≤n - x/\(∀ i,i<l->bq lft (κ ky) (Kk κ ar (bs+i))=true)/\(∀ i,r≤i->i<n->bq lft (κ ky) (Kk κ ar (bs+i))=false))
    (Q:=fun c st'=>st'=st/\∃ l,c=(none,l,l)/\l≤n/\(∀ i,i<l->bq lft (κ ky) (Kk κ ar (bs+i))=true)/\(∀ i,l≤i->i<n->bq lft (κ ky) (Kk κ ar (bs+i))=false)) ?st2 ?fi2 ?in2) ?po2)
   case in2=>exact⟨rfl,l0,h0,rfl,hlh,hhn,by omega,hlo,hhi⟩
   case fi2=>
    rintro c st' ⟨rfl,l,r,rfl,a1,a2,a3,a4,a5⟩
    have:l=r:=by omega
    subst this;exact⟨rfl,l,rfl,a2,a4,a5⟩
   case st2=>
    rintro x c st' _ hx ⟨rfl,l,r,rfl,a1,a2,a3,a4,a5⟩;dsimp only
    by_cases hge:l≥r
    ·rw[if_pos hge]
     have:l=r:=by omega
     subst this;exact wpS_pure ⟨rfl,l,rfl,a2,a4,a5⟩
    ·rw[if_neg hge];refine wpS_bind (a90 L hk hm ha (by omega) ?_);cases e:bq lft (κ ky) (Kk κ ar (bs+(l+(r - l) / 2))) with
     | true=>
      dsimp only;rw[if_pos rfl];exact wpS_pure ⟨rfl,_,r,rfl,by omega,a2,by omega,fun i hi=>down i _ (by omega) (by omega) e,a5⟩
     | false=>
      dsimp only;rw[if_neg (by decide)];exact wpS_pure ⟨rfl,l,_,rfl,by omega,by omega,by omega,a4,fun i h1 h2=>up _ i h1 h2 e⟩
   case po2=>
    rintro c st' ⟨rfl,l,rfl,a2,a4,a5⟩;exact wpS_pure (h l a2 a4 a5)
end
end Tim
namespace Tim
open PySem PyProof.Rows
def a66:Nat->StateT SortSt Sem Unit:=sortPriv% PySem.Builtin.setMinGallop
theorem a4d (g:Nat):a66 g=modify fun s=>SortSt.mk' (kindOf s) (arrOf s) (pendingOf s) g (failedOf s):=rfl
def a4e:Array Keyed->Array Keyed->StateT SortSt Sem (Array Keyed):=sortPriv% PySem.Builtin.mergeLo
abbrev dnA (a b o:Array Keyed) (i j:Nat):Array Keyed:=o++a.extract i a.size++b.extract j b.size
abbrev dnB (a b o:Array Keyed) (i j:Nat):Array Keyed:=o++b.extract j b.size++a.extract i a.size
theorem a67 (a b:Array Keyed):a4e a b=(do
 rule "list.sort.merge-lo"
 let tot:=a.size+b.size
 let mut o:Array Keyed:=#[<- elem' b 0]
 let mut i:=0
 let mut j:=1
 if j==b.size then return dnA a b o i j
 if i+1==a.size then return dnB a b o i j
 let mut g:=gallopOf (<- get)
 for _ in [0:tot] do
  let mut ac:=0
  let mut bc:=0
  for _ in [0:tot] do
   let some bw <- lt' (<- elem' b j) (<- elem' a i) | return dnA a b o i j
   if bw then
    o:=o.push (<- elem' b j);j:=j+1;bc:=bc+1;ac:=0
    if j==b.size then return dnA a b o i j
    if bc≥g then break
   else
    o:=o.push (<- elem' a i);i:=i+1;ac:=ac+1;bc:=0
    if i+1==a.size then return dnB a b o i j
    if ac≥g then break
  rule "list.sort.gallop"
  g:=g+1
  for _ in [0:tot] do
   if g > 1 then g:=g - 1
   a66 g
   let some k <- a1T false (<- elem' b j) a i (a.size - i) 0 | return dnA a b o i j
   ac:=k
   if k > 0 then
    o:=o++a.extract i (i+k);i:=i+k
    if i+1==a.size then return dnB a b o i j
    if i==a.size then return dnA a b o i j
   o:=o.push (<- elem' b j);j:=j+1
   if j==b.size then return dnA a b o i j
   let some k <- a1T true (<- elem' a i) b j (b.size - j) 0 | return dnA a b o i j
   bc:=k
   if k > 0 then
    o:=o++b.extract j (j+k);j:=j+k
    if j==b.size then return dnA a b o i j
   o:=o.push (<- elem' a i);i:=i+1
   if i+1==a.size then return dnB a b o i j
   if ac<7&&bc<7 then break
  g:=g+1
  a66 g
 (unsupported "internal:list.sort.merge-bound")):=rfl
section
variable {κ:KF}{A B o:List Keyed}{i j:Nat}{p:Keyed}
abbrev Srt (κ:KF) (l:List Keyed):Prop:=l.Pairwise fun x y=>κ x≤κ y
structure MW (κ:KF) (A B o:List Keyed) (i j:Nat):Prop where
 ia:i≤A.length
 jb:j≤B.length
 pm:(o++(A.drop i++B.drop j)).Perm (A++B)
 so:Srt κ o
 ba:∀ x∈o,∀ y∈A.drop i,κ x≤κ y
 bb:∀ x∈o,∀ y∈B.drop j,κ x≤κ y
theorem MW.size (W:MW κ A B o i j):o.length=i+j:=by
 have:=W.pm.length_eq
 have h1:=W.ia;have h2:=W.jb;simp only[List.length_append,List.length_drop]at this;omega
theorem drop_get {l:List Keyed}{n:Nat}(h:l[n]?=some p):l.drop n=p::l.drop (n+1):=by
 obtain⟨hn,e⟩:=List.getElem?_eq_some_iff.mp h;rw[List.drop_eq_getElem_cons hn,e]
theorem a7L {l:List Keyed}(h:Srt κ l) (hb:∀ x∈l,κ x≤κ p):Srt κ (l++[p]):=by
 refine List.pairwise_append.mpr ⟨h,List.pairwise_singleton _ _,fun x hx y hy=>?_⟩;rw[List.mem_singleton.mp hy];exact hb x hx
theorem a1x {l:List Keyed}(h:Srt κ l) (n:Nat):Srt κ (l.drop n):=List.Pairwise.sublist (List.drop_sublist n l) h
theorem MW.pushA (W:MW κ A B o i j) (sa:Srt κ A) (hp:A[i]?=some p) (hb:∀ y∈B.drop j,κ p≤κ y):MW κ A B (o++[p]) (i+1) j:=by
 have hd:=drop_get hp;have hi:=(List.getElem?_eq_some_iff.mp hp).1;have hs:Srt κ (p::A.drop (i+1)):=hd▸a1x sa i;refine⟨hi,W.jb,?_,a7L W.so fun x hx=>W.ba x hx p (by rw[hd];exact List.mem_cons_self ..),fun x hx y hy=>?_,fun x hx y hy=>?_⟩
 ·have:=W.pm
  rw[hd]at this;simpa using this
 ·rcases List.mem_append.mp hx with h | h
  ·exact W.ba x h y (by rw[hd];exact List.mem_cons_of_mem _ hy)
  ·rw[List.mem_singleton.mp h];exact (List.pairwise_cons.mp hs).1 y hy
 ·rcases List.mem_append.mp hx with h | h
  ·exact W.bb x h y hy
  ·rw[List.mem_singleton.mp h];exact hb y hy
theorem MW.pushB (W:MW κ A B o i j) (sb:Srt κ B) (hp:B[j]?=some p) (hb:∀ y∈A.drop i,κ p≤κ y):MW κ A B (o++[p]) i (j+1):=by
 have hd:=drop_get hp;have hj:=(List.getElem?_eq_some_iff.mp hp).1;have hs:Srt κ (p::B.drop (j+1)):=hd▸a1x sb j;refine⟨W.ia,hj,?_,a7L W.so fun x hx=>W.bb x hx p (by rw[hd];exact List.mem_cons_self ..),fun x hx y hy=>?_,fun x hx y hy=>?_⟩
 ·have:=W.pm
  rw[hd]at this;refine List.Perm.trans ?_ this;rw[List.append_assoc];exact List.Perm.append_left o (show (p::(A.drop i++B.drop (j+1))).Perm _ from List.perm_middle.symm)
 ·rcases List.mem_append.mp hx with h | h
  ·exact W.ba x h y hy
  ·rw[List.mem_singleton.mp h];exact hb y hy
 ·rcases List.mem_append.mp hx with h | h
  ·exact W.bb x h y (by rw[hd];exact List.mem_cons_of_mem _ hy)
  ·rw[List.mem_singleton.mp h];exact (List.pairwise_cons.mp hs).1 y hy
theorem take_snoc {l:List Keyed}{n k:Nat}(h:l[n+k]?=some p):(l.drop n).take (k+1)=(l.drop n).take k++[p]:=by
 rw[List.take_add_one,List.getElem?_drop,h];rfl
theorem MW.runA (W:MW κ A B o i j) (sa:Srt κ A):∀ k,i+k≤A.length->(∀ q z,i≤q->q<i+k->A[q]?=some z->∀ y∈B.drop j,κ z≤κ y)->MW κ A B (o++(A.drop i).take k) (i+k) j
 | 0,_,_=>by simpa using W
 | k+1,hk,hz=>by
  have ih:=MW.runA W sa k (by omega) fun q z h1 h2=>hz q z h1 (by omega);have e:A[i+k]?=some A[i+k]:=List.getElem?_eq_getElem (by omega);rw[take_snoc e,<- List.append_assoc];exact ih.pushA sa e (hz _ _ (by omega) (by omega) e)
theorem MW.runB (W:MW κ A B o i j) (sb:Srt κ B):∀ k,j+k≤B.length->(∀ q z,j≤q->q<j+k->B[q]?=some z->∀ y∈A.drop i,κ z≤κ y)->MW κ A B (o++(B.drop j).take k) i (j+k)
 | 0,_,_=>by simpa using W
 | k+1,hk,hz=>by
  have ih:=MW.runB W sb k (by omega) fun q z h1 h2=>hz q z h1 (by omega);have e:B[j+k]?=some B[j+k]:=List.getElem?_eq_getElem (by omega);rw[take_snoc e,<- List.append_assoc];exact ih.pushB sb e (hz _ _ (by omega) (by omega) e)
def Mgd (κ:KF) (A B r:List Keyed):Prop:=r.Perm (A++B)/\Srt κ r
theorem MW.doneA (W:MW κ A B o i j) (sa:Srt κ A) (sb:Srt κ B) (h:i=A.length\/j=B.length):Mgd κ A B (o++A.drop i++B.drop j):=by
 refine⟨by rw[List.append_assoc];exact W.pm,?_⟩;rw[List.append_assoc];refine List.pairwise_append.mpr ⟨W.so,List.pairwise_append.mpr ⟨a1x sa i,a1x sb j,fun x hx y hy=>?_⟩,fun x hx y hy=>?_⟩
 ·rcases h with rfl | rfl
  ·rw[List.drop_length]at hx;cases hx
  ·rw[List.drop_length]at hy;cases hy
 ·rcases List.mem_append.mp hy with h | h
  ·exact W.ba x hx y h
  ·exact W.bb x hx y h
theorem MW.doneB (W:MW κ A B o i j) (sa:Srt κ A) (sb:Srt κ B) (h:i+1=A.length) (hl:∀ z,A[A.length - 1]?=some z->∀ y∈B,κ y≤κ z):Mgd κ A B (o++B.drop j++A.drop i):=by
 refine⟨?_,?_⟩
 ·rw[List.append_assoc];exact List.Perm.trans (List.Perm.append_left o List.perm_append_comm) W.pm
 ·rw[List.append_assoc];have e:A[i]?=some A[i]:=List.getElem?_eq_getElem (by omega);have hd:A.drop i=[A[i]]:=by rw[drop_get e,List.drop_eq_nil_of_le (by omega)]
  refine List.pairwise_append.mpr ⟨W.so,List.pairwise_append.mpr ⟨a1x sb j,a1x sa i,fun x hx y hy=>?_⟩,fun x hx y hy=>?_⟩
  ·rw[hd]at hy;rw[List.mem_singleton.mp hy];exact hl _ (by rw[show A.length - 1=i by omega];exact e) x (List.mem_of_mem_drop hx)
  ·rcases List.mem_append.mp hy with h | h
   ·exact W.bb x hx y h
   ·exact W.ba x hx y h
theorem a2c {l:List Keyed}(h:Srt κ l) {n:Nat}(hp:l[n]?=some p):∀ y∈l.drop n,κ p≤κ y:=fun y hy=>by
 have hs:=a1x h n;rw[drop_get hp]at hs hy;rcases List.mem_cons.mp hy with rfl | hy
 ·exact Int.le_refl _
 ·exact (List.pairwise_cons.mp hs).1 y hy
end
end Tim
namespace Tim
open PySem PyProof.Rows
abbrev SM:=StateT SortSt Sem
abbrev T1:=Option (Array Keyed)×Array Keyed×Nat×Nat×Nat×Nat
abbrev T2:=Option (Array Keyed)×Array Keyed×Nat×Nat×Nat×Nat×Nat
def lo1 (a b:Array Keyed) (g:Nat) (o:Array Keyed) (i j ac bc:Nat):SM (ForInStep T1):=do
 let y <- elem' b j
 let x <- elem' a i
 let r <- lt' y x
 match r with
 | some bw=>
  if bw=true then do
   let y <- elem' b j
   if (j+1==b.size)=true then pure (.done (some (dnA a b (o.push y) i (j+1)),o.push y,i,j+1,0,bc+1))
   else if bc+1≥g then pure (.done (none,o.push y,i,j+1,0,bc+1)) else pure (.yield (none,o.push y,i,j+1,0,bc+1))
  else do
   let x <- elem' a i
   if (i+1+1==a.size)=true then pure (.done (some (dnB a b (o.push x) (i+1) j),o.push x,i+1,j,ac+1,0))
   else if ac+1≥g then pure (.done (none,o.push x,i+1,j,ac+1,0)) else pure (.yield (none,o.push x,i+1,j,ac+1,0))
 | _=>pure (.done (some (dnA a b o i j),o,i,j,ac,bc))
def lo5 (a b:Array Keyed) (o:Array Keyed) (i j g ac bc:Nat):SM (ForInStep T2):=do
 let x <- elem' a i
 if (i+1+1==a.size)=true then pure (.done (some (dnB a b (o.push x) (i+1) j),o.push x,i+1,j,g,ac,bc))
 else if (decide (ac<7)&&decide (bc<7))=true then pure (.done (none,o.push x,i+1,j,g,ac,bc)) else pure (.yield (none,o.push x,i+1,j,g,ac,bc))
def lo4 (a b:Array Keyed) (o:Array Keyed) (i j g ac bc:Nat):SM (ForInStep T2):=do
 let y <- elem' b j
 if (j+1==b.size)=true then pure (.done (some (dnA a b (o.push y) i (j+1)),o.push y,i,j+1,g,ac,bc))
 else do
  let x <- elem' a i
  let r <- a1T true x b (j+1) (b.size - (j+1)) 0
  match r with
  | some k=>
   if k > 0 then
    if (j+1+k==b.size)=true then pure (.done (some (dnA a b (o.push y++b.extract (j+1) (j+1+k)) i (j+1+k)),o.push y++b.extract (j+1) (j+1+k),i,j+1+k,g,ac,k))
    else lo5 a b (o.push y++b.extract (j+1) (j+1+k)) i (j+1+k) g ac k
   else lo5 a b (o.push y) i (j+1) g ac k
  | _=>pure (.done (some (dnA a b (o.push y) i (j+1)),o.push y,i,j+1,g,ac,bc))
def lo3 (a b:Array Keyed) (o:Array Keyed) (i j g ac bc:Nat):SM (ForInStep T2):=do
 a66 g
 let y <- elem' b j
 let r <- a1T false y a i (a.size - i) 0
 match r with
 | some k=>
  if k > 0 then
   if (i+k+1==a.size)=true then pure (.done (some (dnB a b (o++a.extract i (i+k)) (i+k) j),o++a.extract i (i+k),i+k,j,g,k,bc))
   else if (i+k==a.size)=true then pure (.done (some (dnA a b (o++a.extract i (i+k)) (i+k) j),o++a.extract i (i+k),i+k,j,g,k,bc))
   else lo4 a b (o++a.extract i (i+k)) (i+k) j g k bc
  else lo4 a b o i j g k bc
 | _=>pure (.done (some (dnA a b o i j),o,i,j,g,ac,bc))
def lo2 (a b:Array Keyed) (o:Array Keyed) (i j g ac bc:Nat):SM (ForInStep T2):=
 if g > 1 then lo3 a b o i j (g - 1) ac bc else lo3 a b o i j g ac bc
theorem bd2 {α β:Type}{x y:SM α}{f g:α->SM β}(h:x=y) (h2:∀ a,f a=g a):x >>= f=y >>= g:=by rw[h,funext h2]
theorem a6q (a b:Array Keyed):a4e a b=(do
  liftM (rule "list.sort.merge-lo")
  let y <- elem' b 0
  if (1==b.size)=true then pure (dnA a b #[y] 0 1)
  else if (0+1==a.size)=true then pure (dnB a b #[y] 0 1)
  else do
   let st <- get
   let c <- forIn [0:a.size+b.size] ((none,#[y],0,1,gallopOf st):Option (Array Keyed)×Array Keyed×Nat×Nat×Nat) fun _ c=>do
    let c1 <- forIn [0:a.size+b.size] ((none,c.2.1,c.2.2.1,c.2.2.2.1,0,0):T1) fun _ c1=>lo1 a b c.2.2.2.2 c1.2.1 c1.2.2.1 c1.2.2.2.1 c1.2.2.2.2.1 c1.2.2.2.2.2
    match c1.1 with
    | some r=>pure (ForInStep.done (some r,c1.2.1,c1.2.2.1,c1.2.2.2.1,c.2.2.2.2))
    | none=>do
     liftM (rule "list.sort.gallop")
     let c2 <- forIn [0:a.size+b.size] ((none,c1.2.1,c1.2.2.1,c1.2.2.2.1,c.2.2.2.2+1,c1.2.2.2.2.1,c1.2.2.2.2.2):T2) fun _ c2=>lo2 a b c2.2.1 c2.2.2.1 c2.2.2.2.1 c2.2.2.2.2.1 c2.2.2.2.2.2.1 c2.2.2.2.2.2.2
     match c2.1 with
     | some r=>pure (ForInStep.done (some r,c2.2.1,c2.2.2.1,c2.2.2.2.1,c2.2.2.2.2.1))
     | none=>do
      a66 (c2.2.2.2.2.1+1)
      pure (ForInStep.yield (none,c2.2.1,c2.2.2.1,c2.2.2.2.1,c2.2.2.2.2.1+1))
   match c.1 with
   | some r=>pure r
   | none=>unsupported "internal:list.sort.merge-bound"):=by
 rw[a67];refine bind_congr fun _=>bind_congr fun y=>?_;dsimp only
 congr 1
 congr 1
 refine bind_congr fun st=>?_;refine bd2 ?_ fun c=>?_
 ·congr 1
  funext x c
  obtain⟨r,o,i,j,g⟩:=c;dsimp only;refine bd2 ?_ fun c1=>?_
  ·congr 1
  ·obtain⟨r,o,i,j,ac,bc⟩:=c1;cases r with
   | some r=>rfl
   | none=>
    refine bind_congr fun _=>?_;refine bd2 ?_ fun c2=>?_
    ·congr 1
    ·obtain⟨r,o,i,j,g,ac,bc⟩:=c2;cases r<;>rfl
 ·obtain⟨r,o,i,j,g⟩:=c;cases r<;>rfl
end Tim
namespace Tim
open PySem PyProof.Rows
structure SG (st st':SortSt):Prop where
 kd:kindOf st'=kindOf st
 ar:arrOf st'=arrOf st
 pe:pendingOf st'=pendingOf st
 fl:failedOf st'=failedOf st
theorem SG.refl (st:SortSt):SG st st:=⟨rfl,rfl,rfl,rfl⟩
theorem SG.trans {x y z:SortSt}(p:SG x y) (q:SG y z):SG x z:=⟨q.kd.trans p.kd,q.ar.trans p.ar,q.pe.trans p.pe,q.fl.trans p.fl⟩
section
variable {κ:KF}{a b o:Array Keyed}{i j:Nat}
theorem a3d:(dnA a b o i j).toList=o.toList++a.toList.drop i++b.toList.drop j:=by
 unfold dnA;simp[List.extract_eq_take_drop,List.take_of_length_le]
theorem a4f:(dnB a b o i j).toList=o.toList++b.toList.drop j++a.toList.drop i:=by
 unfold dnB;simp[List.extract_eq_take_drop,List.take_of_length_le]
theorem a7M {k:Nat}:(o++a.extract i (i+k)).toList=o.toList++(a.toList.drop i).take k:=by
 simp[List.extract_eq_take_drop]
theorem a08 (h:i<a.size):a.toList[i]?=some a[i]:=by simp[h]
theorem a1i (h:i<a.size):Kk κ a i=κ a[i]:=a65 (getElem?_pos ..)
theorem a3e (h:Srt κ a.toList) {n:Nat}(hn:i+n≤a.size):∀ p q,p≤q->q<n->Kk κ a (i+p)≤Kk κ a (i+q):=fun p q hp hq=>by
 rw[a1i (show i+p<a.size by omega),a1i (show i+q<a.size by omega)]
 by_cases e:p=q
 ·subst e;exact Int.le_refl _
 ·have:=List.pairwise_iff_getElem.mp h (i+p) (i+q) (by simp;omega) (by simp;omega) (by omega)
  simpa using this
end
structure MC (M:Model) (A:Around) (E:Value->Shared->Prop) (s:Shared) (κ:KF) (k0:SortKind) (a₀ a b:Array Keyed):Prop where
 L:LtOk M A E s κ k0 a₀
 ha:∀ p∈a.toList,p∈a₀.toList
 hb:∀ p∈b.toList,p∈a₀.toList
 sa:Srt κ a.toList
 sb:Srt κ b.toList
 h0:0<a.size
 h1:0<b.size
 hf:∀ y∈a.toList,Kk κ b 0≤κ y
 hl:∀ z,a.toList[a.toList.length - 1]?=some z->∀ y∈b.toList,κ y≤κ z
structure Rdy (κ:KF) (a b o:Array Keyed) (i j:Nat):Prop where
 w:MW κ a.toList b.toList o.toList i j
 hi:i+1<a.size
 hj:j<b.size
section
variable {M:Model}{A:Around}{E:Value->Shared->Prop}{s:Shared}{κ:KF}{k0:SortKind}{a₀ a b o:Array Keyed}{st:SortSt}{i j g ac bc:Nat}
theorem a5g {α:Type}{w:String}{f:Unit->SM α}{Q:α->SortSt->Prop}(h:wpS M A E s (f ()) Q st):wpS M A E s ((liftM (rule w):SM Unit) >>= f) Q st:=
 wpS_bind (wpS_lift (wpAny_rule ⟨rfl,h⟩))
theorem a1c (a:Array Keyed):a.toList.length=a.size:=by simp
theorem b65 {Q:ForInStep T1->SortSt->Prop}(C:MC M A E s κ k0 a₀ a b) (hk:kindOf st=k0) (R:Rdy κ a b o i j)
  (dn:∀ r c,Mgd κ a.toList b.toList r.toList->Q (.done (some r,c)) st)
  (br:∀ o' i' j' x y,Rdy κ a b o' i' j'->i'+j'=i+j+1->Q (.done (none,o',i',j',x,y)) st)
  (go:∀ o' i' j' x y,Rdy κ a b o' i' j'->i'+j'=i+j+1->Q (.yield (none,o',i',j',x,y)) st):wpS M A E s (lo1 a b g o i j ac bc) Q st:=by
 have hi:=R.hi;have hj:=R.hj;have eb:b[j]?=some b[j]:=getElem?_pos ..;have ea:a[i]?=some a[i]:=getElem?_pos ..;have lb:=a08 hj;have la:=a08 (a:=a) (i:=i) (by omega);unfold lo1;refine wpS_bind (a0W eb (wpS_bind (a0W ea (wpS_bind ?_))));refine C.L _ _ (C.hb _ (List.mem_of_getElem? lb)) (C.ha _ (List.mem_of_getElem? la)) st _ hk ?_;dsimp only
 by_cases c:κ b[j]<κ a[i]
 ·rw[if_pos (decide_eq_true c)];refine wpS_bind (a0W eb ?_);have w2:=R.w.pushB C.sb lb fun y hy=>Int.le_trans (Int.le_of_lt c) (a2c C.sa la y hy);rw[<- Array.toList_push]at w2
  by_cases e:j+1=b.size
  ·rw[if_pos (by simpa using e)];exact wpS_pure (dn _ _ (by rw[a3d];exact w2.doneA C.sa C.sb (.inr (by rw[a1c];exact e))))
  ·rw[if_neg (by simpa using e)];have R2:Rdy κ a b (o.push b[j]) i (j+1):=⟨w2,hi,by omega⟩
   split
   ·exact wpS_pure (br _ _ _ _ _ R2 (by omega))
   ·exact wpS_pure (go _ _ _ _ _ R2 (by omega))
 ·rw[if_neg (by simpa using c)];refine wpS_bind (a0W ea ?_);have w2:=R.w.pushA C.sa la fun y hy=>Int.le_trans (Int.not_lt.mp c) (a2c C.sb lb y hy);rw[<- Array.toList_push]at w2
  by_cases e:i+1+1=a.size
  ·rw[if_pos (by simpa using e)];exact wpS_pure (dn _ _ (by rw[a4f];exact w2.doneB C.sa C.sb (by rw[a1c];exact e) C.hl))
  ·rw[if_neg (by simpa using e)];have R2:Rdy κ a b (o.push a[i]) (i+1) j:=⟨w2,by omega,hj⟩
   split
   ·exact wpS_pure (br _ _ _ _ _ R2 (by omega))
   ·exact wpS_pure (go _ _ _ _ _ R2 (by omega))
structure G2 (st:SortSt) (κ:KF) (a b:Array Keyed) (n:Nat) (Q:ForInStep T2->SortSt->Prop):Prop where
 dn:∀ r c st',SG st st'->Mgd κ a.toList b.toList r.toList->Q (.done (some r,c)) st'
 br:∀ o' i' j' x y z st',SG st st'->Rdy κ a b o' i' j'->n<i'+j'->Q (.done (none,o',i',j',x,y,z)) st'
 go:∀ o' i' j' x y z st',SG st st'->Rdy κ a b o' i' j'->n<i'+j'->Q (.yield (none,o',i',j',x,y,z)) st'
theorem b5o {Q:ForInStep T2->SortSt->Prop}{n:Nat}(C:MC M A E s κ k0 a₀ a b) (R:Rdy κ a b o i j) (hle:∀ y∈b.toList.drop j,Kk κ a i≤κ y) (H:G2 st κ a b n Q) (hn:n≤i+j):wpS M A E s (lo5 a b o i j g ac bc) Q st:=by
 have hi:=R.hi;have hj:=R.hj;have ea:a[i]?=some a[i]:=getElem?_pos ..;have la:=a08 (a:=a) (i:=i) (by omega);rw[a1i (show i<a.size by omega)]at hle;unfold lo5;refine wpS_bind (a0W ea ?_);have w2:=R.w.pushA C.sa la hle;rw[<- Array.toList_push]at w2
 by_cases e:i+1+1=a.size
 ·rw[if_pos (by simpa using e)];exact wpS_pure (H.dn _ _ _ (SG.refl _) (by rw[a4f];exact w2.doneB C.sa C.sb (by rw[a1c];exact e) C.hl))
 ·rw[if_neg (by simpa using e)];have R2:Rdy κ a b (o.push a[i]) (i+1) j:=⟨w2,by omega,hj⟩
  split
  ·exact wpS_pure (H.br _ _ _ _ _ _ _ (SG.refl _) R2 (by omega))
  ·exact wpS_pure (H.go _ _ _ _ _ _ _ (SG.refl _) R2 (by omega))
theorem a2Y {l:List Keyed}{n:Nat}{y:Keyed}(h:y∈l.drop n):∃ q,n≤q/\q<l.length/\l[q]?=some y:=by
 obtain⟨m,hm⟩:=List.getElem?_of_mem h;rw[List.getElem?_drop]at hm;exact⟨n+m,by omega,(List.getElem?_eq_some_iff.mp hm).1,hm⟩
theorem a4x {q:Nat}{z:Keyed}(h:a.toList[q]?=some z):Kk κ a q=κ z:=a65 (by rw[<- Array.getElem?_toList];exact h)
theorem b5p {Q:ForInStep T2->SortSt->Prop}{n:Nat}(C:MC M A E s κ k0 a₀ a b) (hk:kindOf st=k0) (R:Rdy κ a b o i j) (hle:∀ y∈a.toList.drop i,Kk κ b j≤κ y) (H:G2 st κ a b n Q) (hn:n≤i+j):wpS M A E s (lo4 a b o i j g ac bc) Q st:=by
 have hi:=R.hi;have hj:=R.hj;have eb:b[j]?=some b[j]:=getElem?_pos ..;have lb:=a08 hj;have ea:a[i]?=some a[i]:=getElem?_pos ..;have la:=a08 (a:=a) (i:=i) (by omega);rw[a1i hj]at hle;unfold lo4;refine wpS_bind (a0W eb ?_);have w2:=R.w.pushB C.sb lb hle;rw[<- Array.toList_push]at w2
 by_cases e:j+1=b.size
 ·rw[if_pos (by simpa using e)];exact wpS_pure (H.dn _ _ _ (SG.refl _) (by rw[a3d];exact w2.doneA C.sa C.sb (.inr (by rw[a1c];exact e))))
 ·rw[if_neg (by simpa using e)];refine wpS_bind (a0W ea (wpS_bind ?_));refine a2H C.L hk (C.ha _ (List.mem_of_getElem? la)) C.hb (by omega) (by omega) (a3e C.sb (by omega)) fun k hkn hlt hge=>?_;dsimp only;have rest:∀ y∈b.toList.drop (j+1+k),Kk κ a i≤κ y:=fun y hy=>by
   obtain⟨q,h1,h2,h3⟩:=a2Y hy;rw[a1c]at h2
   have:=hge (q - (j+1)) (by omega) (by omega)
   rw[show j+1+(q - (j+1))=q by omega,a4x h3]at this;simp[bq]at this;rw[a1i (show i<a.size by omega)];omega
  split
  ·have w3:=w2.runB C.sb k (by rw[a1c];omega) fun q z h1 h2 h3 y hy=>by
    have:=hlt (q - (j+1)) (by omega)
    rw[show j+1+(q - (j+1))=q by omega,a4x h3]at this;simp[bq]at this;exact Int.le_trans (Int.le_of_lt this) (a2c C.sa la y hy)
   rw[<- a7M]at w3
   by_cases e2:j+1+k=b.size
   ·rw[if_pos (by simpa using e2)];exact wpS_pure (H.dn _ _ _ (SG.refl _) (by rw[a3d];exact w3.doneA C.sa C.sb (.inr (by rw[a1c];exact e2))))
   ·rw[if_neg (by simpa using e2)];exact b5o C ⟨w3,hi,by omega⟩ rest H (by omega)
  ·have:k=0:=by omega
   subst this;exact b5o C ⟨w2,hi,by omega⟩ rest H (by omega)
theorem b66 {Q:ForInStep T2->SortSt->Prop}{n:Nat}(C:MC M A E s κ k0 a₀ a b) (hk:kindOf st=k0) (R:Rdy κ a b o i j) (H:G2 st κ a b n Q) (hn:n≤i+j):wpS M A E s (lo3 a b o i j g ac bc) Q st:=by
 have hi:=R.hi;have hj:=R.hj;have eb:b[j]?=some b[j]:=getElem?_pos ..;have lb:=a08 hj;unfold lo3;rw[a4d];refine wpS_bind (wpS_modify ?_);have g1:SG st (SortSt.mk' (kindOf st) (arrOf st) (pendingOf st) g (failedOf st)):=⟨rfl,rfl,rfl,rfl⟩;have hk1:kindOf (SortSt.mk' (kindOf st) (arrOf st) (pendingOf st) g (failedOf st))=k0:=hk;generalize SortSt.mk' (kindOf st) (arrOf st) (pendingOf st) g (failedOf st)=st1 at g1 hk1;have H1:G2 st1 κ a b n Q:=⟨fun r c st' g=>H.dn r c st' (g1.trans g),fun _ _ _ _ _ _ st' g=>H.br _ _ _ _ _ _ st' (g1.trans g),fun _ _ _ _ _ _ st' g=>H.go _ _ _ _ _ _ st' (g1.trans g)⟩;refine wpS_bind (a0W eb (wpS_bind ?_));refine a2H C.L hk1 (C.hb _ (List.mem_of_getElem? lb)) C.ha (by omega) (by omega) (a3e C.sa (by omega)) fun k hkn hlt hge=>?_;dsimp only;have rest:∀ y∈a.toList.drop (i+k),Kk κ b j≤κ y:=fun y hy=>by
  obtain⟨q,h1,h2,h3⟩:=a2Y hy;rw[a1c]at h2
  have:=hge (q - i) (by omega) (by omega)
  rw[show i+(q - i)=q by omega,a4x h3]at this;simp[bq]at this;rw[a1i hj];omega
 split
 ·have w3:=R.w.runA C.sa k (by rw[a1c];omega) fun q z h1 h2 h3 y hy=>by
   have:=hlt (q - i) (by omega)
   rw[show i+(q - i)=q by omega,a4x h3]at this;simp[bq]at this;exact Int.le_trans this (a2c C.sb lb y hy)
  rw[<- a7M]at w3
  by_cases e1:i+k+1=a.size
  ·rw[if_pos (by simpa using e1)];exact wpS_pure (H1.dn _ _ _ (SG.refl _) (by rw[a4f];exact w3.doneB C.sa C.sb (by rw[a1c];exact e1) C.hl))
  ·rw[if_neg (by simpa using e1)]
   by_cases e2:i+k=a.size
   ·rw[if_pos (by simpa using e2)];exact wpS_pure (H1.dn _ _ _ (SG.refl _) (by rw[a3d];exact w3.doneA C.sa C.sb (.inl (by rw[a1c];exact e2))))
   ·rw[if_neg (by simpa using e2)];exact b5p C hk1 ⟨w3,by omega,hj⟩ rest H1 (by omega)
 ·have:k=0:=by omega
  subst this;exact b5p C hk1 ⟨R.w,hi,hj⟩ rest H1 (by omega)
theorem b67 {Q:ForInStep T2->SortSt->Prop}{n:Nat}(C:MC M A E s κ k0 a₀ a b) (hk:kindOf st=k0) (R:Rdy κ a b o i j) (H:G2 st κ a b n Q) (hn:n≤i+j):wpS M A E s (lo2 a b o i j g ac bc) Q st:=by
 unfold lo2
 split<;>exact b66 C hk R H hn
theorem b1p (C:MC M A E s κ k0 a₀ a b):MW κ a.toList b.toList [b[0]'C.h1] 0 1:=by
 have lb:=a08 C.h1;have w0:MW κ a.toList b.toList [] 0 0:=⟨Nat.zero_le _,Nat.zero_le _,by simp,.nil,fun x h=>by simp at h,fun x h=>by simp at h⟩;exact w0.pushB C.sb lb fun y hy=>by rw[<- a1i (κ:=κ) C.h1];exact C.hf y (by simpa using hy)
theorem a91 {Q:Array Keyed->SortSt->Prop}(C:MC M A E s κ k0 a₀ a b) (hk:kindOf st=k0)
  (h:∀ r st',SG st st'->Mgd κ a.toList b.toList r.toList->Q r st'):wpS M A E s (a4e a b) Q st:=by
 have h0:=C.h0;have h1:=C.h1;rw[a6q];refine a5g ?_;refine wpS_bind (a0W (getElem?_pos b 0 C.h1) ?_);have w0:=b1p C
 by_cases e1:1=b.size
 ·rw[if_pos (by simpa using e1)];exact wpS_pure (h _ _ (SG.refl _) (by rw[a3d];exact w0.doneA C.sa C.sb (.inr (by rw[a1c];exact e1))))
 rw[if_neg (by simpa using e1)]
 by_cases e2:0+1=a.size
 ·rw[if_pos (by simpa using e2)];exact wpS_pure (h _ _ (SG.refl _) (by rw[a4f];exact w0.doneB C.sa C.sb (by rw[a1c];exact e2) C.hl))
 rw[if_neg (by simpa using e2)];refine wpS_bind (wpS_get ?_);have R0:Rdy κ a b #[b[0]] 0 1:=⟨w0,by omega,by omega⟩;refine wpS_bind (wpS_mono (wpS_forRange (I:=fun x c st'=>∃ o i j g,c=(none,o,i,j,g)/\SG st st'/\Rdy κ a b o i j/\x<i+j)
  (Q:=fun c st'=>∃ r c',c=(some r,c')/\SG st st'/\Mgd κ a.toList b.toList r.toList) ?step ?fin ⟨_,_,_,_,rfl,SG.refl _,R0,by omega⟩) ?post)
 case post=>
  rintro c st' ⟨r,c',rfl,g1,m⟩;exact wpS_pure (h r st' g1 m)
 case fin=>
  rintro c st' ⟨o,i,j,g,rfl,g1,R,hx⟩
  have:=R.hi
  have:=R.hj
  omega
 case step=>
  rintro x c st' _ hx ⟨o,i,j,g,rfl,g1,R,hxi⟩;dsimp only;have hk1:kindOf st'=k0:=g1.kd.trans hk;refine wpS_bind (wpS_mono (wpS_forRange (I:=fun y c st2=>∃ o' i' j' ac bc,c=(none,o',i',j',ac,bc)/\st2=st'/\Rdy κ a b o' i' j'/\i+j+y≤i'+j')
   (Q:=fun c st2=>st2=st'/\((∃ r c',c=(some r,c')/\Mgd κ a.toList b.toList r.toList)\/∃ o' i' j' ac bc,c=(none,o',i',j',ac,bc)/\Rdy κ a b o' i' j'/\i+j≤i'+j')) ?st1 ?fi1 ⟨_,_,_,_,_,rfl,rfl,R,by omega⟩) ?po1)
  case fi1=>
   rintro c st2 ⟨o',i',j',ac,bc,rfl,rfl,R',hy⟩
   have:=R'.hi
   have:=R'.hj
   omega
  case st1=>
   rintro y c st2 _ hy ⟨o',i',j',ac,bc,rfl,rfl,R',hyi⟩;dsimp only;refine b65 C hk1 R' (fun r c m=>⟨rfl,.inl ⟨r,c,rfl,m⟩⟩) (fun o2 i2 j2 u v R2 hs=>⟨rfl,.inr ⟨_,_,_,_,_,rfl,R2,by omega⟩⟩) fun o2 i2 j2 u v R2 hs=>⟨_,_,_,_,_,rfl,rfl,R2,by omega⟩
  case po1=>
   rintro c st2 ⟨rfl,⟨r,c',rfl,m⟩ | ⟨o',i',j',ac,bc,rfl,R',hij⟩⟩
   ·exact wpS_pure ⟨r,_,rfl,g1,m⟩
   ·dsimp only;refine a5g ?_;refine wpS_bind (wpS_mono (wpS_forRange (I:=fun y c st3=>∃ o3 i3 j3 g3 ac3 bc3,c=(none,o3,i3,j3,g3,ac3,bc3)/\SG st st3/\Rdy κ a b o3 i3 j3/\i'+j'+y≤i3+j3)
     (Q:=fun c st3=>SG st st3/\((∃ r c',c=(some r,c')/\Mgd κ a.toList b.toList r.toList)\/∃ o3 i3 j3 g3 ac3 bc3,c=(none,o3,i3,j3,g3,ac3,bc3)/\Rdy κ a b o3 i3 j3/\i'+j'<i3+j3)) ?st2 ?fi2 ⟨_,_,_,_,_,_,rfl,g1,R',by omega⟩) ?po2)
    case fi2=>
     rintro c st3 ⟨o3,i3,j3,g3,ac3,bc3,rfl,g3',R3,hy⟩
     have:=R3.hi
     have:=R3.hj
     omega
    case st2=>
     rintro y c st3 _ hy ⟨o3,i3,j3,g3,ac3,bc3,rfl,g3',R3,hyi⟩;dsimp only;refine b67 (n:=i3+j3) C (g3'.kd.trans hk) R3 ⟨fun r c st4 g4 m=>⟨g3'.trans g4,.inl ⟨r,c,rfl,m⟩⟩,fun o4 i4 j4 u v w st4 g4 R4 hs=>⟨g3'.trans g4,.inr ⟨_,_,_,_,_,_,rfl,R4,by omega⟩⟩,fun o4 i4 j4 u v w st4 g4 R4 hs=>⟨_,_,_,_,_,_,rfl,g3'.trans g4,R4,by omega⟩⟩ (Nat.le_refl _)
    case po2=>
     rintro c st3 ⟨g3',⟨r,c',rfl,m⟩ | ⟨o3,i3,j3,g3,ac3,bc3,rfl,R3,hs⟩⟩
     ·exact wpS_pure ⟨r,_,rfl,g3',m⟩
     ·dsimp only;rw[a4d];refine wpS_bind (wpS_modify (wpS_pure ?_));exact⟨_,_,_,_,rfl,⟨g3'.kd,g3'.ar,g3'.pe,g3'.fl⟩,R3,by omega⟩
end
end Tim
namespace Tim
open PySem PyProof.Rows
def a5K:Array Keyed->Array Keyed->SM (Array Keyed):=sortPriv% PySem.Builtin.mergeHi
abbrev hnA (a b o:Array Keyed) (u v:Nat):Array Keyed:=a.extract 0 u++b.extract 0 v++o.reverse
abbrev hnB (a b o:Array Keyed) (u v:Nat):Array Keyed:=b.extract 0 v++a.extract 0 u++o.reverse
abbrev H1:=Option (Array Keyed)×Nat×Nat×Array Keyed×Nat×Nat
abbrev H2:=Option (Array Keyed)×Nat×Nat×Array Keyed×Nat×Nat×Nat
def hi1 (a b:Array Keyed) (g u v:Nat) (o:Array Keyed) (ac bc:Nat):SM (ForInStep H1):=do
 let y <- elem' b (v - 1)
 let x <- elem' a (u - 1)
 let r <- lt' y x
 match r with
 | some aw=>
  if aw=true then do
   let x <- elem' a (u - 1)
   if (u - 1==0)=true then pure (.done (some (hnA a b (o.push x) (u - 1) v),u - 1,v,o.push x,ac+1,0))
   else if ac+1≥g then pure (.done (none,u - 1,v,o.push x,ac+1,0)) else pure (.yield (none,u - 1,v,o.push x,ac+1,0))
  else do
   let y <- elem' b (v - 1)
   if (v - 1==1)=true then pure (.done (some (hnB a b (o.push y) u (v - 1)),u,v - 1,o.push y,0,bc+1))
   else if bc+1≥g then pure (.done (none,u,v - 1,o.push y,0,bc+1)) else pure (.yield (none,u,v - 1,o.push y,0,bc+1))
 | _=>pure (.done (some (hnA a b o u v),u,v,o,ac,bc))
def hi5 (a b:Array Keyed) (u v:Nat) (o:Array Keyed) (g ac bc:Nat):SM (ForInStep H2):=do
 let x <- elem' a (u - 1)
 if (u - 1==0)=true then pure (.done (some (hnA a b (o.push x) (u - 1) v),u - 1,v,o.push x,g,ac,bc))
 else if (decide (ac<7)&&decide (bc<7))=true then pure (.done (none,u - 1,v,o.push x,g,ac,bc)) else pure (.yield (none,u - 1,v,o.push x,g,ac,bc))
def hi4 (a b:Array Keyed) (u v:Nat) (o:Array Keyed) (g ac bc:Nat):SM (ForInStep H2):=do
 let y <- elem' b (v - 1)
 if (v - 1==1)=true then pure (.done (some (hnB a b (o.push y) u (v - 1)),u,v - 1,o.push y,g,ac,bc))
 else do
  let x <- elem' a (u - 1)
  let r <- a1T true x b 0 (v - 1) (v - 1 - 1)
  match r with
  | some p=>
   if v - 1 - p > 0 then
    if (p==1)=true then pure (.done (some (hnB a b (o.push y++(b.extract p (v - 1)).reverse) u p),u,p,o.push y++(b.extract p (v - 1)).reverse,g,ac,v - 1 - p))
    else if (p==0)=true then pure (.done (some (hnA a b (o.push y++(b.extract p (v - 1)).reverse) u p),u,p,o.push y++(b.extract p (v - 1)).reverse,g,ac,v - 1 - p))
    else hi5 a b u p (o.push y++(b.extract p (v - 1)).reverse) g ac (v - 1 - p)
   else hi5 a b u (v - 1) (o.push y) g ac (v - 1 - p)
  | _=>pure (.done (some (hnA a b (o.push y) u (v - 1)),u,v - 1,o.push y,g,ac,bc))
def hi3 (a b:Array Keyed) (u v:Nat) (o:Array Keyed) (g ac bc:Nat):SM (ForInStep H2):=do
 a66 g
 let y <- elem' b (v - 1)
 let r <- a1T false y a 0 u (u - 1)
 match r with
 | some p=>
  if u - p > 0 then
   if (p==0)=true then pure (.done (some (hnA a b (o++(a.extract p u).reverse) p v),p,v,o++(a.extract p u).reverse,g,u - p,bc))
   else hi4 a b p v (o++(a.extract p u).reverse) g (u - p) bc
  else hi4 a b u v o g (u - p) bc
 | _=>pure (.done (some (hnA a b o u v),u,v,o,g,ac,bc))
def hi2 (a b:Array Keyed) (u v:Nat) (o:Array Keyed) (g ac bc:Nat):SM (ForInStep H2):=
 if g > 1 then hi3 a b u v o (g - 1) ac bc else hi3 a b u v o g ac bc
theorem a6r (a b:Array Keyed):a5K a b=(do
  liftM (rule "list.sort.merge-hi")
  let x <- elem' a (a.size - 1)
  if (a.size - 1==0)=true then pure (hnA a b #[x] (a.size - 1) b.size)
  else if (b.size==1)=true then pure (hnB a b #[x] (a.size - 1) b.size)
  else do
   let st <- get
   let c <- forIn [0:a.size+b.size] ((none,a.size - 1,b.size,#[x],gallopOf st):Option (Array Keyed)×Nat×Nat×Array Keyed×Nat) fun _ c=>do
    let c1 <- forIn [0:a.size+b.size] ((none,c.2.1,c.2.2.1,c.2.2.2.1,0,0):H1) fun _ c1=>hi1 a b c.2.2.2.2 c1.2.1 c1.2.2.1 c1.2.2.2.1 c1.2.2.2.2.1 c1.2.2.2.2.2
    match c1.1 with
    | some r=>pure (ForInStep.done (some r,c1.2.1,c1.2.2.1,c1.2.2.2.1,c.2.2.2.2))
    | none=>do
     liftM (rule "list.sort.gallop")
     let c2 <- forIn [0:a.size+b.size] ((none,c1.2.1,c1.2.2.1,c1.2.2.2.1,c.2.2.2.2+1,c1.2.2.2.2.1,c1.2.2.2.2.2):H2) fun _ c2=>hi2 a b c2.2.1 c2.2.2.1 c2.2.2.2.1 c2.2.2.2.2.1 c2.2.2.2.2.2.1 c2.2.2.2.2.2.2
     match c2.1 with
     | some r=>pure (ForInStep.done (some r,c2.2.1,c2.2.2.1,c2.2.2.2.1,c2.2.2.2.2.1))
     | none=>do
      a66 (c2.2.2.2.2.1+1)
      pure (ForInStep.yield (none,c2.2.1,c2.2.2.1,c2.2.2.2.1,c2.2.2.2.2.1+1))
   match c.1 with
   | some r=>pure r
   | none=>unsupported "internal:list.sort.merge-bound"):=by
 refine bind_congr fun _=>bind_congr fun y=>?_;dsimp only
 congr 1
 congr 1
 refine bind_congr fun st=>?_;refine bd2 ?_ fun c=>?_
 ·congr 1
  funext x c
  obtain⟨r,u,v,o,g⟩:=c;dsimp only;refine bd2 ?_ fun c1=>?_
  ·congr 1
  ·obtain⟨r,u,v,o,ac,bc⟩:=c1;cases r with
   | some r=>rfl
   | none=>
    refine bind_congr fun _=>?_;refine bd2 ?_ fun c2=>?_
    ·congr 1
    ·obtain⟨r,u,v,o,g,ac,bc⟩:=c2;cases r<;>rfl
 ·obtain⟨r,u,v,o,g⟩:=c;cases r<;>rfl
end Tim
namespace Tim
open PySem PyProof.Rows
section
variable {κ:KF}{A B o:List Keyed}{u v:Nat}{p:Keyed}
structure MH (κ:KF) (A B o:List Keyed) (u v:Nat):Prop where
 ia:u≤A.length
 jb:v≤B.length
 pm:(A.take u++B.take v++o.reverse).Perm (A++B)
 so:Srt κ o.reverse
 ba:∀ x∈o,∀ y∈A.take u,κ y≤κ x
 bb:∀ x∈o,∀ y∈B.take v,κ y≤κ x
theorem a68 {l:List Keyed}{n:Nat}(h:l[n]?=some p):l.take (n+1)=l.take n++[p]:=by
 rw[List.take_add_one,h];rfl
theorem a2d {l:List Keyed}(h:Srt κ l) (n:Nat):Srt κ (l.take n):=List.Pairwise.sublist (List.take_sublist n l) h
theorem a2I {l:List Keyed}{n:Nat}(h:Srt κ l) (e:l[n]?=some p):∀ y∈l.take (n+1),κ y≤κ p:=fun y hy=>by
 have hs:=a2d h (n+1);rw[a68 e]at hs hy;rcases List.mem_append.mp hy with hy | hy
 ·exact (List.pairwise_append.mp hs).2.2 y hy p (by simp)
 ·rw[List.mem_singleton.mp hy];exact Int.le_refl _
theorem MH.pushA (W:MH κ A B o (u+1) v) (sa:Srt κ A) (hp:A[u]?=some p) (hb:∀ y∈B.take v,κ y≤κ p):MH κ A B (o++[p]) u v:=by
 have hd:=a68 hp;have hi:=(List.getElem?_eq_some_iff.mp hp).1;refine⟨by omega,W.jb,?_,?_,fun x hx y hy=>?_,fun x hx y hy=>?_⟩
 ·have:=W.pm
  rw[hd]at this;refine List.Perm.trans ?_ this;rw[List.reverse_append,List.reverse_singleton];simp only[List.append_assoc];refine List.Perm.append_left _ ?_;rw[List.singleton_append,List.singleton_append];exact List.perm_middle
 ·rw[List.reverse_append,List.reverse_singleton,List.singleton_append];refine List.pairwise_cons.mpr ⟨fun x hx=>?_,W.so⟩;exact W.ba x (by simpa using hx) p (by rw[hd];simp)
 ·rcases List.mem_append.mp hx with h | h
  ·exact W.ba x h y (by rw[hd];simp[hy])
  ·rw[List.mem_singleton.mp h];exact a2I sa hp y (by rw[hd];simp[hy])
 ·rcases List.mem_append.mp hx with h | h
  ·exact W.bb x h y hy
  ·rw[List.mem_singleton.mp h];exact hb y hy
theorem MH.pushB (W:MH κ A B o u (v+1)) (sb:Srt κ B) (hp:B[v]?=some p) (hb:∀ y∈A.take u,κ y≤κ p):MH κ A B (o++[p]) u v:=by
 have hd:=a68 hp;have hi:=(List.getElem?_eq_some_iff.mp hp).1;refine⟨W.ia,by omega,?_,?_,fun x hx y hy=>?_,fun x hx y hy=>?_⟩
 ·have:=W.pm
  rw[hd]at this;refine List.Perm.trans ?_ this;rw[List.reverse_append,List.reverse_singleton];simp only[List.append_assoc];exact List.Perm.refl _
 ·rw[List.reverse_append,List.reverse_singleton,List.singleton_append];refine List.pairwise_cons.mpr ⟨fun x hx=>?_,W.so⟩;exact W.bb x (by simpa using hx) p (by rw[hd];simp)
 ·rcases List.mem_append.mp hx with h | h
  ·exact W.ba x h y hy
  ·rw[List.mem_singleton.mp h];exact hb y hy
 ·rcases List.mem_append.mp hx with h | h
  ·exact W.bb x h y (by rw[hd];simp[hy])
  ·rw[List.mem_singleton.mp h];exact a2I sb hp y (by rw[hd];simp[hy])
theorem MH.runA (sa:Srt κ A):∀ (k:Nat) {o:List Keyed},MH κ A B o (u+k) v->(∀ q z,u≤q->q<u+k->A[q]?=some z->∀ y∈B.take v,κ y≤κ z)->MH κ A B (o++((A.drop u).take k).reverse) u v
 | 0,o,W,_=>by simpa using W
 | k+1,o,W,hz=>by
  have hlt:u+k<A.length:=by have:=W.ia;omega
  have e:A[u+k]?=some A[u+k]:=List.getElem?_eq_getElem hlt;have W1:=MH.pushA W sa e (hz _ _ (by omega) (by omega) e);have ih:=MH.runA sa k W1 fun q z h1 h2=>hz q z h1 (by omega);rw[take_snoc e,List.reverse_append,List.reverse_singleton,<- List.append_assoc];exact ih
theorem MH.runB (sb:Srt κ B):∀ (k:Nat) {o:List Keyed},MH κ A B o u (v+k)->(∀ q z,v≤q->q<v+k->B[q]?=some z->∀ y∈A.take u,κ y≤κ z)->MH κ A B (o++((B.drop v).take k).reverse) u v
 | 0,o,W,_=>by simpa using W
 | k+1,o,W,hz=>by
  have hlt:v+k<B.length:=by have:=W.jb;omega
  have e:B[v+k]?=some B[v+k]:=List.getElem?_eq_getElem hlt;have W1:=MH.pushB W sb e (hz _ _ (by omega) (by omega) e);have ih:=MH.runB sb k W1 fun q z h1 h2=>hz q z h1 (by omega);rw[take_snoc e,List.reverse_append,List.reverse_singleton,<- List.append_assoc];exact ih
theorem MH.doneA (W:MH κ A B o u v) (sa:Srt κ A) (sb:Srt κ B) (h:u=0\/v=0):Mgd κ A B (A.take u++B.take v++o.reverse):=by
 refine⟨W.pm,?_⟩;refine List.pairwise_append.mpr ⟨List.pairwise_append.mpr ⟨a2d sa u,a2d sb v,fun x hx y hy=>?_⟩,W.so,fun x hx y hy=>?_⟩
 ·rcases h with rfl | rfl
  ·simp at hx
  ·simp at hy
 ·have hy':y∈o:=by simpa using hy
  rcases List.mem_append.mp hx with h | h
  ·exact W.ba y hy' x h
  ·exact W.bb y hy' x h
theorem MH.doneB (W:MH κ A B o u 1) (sa:Srt κ A) (sb:Srt κ B) (hf:∀ z,B[0]?=some z->∀ y∈A,κ z≤κ y):Mgd κ A B (B.take 1++A.take u++o.reverse):=by
 refine⟨?_,?_⟩
 ·refine List.Perm.trans ?_ W.pm;exact List.Perm.append_right _ List.perm_append_comm
 ·refine List.pairwise_append.mpr ⟨List.pairwise_append.mpr ⟨a2d sb 1,a2d sa u,fun x hx y hy=>?_⟩,W.so,fun x hx y hy=>?_⟩
  ·cases B with
   | nil=>simp at hx
   | cons z B=>
    have:x=z:=by simpa using hx
    subst this;exact hf x rfl y (List.mem_of_mem_take hy)
  ·have hy':y∈o:=by simpa using hy
   rcases List.mem_append.mp hx with h | h
   ·exact W.bb y hy' x h
   ·exact W.ba y hy' x h
end
section
variable {κ:KF}{a b o:Array Keyed}{u v:Nat}
theorem a3f:(hnA a b o u v).toList=a.toList.take u++b.toList.take v++o.toList.reverse:=by
 unfold hnA;simp[List.extract_eq_take_drop]
theorem a4g:(hnB a b o u v).toList=b.toList.take v++a.toList.take u++o.toList.reverse:=by
 unfold hnB;simp[List.extract_eq_take_drop]
theorem a7N {p:Nat}:(o++(a.extract p u).reverse).toList=o.toList++((a.toList.drop p).take (u - p)).reverse:=by
 simp[List.extract_eq_take_drop]
end
structure RdH (κ:KF) (a b o:Array Keyed) (u v:Nat):Prop where
 w:MH κ a.toList b.toList o.toList u v
 hu:1≤u
 hv:2≤v
section
variable {M:Model}{A:Around}{E:Value->Shared->Prop}{s:Shared}{κ:KF}{k0:SortKind}{a₀ a b o:Array Keyed}{st:SortSt}{u v g ac bc:Nat}
theorem RdH.ua (R:RdH κ a b o u v):u≤a.size:=by have:=R.w.ia;rwa [a1c]at this
theorem RdH.vb (R:RdH κ a b o u v):v≤b.size:=by have:=R.w.jb;rwa [a1c]at this
theorem MC.first (C:MC M A E s κ k0 a₀ a b):∀ z,b.toList[0]?=some z->∀ y∈a.toList,κ z≤κ y:=fun z hz y hy=>by
 have:=C.hf y hy
 rwa [a4x hz]at this
theorem b68 {Q:ForInStep H1->SortSt->Prop}(C:MC M A E s κ k0 a₀ a b) (hk:kindOf st=k0) (R:RdH κ a b o (u+1) (v+1))
  (dn:∀ r c,Mgd κ a.toList b.toList r.toList->Q (.done (some r,c)) st)
  (br:∀ o' u' v' x y,RdH κ a b o' u' v'->u'+v'=u+v+1->Q (.done (none,u',v',o',x,y)) st)
  (go:∀ o' u' v' x y,RdH κ a b o' u' v'->u'+v'=u+v+1->Q (.yield (none,u',v',o',x,y)) st):wpS M A E s (hi1 a b g (u+1) (v+1) o ac bc) Q st:=by
 have hu:=R.ua;have hv:=R.vb;have hu1:=R.hu;have hv1:=R.hv;have eb:b[v]?=some b[v]:=getElem?_pos ..;have ea:a[u]?=some a[u]:=getElem?_pos ..;have lb:=a08 (a:=b) (i:=v) (by omega);have la:=a08 (a:=a) (i:=u) (by omega);unfold hi1;simp only[Nat.add_sub_cancel];refine wpS_bind (a0W eb (wpS_bind (a0W ea (wpS_bind ?_))));refine C.L _ _ (C.hb _ (List.mem_of_getElem? lb)) (C.ha _ (List.mem_of_getElem? la)) st _ hk ?_;dsimp only
 by_cases c:κ b[v]<κ a[u]
 ·rw[if_pos (decide_eq_true c)];refine wpS_bind (a0W ea ?_);have w2:=R.w.pushA C.sa la fun y hy=>Int.le_trans (a2I C.sb lb y hy) (Int.le_of_lt c);rw[<- Array.toList_push]at w2
  by_cases e:u=0
  ·rw[if_pos (by simpa using e)];exact wpS_pure (dn _ _ (by rw[a3f];exact w2.doneA C.sa C.sb (.inl e)))
  ·rw[if_neg (by simpa using e)];have R2:RdH κ a b (o.push a[u]) u (v+1):=⟨w2,by omega,hv1⟩
   split
   ·exact wpS_pure (br _ _ _ _ _ R2 (by omega))
   ·exact wpS_pure (go _ _ _ _ _ R2 (by omega))
 ·rw[if_neg (by simpa using c)];refine wpS_bind (a0W eb ?_);have w2:=R.w.pushB C.sb lb fun y hy=>Int.le_trans (a2I C.sa la y hy) (Int.not_lt.mp c);rw[<- Array.toList_push]at w2
  by_cases e:v=1
  ·rw[if_pos (by simpa using e)];subst e;exact wpS_pure (dn _ _ (by rw[a4g];exact w2.doneB C.sa C.sb C.first))
  ·rw[if_neg (by simpa using e)];have R2:RdH κ a b (o.push b[v]) (u+1) v:=⟨w2,hu1,by omega⟩
   split
   ·exact wpS_pure (br _ _ _ _ _ R2 (by omega))
   ·exact wpS_pure (go _ _ _ _ _ R2 (by omega))
structure HG (st:SortSt) (κ:KF) (a b:Array Keyed) (n:Nat) (Q:ForInStep H2->SortSt->Prop):Prop where
 dn:∀ r c st',SG st st'->Mgd κ a.toList b.toList r.toList->Q (.done (some r,c)) st'
 br:∀ o' u' v' x y z st',SG st st'->RdH κ a b o' u' v'->u'+v'<n->Q (.done (none,u',v',o',x,y,z)) st'
 go:∀ o' u' v' x y z st',SG st st'->RdH κ a b o' u' v'->u'+v'<n->Q (.yield (none,u',v',o',x,y,z)) st'
theorem b5q {Q:ForInStep H2->SortSt->Prop}{n:Nat}(C:MC M A E s κ k0 a₀ a b) (R:RdH κ a b o (u+1) v) (hle:∀ y∈b.toList.take v,κ y≤Kk κ a u) (H:HG st κ a b n Q) (hn:u+v<n):wpS M A E s (hi5 a b (u+1) v o g ac bc) Q st:=by
 have hu:=R.ua;have hv1:=R.hv;have ea:a[u]?=some a[u]:=getElem?_pos ..;have la:=a08 (a:=a) (i:=u) (by omega);rw[a1i (show u<a.size by omega)]at hle;unfold hi5;simp only[Nat.add_sub_cancel];refine wpS_bind (a0W ea ?_);have w2:=R.w.pushA C.sa la hle;rw[<- Array.toList_push]at w2
 by_cases e:u=0
 ·rw[if_pos (by simpa using e)];exact wpS_pure (H.dn _ _ _ (SG.refl _) (by rw[a3f];exact w2.doneA C.sa C.sb (.inl e)))
 ·rw[if_neg (by simpa using e)];have R2:RdH κ a b (o.push a[u]) u v:=⟨w2,by omega,hv1⟩
  split
  ·exact wpS_pure (H.br _ _ _ _ _ _ _ (SG.refl _) R2 (by omega))
  ·exact wpS_pure (H.go _ _ _ _ _ _ _ (SG.refl _) R2 (by omega))
theorem a2Z {l:List Keyed}{n:Nat}{y:Keyed}(h:y∈l.take n):∃ q,q<n/\l[q]?=some y:=by
 obtain⟨m,hm⟩:=List.getElem?_of_mem h;have hlt:=(List.getElem?_eq_some_iff.mp hm).1;rw[List.length_take]at hlt;rw[List.getElem?_take]at hm
 split at hm
 ·exact⟨m,by omega,hm⟩
 ·cases hm
theorem b5r {Q:ForInStep H2->SortSt->Prop}{n:Nat}(C:MC M A E s κ k0 a₀ a b) (hk:kindOf st=k0) (R:RdH κ a b o (u+1) (v+1)) (hle:∀ y∈a.toList.take (u+1),κ y≤Kk κ b v) (H:HG st κ a b n Q) (hn:u+v<n):wpS M A E s (hi4 a b (u+1) (v+1) o g ac bc) Q st:=by
 have hu:=R.ua;have hv:=R.vb;have hv1:=R.hv;have eb:b[v]?=some b[v]:=getElem?_pos ..;have lb:=a08 (a:=b) (i:=v) (by omega);have ea:a[u]?=some a[u]:=getElem?_pos ..;have la:=a08 (a:=a) (i:=u) (by omega);rw[a1i (show v<b.size by omega)]at hle;unfold hi4;simp only[Nat.add_sub_cancel];refine wpS_bind (a0W eb ?_);have w2:=R.w.pushB C.sb lb hle;rw[<- Array.toList_push]at w2
 by_cases e:v=1
 ·rw[if_pos (by simpa using e)];subst e;exact wpS_pure (H.dn _ _ _ (SG.refl _) (by rw[a4g];exact w2.doneB C.sa C.sb C.first))
 ·rw[if_neg (by simpa using e)];refine wpS_bind (a0W ea (wpS_bind ?_));refine a2H C.L hk (C.ha _ (List.mem_of_getElem? la)) C.hb (by omega) (by omega) (a3e C.sb (by omega)) fun p hkn hlt hge=>?_;dsimp only;simp only[Nat.zero_add]at hlt hge;have rest:∀ y∈b.toList.take p,κ y≤Kk κ a u:=fun y hy=>by
   obtain⟨q,h1,h3⟩:=a2Z hy
   have:=hlt q h1
   rw[a4x h3]at this;simp[bq]at this;rw[a1i (show u<a.size by omega)];omega
  split
  ·have w3:=MH.runB (v:=p) C.sb (v - p) (by rw[show p+(v - p)=v by omega];exact w2) fun q z h1 h2 h3 y hy=>by
    have:=hge q h1 (by omega)
    rw[a4x h3]at this;simp[bq]at this;exact Int.le_trans (a2I C.sa la y hy) this
   rw[<- a7N]at w3
   by_cases e1:p=1
   ·rw[if_pos (by simpa using e1)];subst e1;exact wpS_pure (H.dn _ _ _ (SG.refl _) (by rw[a4g];exact w3.doneB C.sa C.sb C.first))
   ·rw[if_neg (by simpa using e1)]
    by_cases e2:p=0
    ·rw[if_pos (by simpa using e2)];exact wpS_pure (H.dn _ _ _ (SG.refl _) (by rw[a3f];exact w3.doneA C.sa C.sb (.inr e2)))
    ·rw[if_neg (by simpa using e2)];exact b5q C ⟨w3,by omega,by omega⟩ rest H (by omega)
  ·have:p=v:=by omega
   subst this;exact b5q C ⟨w2,by omega,by omega⟩ rest H (by omega)
theorem b69 {Q:ForInStep H2->SortSt->Prop}{n:Nat}(C:MC M A E s κ k0 a₀ a b) (hk:kindOf st=k0) (R:RdH κ a b o (u+1) (v+1)) (H:HG st κ a b n Q) (hn:u+v<n):wpS M A E s (hi3 a b (u+1) (v+1) o g ac bc) Q st:=by
 have hu:=R.ua;have hv:=R.vb;have hv1:=R.hv;have eb:b[v]?=some b[v]:=getElem?_pos ..;have lb:=a08 (a:=b) (i:=v) (by omega);unfold hi3;rw[a4d];refine wpS_bind (wpS_modify ?_);have g1:SG st (SortSt.mk' (kindOf st) (arrOf st) (pendingOf st) g (failedOf st)):=⟨rfl,rfl,rfl,rfl⟩;have hk1:kindOf (SortSt.mk' (kindOf st) (arrOf st) (pendingOf st) g (failedOf st))=k0:=hk;generalize SortSt.mk' (kindOf st) (arrOf st) (pendingOf st) g (failedOf st)=st1 at g1 hk1;have H1:HG st1 κ a b n Q:=⟨fun r c st' g=>H.dn r c st' (g1.trans g),fun _ _ _ _ _ _ st' g=>H.br _ _ _ _ _ _ st' (g1.trans g),fun _ _ _ _ _ _ st' g=>H.go _ _ _ _ _ _ st' (g1.trans g)⟩;simp only[Nat.add_sub_cancel];refine wpS_bind (a0W eb (wpS_bind ?_));refine a2H C.L hk1 (C.hb _ (List.mem_of_getElem? lb)) C.ha (by omega) (by omega) (a3e C.sa (by omega)) fun p hkn hlt hge=>?_;dsimp only;simp only[Nat.zero_add]at hlt hge;have rest:∀ y∈a.toList.take p,κ y≤Kk κ b v:=fun y hy=>by
  obtain⟨q,h1,h3⟩:=a2Z hy
  have:=hlt q h1
  rw[a4x h3]at this;simp[bq]at this;rw[a1i (show v<b.size by omega)];omega
 split
 ·have w3:=MH.runA (u:=p) C.sa (u+1 - p) (by rw[show p+(u+1 - p)=u+1 by omega];exact R.w) fun q z h1 h2 h3 y hy=>by
   have:=hge q h1 (by omega)
   rw[a4x h3]at this;simp[bq]at this;exact Int.le_trans (a2I C.sb lb y hy) (Int.le_of_lt this)
  rw[<- a7N]at w3
  by_cases e1:p=0
  ·rw[if_pos (by simpa using e1)];exact wpS_pure (H1.dn _ _ _ (SG.refl _) (by rw[a3f];exact w3.doneA C.sa C.sb (.inl e1)))
  ·rw[if_neg (by simpa using e1)];obtain⟨p',rfl⟩:∃ p',p=p'+1:=⟨p - 1,by omega⟩;exact b5r C hk1 ⟨w3,by omega,hv1⟩ rest H1 (by omega)
 ·have:p=u+1:=by omega
  subst this;exact b5r C hk1 R rest H1 (by omega)
theorem b7a {Q:ForInStep H2->SortSt->Prop}{n:Nat}(C:MC M A E s κ k0 a₀ a b) (hk:kindOf st=k0) (R:RdH κ a b o (u+1) (v+1)) (H:HG st κ a b n Q) (hn:u+v<n):wpS M A E s (hi2 a b (u+1) (v+1) o g ac bc) Q st:=by
 unfold hi2
 split<;>exact b69 C hk R H hn
theorem b1q (C:MC M A E s κ k0 a₀ a b):MH κ a.toList b.toList [a[a.size - 1]'(by have:=C.h0;omega)] (a.size - 1) b.size:=by
 have h0:=C.h0;have la:=a08 (a:=a) (i:=a.size - 1) (by omega);have w0:MH κ a.toList b.toList [] (a.size - 1+1) b.size:=⟨by rw[a1c];omega,by rw[a1c];omega,by rw[List.take_of_length_le (by rw[a1c];omega),List.take_of_length_le (by rw[a1c];omega)];simp,.nil,fun x h=>by simp at h,fun x h=>by simp at h⟩;exact w0.pushA C.sa la fun y hy=>C.hl _ (by rw[a1c];exact la) y (List.mem_of_mem_take hy)
theorem a92 {Q:Array Keyed->SortSt->Prop}(C:MC M A E s κ k0 a₀ a b) (hk:kindOf st=k0)
  (h:∀ r st',SG st st'->Mgd κ a.toList b.toList r.toList->Q r st'):wpS M A E s (a5K a b) Q st:=by
 have h0:=C.h0;have h1:=C.h1;rw[a6r];refine a5g ?_;refine wpS_bind (a0W (getElem?_pos a (a.size - 1) (by omega)) ?_);have w0:=b1q C
 by_cases e1:a.size - 1=0
 ·rw[if_pos (by simpa using e1)];exact wpS_pure (h _ _ (SG.refl _) (by rw[a3f];exact w0.doneA C.sa C.sb (.inl e1)))
 rw[if_neg (by simpa using e1)]
 by_cases e2:b.size=1
 ·rw[if_pos (by simpa using e2)];refine wpS_pure (h _ _ (SG.refl _) ?_);rw[e2]at w0;rw[a4g,e2];exact w0.doneB C.sa C.sb C.first
 rw[if_neg (by simpa using e2)];refine wpS_bind (wpS_get ?_);have R0:RdH κ a b #[a[a.size - 1]] (a.size - 1) b.size:=⟨w0,by omega,by omega⟩;refine wpS_bind (wpS_mono (wpS_forRange (I:=fun x c st'=>∃ o u v g,c=(none,u,v,o,g)/\SG st st'/\RdH κ a b o u v/\x+(u+v)<a.size+b.size)
  (Q:=fun c st'=>∃ r c',c=(some r,c')/\SG st st'/\Mgd κ a.toList b.toList r.toList) ?step ?fin ⟨_,_,_,_,rfl,SG.refl _,R0,by omega⟩) ?post)
 case post=>
  rintro c st' ⟨r,c',rfl,g1,m⟩;exact wpS_pure (h r st' g1 m)
 case fin=>
  rintro c st' ⟨o,u,v,g,rfl,g1,R,hx⟩;omega
 case step=>
  rintro x c st' _ hx ⟨o,u,v,g,rfl,g1,R,hxi⟩;dsimp only;have hk1:kindOf st'=k0:=g1.kd.trans hk;refine wpS_bind (wpS_mono (wpS_forRange (I:=fun y c st2=>∃ o' u' v' ac bc,c=(none,u',v',o',ac,bc)/\st2=st'/\RdH κ a b o' u' v'/\u'+v'+y≤u+v)
   (Q:=fun c st2=>st2=st'/\((∃ r c',c=(some r,c')/\Mgd κ a.toList b.toList r.toList)\/∃ o' u' v' ac bc,c=(none,u',v',o',ac,bc)/\RdH κ a b o' u' v'/\u'+v'≤u+v)) ?st1 ?fi1 ⟨_,_,_,_,_,rfl,rfl,R,by omega⟩) ?po1)
  case fi1=>
   rintro c st2 ⟨o',u',v',ac,bc,rfl,rfl,R',hy⟩;exact⟨rfl,.inr ⟨_,_,_,_,_,rfl,R',by omega⟩⟩
  case st1=>
   rintro y c st2 _ hy ⟨o',u',v',ac,bc,rfl,rfl,R',hyi⟩;dsimp only;have hu1:=R'.hu;have hv1:=R'.hv;obtain⟨u',rfl⟩:∃ z,u'=z+1:=⟨u' - 1,by omega⟩;obtain⟨v',rfl⟩:∃ z,v'=z+1:=⟨v' - 1,by omega⟩;refine b68 C hk1 R' (fun r c m=>⟨rfl,.inl ⟨r,c,rfl,m⟩⟩) (fun o2 i2 j2 u v R2 hs=>⟨rfl,.inr ⟨_,_,_,_,_,rfl,R2,by omega⟩⟩) fun o2 i2 j2 u v R2 hs=>⟨_,_,_,_,_,rfl,rfl,R2,by omega⟩
  case po1=>
   rintro c st2 ⟨rfl,⟨r,c',rfl,m⟩ | ⟨o',u',v',ac,bc,rfl,R',hij⟩⟩
   ·exact wpS_pure ⟨r,_,rfl,g1,m⟩
   ·dsimp only;refine a5g ?_;refine wpS_bind (wpS_mono (wpS_forRange (I:=fun y c st3=>∃ o3 i3 j3 g3 ac3 bc3,c=(none,i3,j3,o3,g3,ac3,bc3)/\SG st st3/\RdH κ a b o3 i3 j3/\i3+j3+y≤u'+v')
     (Q:=fun c st3=>SG st st3/\((∃ r c',c=(some r,c')/\Mgd κ a.toList b.toList r.toList)\/∃ o3 i3 j3 g3 ac3 bc3,c=(none,i3,j3,o3,g3,ac3,bc3)/\RdH κ a b o3 i3 j3/\i3+j3<u'+v')) ?st2 ?fi2 ⟨_,_,_,_,_,_,rfl,g1,R',by omega⟩) ?po2)
    case fi2=>
     rintro c st3 ⟨o3,i3,j3,g3,ac3,bc3,rfl,g3',R3,hy⟩;exact⟨g3',.inr ⟨_,_,_,_,_,_,rfl,R3,by have:=R3.hu;omega⟩⟩
    case st2=>
     rintro y c st3 _ hy ⟨o3,i3,j3,g3,ac3,bc3,rfl,g3',R3,hyi⟩;dsimp only;have hu1:=R3.hu;have hv1:=R3.hv;obtain⟨i3,rfl⟩:∃ z,i3=z+1:=⟨i3 - 1,by omega⟩;obtain⟨j3,rfl⟩:∃ z,j3=z+1:=⟨j3 - 1,by omega⟩;refine b7a (n:=i3+1+(j3+1)) C (g3'.kd.trans hk) R3 ⟨fun r c st4 g4 m=>⟨g3'.trans g4,.inl ⟨r,c,rfl,m⟩⟩,fun o4 i4 j4 u v w st4 g4 R4 hs=>⟨g3'.trans g4,.inr ⟨_,_,_,_,_,_,rfl,R4,by omega⟩⟩,fun o4 i4 j4 u v w st4 g4 R4 hs=>⟨_,_,_,_,_,_,rfl,g3'.trans g4,R4,by omega⟩⟩ (by omega)
    case po2=>
     rintro c st3 ⟨g3',⟨r,c',rfl,m⟩ | ⟨o3,i3,j3,g3,ac3,bc3,rfl,R3,hs⟩⟩
     ·exact wpS_pure ⟨r,_,rfl,g3',m⟩
     ·dsimp only;rw[a4d];refine wpS_bind (wpS_modify (wpS_pure ?_));exact⟨_,_,_,_,rfl,⟨g3'.kd,g3'.ar,g3'.pe,g3'.fl⟩,R3,by omega⟩
end
end Tim
namespace Tim
open PySem PyProof.Rows
def SR (κ:KF) (xs:Array Keyed) (lo n:Nat):Prop:=∀ i j,i≤j->j<n->Kk κ xs (lo+i)≤Kk κ xs (lo+j)
def NR (κ:KF) (xs:Array Keyed) (lo n:Nat):Prop:=∀ i j,i≤j->j<n->Kk κ xs (lo+j)≤Kk κ xs (lo+i)
structure Ar (st st':SortSt) (lo:Nat):Prop where
 pm:(arrOf st').Perm (arrOf st)
 pre:∀ i,i<lo->(arrOf st')[i]?=(arrOf st)[i]?
 kd:kindOf st'=kindOf st
 pe:pendingOf st'=pendingOf st
 fl:failedOf st'=failedOf st
section
variable {M:Model}{A:Around}{E:Value->Shared->Prop}{s:Shared}{κ:KF}{k0:SortKind}{a₀:Array Keyed}{st st':SortSt}{lo:Nat}
theorem Ar.refl (st:SortSt) (lo:Nat):Ar st st lo:=⟨Array.Perm.refl _,fun _ _=>rfl,rfl,rfl,rfl⟩
theorem Ar.trans {x y z:SortSt}(p:Ar x y lo) (q:Ar y z lo):Ar x z lo:=⟨q.pm.trans p.pm,fun i h=>(q.pre i h).trans (p.pre i h),q.kd.trans p.kd,q.pe.trans p.pe,q.fl.trans p.fl⟩
theorem Ar.tb (q:Ar st st' lo) (B:TB k0 a₀ st):TB k0 a₀ st':=⟨q.pm.trans B.pm,q.kd.trans B.kd,q.fl.trans B.fl⟩
theorem b2e {xs:Array Keyed}{src d:Nat}(hs:src<xs.size) (hd:d≤src) (k:Nat) :
  Kk κ (bubble xs src d) k=if k=src - d then Kk κ xs src else if src - d<k/\k≤src then Kk κ xs (k - 1) else Kk κ xs k:=by
 have q:=getElem?_bubble hs d hd k
 by_cases h1:k=src - d
 ·rw[if_pos h1]at q ⊢;exact a4w q
 ·rw[if_neg h1]at q ⊢
  by_cases h2:src - d<k/\k≤src
  ·rw[if_pos h2]at q ⊢;exact a4w q
  ·rw[if_neg h2]at q ⊢;exact a4w q
theorem Ar.bub {src d:Nat}(hs:src<(arrOf st).size) (hd:d≤src) (h:lo≤src - d):Ar st (setArr st (bubble (arrOf st) src d)) lo:=
 ⟨bubble_perm _ _ _,fun i hi=>by
  show (bubble (arrOf st) src d)[i]?=_
  rw[getElem?_bubble hs d hd,if_neg (by omega),if_neg (by omega)],rfl,rfl,rfl⟩
theorem a93 {xs:Array Keyed}{i j:Nat}(hj:j≤xs.size) (k:Nat):Kk κ (mirror xs i j ((j - i) / 2)) k=if i≤k/\k<j then Kk κ xs (i+j - 1 - k) else Kk κ xs k:=by
 have q:=getElem?_mirror_all (i:=i) hj k
 by_cases h1:i≤k/\k<j
 ·rw[if_pos h1]at q ⊢;exact a4w q
 ·rw[if_neg h1]at q ⊢;exact a4w q
theorem a4y {xs:Array Keyed}{i j:Nat}(hj:j≤xs.size) (hq:∀ k,i≤k->k<j->Kk κ xs k=Kk κ xs (j - 1)) (k:Nat):Kk κ (mirror xs i j ((j - i) / 2)) k=Kk κ xs k:=by
 rw[a93 hj]
 split
 ·rw[hq (i+j - 1 - k) (by omega) (by omega),hq k (by omega) (by omega)]
 ·rfl
theorem Ar.mir {i j:Nat}(hj:j≤(arrOf st).size) (h:lo≤i):Ar st (setArr st (mirror (arrOf st) i j ((j - i) / 2))) lo:=
 ⟨mirror_perm _ _ _ _,fun k hk=>by
  show (mirror (arrOf st) i j ((j - i) / 2))[k]?=_
  rw[getElem?_mirror_all hj,if_neg (by omega)],rfl,rfl,rfl⟩
theorem b1r {n ok:Nat}{Q:Bool->SortSt->Prop}(L:LtOk M A E s κ k0 a₀) (B:TB k0 a₀ st) (hn:lo+n≤a₀.size) (hok:ok≤n) (hs:SR κ (arrOf st) lo ok)
  (h:∀ st',Ar st st' lo->SR κ (arrOf st') lo n->Q true st'):wpS M A E s (binarySort' lo n ok) Q st:=by
 rw[binarySort'_eq];refine wpS_bind (wpS_mono (wpS_forRange (I:=fun k c z=>c=(none,())/\Ar st z lo/\SR κ (arrOf z) lo (min k n)) (Q:=fun c z=>c=(none,())/\Ar st z lo/\SR κ (arrOf z) lo n) ?step ?fin ?init) ?post)
 case post=>
  rintro c z ⟨rfl,r1,r2⟩;exact wpS_pure (h z r1 r2)
 case init=>
  refine⟨rfl,Ar.refl _ _,fun i j hij hj=>?_⟩
  by_cases h1:ok=0
  ·have:i=j:=by omega
   rw[this];exact Int.le_refl _
  ·exact hs i j hij (by omega)
 case fin=>
  rintro c z ⟨hc,r1,r2⟩;refine⟨hc,r1,?_⟩
  rwa [show min (max (max ok 1) n) n=n by omega]at r2
 case step=>
  rintro k c z hak hkn ⟨rfl,r1,r2⟩;rw[show min k n=k by omega]at r2;have B1:=r1.tb B;refine wpS_bind (wpS_mono (wpS_forRange (I:=fun x c y=>y=z/\∃ p q,c=(none,p,q)/\p≤q/\q≤k/\q - p≤k - x/\(∀ i,i<p->Kk κ (arrOf z) (lo+i)≤Kk κ (arrOf z) (lo+k))/\(∀ i,q≤i->i<k->Kk κ (arrOf z) (lo+k)<Kk κ (arrOf z) (lo+i)))
   (Q:=fun c y=>y=z/\∃ p q,c=(none,p,q)/\p≤k/\(∀ i,i<p->Kk κ (arrOf z) (lo+i)≤Kk κ (arrOf z) (lo+k))/\(∀ i,p≤i->i<k->Kk κ (arrOf z) (lo+k)<Kk κ (arrOf z) (lo+i))) ?istep ?ifin ?iinit) ?ipost)
  case iinit=>exact⟨rfl,0,k,rfl,by omega,by omega,by omega,fun i hi=>by omega,fun i h1 h2=>by omega⟩
  case ifin=>
   rintro c y ⟨rfl,p,q,rfl,u1,u2,u3,u4,u5⟩
   have:p=q:=by omega
   subst this;exact⟨rfl,p,p,rfl,u2,u4,u5⟩
  case istep=>
   rintro x c y _ hxk ⟨rfl,p,q,rfl,u1,u2,u3,u4,u5⟩;dsimp only
   by_cases hge:p≥q
   ·rw[if_pos hge]
    have:p=q:=by omega
    subst this;exact wpS_pure ⟨rfl,p,p,rfl,u2,u4,u5⟩
   ·rw[if_neg hge];refine wpS_bind (a6p L B1 (by omega) (by omega) ?_)
    by_cases hless:Kk κ (arrOf y) (lo+k)<Kk κ (arrOf y) (lo+(p+q) / 2)
    ·simp only[hless,decide_true,if_true];refine wpS_pure ⟨rfl,p,(p+q) / 2,rfl,by omega,by omega,by omega,u4,fun i h1 h2=>?_⟩;exact Int.lt_of_lt_of_le hless (r2 _ _ h1 h2)
    ·simp only[hless,decide_false,Bool.false_eq_true,if_false];refine wpS_pure ⟨rfl,(p+q) / 2+1,q,rfl,by omega,by omega,by omega,fun i h1=>?_,u5⟩;exact Int.le_trans (r2 i ((p+q) / 2) (by omega) (by omega)) (Int.not_lt.mp hless)
  case ipost=>
   rintro c y ⟨rfl,p,q,rfl,u2,u4,u5⟩
   show wpS _ _ _ _ (do moveDown' (lo+k) (lo+p);pure (ForInStep.yield (none,()))) _ _
   rw[moveDown'_eq];have hks:lo+k<(arrOf y).size:=by rw[B1.sz];omega
   refine wpS_bind (wpS_modify (wpS_pure ⟨rfl,r1.trans (Ar.bub hks (by omega) (by omega)),?_⟩));rw[show min (k+1) n=k+1 by omega];intro i j hij hj
   show Kk κ (bubble (arrOf y) (lo+k) (lo+k - (lo+p))) (lo+i)≤Kk κ (bubble (arrOf y) (lo+k) (lo+k - (lo+p))) (lo+j)
   rw[b2e hks (by omega),b2e hks (by omega),show lo+k - (lo+k - (lo+p))=lo+p by omega];have ek:∀ t,1≤t->lo+t - 1=lo+(t - 1):=fun t ht=>by omega
   repeat' split
   all_goals first
    | (exfalso;omega)
    | exact Int.le_refl _
    | exact u4 _ (by omega)
    | (rw[ek _ (by omega)];exact u4 _ (by omega))
    | exact Int.le_of_lt (u5 _ (by omega) (by omega))
    | (rw[ek _ (by omega)];exact Int.le_of_lt (u5 _ (by omega) (by omega)))
    | exact r2 _ _ (by omega) (by omega)
    | (rw[ek j (by omega)];exact r2 _ _ (by omega) (by omega))
    | (rw[ek i (by omega)];exact r2 _ _ (by omega) (by omega))
    | (rw[ek i (by omega),ek j (by omega)];exact r2 _ _ (by omega) (by omega))
end
end Tim
namespace Tim
open PySem PyProof.Rows
abbrev U1:=Option (Option Nat)×Nat
abbrev U2:=Option (Option Nat)×Nat×Nat
def rise (lo p nr:Nat):SM U1:=forIn [p:nr] ((none,p):U1) fun _ c=>do
 let x <- ltAt' (lo+c.2) (lo+c.2 - 1)
 match x with
 | some sm=>if sm=true then pure (.done (none,c.2)) else pure (.yield (none,c.2+1))
 | _=>pure (.done (some none,c.2))
def fin3 (lo n nr:Nat):SM (Option Nat):=do
 reverseSlice' lo (lo+n)
 let c <- rise lo n nr
 match c.1 with
 | some r=>pure r
 | none=>pure (some c.2)
def fall (lo n nr:Nat):SM U2:=forIn [n:nr] ((none,n,0):U2) fun _ c=>do
 let x <- ltAt' (lo+c.2.1) (lo+c.2.1 - 1)
 match x with
 | some sm=>
  if sm=true then
   if c.2.2 > 0 then do
    reverseSlice' (lo+c.2.1 - (c.2.2+1)) (lo+c.2.1)
    pure (.yield (none,c.2.1+1,0))
   else pure (.yield (none,c.2.1+1,0))
  else do
   let x <- ltAt' (lo+c.2.1 - 1) (lo+c.2.1)
   match x with
   | some lg=>if lg=true then pure (.done (none,c.2.1,c.2.2)) else pure (.yield (none,c.2.1+1,c.2.2+1))
   | _=>pure (.done (some none,c.2.1,c.2.2))
 | _=>pure (.done (some none,c.2.1,c.2.2))
def part (lo n nr:Nat):SM (Option Nat):=do
 liftM (rule "list.sort.descending-run")
 let c <- fall lo (n+1) nr
 match c.1 with
 | some r=>pure r
 | none=>
  if c.2.2 > 0 then do
   reverseSlice' (lo+c.2.1 - (c.2.2+1)) (lo+c.2.1)
   fin3 lo c.2.1 nr
  else fin3 lo c.2.1 nr
theorem a5L (lo nr:Nat):countRun' lo nr=(do
  let c <- rise lo 1 nr
  match c.1 with
  | some r=>pure r
  | none=>
   if (c.2==nr)=true then pure (some c.2)
   else if c.2 > 1 then do
    let x <- ltAt' lo (lo+c.2 - 1)
    match x with
    | some up=>if up=true then pure (some c.2) else do
      reverseSlice' lo (lo+c.2)
      part lo c.2 nr
    | _=>pure none
   else part lo c.2 nr):=by
 have tl:∀ n,(do
   reverseSlice' lo (lo+n)
   let c <- rise lo n nr
   match c.1 with
   | some r=>pure r
   | none=>pure (some c.2))=fin3 lo n nr:=fun n=>rfl
 rw[countRun'_eq];refine bd2 rfl fun c=>?_;obtain⟨r,n⟩:=c;have pt:∀ n,part lo n nr=part lo n nr:=fun n=>rfl;cases r with
 | some r=>rfl
 | none=>
  dsimp only
  split
  ·rfl
  ·split
   ·refine bind_congr fun x=>?_;cases x with
    | none=>rfl
    | some up=>
     dsimp only
     split
     ·rfl
     ·refine bind_congr fun _=>bind_congr fun _=>bd2 rfl fun c=>?_;obtain⟨r,n,q⟩:=c;cases r with
      | some r=>rfl
      | none=>
       dsimp only
       split
       ·refine bind_congr fun _=>bind_congr fun _=>bd2 rfl fun c=>?_;obtain⟨r,n⟩:=c;cases r<;>rfl
       ·refine bind_congr fun _=>bd2 rfl fun c=>?_;obtain⟨r,n⟩:=c;cases r<;>rfl
   ·refine bind_congr fun _=>bd2 rfl fun c=>?_;obtain⟨r,n,q⟩:=c;cases r with
    | some r=>rfl
    | none=>
     dsimp only
     split
     ·refine bind_congr fun _=>bind_congr fun _=>bd2 rfl fun c=>?_;obtain⟨r,n⟩:=c;cases r<;>rfl
     ·refine bind_congr fun _=>bd2 rfl fun c=>?_;obtain⟨r,n⟩:=c;cases r<;>rfl
section
variable {M:Model}{A:Around}{E:Value->Shared->Prop}{s:Shared}{κ:KF}{k0:SortKind}{a₀:Array Keyed}{st:SortSt}{lo nr:Nat}
theorem b1s {i j:Nat}{α:Type}{f:Unit->SM α}{Q:α->SortSt->Prop}(h:wpS M A E s (f ()) Q (setArr st (mirror (arrOf st) i j ((j - i) / 2)))):wpS M A E s (reverseSlice' i j >>= f) Q st:=by
 rw[reverseSlice'_eq];exact wpS_bind (wpS_modify h)
theorem SR.one {xs:Array Keyed}:SR κ xs lo 1:=fun i j h1 h2=>by
 have:i=j:=by omega
 rw[this];exact Int.le_refl _
theorem SR.snoc {xs:Array Keyed}{n:Nat}(h:SR κ xs lo n) (h1:1≤n) (c:Kk κ xs (lo+n - 1)≤Kk κ xs (lo+n)):SR κ xs lo (n+1):=fun i j hij hj=>by
 by_cases hjn:j<n
 ·exact h i j hij hjn
 ·have e:j=n:=by omega
  subst e
  by_cases e2:i=j
  ·rw[e2];exact Int.le_refl _
  ·refine Int.le_trans (h i (j - 1) (by omega) (by omega)) ?_;rw[show lo+(j - 1)=lo+j - 1 by omega];exact c
theorem NR.snoc {xs:Array Keyed}{n:Nat}(h:NR κ xs lo n) (h1:1≤n) (c:Kk κ xs (lo+n)≤Kk κ xs (lo+n - 1)):NR κ xs lo (n+1):=fun i j hij hj=>by
 by_cases hjn:j<n
 ·exact h i j hij hjn
 ·have e:j=n:=by omega
  subst e
  by_cases e2:i=j
  ·rw[e2];exact Int.le_refl _
  ·refine Int.le_trans ?_ (h i (j - 1) (by omega) (by omega));rw[show lo+(j - 1)=lo+j - 1 by omega];exact c
theorem NR.congr {xs ys:Array Keyed}{n:Nat}(h:NR κ xs lo n) (e:∀ k,Kk κ ys k=Kk κ xs k):NR κ ys lo n:=fun i j h1 h2=>by rw[e,e];exact h i j h1 h2
theorem b2f {p:Nat}{Q:U1->SortSt->Prop}(L:LtOk M A E s κ k0 a₀) (B:TB k0 a₀ st) (hn:lo+nr≤a₀.size) (hp:1≤p) (hpn:p≤nr) (hs:SR κ (arrOf st) lo p)
  (h:∀ n,p≤n->n≤nr->SR κ (arrOf st) lo n->(n=nr\/Kk κ (arrOf st) (lo+n)<Kk κ (arrOf st) (lo+n - 1))->Q (none,n) st):wpS M A E s (rise lo p nr) Q st:=by
 unfold rise;refine wpS_forRange (I:=fun x c z=>z=st/\c=(none,x)/\SR κ (arrOf st) lo x) ?step ?fin ⟨rfl,rfl,hs⟩
 case fin=>
  rintro c z ⟨rfl,rfl,h2⟩;rw[show max p nr=nr by omega]at h2 ⊢;exact h nr hpn (Nat.le_refl _) h2 (.inl rfl)
 case step=>
  rintro x c z hax hxn ⟨rfl,rfl,h2⟩;dsimp only;refine wpS_bind (a6p L B (by omega) (by omega) ?_)
  by_cases q:Kk κ (arrOf z) (lo+x)<Kk κ (arrOf z) (lo+x - 1)
  ·simp only[q,decide_true,if_true];exact wpS_pure (h x hax (by omega) h2 (.inr q))
  ·simp only[q,decide_false,Bool.false_eq_true,if_false];exact wpS_pure ⟨rfl,rfl,h2.snoc (by omega) (Int.not_lt.mp q)⟩
theorem b2g {n:Nat}{Q:Option Nat->SortSt->Prop}(L:LtOk M A E s κ k0 a₀) (B:TB k0 a₀ st) (hn:lo+nr≤a₀.size) (h1:1≤n) (hnn:n≤nr) (hs:NR κ (arrOf st) lo n)
  (h:∀ m z,Ar st z lo->1≤m->m≤nr->SR κ (arrOf z) lo m->Q (some m) z):wpS M A E s (fin3 lo n nr) Q st:=by
 unfold fin3;have hsz:lo+n≤(arrOf st).size:=by rw[B.sz];omega
 refine b1s ?_;have r1:Ar st (setArr st (mirror (arrOf st) lo (lo+n) ((lo+n - lo) / 2))) lo:=Ar.mir hsz (Nat.le_refl _);refine wpS_bind (b2f L (r1.tb B) hn h1 hnn ?_ fun m m1 m2 m3 _=>wpS_pure (h m _ r1 (by omega) m2 m3));intro i j hij hj
 show Kk κ (mirror (arrOf st) lo (lo+n) ((lo+n - lo) / 2)) (lo+i)≤Kk κ (mirror (arrOf st) lo (lo+n) ((lo+n - lo) / 2)) (lo+j)
 rw[a93 hsz,a93 hsz,if_pos (by omega),if_pos (by omega),show lo+(lo+n) - 1 - (lo+i)=lo+(n - 1 - i) by omega,show lo+(lo+n) - 1 - (lo+j)=lo+(n - 1 - j) by omega];exact hs _ _ (by omega) (by omega)
theorem b5s {n:Nat}{Q:U2->SortSt->Prop}(L:LtOk M A E s κ k0 a₀) (B:TB k0 a₀ st) (hn:lo+nr≤a₀.size) (h1:1≤n) (hnn:n≤nr) (hs:NR κ (arrOf st) lo n)
  (h:∀ m e z,Ar st z lo->n≤m->m≤nr->NR κ (arrOf z) lo m->e+1≤m->(∀ i,lo+m - (e+1)≤i->i<lo+m->Kk κ (arrOf z) i=Kk κ (arrOf z) (lo+m - 1))->Q (none,m,e) z):wpS M A E s (fall lo n nr) Q st:=by
 unfold fall;refine wpS_forRange (I:=fun x c z=>∃ e,c=(none,x,e)/\Ar st z lo/\NR κ (arrOf z) lo x/\e+1≤x/\(∀ i,lo+x - (e+1)≤i->i<lo+x->Kk κ (arrOf z) i=Kk κ (arrOf z) (lo+x - 1))) ?step ?fin ⟨0,rfl,Ar.refl _ _,hs,by omega,fun i h1 h2=>by congr 1;omega⟩
 case fin=>
  rintro c z ⟨e,rfl,r1,h2,h3,h4⟩;rw[show max n nr=nr by omega]at h2 h3 h4 ⊢;exact h nr e z r1 hnn (Nat.le_refl _) h2 h3 h4
 case step=>
  rintro x c z hax hxn ⟨e,rfl,r1,h2,h3,h4⟩;dsimp only;have B1:=r1.tb B;have hsz:lo+x≤(arrOf z).size:=by rw[B1.sz];omega
  refine wpS_bind (a6p L B1 (by omega) (by omega) ?_)
  by_cases q:Kk κ (arrOf z) (lo+x)<Kk κ (arrOf z) (lo+x - 1)
  ·simp only[q,decide_true,if_true];have h5:=h2.snoc (by omega) (Int.le_of_lt q)
   by_cases he:e > 0
   ·rw[if_pos he];exact b1s (wpS_pure ⟨0,rfl,r1.trans (Ar.mir hsz (by omega)),h5.congr (a4y hsz h4),by omega,fun i h1 h2=>by congr 1;omega⟩)
   ·rw[if_neg he];exact wpS_pure ⟨0,rfl,r1,h5,by omega,fun i h1 h2=>by congr 1;omega⟩
  ·simp only[q,decide_false,Bool.false_eq_true,if_false];refine wpS_bind (a6p L B1 (by omega) (by omega) ?_)
   by_cases q2:Kk κ (arrOf z) (lo+x - 1)<Kk κ (arrOf z) (lo+x)
   ·simp only[q2,decide_true,if_true];exact wpS_pure (h x e z r1 hax (by omega) h2 h3 h4)
   ·simp only[q2,decide_false,Bool.false_eq_true,if_false];have he:Kk κ (arrOf z) (lo+x)=Kk κ (arrOf z) (lo+x - 1):=by omega
    refine wpS_pure ⟨e+1,rfl,r1,h2.snoc (by omega) (by omega),by omega,fun i h1 h2=>?_⟩;rw[show lo+(x+1) - 1=lo+x by omega]
    by_cases hix:i=lo+x
    ·rw[hix]
    ·rw[he];exact h4 i (by omega) (by omega)
theorem b2h {n:Nat}{Q:Option Nat->SortSt->Prop}(L:LtOk M A E s κ k0 a₀) (B:TB k0 a₀ st) (hn:lo+nr≤a₀.size) (hnn:n+1≤nr) (hs:NR κ (arrOf st) lo (n+1))
  (h:∀ m z,Ar st z lo->1≤m->m≤nr->SR κ (arrOf z) lo m->Q (some m) z):wpS M A E s (part lo n nr) Q st:=by
 unfold part;refine a5g ?_;refine wpS_bind (b5s L B hn (by omega) hnn hs fun m e z r1 m1 m2 m3 m4 m5=>?_);dsimp only;have B1:=r1.tb B;have hsz:lo+m≤(arrOf z).size:=by rw[B1.sz];omega
 by_cases he:e > 0
 ·rw[if_pos he];have r2:Ar st (setArr z (mirror (arrOf z) (lo+m - (e+1)) (lo+m) ((lo+m - (lo+m - (e+1))) / 2))) lo:=r1.trans (Ar.mir hsz (by omega));exact b1s (b2g L (r2.tb B) hn (by omega) m2 (m3.congr (a4y hsz m5)) fun k w r3=>h k w (r2.trans r3))
 ·rw[if_neg he];exact b2g L B1 hn (by omega) m2 m3 fun k w r3=>h k w (r1.trans r3)
theorem b3g {Q:Option Nat->SortSt->Prop}(L:LtOk M A E s κ k0 a₀) (B:TB k0 a₀ st) (hn:lo+nr≤a₀.size) (h1:1≤nr)
  (h:∀ m z,Ar st z lo->1≤m->m≤nr->SR κ (arrOf z) lo m->Q (some m) z):wpS M A E s (countRun' lo nr) Q st:=by
 rw[a5L];refine wpS_bind (b2f L B hn (Nat.le_refl 1) h1 SR.one fun n n1 n2 n3 n4=>?_);dsimp only
 by_cases hnn:n=nr
 ·rw[if_pos (by simpa using hnn)];exact wpS_pure (h n st (Ar.refl _ _) n1 n2 n3)
 ·rw[if_neg (by simpa using hnn)];have hlt:=n4.resolve_left hnn;have hsz:lo+n≤(arrOf st).size:=by rw[B.sz];omega
  by_cases hgt:n > 1
  ·rw[if_pos hgt];refine wpS_bind (a6p L B (by omega) (by omega) ?_)
   by_cases q:Kk κ (arrOf st) lo<Kk κ (arrOf st) (lo+n - 1)
   ·simp only[q,decide_true,if_true];exact wpS_pure (h n st (Ar.refl _ _) n1 n2 n3)
   ·simp only[q,decide_false,Bool.false_eq_true,if_false];have hall:∀ k,lo≤k->k<lo+n->Kk κ (arrOf st) k=Kk κ (arrOf st) (lo+n - 1):=fun k k1 k2=>by
     have a1:=n3 0 (k - lo) (by omega) (by omega);have a2:=n3 (k - lo) (n - 1) (by omega) (by omega);rw[show lo+(k - lo)=k by omega]at a1 a2;rw[show lo+(n - 1)=lo+n - 1 by omega]at a2;rw[Nat.add_zero]at a1;omega
    have r2:Ar st (setArr st (mirror (arrOf st) lo (lo+n) ((lo+n - lo) / 2))) lo:=Ar.mir hsz (Nat.le_refl _);have hN:NR κ (arrOf st) lo (n+1):=by
     refine NR.snoc (fun i j hij hj=>?_) (by omega) (Int.le_of_lt hlt);rw[hall (lo+i) (by omega) (by omega),hall (lo+j) (by omega) (by omega)];exact Int.le_refl _
    exact b1s (b2h L (r2.tb B) hn (by omega) (hN.congr (a4y hsz hall)) fun k w r3=>h k w (r2.trans r3))
  ·rw[if_neg hgt]
   have:n=1:=by omega
   subst this;refine b2h L B hn (by omega) ?_ h;refine NR.snoc (fun i j hij hj=>?_) (by omega) (Int.le_of_lt hlt)
   have:i=j:=by omega
   rw[this];exact Int.le_refl _
end
end Tim
namespace Tim
open PySem PyProof.Rows
theorem a69 (i:Nat):mergeAt' i=(do
 let z <- get
 let (some (p,n,w),some (q,m,_)):=((pendingOf z)[i]?,(pendingOf z)[i+1]?) | unsupported "internal:list.sort.pending"
 set (setPending z (((pendingOf z).setIfInBounds i (p,n+m,w)).eraseIdxIfInBounds (i+1)))
 let some k <- a1T false (<- elem' (arrOf z) q) (arrOf z) p n 0 | return false
 let (p,n):=(p+k,n - k)
 if n==0 then return true
 let some m <- a1T true (<- elem' (arrOf z) (p+n - 1)) (arrOf z) q m (m - 1) | return false
 if m==0 then return true
 let x:=(arrOf z).extract p q
 let y:=(arrOf z).extract q (q+m)
 let mg <- if n≤m then a4e x y else a5K x y
 modify fun z=>setArr z (mg.toList.zipIdx.foldl (fun a (v,j)=>a.setIfInBounds (p+j) v) (arrOf z))
 return (failedOf (<- get)).isNone):=rfl
theorem a7O (bs:Nat):∀ (l:List Keyed) (k:Nat) (xs:Array Keyed),bs+k+l.length≤xs.size ->
  ((l.zipIdx k).foldl (fun a (pj:Keyed×Nat)=>a.setIfInBounds (bs+pj.2) pj.1) xs).toList=xs.toList.take (bs+k)++(l++xs.toList.drop (bs+k+l.length))
 | [],k,xs,_=>by simp
 | x::l,k,xs,h=>by
  rw[List.length_cons]at h;rw[List.zipIdx_cons,List.foldl_cons,a7O bs l (k+1) _ (by rw[Array.size_setIfInBounds];omega)];have e:(xs.setIfInBounds (bs+k) x).toList=xs.toList.set (bs+k) x:=by simp
  show (xs.setIfInBounds (bs+k) x).toList.take _++(l++(xs.setIfInBounds (bs+k) x).toList.drop _)=_
  rw[e,show bs+(k+1)=bs+k+1 by omega,List.drop_set_of_lt (by omega),List.length_cons,show bs+k+1+l.length=bs+k+(l.length+1) by omega]
  have:(xs.toList.set (bs+k) x).take (bs+k+1)=xs.toList.take (bs+k)++[x]:=by
   rw[List.take_add_one,List.take_set_of_le (Nat.le_refl _),List.getElem?_set_self (by rw[a1c];omega)]
   rfl
  rw[this];simp
section
variable {M:Model}{A:Around}{E:Value->Shared->Prop}{s:Shared}{κ:KF}{k0:SortKind}{a₀:Array Keyed}{st:SortSt}
theorem b7b {z:SortSt}{Q:PUnit->SortSt->Prop}(h:Q ⟨⟩ z):wpS M A E s (set z:SM PUnit) Q st:=by
 unfold wpS;rw[StateT.run_set];exact wpAny_pure ⟨rfl,h⟩
theorem b2i {xs:Array Keyed}{P X R:List Keyed}(e:xs.toList=P++(X++R)) {i:Nat}(hi:i<X.length):Kk κ xs (P.length+i)=κ X[i]:=by
 refine a4x ?_;rw[e,List.getElem?_append_right (by omega),List.getElem?_append_left (by omega),show P.length+i - P.length=i by omega];exact List.getElem?_eq_getElem hi
theorem a3g {X:List Keyed}(h:Srt κ X) {i j:Nat}(hij:i≤j) (hj:j<X.length):κ (X[i]'(by omega))≤κ X[j]:=by
 by_cases e:i=j
 ·subst e;exact Int.le_refl _
 ·exact List.pairwise_iff_getElem.mp h i j (by omega) hj (by omega)
theorem a7P {X:List Keyed}{x:Keyed}(h:x∈X):∃ i,∃ (hi:i<X.length),X[i]=x:=List.mem_iff_getElem.mp h
theorem a6s {X:List Keyed}{x:Keyed}{k:Nat}(h:x∈X.take k):∃ i,∃ (hi:i<X.length),i<k/\X[i]=x:=by
 obtain⟨q,h1,h2⟩:=a2Z h;obtain⟨h3,h4⟩:=List.getElem?_eq_some_iff.mp h2;exact⟨q,h3,h1,h4⟩
theorem a7Q {X:List Keyed}{x:Keyed}{k:Nat}(h:x∈X.drop k):∃ i,∃ (hi:i<X.length),k≤i/\X[i]=x:=by
 obtain⟨q,h1,h2,h3⟩:=a2Y h;obtain⟨h4,h5⟩:=List.getElem?_eq_some_iff.mp h3;exact⟨q,h4,h1,h5⟩
theorem a94 {i sa na pw sb nb pw2:Nat}{P X Y S:List Keyed}{Q:Bool->SortSt->Prop}(L:LtOk M A E s κ k0 a₀) (B:TB k0 a₀ st) (e1:(pendingOf st)[i]?=some (sa,na,pw)) (e2:(pendingOf st)[i+1]?=some (sb,nb,pw2))
  (ea:(arrOf st).toList=P++(X++(Y++S))) (hP:P.length=sa) (hX:X.length=na) (hsb:sb=sa+na) (hY:Y.length=nb) (sX:Srt κ X) (sY:Srt κ Y) (h1:0<na) (h2:0<nb)
  (h:∀ st' Z,TB k0 a₀ st'->(arrOf st').toList=P++(Z++S)->Z.length=na+nb->Srt κ Z->pendingOf st'=((pendingOf st).setIfInBounds i (sa,na+nb,pw)).eraseIdxIfInBounds (i+1)->Q true st'):wpS M A E s (mergeAt' i) Q st:=by
 have hsz:(arrOf st).size=sa+na+nb+S.length:=by
  rw[<- a1c,ea];simp;omega
 have hmem:∀ p∈(arrOf st).toList,p∈a₀.toList:=fun p hp=>(Array.perm_iff_toList_perm.mp B.pm).mem_iff.mp hp;have eb:(arrOf st).toList=(P++X)++(Y++S):=by rw[ea,List.append_assoc]
 have kX:∀ i,(hi:i<X.length)->Kk κ (arrOf st) (sa+i)=κ X[i]:=fun i hi=>by rw[<- hP];exact b2i ea hi
 have kY:∀ i,(hi:i<Y.length)->Kk κ (arrOf st) (sb+i)=κ Y[i]:=fun i hi=>by
  rw[hsb,<- hP,<- hX,<- List.length_append];exact b2i eb hi
 rw[a69];refine wpS_bind (wpS_get ?_);rw[e1,e2];dsimp only;refine wpS_bind (b7b ?_);have B1:TB k0 a₀ (setPending st (((pendingOf st).setIfInBounds i (sa,na+nb,pw)).eraseIdxIfInBounds (i+1))):=⟨B.pm,B.kd,B.fl⟩;have hs1:arrOf (setPending st (((pendingOf st).setIfInBounds i (sa,na+nb,pw)).eraseIdxIfInBounds (i+1)))=arrOf st:=rfl;have hp1:pendingOf (setPending st (((pendingOf st).setIfInBounds i (sa,na+nb,pw)).eraseIdxIfInBounds (i+1)))=((pendingOf st).setIfInBounds i (sa,na+nb,pw)).eraseIdxIfInBounds (i+1):=rfl;generalize setPending st (((pendingOf st).setIfInBounds i (sa,na+nb,pw)).eraseIdxIfInBounds (i+1))=st1 at B1 hs1 hp1;have hy0:sb<(arrOf st).size:=by omega
 have ey:(arrOf st)[sb]?=some (arrOf st)[sb]:=getElem?_pos ..;have hky:κ (arrOf st)[sb]=κ Y[0]:=by
  have:=kY 0 (by omega)
  rw[Nat.add_zero,a65 ey]at this;exact this
 have hmy:(arrOf st)[sb]∈a₀.toList:=hmem _ (by simp);refine wpS_bind (a0W ey (wpS_bind ?_));refine a2H L B1.kd hmy hmem (by omega) (by omega) (fun p q hp hq=>by rw[kX p (by omega),kX q (by omega)];exact a3g sX hp (by omega)) fun k hkn hlt hge=>?_;dsimp only;have lo:∀ q,(hq:q<X.length)->q<k->κ X[q]≤κ Y[0]:=fun q hq hqk=>by
  have:=hlt q hqk
  rw[kX q hq,hky]at this;simpa[bq]using this
 have up:∀ q,(hq:q<X.length)->k≤q->κ Y[0]<κ X[q]:=fun q hq hqk=>by
  have:=hge q hqk (by omega)
  rw[kX q hq,hky]at this;simpa[bq]using this
 have whole:(∀ x∈X,∀ y∈Y,κ x≤κ y)->Q true st1:=fun hxy=>by
  refine h st1 (X++Y) B1 (by rw[hs1,ea,List.append_assoc]) (by rw[List.length_append,hX,hY]) ?_ hp1;exact List.pairwise_append.mpr ⟨sX,sY,hxy⟩
 by_cases c1:na - k=0
 ·rw[if_pos (by simpa using c1)];refine wpS_pure (whole fun x hx y hy=>?_);obtain⟨q,hq,rfl⟩:=a7P hx;obtain⟨r,hr,rfl⟩:=a7P hy;exact Int.le_trans (lo q hq (by omega)) (a3g sY (Nat.zero_le _) hr)
 rw[if_neg (by simpa using c1)];have hl:sa+k+(na - k) - 1<(arrOf st).size:=by omega
 have ex:(arrOf st)[sa+k+(na - k) - 1]?=some (arrOf st)[sa+k+(na - k) - 1]:=getElem?_pos ..;have hkx:κ (arrOf st)[sa+k+(na - k) - 1]=κ X[na - 1]:=by
  have:=kX (na - 1) (by omega)
  rw[show sa+(na - 1)=sa+k+(na - k) - 1 by omega,a65 ex]at this;exact this
 have hmx:(arrOf st)[sa+k+(na - k) - 1]∈a₀.toList:=hmem _ (by simp);refine wpS_bind (a0W ex (wpS_bind ?_));refine a2H L B1.kd hmx hmem (by omega) (by omega) (fun p q hp hq=>by rw[kY p (by omega),kY q (by omega)];exact a3g sY hp (by omega)) fun m hmn hlt2 hge2=>?_;dsimp only;have lo2:∀ q,(hq:q<Y.length)->q<m->κ Y[q]<κ X[na - 1]:=fun q hq hqk=>by
  have:=hlt2 q hqk
  rw[kY q hq,hkx]at this;simpa[bq]using this
 have up2:∀ q,(hq:q<Y.length)->m≤q->κ X[na - 1]≤κ Y[q]:=fun q hq hqk=>by
  have:=hge2 q hqk (by omega)
  rw[kY q hq,hkx]at this;simpa[bq]using this
 by_cases c2:m=0
 ·rw[if_pos (by simpa using c2)];refine wpS_pure (whole fun x hx y hy=>?_);obtain⟨q,hq,rfl⟩:=a7P hx;obtain⟨r,hr,rfl⟩:=a7P hy;exact Int.le_trans (a3g sX (by omega) (by omega)) (up2 r hr (by omega))
 rw[if_neg (by simpa using c2)];have lx:((arrOf st).extract (sa+k) sb).toList=X.drop k:=by
  rw[Array.toList_extract,List.extract_eq_take_drop,ea,List.drop_append,<- hP,List.drop_eq_nil_of_le (by omega),List.nil_append,show P.length+k - P.length=k by omega,List.drop_append_of_le_length (by omega),List.take_append_of_le_length (by rw[List.length_drop];omega),List.take_of_length_le (by rw[List.length_drop];omega)]
 have ly:((arrOf st).extract sb (sb+m)).toList=Y.take m:=by
  rw[Array.toList_extract,List.extract_eq_take_drop,eb,List.drop_append,List.drop_eq_nil_of_le (by rw[List.length_append];omega),List.nil_append,show sb - (P++X).length=0 by rw[List.length_append];omega,List.drop_zero,List.take_append_of_le_length (by omega),show sb+m - sb=m by omega]
 have C:MC M A E s κ k0 a₀ ((arrOf st).extract (sa+k) sb) ((arrOf st).extract sb (sb+m)):=by
  refine⟨L,fun p hp=>?_,fun p hp=>?_,?_,?_,?_,?_,fun y hy=>?_,fun z hz y hy=>?_⟩
  ·rw[lx]at hp;exact hmem p (by rw[ea];simp[List.mem_of_mem_drop hp])
  ·rw[ly]at hp;exact hmem p (by rw[ea];simp[List.mem_of_mem_take hp])
  ·rw[lx];exact a1x sX k
  ·rw[ly];exact a2d sY m
  ·rw[<- a1c,lx,List.length_drop];omega
  ·rw[<- a1c,ly,List.length_take];omega
  ·rw[lx]at hy;obtain⟨q,hq,hk,rfl⟩:=a7Q hy;rw[a4x (z:=Y[0]) (by rw[ly,List.getElem?_take,if_pos (by omega)];exact List.getElem?_eq_getElem _)];exact Int.le_of_lt (up q hq hk)
  ·rw[ly]at hy;rw[lx,List.length_drop,List.getElem?_drop,show k+(X.length - k - 1)=na - 1 by omega,List.getElem?_eq_getElem (show na - 1<X.length by omega)]at hz;cases hz;obtain⟨q,hq,hk,rfl⟩:=a6s hy;exact Int.le_of_lt (lo2 q hq hk)
 have fin:∀ (r:Array Keyed) (st2:SortSt),SG st1 st2->Mgd κ ((arrOf st).extract (sa+k) sb).toList ((arrOf st).extract sb (sb+m)).toList r.toList ->
   wpS M A E s (do
    modify fun z=>setArr z (r.toList.zipIdx.foldl (fun a (pj:Keyed×Nat)=>a.setIfInBounds (sa+k+pj.2) pj.1) (arrOf z))
    return (failedOf (<- get)).isNone) Q st2:=by
  intro r st2 g2 mg;rw[lx,ly]at mg;have hrl:r.toList.length=na - k+m:=by rw[mg.1.length_eq,List.length_append,List.length_drop,List.length_take];omega
  refine wpS_bind (wpS_modify (wpS_bind (wpS_get (wpS_pure ?_))));have ha2:arrOf st2=arrOf st:=g2.ar.trans hs1;have ef:=a7O (sa+k) r.toList 0 (arrOf st2) (by rw[ha2];omega);have el:(r.toList.zipIdx.foldl (fun a (pj:Keyed×Nat)=>a.setIfInBounds (sa+k+pj.2) pj.1) (arrOf st2)).toList=P++((X.take k++r.toList++Y.drop m)++S):=by
   rw[ef,ha2,Nat.add_zero,hrl];have t1:(arrOf st).toList.take (sa+k)=P++X.take k:=by
    rw[ea,List.take_append,List.take_of_length_le (by omega),<- hP,show P.length+k - P.length=k by omega,List.take_append_of_le_length (by omega)]
   have t2:(arrOf st).toList.drop (sa+k+(na - k+m))=Y.drop m++S:=by
    rw[eb,List.drop_append,List.drop_eq_nil_of_le (by rw[List.length_append];omega),List.nil_append,show sa+k+(na - k+m) - (P++X).length=m by rw[List.length_append];omega,List.drop_append_of_le_length (by omega)]
   rw[t1,t2];simp
  generalize hgz:r.toList.zipIdx.foldl (fun a (pj:Keyed×Nat)=>a.setIfInBounds (sa+k+pj.2) pj.1) (arrOf st2)=ar at el;have hperm:(X.take k++r.toList++Y.drop m).Perm (X++Y):=by
   have:(X.take k++r.toList++Y.drop m).Perm (X.take k++(X.drop k++Y.take m)++Y.drop m):=(List.Perm.append_left _ mg.1).append_right _
   refine this.trans ?_;have e:X.take k++(X.drop k++Y.take m)++Y.drop m=X++Y:=by
    rw[<- List.append_assoc,List.take_append_drop,List.append_assoc,List.take_append_drop]
   rw[e]
  have pm:ar.Perm (arrOf st):=by
   rw[Array.perm_iff_toList_perm,el,ea];refine List.Perm.append_left _ ?_;rw[<- List.append_assoc (as:=X)];exact hperm.append_right _
  have hfl:failedOf (setArr st2 ar)=none:=g2.fl.trans B1.fl;have B2:TB k0 a₀ (setArr st2 ar):=⟨pm.trans B.pm,g2.kd.trans B1.kd,hfl⟩;rw[hfl];refine h _ _ B2 el (by rw[hperm.length_eq,List.length_append,hX,hY]) ?_ (g2.pe.trans hp1);have hr:∀ w∈r.toList,w∈X.drop k\/w∈Y.take m:=fun w hw=>List.mem_append.mp (mg.1.mem_iff.mp hw);refine List.pairwise_append.mpr ⟨List.pairwise_append.mpr ⟨a2d sX k,mg.2,fun x hx w hw=>?_⟩,a1x sY m,fun x hx y hy=>?_⟩
  ·obtain⟨q,hq,hk,rfl⟩:=a6s hx;rcases hr w hw with hw | hw
   ·obtain⟨p,hp,hk2,rfl⟩:=a7Q hw;exact a3g sX (by omega) hp
   ·obtain⟨p,hp,hk2,rfl⟩:=a6s hw;exact Int.le_trans (lo q hq hk) (a3g sY (Nat.zero_le _) hp)
  ·obtain⟨p,hp,hk2,rfl⟩:=a7Q hy;rcases List.mem_append.mp hx with hx | hx
   ·obtain⟨q,hq,hk,rfl⟩:=a6s hx;exact Int.le_trans (lo q hq hk) (a3g sY (Nat.zero_le _) hp)
   ·rcases hr x hx with hx | hx
    ·obtain⟨q,hq,hk,rfl⟩:=a7Q hx;exact Int.le_trans (a3g sX (by omega) (by omega)) (up2 p hp hk2)
    ·obtain⟨q,hq,hk,rfl⟩:=a6s hx;exact a3g sY (by omega) hp
 split
 ·exact wpS_bind (a91 C B1.kd fun r st2 g2 mg=>fin r st2 g2 mg)
 ·exact wpS_bind (a92 C B1.kd fun r st2 g2 mg=>fin r st2 g2 mg)
end
end Tim
namespace Tim
open PySem PyProof.Rows
def pr (p:Nat×Nat×Nat):Nat×Nat:=(p.1,p.2.1)
def offs:Nat->List (List Keyed)->List (Nat×Nat)
 | _,[]=>[]
 | o,R::Rs=>(o,R.length)::offs (o+R.length) Rs
theorem a2e:∀ (o:Nat) (U V:List (List Keyed)),offs o (U++V)=offs o U++offs (o+U.flatten.length) V
 | o,[],V=>by simp[offs]
 | o,R::U,V=>by
  rw[List.cons_append,offs,offs,a2e,List.cons_append,List.flatten_cons,List.length_append,Nat.add_assoc]
theorem a1j:∀ (o:Nat) (U:List (List Keyed)),(offs o U).length=U.length
 | _,[]=>rfl
 | o,R::U=>by rw[offs,List.length_cons,List.length_cons,a1j]
theorem a6t {α:Type}{q p1 p2:α}{pv:List α}:∀ pu:List α,((pu++p1::p2::pv).set pu.length q).eraseIdx (pu.length+1)=pu++q::pv
 | []=>rfl
 | x::pu=>by rw[List.cons_append,List.length_cons,List.set_cons_succ,List.eraseIdx_cons_succ,a6t pu,List.cons_append]
theorem a6u {α β:Type}{f:α->β}:∀ (l:List α) (k:Nat),(l.map f).eraseIdx k=(l.eraseIdx k).map f
 | [],_=>by simp
 | x::l,0=>by simp
 | x::l,k+1=>by rw[List.map_cons,List.eraseIdx_cons_succ,List.eraseIdx_cons_succ,List.map_cons,a6u l k]
theorem a7R:∀ {Rs:List (List Keyed)},(∀ R∈Rs,R≠[])->Rs.length≤Rs.flatten.length
 | [],_=>by simp
 | R::Rs,h=>by
  have:=a7R fun R hR=>h R (.tail _ hR)
  have h1:=List.length_pos_iff.mpr (h R (.head _));rw[List.flatten_cons,List.length_append,List.length_cons];omega
def Runs (κ:KF) (st:SortSt) (lo:Nat) (rest:List Keyed):Prop:=∃ Rs:List (List Keyed),(arrOf st).toList=Rs.flatten++rest/\(∀ R∈Rs,Srt κ R/\R≠[])/\Rs.flatten.length=lo/\(pendingOf st).toList.map pr=offs 0 Rs
section
variable {M:Model}{A:Around}{E:Value->Shared->Prop}{s:Shared}{κ:KF}{k0:SortKind}{a₀:Array Keyed}{st:SortSt}
theorem a20 {i lo:Nat}{rest:List Keyed}{Q:Bool->SortSt->Prop}(L:LtOk M A E s κ k0 a₀) (B:TB k0 a₀ st) (R:Runs κ st lo rest) (hi:i+1<(pendingOf st).size)
  (h:∀ st',TB k0 a₀ st'->Runs κ st' lo rest->(pendingOf st').size+1=(pendingOf st).size->Q true st'):wpS M A E s (mergeAt' i) Q st:=by
 obtain⟨Rs,e1,e2,e3,e4⟩:=R;have hlen:(pendingOf st).size=Rs.length:=by
  have:=congrArg List.length e4
  rw[List.length_map,a1j]at this;simpa using this
 obtain⟨U,X,Y,V,rfl,hU⟩:∃ U X Y V,Rs=U++X::Y::V/\U.length=i:=by
  refine⟨Rs.take i,Rs[i]'(by omega),Rs[i+1]'(by omega),Rs.drop (i+2),?_,by rw[List.length_take];omega⟩;rw[<- List.drop_eq_getElem_cons,<- List.drop_eq_getElem_cons,List.take_append_drop]
 have sX:=e2 X (by simp);have sY:=e2 Y (by simp);rw[a2e]at e4;simp only[offs,Nat.zero_add]at e4;have get:∀ (j:Nat) (x:Nat×Nat),(offs 0 U++(U.flatten.length,X.length)::(U.flatten.length+X.length,Y.length)::offs (U.flatten.length+X.length+Y.length) V)[j]?=some x->∃ w,(pendingOf st)[j]?=some (x.1,x.2,w):=fun j x hx=>by
  rw[<- e4,List.getElem?_map]at hx;rw[<- Array.getElem?_toList];cases e:(pendingOf st).toList[j]? with
  | none=>rw[e]at hx;cases hx
  | some p=>
   rw[e]at hx;cases hx;exact⟨p.2.2,rfl⟩
 have hol:(offs 0 U).length=i:=by rw[a1j,hU]
 obtain⟨w1,g1⟩:=get i (U.flatten.length,X.length) (by rw[List.getElem?_append_right (by omega),hol,Nat.sub_self];rfl);obtain⟨w2,g2⟩:=get (i+1) (U.flatten.length+X.length,Y.length) (by rw[List.getElem?_append_right (by omega),hol,show i+1 - i=1 by omega];rfl);have ea:(arrOf st).toList=U.flatten++(X++(Y++(V.flatten++rest))):=by rw[e1];simp
 refine a94 L B g1 g2 ea rfl rfl rfl rfl sX.1 sY.1 (List.length_pos_iff.mpr sX.2) (List.length_pos_iff.mpr sY.2) fun st' Z B' z1 z2 z3 z4=>?_;have hpe:(pendingOf st').toList.map pr=offs 0 (U++Z::V):=by
  rw[z4,Array.toList_eraseIdxIfInBounds,Array.toList_setIfInBounds,<- a6u,List.map_set,e4,<- hol,a6t,a2e];simp only[offs,Nat.zero_add,pr];rw[z2,Nat.add_assoc]
 refine h st' B' ⟨U++Z::V,by rw[z1];simp,fun R hR=>?_,?_,hpe⟩ ?_
 ·rcases List.mem_append.mp hR with hR | hR
  ·exact e2 R (by simp[hR])
  ·rcases List.mem_cons.mp hR with rfl | hR
   ·exact⟨z3,fun z=>by rw[z]at z2;have:=List.length_pos_iff.mpr sX.2;simp at z2;omega⟩
   ·exact e2 R (by simp[hR])
 ·rw[<- e3];simp;omega
 ·have:=congrArg List.length hpe
  rw[List.length_map,a1j]at this;rw[hlen];simp at this ⊢;omega
theorem Runs.ar {st':SortSt}{lo n:Nat}{rest:List Keyed}(R:Runs κ st lo rest) (q:Ar st st' lo) (hs:SR κ (arrOf st') lo n) (hn:lo+n≤(arrOf st').size) (h1:1≤n):∃ X rest',Srt κ X/\X.length=n/\Runs κ st' lo (X++rest'):=by
 obtain⟨Rs,e1,e2,e3,e4⟩:=R;have hsz:(arrOf st').size=(arrOf st).size:=q.pm.size_eq;have htake:(arrOf st').toList.take lo=Rs.flatten:=by
  refine List.ext_getElem? fun i=>?_
  by_cases hi:i<lo
  ·rw[List.getElem?_take,if_pos hi,Array.getElem?_toList,q.pre i hi,<- Array.getElem?_toList,e1,List.getElem?_append_left (by omega)]
  ·rw[List.getElem?_eq_none (by rw[List.length_take];omega),List.getElem?_eq_none (by omega)]
 refine⟨((arrOf st').toList.drop lo).take n,((arrOf st').toList.drop lo).drop n,?_,by rw[List.length_take,List.length_drop,a1c];omega,Rs,?_,e2,e3,by rw[q.pe];exact e4⟩
 ·refine List.pairwise_iff_getElem.mpr fun i j hi hj hij=>?_;rw[List.length_take,List.length_drop,a1c]at hi hj
  have:=hs i j (by omega) (by omega)
  rw[a1i (show lo+i<(arrOf st').size by omega),a1i (show lo+j<(arrOf st').size by omega)]at this;simpa using this
 ·rw[List.take_append_drop,<- htake,List.take_append_drop]
theorem Runs.push {st':SortSt}{lo n:Nat}{X rest:List Keyed}(R:Runs κ st lo (X++rest)) (sX:Srt κ X) (hX:X.length=n) (h1:1≤n) (ha:arrOf st'=arrOf st) (hp:(pendingOf st').toList.map pr=(pendingOf st).toList.map pr++[(lo,n)]):Runs κ st' (lo+n) rest:=by
 obtain⟨Rs,e1,e2,e3,e4⟩:=R;refine⟨Rs++[X],by rw[ha,e1];simp,fun R hR=>?_,by simp[e3,hX],?_⟩
 ·rcases List.mem_append.mp hR with hR | hR
  ·exact e2 R hR
  ·rw[List.mem_singleton.mp hR];exact⟨sX,fun z=>by rw[z]at hX;simp at hX;omega⟩
 ·rw[hp,e4,a2e,Nat.zero_add,e3];simp[offs,hX]
theorem a8G {Q:Unit->SortSt->Prop}(L:LtOk M A E s κ k0 a₀) (B:TB k0 a₀ st) (hp:pendingOf st=#[])
  (h:∀ st',TB k0 a₀ st'->Srt κ (arrOf st').toList->Q () st'):wpS M A E s sortRuns' Q st:=by
 rw[sortRuns'_eq];refine wpS_bind (wpS_get ?_);dsimp only;rw[B.sz];generalize minRun' a₀.size a₀.size 0=mr;refine wpS_bind (wpS_mono (wpS_forRange (I:=fun x c z=>∃ lo rest,c=(none,lo)/\TB k0 a₀ z/\Runs κ z lo rest/\x≤lo)
  (Q:=fun c z=>∃ lo rest,c=(none,lo)/\TB k0 a₀ z/\Runs κ z lo rest/\a₀.size≤lo) ?step ?fin ⟨0,(arrOf st).toList,rfl,B,⟨[],by simp,fun R h=>by simp at h,rfl,by rw[hp];rfl⟩,Nat.le_refl _⟩) ?post)
 case fin=>
  rintro c z ⟨lo,rest,rfl,B1,R1,hx⟩;exact⟨lo,rest,rfl,B1,R1,by omega⟩
 case step=>
  rintro x c z _ hx ⟨lo,rest,rfl,B1,R1,hxl⟩;dsimp only
  by_cases c1:lo≥a₀.size
  ·rw[if_pos c1];exact wpS_pure ⟨lo,rest,rfl,B1,R1,c1⟩
  rw[if_neg c1];refine wpS_bind (b3g L B1 (by omega) (by omega) fun m z2 r2 m1 m2 m3=>?_);dsimp only
  by_cases c2:m<mr
  ·rw[if_pos c2];refine a5g ?_;refine wpS_bind (b1r L (r2.tb B1) (by omega) (by omega) m3 fun z3 r3 n3=>?_);rw[if_neg (by decide)];have r3:=r2.trans r3;have n1:1≤min (a₀.size - lo) mr:=by omega
   have n2:lo+min (a₀.size - lo) mr≤a₀.size:=by omega
   generalize min (a₀.size - lo) mr=n at n1 n2 n3 ⊢;have B3:=r3.tb B1;obtain⟨X,rest',sX,hX,R3⟩:=R1.ar r3 n3 (by rw[B3.sz];omega) n1;refine wpS_bind (wpS_get ?_);cases hb:(pendingOf z3).back? with
   | none=>
    dsimp only;refine wpS_bind (wpS_modify (wpS_pure ?_));exact⟨lo+n,rest',rfl,⟨B3.pm,B3.kd,B3.fl⟩,R3.push sX hX n1 rfl (by show (((pendingOf z3).push (lo,n,0)).toList).map pr=_;rw[Array.toList_push,List.map_append];rfl),by omega⟩
   | some p=>
    obtain⟨s1,n1',w1⟩:=p;dsimp only;generalize power' a₀.size (2*s1+n1') (2*s1+n1'+n1'+n) a₀.size=pw;refine wpS_bind (wpS_mono (wpS_forRange (I:=fun _ c y=>c=(none,())/\TB k0 a₀ y/\Runs κ y lo (X++rest')) (Q:=fun c y=>c=(none,())/\TB k0 a₀ y/\Runs κ y lo (X++rest')) ?s1 (fun _ _ hh=>hh) ⟨rfl,B3,R3⟩) ?p1)
    case s1=>
     rintro x c y _ _ ⟨rfl,By,Ry⟩;refine wpS_bind (wpS_get ?_)
     by_cases hgt:(pendingOf y).size > 1
     ·rw[if_pos hgt];have eo:(pendingOf y)[(pendingOf y).size - 2]?=some (pendingOf y)[(pendingOf y).size - 2]:=getElem?_pos ..;rw[eo];dsimp only
      split
      ·exact wpS_pure ⟨rfl,By,Ry⟩
      ·refine wpS_bind (a20 L By Ry (by omega) fun y2 B2 R2 _=>?_);rw[if_neg (by decide)];exact wpS_pure ⟨rfl,B2,R2⟩
     ·rw[if_neg hgt];exact wpS_pure ⟨rfl,By,Ry⟩
    case p1=>
     rintro c y ⟨rfl,By,Ry⟩;dsimp only;refine wpS_bind (wpS_modify (wpS_bind (wpS_modify (wpS_pure ?_))));refine⟨lo+n,rest',rfl,⟨By.pm,By.kd,By.fl⟩,Ry.push sX hX n1 rfl ?_,by omega⟩;have em:∀ (q:Array (Nat×Nat×Nat)) (k:Nat),(q.modify k fun (a,b,_)=>(a,b,pw)).toList.map pr=q.toList.map pr:=fun q k=>by
      refine List.ext_getElem? fun i=>?_;rw[List.getElem?_map,List.getElem?_map,Array.getElem?_toList,Array.getElem?_toList,Array.getElem?_modify]
      split
      ·cases q[i]? with
       | none=>rfl
       | some p=>rfl
      ·rfl
     show ((((pendingOf y).modify ((pendingOf y).size - 1) fun (a,b,_)=>(a,b,pw)).push (lo,n,0)).toList).map pr=_
     rw[Array.toList_push,List.map_append,em]
     rfl
  ·rw[if_neg c2];have n2:lo+m≤a₀.size:=by omega
   have n1:=m1;have n3:=m3;have r3:=r2;generalize m=n at n1 n2 n3 ⊢;generalize z2=z3 at r3 n3 ⊢;have B3:=r3.tb B1;obtain⟨X,rest',sX,hX,R3⟩:=R1.ar r3 n3 (by rw[B3.sz];omega) n1;refine wpS_bind (wpS_get ?_);cases hb:(pendingOf z3).back? with
   | none=>
    dsimp only;refine wpS_bind (wpS_modify (wpS_pure ?_));exact⟨lo+n,rest',rfl,⟨B3.pm,B3.kd,B3.fl⟩,R3.push sX hX n1 rfl (by show (((pendingOf z3).push (lo,n,0)).toList).map pr=_;rw[Array.toList_push,List.map_append];rfl),by omega⟩
   | some p=>
    obtain⟨s1,n1',w1⟩:=p;dsimp only;generalize power' a₀.size (2*s1+n1') (2*s1+n1'+n1'+n) a₀.size=pw;refine wpS_bind (wpS_mono (wpS_forRange (I:=fun _ c y=>c=(none,())/\TB k0 a₀ y/\Runs κ y lo (X++rest')) (Q:=fun c y=>c=(none,())/\TB k0 a₀ y/\Runs κ y lo (X++rest')) ?s1 (fun _ _ hh=>hh) ⟨rfl,B3,R3⟩) ?p1)
    case s1=>
     rintro x c y _ _ ⟨rfl,By,Ry⟩;refine wpS_bind (wpS_get ?_)
     by_cases hgt:(pendingOf y).size > 1
     ·rw[if_pos hgt];have eo:(pendingOf y)[(pendingOf y).size - 2]?=some (pendingOf y)[(pendingOf y).size - 2]:=getElem?_pos ..;rw[eo];dsimp only
      split
      ·exact wpS_pure ⟨rfl,By,Ry⟩
      ·refine wpS_bind (a20 L By Ry (by omega) fun y2 B2 R2 _=>?_);rw[if_neg (by decide)];exact wpS_pure ⟨rfl,B2,R2⟩
     ·rw[if_neg hgt];exact wpS_pure ⟨rfl,By,Ry⟩
    case p1=>
     rintro c y ⟨rfl,By,Ry⟩;dsimp only;refine wpS_bind (wpS_modify (wpS_bind (wpS_modify (wpS_pure ?_))));refine⟨lo+n,rest',rfl,⟨By.pm,By.kd,By.fl⟩,Ry.push sX hX n1 rfl ?_,by omega⟩;have em:∀ (q:Array (Nat×Nat×Nat)) (k:Nat),(q.modify k fun (a,b,_)=>(a,b,pw)).toList.map pr=q.toList.map pr:=fun q k=>by
      refine List.ext_getElem? fun i=>?_;rw[List.getElem?_map,List.getElem?_map,Array.getElem?_toList,Array.getElem?_toList,Array.getElem?_modify]
      split
      ·cases q[i]? with
       | none=>rfl
       | some p=>rfl
      ·rfl
     show ((((pendingOf y).modify ((pendingOf y).size - 1) fun (a,b,_)=>(a,b,pw)).push (lo,n,0)).toList).map pr=_
     rw[Array.toList_push,List.map_append,em]
     rfl
 case post=>
  rintro c z ⟨lo,rest,rfl,B1,R1,hlo⟩;dsimp only;have hsz:∀ y,Runs κ y lo rest->(pendingOf y).size≤lo:=fun y ⟨Rs,e1,e2,e3,e4⟩=>by
   have h1:=congrArg List.length e4;rw[List.length_map,a1j]at h1;have h2:=a7R fun R hR=>(e2 R hR).2;simp at h1;omega
  have hlo2:lo=a₀.size:=by
   obtain⟨Rs,e1,e2,e3,e4⟩:=R1
   have:=congrArg List.length e1
   rw[a1c,B1.sz,List.length_append]at this;omega
  subst hlo2;refine wpS_bind (wpS_mono (wpS_forRange (I:=fun x c y=>c=(none,())/\TB k0 a₀ y/\Runs κ y a₀.size rest/\((pendingOf y).size≤1\/(pendingOf y).size+x≤a₀.size)) (Q:=fun c y=>c=(none,())/\TB k0 a₀ y/\Runs κ y a₀.size rest/\(pendingOf y).size≤1) ?s2 ?f2 ⟨rfl,B1,R1,.inr (hsz z R1)⟩) ?p2)
  case f2=>
   rintro c y ⟨rfl,By,Ry,hc⟩;exact⟨rfl,By,Ry,by omega⟩
  case s2=>
   rintro x c y _ hx ⟨rfl,By,Ry,hc⟩;refine wpS_bind (wpS_get ?_)
   by_cases h1:(pendingOf y).size≤1
   ·rw[if_pos h1];exact wpS_pure ⟨rfl,By,Ry,h1⟩
   ·rw[if_neg h1];refine wpS_bind (a20 L By Ry ?_ fun y2 B2 R2 hy2=>?_)
    ·repeat' split
     all_goals omega
    ·rw[if_neg (by decide)];exact wpS_pure ⟨rfl,B2,R2,.inr (by omega)⟩
  case p2=>
   rintro c y ⟨rfl,By,Ry,hc⟩;obtain⟨Rs,e1,e2,e3,e4⟩:=Ry;have h1:=congrArg List.length e4;rw[List.length_map,a1j]at h1;have h2:=congrArg List.length e1;rw[a1c,By.sz,List.length_append,e3]at h2;have hr:rest=[]:=List.length_eq_zero_iff.mp (by omega);refine wpS_pure (h y By ?_);rw[e1,hr,List.append_nil]
   match Rs,e2,h1 with
   | [],_,_=>exact .nil
   | [R],e2,_=>simpa using (e2 R (by simp)).1
   | _::_::_,_,h1=>simp at h1;omega
end
end Tim
namespace Tim
open PySem PyProof.Rows
abbrev kN:KF:=fun p=>numOf p.1
theorem b5t (xs:Array Keyed) (i:Nat):K xs i=Kk kN xs i:=by
 unfold K Kk;cases xs[i]?<;>rfl
theorem b5u {xs:Array Keyed}{n:Nat}(h:Srt kN xs.toList) (hn:n=xs.size):SortedTo xs n:=fun i j hij hj=>by
 rw[b5t,b5t]
 have:=a3e (i:=0) h (n:=xs.size) (by omega) i j hij (by omega)
 simpa using this
section
variable {prog:Program}{w:World}{A:Around}{E:Value->Shared->Prop}{s:Shared}{a₀:Array Keyed}
theorem b3h (h0:IntKeys a₀):LtOk (model prog w) A E s kN oneType' a₀:=fun x y hx hy st Q hk h=>by
 obtain⟨n,t,en⟩:=h0 x hx;obtain⟨m,u,em⟩:=h0 y hy;have h':Q (some (decide (n<m))) st:=by
  have:kN x<kN y↔n<m:=by show numOf x.1<numOf y.1↔n<m;rw[en,em];rfl
  rw[decide_eq_decide.mpr this]at h;exact h
 rw[lt'_eq];refine wpS_bind (wpS_get ?_);rw[hk,keyLt'_oneType,en,em];exact wpS_bind (wpS_lift (wpAny_attempt (oneLt_int ⟨rfl,wpS_pure h'⟩)))
theorem sort_any {a:Addr}{vs:List Value}{ns:List Int}{n:Nat}{P:Fin->Shared->Prop}(ho:s.heap.get? a=some (seqObj "list" vs.toArray n)) (hI:IntsAre vs ns) (hz:vs.length≤1000)
  (h:∀ (out:Array Value) (ms:List Int),IntsAre out.toList ms->ms.Perm ns->ms.Pairwise (·≤·)->P (.done (.ret .none)) { s with heap:=sortedHeap s.heap a vs out }):wpAny (model prog w) A (Builtin.«list.sort» ⟨[.ref a],[]⟩) P E s:=by
 have hzz:vs.length≤sizeLine:=by rw[sizeLine_eq];omega
 have hzv:vs.toArray.size≤sizeLine:=by simpa using hzz
 have lt:=Heap.lt_size ho;rw[list_sort_plain];refine wpAny_bind (listItems_at ho rfl (wpAny_bind (listUpdate_at ho rfl ?_ hzv (by simp))));obtain⟨u,hu⟩:∃ u,(s.heap.update a (Obj.mapSeq fun _=>#[])).get? a=some (seqObj "list" #[] u):=⟨_,get?_update_seq ho fun _=>#[]⟩;refine wpAny_bind (seqEpoch_at hu rfl (wpAny_bind (wpAny_newTuple ?_ (by simpa using hzz))));refine wpAny_bind (wpAny_newList (wpAny_holding ?_));have hv:(((s.heap.update a (Obj.mapSeq fun _=>#[])).push (seqObj "tuple" vs.toArray 0)).push (seqObj "list" #[] 0)).get? a=some (seqObj "list" #[] u):=by
  rw[Heap.get?_push_ne,Heap.get?_push_ne]
  ·exact hu
  ·rw[Heap.size_update];exact Nat.ne_of_lt lt
  ·rw[size_push',Heap.size_update];exact Nat.ne_of_lt (Nat.lt_succ_of_lt lt)
 show wpAny (model prog w) A _ P E { s with heap:=((s.heap.update a (Obj.mapSeq fun _=>#[])).push (seqObj "tuple" vs.toArray 0)).push (seqObj "list" #[] 0) }
 dsimp only;have last:∀ y:SortSt,(arrOf y).Perm (pairsOf vs)->Srt kN (arrOf y).toList->P (.done (.ret .none)) { s with heap:=sortedHeap s.heap a vs ((arrOf y).map (·.2)) }:=fun y p q=>by
  obtain⟨ms,m1,m2,m3⟩:=sorted_out hI p (b5u q p.size_eq.symm);exact h _ ms m1 m2 m3
 have room:∀ y:SortSt,(arrOf y).Perm (pairsOf vs)->((arrOf y).map (·.2)).size≤sizeLine+1:=fun y p=>by
  rw[Array.size_map,p.size_eq,pairsOf_size];omega
 by_cases c:vs.toArray.size<2
 ·rw[if_pos c,if_pos c];refine wpAny_bind (wpAny_pure ?_);rw[StateT.run_pure];refine wpAny_bind (wpAny_pure ?_);dsimp only;have p0:(arrOf (SortSt.mk' general' (vs.toArray.zip vs.toArray) #[] 7 none)).Perm (pairsOf vs):=Array.Perm.refl _;refine wpAny_bind (seqEpoch_at hv rfl (wpAny_bind (listUpdate_at hv rfl ?_ (by simp) (room _ p0))));simp only[bne_self_eq_false,Bool.false_eq_true,if_false];refine wpAny_pure (last _ p0 ?_)
  show Srt kN (pairsOf vs).toList
  rw[pairsOf_toList]
  have:vs.length<2:=by simpa using c
  match vs,this with
  | [],_=>exact .nil
  | [v],_=>exact List.pairwise_singleton _ _
 ·rw[if_neg c,if_neg c];obtain⟨v1,v2,vr,rfl⟩:∃ v1 v2 vr,vs=v1::v2::vr:=by
   have:¬ vs.length<2:=by simpa using c
   match vs,this with
   | [],q=>exact absurd (by simp) q
   | [_],q=>exact absurd (by simp) q
   | v1::v2::vr,_=>exact⟨v1,v2,vr,rfl⟩
  rw[keyKind_ints hI];refine wpAny_bind (wpAny_pure (wpAny_bind (wpAny_mono (a8G (a₀:=pairsOf (v1::v2::vr)) (κ:=kN) (k0:=oneType') (st:=SortSt.mk' oneType' ((v1::v2::vr).toArray.zip (v1::v2::vr).toArray) #[] 7 none)
   (Q:=fun _ y=>(arrOf y).Perm (pairsOf (v1::v2::vr))/\failedOf y=none/\Srt kN (arrOf y).toList) (b3h hI.intKeys) ⟨Array.Perm.refl _,rfl,rfl⟩ rfl fun y q1 q2=>⟨q1.pm,q1.fl,q2⟩) ?_ fun _ _ e=>e)))
  rintro⟨⟨⟩,y⟩ s' ⟨rfl,q1,q2,q3⟩;dsimp only;refine wpAny_bind (seqEpoch_at hv rfl (wpAny_bind (listUpdate_at hv rfl ?_ (by simp) (room y q1))));rw[q2];simp only[bne_self_eq_false,Bool.false_eq_true,if_false];exact wpAny_pure (last y q1 q3)
end
end Tim
namespace SetW
open PySem
def Up (xs:Array Nat):Prop:=xs.toList.Pairwise (·<·)
structure TOk (led:Bool) (t:SetTable):Prop where
 up:Up t.place
 dm:t.dummies=#[]
 ld:t.led=led
end SetW
namespace SetW
open PySem PyProof.Rows
def byT (w:World):Bool:=w.params.followText "set-order"
structure SO (prog:Program) (w:World) (h:Heap) (a:Addr) (es:Array (Int×Value)) (ep:Nat) (t:SetTable) (ms:List Int):Prop where
 at_:∃ o,h.get? a=some o/\o.ExactSet/\o.data=.set es ep t
 el:ElemsOf (intKind prog w) es.toList
 nums:IntsAre (es.toList.map (·.2)) ms
 sc:es.size<scanBound
 fit:t.fits es.size=true
 ok:TOk (!byT w) t
def SI (prog:Program) (w:World) (h:Heap) (a:Addr) (ms:List Int):Prop:=∃ es ep t,SO prog w h a es ep t ms
section
variable {prog:Program}{w:World}{A:Around}{E:Value->Shared->Prop}{s:Shared}{a:Addr}{es:Array (Int×Value)}{ep:Nat}{t:SetTable}{ms:List Int}{k:Int}{u:Tok}
theorem SO.mem (S:SO prog w s.heap a es ep t ms):(∃ e∈es.toList,(intKind prog w).is k e.2=true)↔k∈ms:=by
 have hn:=S.nums.nums
 constructor
 ·rintro⟨e,he,hk⟩;rw[<- hn];obtain⟨n,tk,en⟩:=S.nums.all e.2 (List.mem_map_of_mem (f:=(·.2)) he);rw[en]at hk
  have:k=n:=by
   have:=hk
   simp[intKind,Value.isInt]at this;exact this.symm
  exact List.mem_map.mpr ⟨e.2,List.mem_map_of_mem (f:=(·.2)) he,by rw[en,this];rfl⟩
 ·intro hk;rw[<- hn,List.map_map]at hk;obtain⟨e,he,e2⟩:=List.mem_map.mp hk;obtain⟨n,tk,en⟩:=S.nums.all e.2 (List.mem_map_of_mem (f:=(·.2)) he);refine⟨e,he,?_⟩;simp only[Function.comp]at e2;rw[en]at e2 ⊢
  have:n=k:=e2
  rw[this];exact intKind_is _ _ _ _
theorem SO.stored {o:Obj}{es':Array (Int×Value)}{t':SetTable}{ms':List Int}{h:Heap}(ho:h.get? a=some o) (hx:o.ExactSet) (hd:o.data=.set es ep t) (hel:ElemsOf (intKind prog w) es'.toList) (hi:IntsAre (es'.toList.map (·.2)) ms') (hs:es'.size<scanBound) (hf:t'.fits es'.size=true) (hk:TOk (!byT w) t') :
  (h.update a (Obj.putSet es' t')).get? a=some { o with data:=.set es' (ep+1) t' }/\SO prog w (h.update a (Obj.putSet es' t')) a es' (ep+1) t' ms':=by
 have hg:(h.update a (Obj.putSet es' t')).get? a=some { o with data:=.set es' (ep+1) t' }:=by
  have q:=Heap.get?_update_self (Obj.putSet es' t') ho (by rw[putSet_of es' t' hd];rfl);rw[putSet_of es' t' hd]at q;exact q
 exact⟨hg,⟨⟨_,hg,hx,rfl⟩,hel,hi,hs,hf,hk⟩⟩
theorem TOk.plain {led:Bool}{t:SetTable}{b:Bool}(h:TOk led t):TOk led ({ t with plain:=b }:SetTable):=⟨h.up,h.dm,h.ld⟩
end
end SetW
namespace SetW
open PySem PyProof.Rows
theorem SI.at {prog:Program}{w:World}{h h':Heap}{a:Addr}{ms:List Int}(S:SI prog w h a ms) (k:∀ o,h.get? a=some o->h'.get? a=some o):SI prog w h' a ms:=by
 obtain⟨es,ep,t,⟨o,g,x,d⟩,h1,h2,h3,h4,h5⟩:=S;exact⟨es,ep,t,⟨o,k o g,x,d⟩,h1,h2,h3,h4,h5⟩
def Met (val:Nat->Int) (i:Nat) (ms:List Int):Prop:=ms.Nodup/\ms.length≤i/\∀ x,x∈ms↔∃ j,j<i/\val j=x
theorem Met.step {val:Nat->Int}{i:Nat}{ms ms':List Int}(h:Met val i ms) (p:ms'.Perm (if val i∈ms then ms else ms++[val i])):Met val (i+1) ms':=by
 obtain⟨h1,h2,h3⟩:=h;have key:∀ x,(∃ j,j<i+1/\val j=x)↔(∃ j,j<i/\val j=x)\/x=val i:=fun x=>by
  constructor
  ·rintro⟨j,hj,e⟩
   by_cases c:j=i
   ·right;rw[<- e,c]
   ·left;exact⟨j,by omega,e⟩
  ·rintro (⟨j,hj,e⟩ | e)
   ·exact⟨j,by omega,e⟩
   ·exact⟨i,by omega,e.symm⟩
 by_cases c:val i∈ms
 ·rw[if_pos c]at p;refine⟨p.nodup_iff.mpr h1,by rw[p.length_eq];omega,fun x=>?_⟩;rw[p.mem_iff,key,h3];exact⟨.inl,fun z=>z.elim id fun e=>(h3 x).mp (e▸c)⟩
 ·rw[if_neg c]at p;refine⟨p.nodup_iff.mpr ?_,by rw[p.length_eq];simp;exact h2,fun x=>?_⟩
  ·rw[List.nodup_append];exact⟨h1,by simp,fun x hx y hy=>by rw[List.mem_singleton.mp hy];rintro rfl;exact c hx⟩
  ·rw[p.mem_iff,key,List.mem_append,h3,List.mem_singleton]
section
variable {prog:Program}{w:World}{A:Around}{R:Result->Shared->Prop}{I:Addr}{fp wr:List Addr}{G:Array GenState->Array GenState->Prop}{n:Nat}{P:Nat->Value->Prop}{St:Nat->Shared->Prop}
end
section
variable {prog:Program}{w:World}{A:Around}{E:Value->Shared->Prop}{s:Shared}
abbrev b1t (w:World):Obj:={ cls:=.type "set",dict:=none,data:=.set #[] 0 (.fresh 0 0 (!byT w)) }
theorem SI.fresh {h:Heap}{a:Addr}(g:h.get? a=some (b1t w)):SI prog w h a []:=
 ⟨#[],0,.fresh 0 0 (!byT w),⟨_,g,⟨rfl,rfl,rfl⟩,rfl⟩,fun e he=>by simp at he,.nil,by decide,rfl,⟨.nil,rfl,rfl⟩⟩
end
end SetW
namespace SetW
open PySem PyProof.Rows
def SetIt (h:Heap) (it a:Addr) (first:Value) (i n ep:Nat):Prop:=∃ o,h.get? it=some o/\o.cls=.type "set_iterator"/\o.data=.fields #[first,.int i 0,.ref a,.int n 0,.int ep 0]
theorem SetIt.ty {s:Shared}{it a:Addr}{f:Value}{i n ep:Nat}(x:SetIt s.heap it a f i n ep):s.TypeIs (.ref it) "set_iterator":=let ⟨o,g,c,_⟩:=x;⟨o,g,c⟩
theorem SetIt.at {h h':Heap}{it a:Addr}{f:Value}{i n ep:Nat}(x:SetIt h it a f i n ep) (e:∀ o,h.get? it=some o->h'.get? it=some o):SetIt h' it a f i n ep:=let ⟨o,g,r⟩:=x;⟨o,e _ g,r⟩
section
variable {prog:Program}{w:World}{A:Around}{E:Value->Shared->Prop}{s:Shared}{it a:Addr}{f:Value}{i n ep:Nat}{o:Obj}{es:Array (Int×Value)}{t:SetTable}
end
end SetW
namespace SetW
open PySem PyProof.Rows
section
variable {prog:Program}{w:World}{A:Around}{E:Value->Shared->Prop}{s:Shared}{it a:Addr}{f:Value}{i n ep k:Nat}{o:Obj}{es:Array (Int×Value)}{t:SetTable}{ms:List Int}
end
end SetW
namespace SetW
open PySem PyProof.Rows
theorem SO.at {prog:Program}{w:World}{h h':Heap}{a:Addr}{es:Array (Int×Value)}{ep:Nat}{t:SetTable}{ms:List Int}(S:SO prog w h a es ep t ms) (k:∀ o,h.get? a=some o->h'.get? a=some o):SO prog w h' a es ep t ms:=by
 obtain⟨⟨o,g,x,d⟩,h1,h2,h3,h4,h5⟩:=S;exact⟨⟨o,k o g,x,d⟩,h1,h2,h3,h4,h5⟩
section
variable {prog:Program}{w:World}{A:Around}{E:Value->Shared->Prop}{s:Shared}{it a T:Addr}{f:Value}{i n ep k:Nat}{o:Obj}{es:Array (Int×Value)}{t:SetTable}{ms:List Int}{ps:List Nat}
end
end SetW
namespace SetW
open PySem PyProof.Rows
section
variable {prog:Program}{w:World}{A:Around}{E:Value->Shared->Prop}{s:Shared}{it a T:Addr}{f:Value}{i n ep k:Nat}{o:Obj}{es:Array (Int×Value)}{t:SetTable}{ms:List Int}{ps:List Nat}
def PlacesAt (h:Heap) (T:Addr) (ps:List Nat):Prop:=∃ o c,h.get? T=some o/\o.data=.seq (ps.map fun (i:Nat)=>rawInt i).toArray c
theorem PlacesAt.at {h h':Heap}(x:PlacesAt h T ps) (k:∀ o,h.get? T=some o->h'.get? T=some o):PlacesAt h' T ps:=let ⟨o,c,g,d⟩:=x;⟨o,c,k _ g,d⟩
end
end SetW
namespace SetW
open PySem PyProof.Rows
section
variable {prog:Program}{w:World}{A:Around}{E:Value->Shared->Prop}{s:Shared}{it a T:Addr}{f:Value}{i n ep k:Nat}{o:Obj}{es:Array (Int×Value)}{t:SetTable}{ms:List Int}{ps:List Nat}
theorem SO.ty (S:SO prog w s.heap a es ep t ms):s.TypeIs (.ref a) "set":=let ⟨o,g,x,_⟩:=S.at_;⟨o,g,x.1⟩
theorem SO.len (S:SO prog w s.heap a es ep t ms):es.size=ms.length:=by
 have q:=congrArg List.length S.nums.nums;simpa using q
end
end SetW
namespace SetW
open PySem PyProof.Rows
section
variable {prog:Program}{w:World}{A:Around}{E:Value->Shared->Prop}{s:Shared}{a:Addr}{ms:List Int}
end
end SetW
namespace L2
open PySem PySem.Spec PyProof.Rows
theorem a5M:∀ {vs:List Value}{ns:List Int},IntsAre vs ns->vs.length=ns.length
 | _,_,.nil=>rfl
 | _,_,.cons n t h=>by rw[List.length_cons,List.length_cons,a5M h]
theorem a6v:∀ {vs:List Value}{ns:List Int},IntsAre vs ns->Vals (ns.map V.int) vs
 | _,_,.nil=>.nil
 | _,_,.cons n t h=>.cons ⟨t,rfl⟩ (a6v h)
theorem a95:∀ {vs:List Value}{ns:List Int},vs.length=ns.length->(∀ (i:Nat) v,vs[i]?=some v->∃ n t,ns[i]?=some n/\v=.int n t)->IntsAre vs ns
 | [],[],_,_=>.nil
 | [],_::_,h,_=>by simp at h
 | _::_,[],h,_=>by simp at h
 | v::vs,n::ns,h,q=>by
  obtain⟨m,t,e1,e2⟩:=q 0 v rfl;simp at e1;subst e1 e2;exact .cons _ t (a95 (by simpa using h) fun i v e=>by simpa using q (i+1) v (by simpa using e))
section
variable {P:Program}{w:World}{A:Around}{E:Value->Shared->Prop}{s:Shared}
theorem a96 {r:Addr}{ns:List Int}{Q:Value->Shared->Prop}(hmx:ns.length≤1000)
  (hcol:∀ R:List Value->Shared->Prop,(∀ (g:Heap) (tk:Nat) (d:Drawn) (vs:List Value) (ks:List Int),(∀ b o,s.heap.get? b=some o->g.get? b=some o)->IntsAre vs ks->ks.Perm ns->R vs { s with heap:=g,drawn:=d,toks:=tk })->wpAny (model P w) A.in1 (collect (.ref r)) R E s)
  (h:∀ (g g':Heap) (tk:Nat) (d:Drawn) (out:List Value) (n:Nat) (ms:List Int),(∀ b o,s.heap.get? b=some o->g.get? b=some o)->(∀ b o,g.get? b=some o->g'.get? b=some o)->g'.get? g.objs.size=some { cls:=.type "list",data:=.seq out.toArray n } ->
   IntsAre out ms->ms.Perm ns->ms.Pairwise (·≤·)->Q (.ref g.objs.size) { s with heap:=g',drawn:=d,toks:=tk }):wpAny (model P w) A (call (.builtin "sorted") [.ref r]) Q E s:=by
 refine Calls.call_function_entry kind_sorted plain_sorted entry_sorted (args_sorted1 _) ?_;unfold Builtin.«sorted»;refine wpAny_bind (m:=checkCount "sorted" 1 1 _) (wpAny_pure (wpAny_bind (hcol _ fun g tk d vs ks kp hI hP=>?_)));have hl:vs.length=ns.length:=(a5M hI).trans hP.length_eq;have hz:vs.length≤sizeLine:=by rw[sizeLine_eq];omega
 refine wpAny_bind (wpAny_newList ?_ hz);have ho:(g.push (seqObj "list" vs.toArray 0)).get? g.objs.size=some (seqObj "list" vs.toArray 0):=Heap.get?_push_size _ rfl;refine wpAny_bind (wpAny_holding (wpAny_call_entry slot_list_sort ⟨_,ho,rfl⟩ entry_list_sort (Tim.sort_any ho hI (by omega) fun out ms a1 a2 a3=>⟨_,rfl,?_⟩) (args_list_sort _)));have hat:=sortedHeap_at (out:=out) ho;obtain⟨n,hat⟩:=hat;refine wpAny_pure ⟨_,rfl,h g _ tk d out.toList n ms kp (fun b o e=>?_) (by simpa using hat) a1 (a2.trans hP) a3⟩;have hlt:=Heap.lt_size e;rw[sortedHeap_old (Nat.ne_of_lt hlt) (by rw[Heap.size_push];exact Nat.lt_succ_of_lt hlt)];exact Heap.get?_push_of_some _ e
end
section
variable {X:Cx}
theorem Inv.drew {pins:List (Addr×Obj)}{σ:St}{H:Hp}{s:Shared}(I:Inv X pins σ H s) (d:Drawn):Inv X pins σ H { s with drawn:=d }:=
 I.step (h':=s.heap) (g':=s.gens) (t':=s.toks) (d':=d) (ch:=[]) (fun b hb=>nomatch hb) (fun b o _ _ _ e _=>e) (fun b o _ _ _ e _=>⟨o.slots,e⟩) (fun _ _ _ _ n=>n) (fun b o _ e=>⟨o,e⟩) (fun _ _ e=>e) (fun _ _ _ e=>e) (fun b ps e=>⟨#[],by rw[e];simp⟩) (fun m hm=>hm) I.hok I.bare
def b3i (K:Fg):List V->Hp->VK->Prop:=fun xs H Q=>∃ (p:Addr) (ns:List Int),xs=[.ref p]/\(SqL K H p (ns.map V.int)\/∃ kvs:List (Key×V),H p=some (.dK kvs)/\kvs.map (·.1)=ns.map fun i=>(Sum.inl (some i):Key))/\ns.length≤1000 /\
 ∀ (t:Addr) (ms:List Int),H t=none->ms.Perm ns->ms.Pairwise (·≤·)->Q (.ref t) (upd H t (.lst (ms.map V.int)))
theorem a7a (hc:X.calm=true):CallR X (.builtin "sorted") (b3i X.K):=by
 intro pins s σ H xs us Q I r h;obtain⟨p,ns,rfl,hq,hmx,q⟩:=h;obtain⟨u,rfl,rx⟩:=a3X r;cases rx;have hh:X.A.in1.handled=none:=I.ok.hd hc;refine a96 (ns:=ns) hmx (fun R hR=>?_) fun g g' tk d out n ms k1 k2 e a1 a2 a3=>?_
 ·rcases hq with hq | ⟨kvs,hd,hk⟩
  ·obtain⟨its,rv,pl,_⟩:=I.list hq;have hI:=a8w rv;refine collect_list pl.isList ?_ (by rw[a5M hI,sizeLine_eq];omega);refine hR _ s.toks s.drawn its _ (fun b o e=>?_) hI (List.Perm.refl _);have hlt:=Heap.lt_size e;rw[Heap.get?_update_ne _ _ _ _ (Nat.ne_of_lt hlt)];exact Heap.get?_push_of_some _ e
  ·obtain⟨z,lo,vs,rel,dd⟩:=b02 I.hok hd;obtain⟨ep,hat⟩:=dd.dictAt;have hl:vs.length=ns.length:=by rw[<- rel.length,<- List.length_map (f:=(·.1)) (as:=kvs),hk,List.length_map]
   refine PySem.W.kdu_collect (PySem.W.kdl_dict (knd:=a0F X.prog X.w) (kvs:=vs) (ep:=ep) lo) hh hat (by rw[hl,sizeLine_eq];omega) fun g tk acc kp hacc=>?_;refine hR g tk s.drawn acc.toList ns kp (a95 (by rw[Array.length_toList,hacc.1,hl]) fun i v e=>?_) (List.Perm.refl _);obtain⟨k,x,e1,e2⟩:=hacc.2 i v (by rw[<- Array.getElem?_toList];exact e);have hkeys:vs.map (·.1)=ns.map fun i=>(Sum.inl (some i):Key):=by rw[<- rel.keys];exact hk
   have e3:(ns.map fun i=>(Sum.inl (some i):Key))[i]?=some k:=by rw[<- hkeys,List.getElem?_map,e1];rfl
   rw[List.getElem?_map]at e3;cases hn:ns[i]? with
   | none=>rw[hn]at e3;cases e3
   | some n=>
    rw[hn]at e3;cases e3;have e4:Value.isInt n v=true:=e2;cases v with
    | int m t=>exact⟨n,t,rfl,by simp[Value.isInt]at e4;rw[e4]⟩
    | _=>simp[Value.isInt]at e4
 ·have I1:Inv X pins σ H { s with heap:=g,drawn:=d,toks:=tk }:=(I.drew d).kept (t':=tk) k1;exact⟨.ref g.objs.size,_,I1.laid (t':=tk) k2 (Nat.le_refl _) (show ObjOk X.prog X.w _ g' _ (.lst (ms.map V.int)) from ⟨by rw[List.length_map,a2.length_eq,sizeLine_eq];omega,out,n,a6v a1,e⟩),rfl,q _ ms (I1.hok.fresh (Nat.le_refl _)) a2 a3⟩
end
end L2
namespace L2
open PySem PySem.Spec PyProof.Rows
structure Zs where
 it:Addr
 tp:Bool
 l:Addr
def Zs.At (z:Zs) (k:Nat) (h:Heap):Prop:=if z.tp=true then h.IsTupleIter z.it z.l k else h.IsListIter z.it z.l k
def Zs.Has (z:Zs) (h:Heap) (xs:Array Value):Prop:=if z.tp=true then h.IsTuple z.l xs else h.IsList z.l xs
theorem Zs.At.keep {z:Zs}{k:Nat}{h h':Heap}(a:z.At k h) (q:∀ o,h.get? z.it=some o->h'.get? z.it=some o):z.At k h':=by
 unfold Zs.At at a ⊢
 split
 ·next e=>rw[if_pos e]at a;exact a.at q
 ·next e=>rw[if_neg e]at a;exact a.at q
theorem Zs.Has.keep {z:Zs}{h h':Heap}{xs:Array Value}(a:z.Has h xs) (q:∀ o,h.get? z.l=some o->h'.get? z.l=some o):z.Has h' xs:=by
 unfold Zs.Has at a ⊢
 split
 ·next e=>rw[if_pos e]at a;exact let ⟨o,ho,r⟩:=a;⟨o,q o ho,r⟩
 ·next e=>rw[if_neg e]at a;exact let ⟨o,ho,r⟩:=a;⟨o,q o ho,r⟩
theorem Zs.At.obj {z:Zs}{k:Nat}{h:Heap}(a:z.At k h):∃ o,h.get? z.it=some o/\∀ v,o.data≠.cell v:=by
 unfold Zs.At at a
 split at a<;>(obtain⟨o,e,_,d⟩:=a;exact⟨o,e,fun v q=>by rw[d]at q;cases q⟩)
section
variable {P:Program}{w:World}{A:Around}{E:Value->Shared->Prop}{s:Shared}
end
end L2
namespace L2
open PySem PySem.Spec PyProof.Rows
section
variable {P:Program}{w:World}{A:Around}{E:Value->Shared->Prop}{s:Shared}
end
end L2
namespace L2
open PySem PySem.Spec PyProof.Rows
section
variable {X:Cx}{pins:List (Addr×Obj)}{σ:St}{H:Hp}{s:Shared}{h':Heap}
end
def SrcV (K:Fg) (H:Hp) (y:Zs) (xs:List V):Prop:=if y.tp=true then SqT K H y.l xs else SqL K H y.l xs
theorem SrcV.has {X:Cx}{pins:List (Addr×Obj)}{σ:St}{H:Hp}{s:Shared}{y:Zs}{xs:List V}(I:Inv X pins σ H s) (h:SrcV X.K H y xs):∃ its:List Value,Vals xs its/\y.Has s.heap its.toArray:=by
 unfold SrcV at h;unfold Zs.Has
 split at h
 ·next e=>obtain⟨its,r,p,_⟩:=I.tuple h;exact⟨its,r,by rw[if_pos e];exact p⟩
 ·next e=>obtain⟨its,r,p,_⟩:=I.list h;exact⟨its,r,by rw[if_neg e];exact p.isList⟩
theorem SrcV.inj {X:Cx}{pins:List (Addr×Obj)}{σ:St}{H:Hp}{s:Shared}{y:Zs}{xs xs':List V}(I:Inv X pins σ H s) (h:SrcV X.K H y xs) (h':SrcV X.K H y xs'):xs=xs':=by
 unfold SrcV at h h'
 split at h
 ·next e=>rw[if_pos e]at h';exact I.tuple_inj h h'
 ·next e=>rw[if_neg e]at h';exact I.list_inj h h'
end L2
namespace L2
open PySem PySem.Spec PyProof.Rows
def SrcP (K:Fg) (H:Hp) (p:Bool×Addr) (xs:List V):Prop:=if p.1=true then SqT K H p.2 xs else SqL K H p.2 xs
theorem Turn.imp {P:Program}{w:World}{K:Fg}{tg:Expr}{J J':It}{fp:List Addr}{it:Addr}{tn:Nat->Heap->Prop}(t:Turn P w K tg J fp it tn) (g:∀ i H,J'.go i H->J.go i H) (y:∀ i H x H',J'.go i H->J.yld i H x H'->J'.yld i H x H') (s:∀ i H,J'.stop i H->J.stop i H):Turn P w K tg J' fp it tn where
 mem:=t.mem
 obj:=t.obj
 keep:=t.keep
 item:=fun X h1 h2 h3 h4 i pins s σ H E I hf st hg=>wpAny_mono (t.item X h1 h2 h3 h4 i pins s σ H E I hf st (g i H hg)) (fun r s1 ⟨u,e,q⟩=>⟨u,e,wpAny_mono q (fun _ s2 ⟨x,H',a,b,c,d,e⟩=>⟨x,H',a,b,y i H x H' hg c,d,e⟩) fun _ _ z=>z⟩) fun _ _ z=>z
 done:=fun X h1 h2 h3 h4 i pins s' σ H E I hf st hg=>t.done X h1 h2 h3 h4 i pins s' σ H E I hf st (s i H hg)
 self:=t.self
end L2
namespace L2
open PySem PySem.Spec PyProof.Rows
def Itv (K:Fg) (a:Addr) (n:Nat):It:=
 ⟨fun i H=>i<n/\∃ xs,SqL K H a xs/\xs.length=n,fun i H x H'=>H'=H/\∀ xs,SqL K H a xs->xs[n - 1 - i]?=some x,fun i _=>i=n⟩
theorem b1u {P:Program}{w:World}{K:Fg}{tg:Expr}(a it:Addr) (n:Nat):Turn P w K tg (Itv K a n) [it] it (fun i h=>i≤n/\h.IsRevIter it a ((n:Int) - 1 - (i:Nat))) where
 mem:=by simp
 obj:=fun i h st b hb=>by
  have e:b=it:=by simpa using hb
  subst e;obtain⟨o,e,c,d⟩:=st.2;exact⟨o,e,fun v z=>by rw[d]at z;cases z⟩
 keep:=fun i h h' st k=>⟨st.1,st.2.at fun o e=>k it (by simp) o e⟩
 item:=by
  intro X hP hw hK hc i pins s σ H E I hf st hg;subst hP hw hK;obtain⟨hi,xs,hq,hx⟩:=hg;obtain⟨its,rv,p,hz⟩:=I.list hq;have hx':=List.getElem?_eq_getElem (show n - 1 - i<xs.length by omega);obtain⟨u,hu,ru⟩:=rv.get hx';obtain⟨f0,f1,f2,f3,f4,f5⟩:=hf it (by simp);have st':=st.2;have e1:(n:Int) - 1 - (i:Nat)=((n - 1 - i:Nat):Int):=by omega
  rw[e1]at st';refine wpAny_pyNext_rev_item st' p.isList (x:=u) (by simpa using hu) fun h' s2 sb=>?_;have I1:Inv X pins σ H { s with heap:=h' }:=I.turned (t':=s.toks) (fun b o hb e=>(sb.2 b hb).trans e) f0 f1 f3 f4 f5;obtain⟨o,e,c,d⟩:=id s2;refine⟨u,rfl,a8o (s:={ s with heap:=h' }) e c d (by decide) ⟨xs[n - 1 - i],H,I1,ru,⟨rfl,fun ys hy=>by rw[I.list_inj hy hq];exact hx'⟩,⟨by omega,?_⟩,fun b hb=>(hf b hb).1⟩⟩;have e2:(n:Int) - 1 - ((i+1:Nat):Int)=((n - 1 - i:Nat):Int) - 1:=by omega
  rw[e2];exact s2
 done:=by
  intro X hP hw hK hc i pins s σ H E I hf st hg;subst hP hw hK;obtain⟨f0,f1,f2,f3,f4,f5⟩:=hf it (by simp);have hi:i=n:=hg;have st':=st.2;have e1:(n:Int) - 1 - (i:Nat)=-1:=by omega
  rw[e1]at st';exact wpAny_pyNext_rev_end (I.ok.hd hc) st' fun h' eb=>⟨rfl,I.turned (t':=s.toks) (fun b o hb e=>eb b o hb e) f0 f1 f3 f4 f5⟩
 self:=fun _ _ _ _ _ st h=>wpAny_pyIter_revIter st.2 h
def b7c (K:Fg) (ta:TA):TI:=fun σ H R=>ta σ H fun vs H1=>∃ a xs,vs=[.ref a]/\SqL K H1 a xs/\R (Itv K a xs.length) H1
theorem b5v {X:Cx}{tg e:Expr}{p pos:Pos}{ta:TA}(hg:Gl X "reversed") (hm:X.mg "reversed"=none) (ha:PA X [e] ta)
  (he:starEach [e] X.env=(false,eval e X.env)::starEach [] X.env:=by rfl):PI X tg (.Call (.Name "reversed" p) [e] [] pos) (b7c X.K ta):=by
 intro pins s σ H R I h;refine Call_ (a6a I hg hm boot_reversed (PyProof.Rows.callWith_type1 (thn (ha pos pins s σ H _ I h) fun us s1 ⟨vs,H1,I1,r1,q1⟩=>?_) he rfl));obtain⟨a,xs,rfl,hq,q⟩:=q1;obtain⟨u,rfl,r⟩:=a3X r1;cases r;obtain⟨its,rv,pl,hz⟩:=I1.list hq;have hl:its.toArray.size=xs.length:=by rw[List.size_toArray,rv.length]
 refine call_reversed_list pl.isList ?_;rw[hl];have rit:(s1.heap.push (revObj a ((xs.length:Int) - 1))).IsRevIter s1.heap.objs.size a ((xs.length:Int) - 1 - ((0:Nat):Int)):=⟨_,Heap.get?_push_size _ rfl,rfl,by simp[revObj]⟩;refine wpAny_pyIter_revIter (s:={ s1 with heap:=s1.heap.push (revObj a ((xs.length:Int) - 1)) }) rit ?_;refine⟨s1.heap.objs.size,[s1.heap.objs.size],_,_,H1,rfl,I1.kept (t':=s1.toks) fun b o e=>Heap.get?_push_of_some _ e,b1u a _ xs.length,⟨Nat.zero_le _,rit⟩,fun b hb=>?_,q⟩;have e:b=s1.heap.objs.size:=by simpa using hb
 subst e;exact I1.fpOk (Nat.le_refl _) (I1.hok.fresh (Nat.le_refl _))
end L2
namespace L2
open PySem PySem.Spec PyProof.Rows
section
variable {X:Cx}
end
end L2
namespace L3
open PySem PySem.Spec PyProof.Rows L2
section
variable {X:Cx}
def putZ (kvs:List (Key×Z)) (k:Key) (v:Z):List (Key×Z):=
 if (kvs.any fun kv=>decide (kv.1=k))=true then kvs.map (fun kv=>if kv.1=k then (kv.1,v) else kv) else kvs++[(k,v)]
theorem a97 {α β:Type}{k:Key}:∀ {kvs:List (Key×α)}{us:List (Key×β)},us.map (·.1)=kvs.map (·.1)->(us.any fun kv=>decide (kv.1=k))=kvs.any fun kv=>decide (kv.1=k)
 | [],[],_=>rfl
 | [],_::_,h=>by simp at h
 | _::_,[],h=>by simp at h
 | p::ps,q::qs,h=>by
  rw[List.map_cons,List.map_cons]at h;injection h with h1 h2
  rw[List.any_cons,List.any_cons,a97 h2,h1]
theorem a5N {K:Fg}{H:Hp}{k:Key}{w:Z}{v:V}(rv:Rep K H w v) {kvs:List (Key×Z)}{us:List (Key×V)}(hk:us.map (·.1)=kvs.map (·.1)) (hr:Reps K H (kvs.map (·.2)) (us.map (·.2))) :
  (putK us k v).map (·.1)=(putZ kvs k w).map (·.1)/\Reps K H ((putZ kvs k w).map (·.2)) ((putK us k v).map (·.2)):=by
 unfold putK putZ;rw[a97 hk]
 split
 ·have go:∀ {kvs:List (Key×Z)}{us:List (Key×V)},us.map (·.1)=kvs.map (·.1)->Reps K H (kvs.map (·.2)) (us.map (·.2))->((us.map fun kv=>if kv.1=k then (kv.1,v) else kv).map (·.1)=(kvs.map fun kv=>if kv.1=k then (kv.1,w) else kv).map (·.1)/\Reps K H ((kvs.map fun kv=>if kv.1=k then (kv.1,w) else kv).map (·.2)) ((us.map fun kv=>if kv.1=k then (kv.1,v) else kv).map (·.2))):=by
   intro kvs
   induction kvs with
   | nil=>intro us h1 h2;cases us with
    | nil=>exact⟨rfl,.nil⟩
    | cons _ _=>simp at h1
   | cons p ps ih=>
    intro us h1 h2;cases us with
    | nil=>simp at h1
    | cons q qs=>
     rw[List.map_cons,List.map_cons]at h1 h2;injection h1 with h3 h4
     rw[a0o]at h2;obtain⟨a,b,e,r1,r2⟩:=h2;injection e with e1 e2
     subst e1 e2;have i:=ih h4 r2;simp only[List.map_cons]
     by_cases e:p.1=k
     ·rw[if_pos e,if_pos (h3.trans e)];exact⟨by rw[i.1,h3],.cons rv i.2⟩
     ·rw[if_neg e,if_neg (fun z=>e (h3.symm.trans z))];exact⟨by rw[i.1,h3],.cons r1 i.2⟩
  exact go hk hr
 ·rw[List.map_append,List.map_append,hk,List.map_append,List.map_append];exact⟨rfl,hr.append (.cons rv .nil)⟩
def keyZ:Z->Option Key
 | .non=>some (.inl none)
 | .int i=>some (.inl (some i))
 | .str x=>some (.inr x)
 | _=>none
def b5w:Z3:=fun o i v G R=>match o with
 | .ref p=>∃ kvs k,G p=some (.dK kvs)/\keyZ i=some k/\kvs.length<sizeLine/\R (put G p (.dK (putZ kvs k v)))
 | _=>False
theorem a3h {K:Fg}{H:Hp}{i:Z}{v:V}{k:Key}(h:keyZ i=some k) (r:Rep K H i v):v=kV k:=by
 cases i with
 | non=>rw[a00]at r;cases h;exact r
 | int j=>rw[a0q]at r;cases h;exact r
 | str j=>rw[a0A]at r;cases h;exact r
 | _=>cases h
theorem b1v (hu:X.A.units+66<cLine):PSet X (fun o i v H Q=>∃ a H',o=.ref a/\DPut H a i v H'/\Q H'):=by
 intro pins s σ H o i v ov iv u Q I ro ri rv h;obtain⟨a,H',rfl,g,q⟩:=h;cases (show ov=Value.ref a from ro);exact a9r (by omega) I g ri rv fun s' I'=>⟨H',I',q⟩
theorem a98 {α β:Type}{kvs:List (Key×α)}{us:List (Key×β)}(h:us.map (·.1)=kvs.map (·.1)):us.length=kvs.length:=by
 rw[<- List.length_map (f:=(·.1)) (as:=us),h,List.length_map]
theorem a99 (hu:X.A.units+66<cLine):SetQ X b5w:=b16 (b1v hu) fun o i v H Q hx=>hx.un fun a b w G R ra rb rw' hg h up=>by
 cases a with
 | ref p=>
  rw[a0m]at ra;obtain⟨kvs,k,e,hk,hz,h⟩:=h;obtain⟨us,e',hn,rs⟩:=hg _ _ e;have hp:=a5N (k:=k) rw' hn rs;refine⟨p,_,ra,?_,up _ _ h (hg.set (o:=.dK (putZ kvs k w)) (.dK e') ⟨_,a0y,hp.1,hp.2.mono (.dK e')⟩) (.dK e')⟩;rw[a3h hk rb];exact DPut.k e' (by rw[a98 hn];exact hz)
 | _=>exact False.elim h
theorem a7S {p:Addr}{kvs:List (Key×Z)}{k:Key}{i w:Z}{G:Hq}{Rg:Hq->Prop}(e:G p=some (.dK kvs)) (a:keyZ i=some k) (z:kvs.length<sizeLine) (h:Rg (put G p (.dK (putZ kvs k w)))):b5w (.ref p) i w G Rg:=⟨kvs,k,e,a,z,h⟩
def b0a:List Z->Hq->K3->Prop:=fun xs G R=>match xs with
 | [.ref p]=>∃ ns:List Int,(G p=some (.lst (ns.map Z.int))\/∃ kvs,G p=some (.dK kvs)/\kvs.map (·.1)=ns.map fun i=>Sum.inl (some i))/\ns.length≤1000/\∀ (t:Addr) (ms:List Int),G t=none->ms.Perm ns->ms.Pairwise (·≤·)->R (.ref t) (put G t (.lst (ms.map Z.int)))
 | _=>False
theorem b_sorted (hc:X.calm=true):a2V X (.builtin "sorted") b0a:=a1y (a7a hc) fun xs H Q hx=>hx.un fun ws G R rs hg h up=>by
 match ws,h with
 | [.ref p],h=>
  obtain⟨v,rfl,r⟩:=rs.one;rw[a0m]at r;obtain⟨ns,hq,hmx,h⟩:=h;refine⟨p,ns,by rw[r],?_,hmx,fun t ms ht a2 a3=>up _ _ _ _ (h t ms (hg.out ht) a2 a3) (by rw[a0m]) (hg.set (.new ht) (a1s (a2y _) (.new ht))) (.new ht)⟩;rcases hq with hq | ⟨kvs,hq,hk⟩
  ·obtain⟨vs,e',rs'⟩:=hg _ _ hq
   have:=a6m rs'
   subst this;exact .inl (SqL.of e')
  ·obtain⟨us,e',hn,_⟩:=hg _ _ hq;exact .inr ⟨us,e',hn.trans hk⟩
theorem b0b {G:Hq}{R:K3}{p:Addr}{ns:List Int}{kvs:List (Key×Z)}(e:G p=some (.dK kvs)) (k:kvs.map (·.1)=ns.map fun i=>Sum.inl (some i)) (z:ns.length≤1000) (h:∀ (t:Addr) (ms:List Int),G t=none->ms.Perm ns->ms.Pairwise (·≤·)->R (.ref t) (put G t (.lst (ms.map Z.int)))):b0a [.ref p] G R:=⟨ns,.inr ⟨kvs,e,k⟩,z,h⟩
variable {tg:Expr}{t:A3}
def iRev (t:A3):I3:=fun σ G R=>t σ G fun ws G1=>∃ a xs,ws=[.ref a]/\G1 a=some (.lst xs)/\R xs.reverse (fun G=>G a=some (.lst xs)) G1
theorem b0c {K:Fg}{a:Addr}{ws:List Z}{H0:Hp}:a5G K ws.reverse (fun G=>G a=some (.lst ws)) (Itv K a ws.length) H0:=fun i G H hg t ok hi=>by
 obtain⟨vs,e,rs⟩:=hg a _ ok;rw[List.length_reverse]at hi ⊢;refine⟨fun h=>h,fun w hw=>?_⟩;have hlt:i<ws.length:=by
  have:=(List.getElem?_eq_some_iff.mp hw).1
  rwa [List.length_reverse]at this
 rw[List.getElem?_reverse hlt]at hw;obtain⟨v,ev,rv⟩:=rs.get hw;refine⟨⟨hlt,vs,SqL.of e,rs.length.symm⟩,?_⟩;rintro x H' ⟨rfl,y⟩
 have:=y vs (SqL.of e)
 rw[ev]at this;cases this;exact⟨rv,hg,.refl _ _⟩
theorem a7b {e:Expr}{p pos:Pos}(hg:Gl X "reversed") (hm:X.mg "reversed"=none) (ha:QA X [e] t)
  (he:starEach [e] X.env=(false,eval e X.env)::starEach [] X.env:=by rfl):QI X tg (.Call (.Name "reversed" p) [e] [] pos) (iRev t):=a8A (b5v hg hm ha.p he) fun τ H R2 hx=>hx.un fun σ G R hs hg h up=>by
 refine⟨σ,G,_,hs,hg,h,fun ws G1 vs H1 ⟨a,xs,e,ea,h1⟩ rv hg1 t1=>?_⟩;subst e;obtain⟨v,rfl,r⟩:=rv.one;rw[a0m]at r;subst r;obtain⟨us,e',rs⟩:=hg1 a _ ea;exact⟨a,us,rfl,SqL.of e',by rw[<- rs.length];exact up _ _ _ _ _ h1 b0c hg1 t1⟩
theorem SrcP.uniq {K:Fg}{H:Hp}{p:Bool×Addr}{xs ys:List V}(h:SrcP K H p xs) (g:(if p.1=true then H p.2=some (.tup ys) else H p.2=some (.lst ys))):SrcP K H p ys:=by
 unfold SrcP
 split
 ·next e=>rw[if_pos e]at g;exact SqT.of g
 ·next e=>rw[if_neg e]at g;exact SqL.of g
theorem b5x {σ:S3}{G:Hq}{Ri:List Z->(Hq->Prop)->Hq->Prop}(h:t σ G fun ws G1=>∃ a xs,ws=[.ref a]/\G1 a=some (.lst xs)/\Ri xs.reverse (fun G=>G a=some (.lst xs)) G1):iRev t σ G Ri:=h
end
end L3
namespace L3
open PySem PySem.Spec PyProof.Rows L2
def putQ (f:Str) (y:Z):List (Str×Z)->List (Str×Z)
 | []=>[(f,y)]
 | (g,x)::r=>if g=f then (g,y)::r else (g,x)::putQ f y r
section
variable {K:Fg}{H:Hp}
theorem a2J {f:Str}:∀ {fs:List (Str×Z)}{gs:List (Str×V)},gs.map (·.1)=fs.map (·.1)->Reps K H (fs.map (·.2)) (gs.map (·.2))->(fs.lookup f=none->gs.lookup f=none)/\∀ z,fs.lookup f=some z->∃ v,gs.lookup f=some v/\Rep K H z v
 | [],[],_,_=>⟨fun _=>rfl,fun _ h=>by cases h⟩
 | [],_::_,h,_=>by simp at h
 | _::_,[],h,_=>by simp at h
 | (k,x)::fs,(k',v)::gs,h,r=>by
  simp only[List.map_cons,List.cons.injEq]at h;obtain⟨rfl,h⟩:=h;simp only[List.map_cons]at r;rw[a0o]at r;obtain⟨v',r',e,r1,r2⟩:=r;obtain⟨rfl,rfl⟩:=List.cons.inj e;have ih:=a2J (f:=f) h r2;rw[List.lookup_cons,List.lookup_cons];cases c:f==k' with
  | true=>
   refine⟨fun e=>?_,fun z e=>?_⟩
   ·cases e
   ·cases e;exact⟨v,rfl,r1⟩
  | false=>exact ih
theorem a7c {f:Str}{y:Z}{u:V}(ry:Rep K H y u):∀ {fs:List (Str×Z)}{gs:List (Str×V)},gs.map (·.1)=fs.map (·.1)->Reps K H (fs.map (·.2)) (gs.map (·.2))->(putF f u gs).map (·.1)=(putQ f y fs).map (·.1)/\Reps K H ((putQ f y fs).map (·.2)) ((putF f u gs).map (·.2))
 | [],[],_,_=>⟨rfl,by show Reps K H [y] [u];rw[a0o];exact⟨u,[],rfl,ry,by rw[a0w]⟩⟩
 | [],_::_,h,_=>by simp at h
 | _::_,[],h,_=>by simp at h
 | (k,x)::fs,(k',v)::gs,h,r=>by
  simp only[List.map_cons,List.cons.injEq]at h;obtain⟨rfl,h⟩:=h;simp only[List.map_cons]at r;rw[a0o]at r;obtain⟨v',r',e,r1,r2⟩:=r;obtain⟨rfl,rfl⟩:=List.cons.inj e;have ih:=a7c (f:=f) ry h r2;unfold putQ putF
  by_cases c:k'=f
  ·rw[if_pos c,if_pos c];exact⟨by simp[h],by show Reps K H (y::fs.map (·.2)) (u::gs.map (·.2));rw[a0o];exact⟨u,_,rfl,ry,r2⟩⟩
  ·rw[if_neg c,if_neg c];exact⟨by simp[ih.1],by show Reps K H (x::(putQ f y fs).map (·.2)) (v::(putF f u gs).map (·.2));rw[a0o];exact⟨v,_,rfl,r1,ih.2⟩⟩
end
section
variable {X:Cx}{C f:Addr}{fd:FuncData}{ps:List Str}{sp:P3}{k:Nat}{a m x:Str}{p pos pos' tpos apos:Pos}{e o value:Expr}{es:List Expr}{te to:E3}{t:A3}
def uFld (C:Addr) (te:E3) (a:Str):E3:=fun σ G R=>te σ G fun x G1=>∃ q dx fs v,x=.ref q/\G1 q=some (.ins C dx fs)/\fs.lookup a=some v/\R v G1
theorem a6w (hc:Cls X.K C) (hn:NoAttr X.K C a) (he:QE X e te) (hb:attributeBase e a X.env (eval e X.env)=eval e X.env:=by rfl):QE X (.Attribute e a pos) (uFld C te a):=⟨a1r (b4n he.p hb) fun τ H Q hx=>hx.un fun σ G R hs hg h up=>
 ⟨σ,G,_,hs,hg,h,fun w G1 v H1 ⟨q,dx,fs,z,ew,ea,el,hq⟩ rv hg1 t1=>by
  subst ew;rw[a0m]at rv;obtain⟨gs,e1,e2,e3⟩:=hg1 _ _ ea;obtain⟨v',l',r'⟩:=(a2J e2 e3).2 _ el;exact⟨q,C,dx,gs,v',rv,e1,hc,hn,l',up _ _ _ _ hq r' hg1 t1⟩⟩⟩
def b0d (C:Addr) (to te:E3) (a:Str):X3:=fun nx _ _ _ σ G=>te σ G fun y G1=>to σ G1 fun x G2=>∃ q dx fs,x=.ref q/\G2 q=some (.ins C dx fs)/\fs.length<1000/\nx σ (put G2 q (.ins C dx (putQ a y fs)))
theorem b5y (hc:Cls X.K C) (hn:NoAttr X.K C a) (ho:QE X o to) (hv:QE X value te) (hs:swapsWith value (some (.Attribute o a pos')) pos.line X.env=pure false:=by rfl):QS X (.Assign [.Attribute o a pos'] value pos) (b0d C to te a):=⟨a4R (b4o ho.p hv.p hs) fun D τ H hx=>hx.un fun σ G nx rt bk ct hs hg h u1 u2 u3 u4=>
 ⟨σ,G,_,hs,hg,h,fun y G1 u H1 h1 ry hg1 t1=>⟨σ,G1,_,hs.mono t1,hg1,h1,fun w G2 v H2 ⟨q,dx,fs,ew,ea,hl,hq⟩ rv hg2 t2=>by
  subst ew;rw[a0m]at rv;obtain⟨gs,e1,e2,e3⟩:=hg2 _ _ ea;have tk:TK X.K H2 (L2.upd H2 q (.ins C dx (putF a u gs))):=.ins e1;have pq:=a7c (f:=a) (ry.mono t2) e2 e3;exact⟨q,C,dx,gs,rv,e1,hc,hn,by have:=congrArg List.length e2;simp at this;omega,u1 _ _ _ _ hq (hs.mono ((t1.trans t2).trans tk)) (hg2.set tk ⟨_,a0y,pq.1,pq.2.mono tk⟩) ((t1.trans t2).trans tk)⟩⟩⟩⟩
def b0e (C:Addr) (to te:E3) (r:R3) (a:Str):X3:=fun nx _ _ _ σ G=>to σ G fun x G1=>∃ q dx fs v,x=.ref q/\G1 q=some (.ins C dx fs)/\fs.lookup a=some v/\te σ G1 fun y G2=>r v y G2 fun z G3=>∃ dx' fs',G3 q=some (.ins C dx' fs')/\fs'.length<1000/\nx σ (put G3 q (.ins C dx' (putQ a z fs')))
theorem b1w {op:Operator}{r:R3}(hc:Cls X.K C) (hn:NoAttr X.K C a) (ho:QE X o to) (hv:QE X value te) (hop:OpQ X (inplaceOp op) r):QS X (.AugAssign (.Attribute o a tpos) op value pos) (b0e C to te r a):=⟨a4R (a9d ho.p hv.p hop) fun D τ H hx=>hx.un fun σ G nx rt bk ct hs hg h u1 u2 u3 u4=>
 ⟨σ,G,_,hs,hg,h,fun w G1 v H1 ⟨q,dx,fs,z,ew,ea,el,hq⟩ rv hg1 t1=>by
  subst ew;rw[a0m]at rv;obtain⟨gs,e1,e2,e3⟩:=hg1 _ _ ea;obtain⟨v',l',r'⟩:=(a2J e2 e3).2 _ el;refine⟨q,C,dx,gs,v',rv,e1,hc,hn,l',σ,G1,_,hs.mono t1,hg1,hq,fun y G2 u H2 h2 ry hg2 t2=>⟨z,y,G2,_,r'.mono t2,ry,hg2,h2,fun z2 G3 v3 H3 ⟨dx',fs',ea',hl,hq'⟩ rz hg3 t3=>?_⟩⟩;obtain⟨gs',e1',e2',e3'⟩:=hg3 _ _ ea';have tk:TK X.K H3 (L2.upd H3 q (.ins C dx' (putF a v3 gs'))):=.ins e1';have pq:=a7c (f:=a) rz e2' e3';have tt:=((t1.trans t2).trans t3).trans tk;exact⟨dx',gs',e1',by have:=congrArg List.length e2';simp at this;omega,u1 _ _ _ _ hq' (hs.mono tt) (hg3.set tk ⟨_,a0y,pq.1,pq.2.mono tk⟩) tt⟩⟩⟩
def b1x (C:Addr) (m:Str) (sp:P3) (to:E3) (t:A3):E3:=fun σ G R=>to σ G fun x G1=>∃ q dx fs,x=.ref q/\G1 q=some (.ins C dx fs)/\fs.lookup m=none/\t σ G1 fun ws G2=>sp (.ref q::ws) G2 R
theorem b1y {τ:L2.St}{H:Hp}{Q:VK}{E:XK}{o':TE}{t':TA}(h:low X.K (b1x C m sp to t) τ H Q) (h1:o'=low X.K to) (h2:t'=lowA X.K t):b2M C m (lowP X.K sp) [] E o' t' τ H Q:=by
 subst h1 h2;obtain⟨σ,G,R,hs,hg,h,up⟩:=h;refine⟨σ,G,_,hs,hg,h,fun w G1 v H1 ⟨q,dx,fs,ew,ea,el,hq⟩ rv hg1 t1=>?_⟩;subst ew;rw[a0m]at rv;obtain⟨gs,e1,e2,e3⟩:=hg1 _ _ ea;refine⟨q,dx,gs,rv,e1,(a2J e2 e3).1 el,σ,G1,_,hs.mono t1,hg1,hq,fun ws G2 vs H2 h2 rs hg2 t2=>?_⟩;exact⟨.ref q::ws,G2,R,by rw[List.append_nil,a0o];exact⟨v,vs,rfl,by rw[a0m];exact rv,rs⟩,hg2,h2,up.mono (t1.trans t2)⟩
theorem a7T {pl:Sem Bool}(ho:QE X o to) (c:Cls X.K C) (hm:Meth X.K C m f) (F:FnOk X.prog X.w X.K X.mg X.base CX0 k f fd ps (lowP X.K sp)) (hr:Room k X.A) (hb:Binds X.K fd ps []) (ha:QA X (e::es) t)
  (hst:starEach (e::es) X.env=(false,eval e X.env)::starEach es X.env:=by rfl) (hpl:(backTo pos (starEach es X.env)).any (·.1)=false:=by rfl)
  (ht:eval (.Call (.Attribute o m apos) (e::es) [] pos) X.env=(do
   let ov <- eval o X.env
   standAt apos.atName
   let (f,first) <- holding [ov] (getMethod ov m pl)
   callWith pos f first (backTo pos (starEach (e::es) X.env)) (backToKw pos (keywordEach [] X.env))):=by rfl):QE X (.Call (.Attribute o m apos) (e::es) [] pos) (b1x C m sp to t):=
 ⟨a1r (a9h ho.p c hm F hr hb .nil b01 ha.p hst hpl ht) fun _ _ _ h=>b1y h rfl rfl⟩
theorem b3j {pl:Sem Bool}(ho:QE X o to) (c:Cls X.K C) (hm:Meth X.K C m f) (F:FnOk X.prog X.w X.K X.mg X.base CX0 k f fd ps (lowP X.K sp)) (hr:Room k X.A) (hb:Binds X.K fd ps [])
  (ht:eval (.Call (.Attribute o m apos) [] [] pos) X.env=(do
   let ov <- eval o X.env
   standAt apos.atName
   let (f,first) <- holding [ov] (getMethod ov m pl)
   callWith pos f first (backTo pos (starEach [] X.env)) (backToKw pos (keywordEach [] X.env))):=by rfl):QE X (.Call (.Attribute o m apos) [] [] pos) (b1x C m sp to uNil):=
 ⟨a1r (b0T ho.p c hm F hr hb .nil b01 ht) fun τ H Q hx=>hx.un fun σ G R hs hg h up=>by
  refine⟨σ,G,_,hs,hg,h,fun w G1 v H1 ⟨q,dx,fs,ew,ea,el,hq⟩ rv hg1 t1=>?_⟩;subst ew;rw[a0m]at rv;obtain⟨gs,e1,e2,e3⟩:=hg1 _ _ ea;exact⟨q,dx,gs,rv,e1,(a2J e2 e3).1 el,[.ref q],G1,R,by rw[List.append_nil,a0o];exact⟨v,[],rfl,by rw[a0m];exact rv,by rw[a0w]⟩,hg1,hq,up.mono t1⟩⟩
def b5z (C:Addr) (sp:P3) (t:A3):E3:=fun σ G R=>t σ G fun ws G1=>∀ q dx,G1 q=none->sp (.ref q::ws) (put G1 q (.ins C dx [])) fun v G2=>v=.non/\R (.ref q) G2
theorem made {G1:Hq}{H1:Hp}{E:XK}{R:K3}{Q:VK}{ws:List Z}{vs:List V}(h1:∀ q dx,G1 q=none->sp (.ref q::ws) (put G1 q (.ins C dx [])) fun v G2=>v=.non/\R (.ref q) G2) (rs:Reps X.K H1 ws vs) (hg1:RH X.K G1 H1) (up:UpV X.K H1 R Q) (q dx:Addr) (n1:H1 q=none) (n2:H1 dx=none) (ne:dx≠q) :
  lowP X.K sp (.ref q::(vs++[])) (L2.upd (L2.upd H1 dx (.own q)) q (.ins C dx [])) (fun v H2=>v=.non/\Q (.ref q) H2) E:=by
 have n1':L2.upd H1 dx (.own q) q=none:=by rw[a0v (Ne.symm ne)];exact n1
 have tk:TK X.K H1 (L2.upd (L2.upd H1 dx (.own q)) q (.ins C dx [])):=(TK.new n2).trans (TK.new n1');refine⟨.ref q::ws,put G1 q (.ins C dx []),_,?_,?_,h1 q dx (hg1.out n1),?_⟩
 ·rw[List.append_nil,a0o];exact⟨_,vs,rfl,by rw[a0m],rs.mono tk⟩
 ·exact (hg1.hid n2).set (TK.new n1') ⟨[],a0y,rfl,by rw[List.map_nil,a0w];rfl⟩
 ·rintro w G2 v H2 ⟨ew,hq⟩ rv hg2 t2;subst ew;rw[a00]at rv;exact⟨rv,up _ _ _ _ hq (by rw[a0m]) hg2 (tk.trans t2)⟩
theorem b3k (M:Mk X.K C f) (F:FnOk X.prog X.w X.K X.mg X.base CX0 k f fd ps (lowP X.K sp)) (hr:Room (k+1) X.A) (hg:Gl X x) (hm:X.mg x=some (.ref C)) (hb:Binds X.K fd ps [])
  (hdb:(x==("__debug__":Str))=false:=by decide):QE X (.Call (.Name x p) [] [] pos) (b5z C sp uNil):=
 ⟨a1r (b0V M F hr hg hm hb .nil b01 hdb) fun τ H Q ⟨σ,G,R,hs,hg,h,up⟩ q dx n1 n2 ne=>made (vs:=[]) h (by rw[a0w]) hg up q dx n1 n2 ne⟩
variable {σ:S3}{G:Hq}{R:K3}{nx bk ct:C3}{rt:K3}{q dx:Addr}{fs:List (Str×Z)}{v:Z}{Ra:List Z->Hq->Prop}
theorem b5A (h:te σ G fun x G1=>∃ q dx fs v,x=.ref q/\G1 q=some (.ins C dx fs)/\fs.lookup a=some v/\R v G1):uFld C te a σ G R:=h
theorem b5B (h:te σ G fun y G1=>to σ G1 fun x G2=>∃ q dx fs,x=.ref q/\G2 q=some (.ins C dx fs)/\fs.length<1000/\nx σ (put G2 q (.ins C dx (putQ a y fs)))):b0d C to te a nx rt bk ct σ G:=h
theorem b3l (h:to σ G fun x G1=>∃ q dx fs,x=.ref q/\G1 q=some (.ins C dx fs)/\fs.lookup m=none/\t σ G1 fun ws G2=>sp (.ref q::ws) G2 R):b1x C m sp to t σ G R:=h
theorem b3m (h:t σ G fun ws G1=>∀ q dx,G1 q=none->sp (.ref q::ws) (put G1 q (.ins C dx [])) fun v G2=>v=.non/\R (.ref q) G2):b5z C sp t σ G R:=h
theorem b5C {r:R3}(h:to σ G fun x G1=>∃ q dx fs v,x=.ref q/\G1 q=some (.ins C dx fs)/\fs.lookup a=some v/\te σ G1 fun y G2=>r v y G2 fun z G3=>∃ dx' fs',G3 q=some (.ins C dx' fs')/\fs'.length<1000/\nx σ (put G3 q (.ins C dx' (putQ a z fs')))):b0e C to te r a nx rt bk ct σ G:=h
end
end L3
namespace L2
open PySem PySem.Spec PyProof.Rows
section
variable {X:Cx}{pins:List (Addr×Obj)}{σ:St}{H:Hp}{s:Shared}{a:Addr}{kvs:List (Key×V)}{k:Key}{d:V}{u r:Value}{A:Around}{E:Value->Shared->Prop}
theorem b5D {Q:Value->Shared->Prop}(I:Inv X pins σ H s) (e:H a=some (.dK kvs)) (ry:RelV (kV k) u) (rd:RelV d r) (hz:kvs.length<sizeLine)
  (h1:∀ v w' s',valV kvs k=some v->Inv X pins σ H s'->RelV v w'->Q w' s') (h2:valV kvs k=none->∀ s',Inv X pins σ (upd H a (.dK (putK kvs k d))) s'->Q r s') :
  wpAny (model X.prog X.w) A (call (.builtin "dict.setdefault") [.ref a,u,r]) Q E s:=by
 obtain⟨z,hd,vs,rel,dd⟩:=b02 I.hok e;have hl:(putK kvs k d).length≤sizeLine:=by have:=a14 kvs k d;omega
 refine call_meetsIn PySem.F.slot_dict_setdefault dd.typeIs PySem.F.entry_dict_setdefault (PySem.F.args_dict_setdefault_3 _ _ _) (kt_meets_setdefault (a0F X.prog X.w) a (a8y ry) hd r) ⟨vs,dd,by rw[<- rel.length];exact z,fun w' hw=>?_,fun hn h' dd' hs=>?_⟩
 ·cases hv:valV kvs k with
  | none=>
   have:=(rel.val k).isSome_eq
   rw[hv,hw]at this;cases this
  | some v=>
   have rv:=rel.val k;rw[hv,hw]at rv;exact h1 v w' _ hv (I.tok _) rv
 ·have hn':valV kvs k=none:=by
   have:=(rel.val k).isSome_eq
   rw[hn]at this;cases hv:valV kvs k with
   | none=>rfl
   | some v=>rw[hv]at this;cases this
  have he:∃ q,h'.get? a=some q:=let ⟨q,_,_,hq,_⟩:=dd';⟨q,hq⟩
  exact h2 hn' _ (a5B I (by rw[e];exact True.intro) hs he (a9q hl hd (rel.put k rd) dd'))
end
section
variable {X:Cx}
theorem b3n (hu:X.A.units+66<cLine):MtR X "dict.get" (fun x vs H Q=>∃ a y d o,x=.ref a/\vs=[y,d]/\DGet H a y o/\Q (o.getD d) H):=by
 intro pins s σ H x vs v us Q I rx rv ⟨a,y,d,o,ex,ev,g,q⟩;subst ex ev;cases rx;obtain⟨u,r,rfl,ru,rr⟩:=a88 rv;exact b4C (by omega) I g ru rr fun w' s' I' rw'=>⟨_,H,I',rw',q⟩
theorem b3o:MtR X "dict.setdefault" (fun x vs H Q=>∃ a kvs k d,x=.ref a/\vs=[kV k,d]/\H a=some (.dK kvs)/\kvs.length<sizeLine/\(∀ v,valV kvs k=some v->Q v H)/\(valV kvs k=none->Q d (upd H a (.dK (putK kvs k d))))):=by
 intro pins s σ H x vs v us Q I rx rv ⟨a,kvs,k,d,ex,ev,e,hz,h1,h2⟩;subst ex ev;cases rx;obtain⟨u,r,rfl,ru,rr⟩:=a88 rv;exact b5D I e ru rr hz (fun v w' s' hv I' rw'=>⟨v,H,I',rw',h1 v hv⟩) fun hn s' I'=>⟨d,_,I',rr,h2 hn⟩
theorem b0f (hu:X.A.units+66<cLine):OpR X (compareOp .NotIn) (fun x y H Q=>∃ a o,y=.ref a/\DGet H a x o/\Q (.bl (!o.isSome)) H):=by
 intro pins s σ H x y u v Q I rx ry ⟨a,o,ey,g,q⟩;subst ey;cases ry;exact b2V (by omega) I g rx fun s' I'=>⟨.bl (!o.isSome),H,I',rfl,q⟩
end
end L2
namespace L3
open PySem PySem.Spec PyProof.Rows L2
def valZ (kvs:List (Key×Z)) (k:Key):Option Z:=(kvs.find? fun kv=>decide (kv.1=k)).map (·.2)
theorem a1H {K:Fg}{H:Hp}{k:Key}:∀ {kvs:List (Key×Z)}{us:List (Key×V)},us.map (·.1)=kvs.map (·.1)->Reps K H (kvs.map (·.2)) (us.map (·.2))->(valZ kvs k=none->valV us k=none)/\∀ z,valZ kvs k=some z->∃ v,valV us k=some v/\Rep K H z v
 | [],[],_,_=>⟨fun _=>rfl,fun _ h=>by cases h⟩
 | [],_::_,h,_=>by simp at h
 | _::_,[],h,_=>by simp at h
 | (c,x)::fs,(c',v)::gs,h,r=>by
  simp only[List.map_cons,List.cons.injEq]at h;obtain⟨rfl,h⟩:=h;simp only[List.map_cons]at r;rw[a0o]at r;obtain⟨v',r',e,r1,r2⟩:=r;obtain⟨rfl,rfl⟩:=List.cons.inj e;have ih:=a1H (k:=k) h r2;unfold valZ valV;rw[List.find?_cons,List.find?_cons];cases q:decide (c'=k) with
  | true=>
   refine⟨fun e=>?_,fun z e=>?_⟩
   ·cases e
   ·cases e;exact⟨v,rfl,r1⟩
  | false=>exact ih
section
variable {X:Cx}
def b5E:Z->List Z->Hq->K3->Prop:=fun x xs G R=>match x,xs with
 | .ref p,[y,d]=>∃ kvs k,(G p=some (.dK kvs)\/G p=some (.dF kvs))/\keyZ y=some k/\R ((valZ kvs k).getD d) G
 | _,_=>False
theorem b5F (hu:X.A.units+66<cLine):MtQ X "dict.get" b5E:=a9z (b3n hu) fun x xs H Q hx=>hx.un fun w ws G R rw' rs hg h up=>by
 match w,ws,h with
 | .ref p,[y,d],h=>
  rw[a0m]at rw';obtain⟨v,v',rfl,r1,r2⟩:=rs.two;obtain⟨kvs,k,e,hk,h⟩:=h;obtain⟨us,e',hn,rr⟩:∃ us,Rd H p (.dK us)/\us.map (·.1)=kvs.map (·.1)/\Reps X.K H (kvs.map (·.2)) (us.map (·.2)):=by
   rcases e with e | e
   ·obtain⟨us,e',hn,rr⟩:=hg _ _ e;exact⟨us,.inl e',hn,rr⟩
   ·obtain⟨ob,us,e',hn,rr⟩:=hg _ _ e;exact⟨us,.inr ⟨ob,e'⟩,hn,rr⟩
  refine⟨p,v,v',valV us k,rw',rfl,by rw[a3h hk r1];exact .inl ⟨us,k,e',rfl,rfl⟩,?_⟩;cases hz:valZ kvs k with
  | none=>
   rw[hz]at h;rw[(a1H hn rr).1 hz];exact up _ _ _ _ h r2 hg (.refl _ _)
  | some z=>
   rw[hz]at h;obtain⟨u,e1,e2⟩:=(a1H hn rr).2 z hz;rw[e1];exact up _ _ _ _ h e2 hg (.refl _ _)
def b5G:Z->List Z->Hq->K3->Prop:=fun x xs G R=>match x,xs with
 | .ref p,[y,d]=>∃ kvs k,G p=some (.dK kvs)/\keyZ y=some k/\kvs.length<sizeLine/\(∀ z,valZ kvs k=some z->R z G)/\(valZ kvs k=none->R d (put G p (.dK (putZ kvs k d))))
 | _,_=>False
theorem a6x:MtQ X "dict.setdefault" b5G:=a9z b3o fun x xs H Q hx=>hx.un fun w ws G R rw' rs hg h up=>by
 match w,ws,h with
 | .ref p,[y,d],h=>
  rw[a0m]at rw';obtain⟨v,v',rfl,r1,r2⟩:=rs.two;obtain⟨kvs,k,e,hk,hz,h1,h2⟩:=h;obtain⟨us,e',hn,rr⟩:=hg _ _ e;refine⟨p,us,k,v',rw',by rw[a3h hk r1],e',by rw[a98 hn];exact hz,fun u hu=>?_,fun hu=>?_⟩
  ·cases hq:valZ kvs k with
   | none=>rw[(a1H hn rr).1 hq]at hu;cases hu
   | some z=>
    obtain⟨u',e1,e2⟩:=(a1H hn rr).2 z hq;rw[e1]at hu;cases hu;exact up _ _ _ _ (h1 z hq) e2 hg (.refl _ _)
  ·cases hq:valZ kvs k with
   | some z=>
    obtain⟨u',e1,e2⟩:=(a1H hn rr).2 z hq;rw[e1]at hu;cases hu
   | none=>
    have hp:=a5N (k:=k) r2 hn rr;exact up _ _ _ _ (h2 hq) (r2.mono (.dK e')) (hg.set (o:=.dK (putZ kvs k d)) (.dK e') ⟨_,a0y,hp.1,hp.2.mono (.dK e')⟩) (.dK e')
theorem b3p {p:Addr}{kvs:List (Key×Z)}{k:Key}{y d:Z}{G:Hq}{R:K3}(e:G p=some (.dK kvs)\/G p=some (.dF kvs)) (a:keyZ y=some k) (h:R ((valZ kvs k).getD d) G):b5E (.ref p) [y,d] G R:=⟨kvs,k,e,a,h⟩
theorem b5H {p:Addr}{kvs:List (Key×Z)}{k:Key}{y d:Z}{G:Hq}{R:K3}(e:G p=some (.dK kvs)) (a:keyZ y=some k) (z:kvs.length<sizeLine) (h1:∀ z,valZ kvs k=some z->R z G) (h2:valZ kvs k=none->R d (put G p (.dK (putZ kvs k d)))):b5G (.ref p) [y,d] G R:=⟨kvs,k,e,a,z,h1,h2⟩
theorem b7d {p:Addr}{kvs:List (Key×Z)}{G:Hq}{P:Prop}(e:G p=some (.dK kvs)) (h:P):tyZ "dict" (.ref p) G/\P:=⟨.inr ⟨rfl,kvs,.inl e⟩,h⟩
theorem b7e {p:Addr}{kvs:List (Key×Z)}{G:Hq}{P:Prop}(e:G p=some (.dK kvs)\/G p=some (.dF kvs)) (h:P):tyZ "dict" (.ref p) G/\P:=⟨.inr ⟨rfl,kvs,e⟩,h⟩
end
end L3
namespace L3
open PySem PySem.Spec PyProof.Rows L2
def a4z:List (E3×E3)->S3->Hq->(List (Z×Z)->Hq->Prop)->Prop
 | [],_,G,R=>R [] G
 | (tk,tv)::r,σ,G,R=>tk σ G fun x G1=>tv σ G1 fun y G2=>a4z r σ G2 fun ps G3=>R ((x,y)::ps) G3
def a5h:List (Z×Z)->Option (List (Key×Z))
 | []=>some []
 | (x,y)::r=>match keyZ x,a5h r with
  | some k,some kvs=>some ((k,y)::kvs)
  | _,_=>none
def a3i (kvs more:List (Key×Z)):List (Key×Z):=more.foldl (fun acc kv=>putZ acc kv.1 kv.2) kvs
def PReps (K:Fg) (H:Hp):List (Z×Z)->List (V×V)->Prop:=Paired fun p q=>Rep K H p.1 q.1/\Rep K H p.2 q.2
theorem PReps.mono {K:Fg}{H H':Hp}(t:TK K H H'):∀ {ps:List (Z×Z)}{vs:List (V×V)},PReps K H ps vs->PReps K H' ps vs
 | _,_,.nil=>.nil
 | _,_,.cons r s=>.cons ⟨r.1.mono t,r.2.mono t⟩ (PReps.mono t s)
section
variable {X:Cx}
theorem a6y:∀ (trs:List (E3×E3)) {σ:S3}{τ:L2.St}{G:Hq}{H:Hp}{R:List (Z×Z)->Hq->Prop}{Q:List (V×V)->Hp->Prop},RSt X.K H σ τ->RH X.K G H->a4z trs σ G R ->
  (∀ ps G' vs H',R ps G'->PReps X.K H' ps vs->RH X.K G' H'->TK X.K H H'->Q vs H')->a7C (trs.map fun t=>(low X.K t.1,low X.K t.2)) τ H Q
 | [],σ,τ,G,H,R,Q,hs,hg,h,up=>up [] G [] H h .nil hg (.refl _ _)
 | (tk,tv)::r,σ,τ,G,H,R,Q,hs,hg,h,up=>by
  refine⟨σ,G,_,hs,hg,h,fun x G1 vx H1 h1 rx hg1 t1=>⟨σ,G1,_,hs.mono t1,hg1,h1,fun y G2 vy H2 h2 ry hg2 t2=>?_⟩⟩;refine a6y r (hs.mono (t1.trans t2)) hg2 h2 fun ps G3 vs H3 h3 rs hg3 t3=>?_;exact up _ _ _ _ h3 (.cons ⟨rx.mono (t2.trans t3),ry.mono t3⟩ rs) hg3 ((t1.trans t2).trans t3)
def QPs (X:Cx) (pos:Pos) (keys:List (Option Expr)) (values:List Expr) (trs:List (E3×E3)):Prop:=PPs X pos keys values (trs.map fun t=>(low X.K t.1,low X.K t.2))
theorem b0g {pos:Pos}:QPs X pos [] [] []:=b2W
theorem a5O {pos:Pos}{k v:Expr}{ks:List (Option Expr)}{vs:List Expr}{tk tv:E3}{trs:List (E3×E3)}(hk:QE X k tk) (hv:QE X v tv) (hr:QPs X pos ks vs trs):QPs X pos (some k::ks) (v::vs) ((tk,tv)::trs):=b04 hk.p hv.p hr
theorem a7U {K:Fg}{H:Hp}:∀ {ps:List (Z×Z)}{vs:List (V×V)}{kvs:List (Key×Z)},PReps K H ps vs->a5h ps=some kvs->∃ us:List (Key×V),vs=us.map (fun kv=>(kV kv.1,kv.2))/\us.map (·.1)=kvs.map (·.1)/\Reps K H (kvs.map (·.2)) (us.map (·.2))/\us.length=kvs.length
 | [],_,kvs,.nil,h=>by cases h;exact⟨[],rfl,rfl,by rw[List.map_nil,a0w];rfl,rfl⟩
 | (x,y)::ps,_,kvs,.cons (b:=b) r s,h=>by
  unfold a5h at h;cases e1:keyZ x with
  | none=>rw[e1]at h;cases h
  | some k=>
   cases e2:a5h ps with
   | none=>rw[e1,e2]at h;cases h
   | some kr=>
    rw[e1,e2]at h;cases h;obtain⟨us,i1,i2,i3,i4⟩:=a7U s e2;obtain⟨v1,v2⟩:=b;have hv:v1=kV k:=a3h e1 r.1;refine⟨(k,v2)::us,by rw[List.map_cons,<- i1,hv],by rw[List.map_cons,List.map_cons,i2],?_,by rw[List.length_cons,List.length_cons,i4]⟩;rw[List.map_cons,List.map_cons,a0o];exact⟨v2,_,rfl,r.2,i3⟩
theorem a6z {K:Fg}{H:Hp}:∀ {more:List (Key×Z)}{us:List (Key×V)}{kvs:List (Key×Z)}{vs:List (Key×V)},us.map (·.1)=more.map (·.1)->Reps K H (more.map (·.2)) (us.map (·.2))->vs.map (·.1)=kvs.map (·.1)->Reps K H (kvs.map (·.2)) (vs.map (·.2)) ->
  (a3R vs us).map (·.1)=(a3i kvs more).map (·.1)/\Reps K H ((a3i kvs more).map (·.2)) ((a3R vs us).map (·.2))
 | [],[],kvs,vs,_,_,h3,h4=>⟨h3,h4⟩
 | [],_::_,_,_,h,_,_,_=>by simp at h
 | _::_,[],_,_,h,_,_,_=>by simp at h
 | (k,x)::more,(k',v)::us,kvs,vs,h1,h2,h3,h4=>by
  simp only[List.map_cons,List.cons.injEq]at h1;obtain⟨rfl,h1⟩:=h1;simp only[List.map_cons]at h2;rw[a0o]at h2;obtain⟨v',r',e,r1,r2⟩:=h2;obtain⟨rfl,rfl⟩:=List.cons.inj e;have p:=a5N (k:=k') r1 h3 h4;exact a6z (more:=more) (us:=us) h1 r2 p.1 p.2
def b5I (trs:List (E3×E3)):E3:=fun σ G R=>∀ p,G p=none->a4z trs σ (put G p (.dK [])) fun ps G2=>G2 p=some (.dK [])/\∃ kvs,a5h ps=some kvs/\kvs.length≤15/\R (.ref p) (put G2 p (.dK (a3i [] kvs)))
theorem b2j {pos:Pos}{keys:List (Option Expr)}{values:List Expr}{trs:List (E3×E3)}(h:QPs X pos keys values trs) (hall:keys.all (·.isSome)=true:=by rfl) (hl:keys.length=values.length:=by rfl) (h0:keys≠[]:=by simp) (h15:keys.length≤15:=by decide):QE X (.Dict keys values pos) (b5I trs):=
 ⟨a1r (b2X h hall hl h0 h15) fun τ H Q ⟨σ,G,R,hs,hg,h,up⟩ p hp=>by
  have hg1:RH X.K (put G p (.dK [])) (L2.upd H p (.dK [])):=hg.set (.new hp) ⟨[],a0y,rfl,by rw[List.map_nil,a0w];rfl⟩;refine a6y trs (hs.mono (.new hp)) hg1 (h p (hg.out hp)) fun ps G2 vs H2 ⟨e,kvs,hk,hz,hq⟩ rs hg2 t2=>?_;obtain⟨us0,e0,n0,r0⟩:=hg2 _ _ e;have u0:us0=[]:=by cases us0 with | nil=>rfl | cons _ _=>simp at n0
  subst u0;obtain⟨us,i1,i2,i3,i4⟩:=a7U rs hk;have m:=a6z (kvs:=[]) (vs:=[]) i2 i3 rfl (by rw[List.map_nil,a0w];rfl);have tk:TK X.K H2 (L2.upd H2 p (.dK (a3R [] us))):=.dK e0;exact⟨e0,us,i1,by rw[i4];exact hz,up _ _ _ _ hq (by rw[a0m]) (hg2.set tk ⟨_,a0y,m.1,m.2.mono tk⟩) (((TK.new hp).trans t2).trans tk)⟩⟩
theorem b5J {trs:List (E3×E3)}{σ:S3}{G:Hq}{R:K3}(h:∀ p,G p=none->a4z trs σ (put G p (.dK [])) fun ps G2=>G2 p=some (.dK [])/\∃ kvs,a5h ps=some kvs/\kvs.length≤15/\R (.ref p) (put G2 p (.dK (a3i [] kvs)))):b5I trs σ G R:=h
theorem b5K {σ:S3}{G:Hq}{R:List (Z×Z)->Hq->Prop}(h:R [] G):a4z [] σ G R:=h
theorem b3q {tk tv:E3}{r:List (E3×E3)}{σ:S3}{G:Hq}{R:List (Z×Z)->Hq->Prop}(h:tk σ G fun x G1=>tv σ G1 fun y G2=>a4z r σ G2 fun ps G3=>R ((x,y)::ps) G3):a4z ((tk,tv)::r) σ G R:=h
def zDIn (f:Bool->Bool):R3:=fun x y G R=>match y with
 | .ref p=>∃ kvs k,G p=some (.dK kvs)/\keyZ x=some k/\R (.bl (f (valZ kvs k).isSome)) G
 | _=>False
theorem b1z {K:Fg}{H:Hp}{k:Key}{kvs:List (Key×Z)}{us:List (Key×V)}(hn:us.map (·.1)=kvs.map (·.1)) (rr:Reps K H (kvs.map (·.2)) (us.map (·.2))):(valV us k).isSome=(valZ kvs k).isSome:=by
 cases hz:valZ kvs k with
 | none=>rw[(a1H hn rr).1 hz];rfl
 | some z=>obtain⟨u,e1,_⟩:=(a1H hn rr).2 z hz;rw[e1];rfl
theorem a7V (hu:X.A.units+66<cLine):OpQ X (compareOp .NotIn) (zDIn not):=a4S (b0f hu) fun x y H Q hx=>hx.un fun a b G R ra rb hg h up=>by
 cases b with
 | ref p=>
  rw[a0m]at rb;obtain⟨kvs,k,e,hk,h⟩:=h;obtain⟨us,e',hn,rr⟩:=hg _ _ e;exact⟨p,valV us k,rb,by rw[a3h hk ra];exact DGet.k e',up _ _ _ _ h (by rw[a0O,b1z hn rr]) hg (.refl _ _)⟩
 | _=>exact False.elim h
theorem a7W {K:Fg}{H:Hp}{ws:List Z}{vs:List V}(r:Reps K H ws vs):∀ k:Nat,Reps K H (List.replicate k ws).flatten (List.replicate k vs).flatten
 | 0=>by rw[List.replicate_zero,List.flatten_nil,a0w];rfl
 | k+1=>by rw[List.replicate_succ,List.flatten_cons,List.replicate_succ,List.flatten_cons];exact r.append (a7W r k)
def zRep:R3:=fun x y G R=>match x,y with
 | .ref l,.int k=>∃ ws,G l=some (.lst ws)/\0≤k/\k<1000/\ws.length*k.toNat≤sizeLine/\∀ p,G p=none->R (.ref p) (put G p (.lst (List.replicate k.toNat ws).flatten))
 | _,_=>False
theorem b7f:OpQ X (binaryOp .Mult) zRep:=a4S b4y fun x y H Q hx=>hx.un fun a b G R ra rb hg h up=>by
 match a,b,h with
 | .ref l,.int k,h=>
  rw[a0m]at ra;rw[a0q]at rb;obtain⟨ws,e,h0,h1,hz,h⟩:=h;obtain⟨vs,e',rs⟩:=hg _ _ e;refine⟨l,k,vs,ra,rb,e',by omega,by omega,by rw[<- rs.length];exact hz,fun p hp=>?_⟩;have tk:TK X.K H (L2.upd H p (.lst (List.replicate k.toNat vs).flatten)):=.new hp;exact up _ _ _ _ (h p (hg.out hp)) (by rw[a0m]) (hg.set tk ⟨_,a0y,(a7W rs _).mono tk⟩) tk
theorem b7g {l:Addr}{k:Int}{ws:List Z}{G:Hq}{R:K3}(e:G l=some (.lst ws)) (h0:0≤k) (h1:k<1000) (hz:ws.length*k.toNat≤sizeLine) (h:∀ p,G p=none->R (.ref p) (put G p (.lst (List.replicate k.toNat ws).flatten))):zRep (.ref l) (.int k) G R:=⟨ws,e,h0,h1,hz,h⟩
end
end L3
namespace L3
theorem ln0 {α:Type}{C:List α->Prop}(h:C []):∀ us:List α,us.length=0->C us
 | [],_=>h
theorem lnS {α:Type}{C:List α->Prop}{n:Nat}(h:∀ a,∀ us:List α,us.length=n->C (a::us)):∀ us:List α,us.length=n+1->C us
 | a::us,e=>h a us (Nat.succ.inj e)
end L3
namespace L2
open PySem PySem.Spec PyProof.Rows
section
variable {X:Cx}
end
end L2
namespace L3
open PySem PySem.Spec PyProof.Rows L2
section
variable {X:Cx}{e:Expr}{es:List Expr}{t:A3}{x y:Str}{p p2 pos pos2:Pos}
end
end L3
namespace L3
open PySem PySem.Spec PyProof.Rows L2
section
variable {X:Cx}
end
end L3
namespace L2
open PySem PySem.Spec PyProof.Rows
section
variable {X:Cx}
theorem a8H:CallR X (.type "str") (fun xs H Q=>(∃ i:Int,xs=[.int i]/\i.natAbs.log2<1920/\Q (.str (Str.ofString (toString i))) H)\/∃ x,xs=[.str x]/\Q (.str x) H):=by
 intro pins s σ H xs us Q I r h;rcases h with ⟨i,rfl,hi,q⟩ | ⟨x,rfl,q⟩
 ·obtain⟨u,rfl,rx⟩:=a3X r;obtain⟨t,rfl⟩:=rx;exact PySem.P.str_of_int hi ⟨.str _,H,I.tok _,⟨_,rfl⟩,q⟩
 ·obtain⟨u,rfl,rx⟩:=a3X r;obtain⟨t,rfl⟩:=rx;exact PySem.P.str_of_str ⟨.str _,H,I,⟨_,rfl⟩,q⟩
theorem a8I:CallR X (.type "int") (fun xs H Q=>∃ (x:Str) (n:Int),xs=[.str x]/\intText? x=some n/\x.length≤640/\Q (.int n) H):=by
 intro pins s σ H xs us Q I r h;obtain⟨x,n,rfl,hn,hl,q⟩:=h;obtain⟨u,rfl,rx⟩:=a3X r;obtain⟨t,rfl⟩:=rx;exact PySem.W.KIN.call_text hn hl ⟨.int n,H,I.tok _,⟨_,rfl⟩,q⟩
def KD (X:Cx) (a:Addr) (kvs:List (Key×V)):Prop:=kvs.length≤sizeLine/\(a==sysModules)=false/\∃ vs,KV kvs vs/\∀ h:Heap,X.K.In h->h.DictOf (a0F X.prog X.w) a vs
end
end L2
namespace L3
open PySem PySem.Spec PyProof.Rows L2
section
variable {X:Cx}
def zStr:List Z->Hq->K3->Prop:=fun xs G R=>match xs with
 | [.int i]=>i.natAbs.log2<1920/\R (.str (Str.ofString (toString i))) G
 | [.str x]=>R (.str x) G
 | _=>False
theorem b_str:a2V X (.type "str") zStr:=a1y a8H fun xs H Q hx=>hx.un fun ws G R rs hg h up=>by
 match ws,h with
 | [.int i],h=>
  obtain⟨v,rfl,r⟩:=rs.one;rw[a0q]at r;exact .inl ⟨i,by rw[r],h.1,up _ _ _ _ h.2 (by rw[a0A]) hg (.refl _ _)⟩
 | [.str x],h=>
  obtain⟨v,rfl,r⟩:=rs.one;rw[a0A]at r;exact .inr ⟨x,by rw[r],up _ _ _ _ h (by rw[a0A]) hg (.refl _ _)⟩
def b7h:List Z->Hq->K3->Prop:=fun xs G R=>match xs with
 | [.str x]=>∃ n,intText? x=some n/\x.length≤640/\R (.int n) G
 | _=>False
theorem b_int:a2V X (.type "int") b7h:=a1y a8I fun xs H Q hx=>hx.un fun ws G R rs hg h up=>by
 match ws,h with
 | [.str x],h=>
  obtain⟨v,rfl,r⟩:=rs.one;rw[a0A]at r;obtain⟨n,h1,h2,h⟩:=h;exact⟨x,n,by rw[r],h1,h2,up _ _ _ _ h (by rw[a0q]) hg (.refl _ _)⟩
def b5L:List Z->Hq->K3->Prop:=fun xs G R=>match xs with
 | [.ref p]=>∃ ws,G p=some (.lst ws)/\R (.tup ws) G
 | _=>False
theorem b_tuple:a2V X (.type "tuple") b5L:=a1y a5y fun xs H Q hx=>hx.un fun ws G R rs hg h up=>by
 match ws,h with
 | [.ref p],h=>
  obtain⟨v,rfl,r⟩:=rs.one;rw[a0m]at r;obtain⟨ys,e,h⟩:=h;obtain⟨vs,e',rs'⟩:=hg _ _ e;exact⟨p,vs,by rw[r],.inl ⟨SqL.of e',fun t ht=>up _ _ _ _ h (by rw[a0U];exact⟨t,vs,rfl,a0y,rs'.mono (.new ht)⟩) (hg.hid ht) (.new ht)⟩⟩
def zV:Z->V
 | .str x=>.str x
 | .ref a=>.ref a
 | .int i=>.int i
 | _=>.non
def b5M:Z->Bool
 | .str _=>true
 | .ref _=>true
 | .int _=>true
 | _=>false
def KDZ (X:Cx) (a:Addr) (kvs:List (Key×Z)):Prop:=(∀ kv∈kvs,b5M kv.2=true)/\KD X a (kvs.map fun kv=>(kv.1,zV kv.2))
def KTup (K:Fg) (a:Addr) (ss:List Str):Prop:=∃ (o:Obj) (its:Array Value) (n:Nat),K.lookup a=some o/\o.cls=.type "tuple"/\o.data=.seq its n/\its.size≤sizeLine/\Vals (ss.map V.str) its.toList
theorem KTup.sq {K:Fg}{H:Hp}{a:Addr}{ss:List Str}(h:KTup K a ss):SqT K H a (ss.map V.str):=.inr h
variable {t:A3}
end
end L3
namespace L3
open PySem PySem.Spec PyProof.Rows L2
def KDk (w:World) (K:Fg) (a:Addr) (kvs:List (Key×Z)):Prop:=(∀ kv∈kvs,b5M kv.2=true)/\kvs.length≤sizeLine/\(a==sysModules)=false/\∃ vs:List (Key×Value),KV (kvs.map fun kv=>(kv.1,zV kv.2)) vs/\∀ (P:Program) (h:Heap),K.In h->h.DictOf (a0F P w) a vs
theorem KDk.at {X:Cx}{a:Addr}{kvs:List (Key×Z)}(h:KDk X.w X.K a kvs):KDZ X a kvs:=⟨h.1,by rw[List.length_map];exact h.2.1,h.2.2.1,let ⟨vs,r,q⟩:=h.2.2.2;⟨vs,r,q X.prog⟩⟩
end L3
namespace L2
open PySem PySem.W
end L2
namespace L2
open PySem PySem.Spec PyProof.Rows
section
variable {X:Cx}{e:Addr}{oe:Obj}{C:Addr}
end
end L2
namespace L3
open PySem PySem.Spec PyProof.Rows L2
abbrev PX3:=List Z->Hq->K3->(Addr->Hq->Prop)->Prop
def UpX (K:Fg) (H:Hp) (EE:Addr->Hq->Prop) (E:XK):Prop:=∀ C G H',EE C G->RH K G H'->TK K H H'->E (.ref C) none H'
def a4A (K:Fg) (sp:PX3):Sp:=fun vs H Q E=>∃ ws G R EE,Reps K H ws vs/\RH K G H/\sp ws G R EE/\UpV K H R Q/\UpX K H EE E
theorem b5N {K:Fg}{H H':Hp}(t:TKs H H'):TK K H H':=⟨t.tup,fun a xs h=>by
 rcases h with ⟨o,h⟩ | h
 ·exact .inl ⟨o,t.frz _ _ _ h⟩
 ·exact .inr h,t.frz⟩
def UpN (K:Fg) (EE:Addr->Hq->Prop) (E:XK):Prop:=∀ C G H',EE C G->RH K G H'->E (.ref C) none H'
theorem UpX.since {K:Fg}{H:Hp}{EE:Addr->Hq->Prop}{E:XK}(h:UpX K H EE E):UpN K EE (since H E):=fun C G H' q r t=>h C G H' q r (b5N t)
abbrev EE0:Addr->Hq->Prop:=fun _ _=>False
theorem up0 {K:Fg}:UpN K EE0 E0:=fun _ _ _ z _=>z.elim
theorem a09 {X:Cx}:a2v (CXx X.prog X.w) X E0:=by
 rintro pins σ H s ev s' _ ⟨_,_,_,_,_,_,_,_,_,q⟩;exact q.elim
section
variable {X:Cx}{E:XK}{EE:Addr->Hq->Prop}{e e0:Expr}{es:List Expr}{x n:Str}{p pos np cpos hpos tpos:Pos}{t:A3}{te:E3}{k:Nat}{f C D:Addr}{fd:FuncData}{ps:List Str}{sp:PX3}
def b2k (sp:PX3) (EE:Addr->Hq->Prop) (t:A3):E3:=fun σ G R=>t σ G fun ws G1=>sp ws G1 R EE
theorem a4B (hp:a2v (CXx X.prog X.w) X E) (hU:UpN X.K EE E) (F:FnOk X.prog X.w X.K X.mg X.base (CXx X.prog X.w) k f fd ps (a4A X.K sp)) (hr:Room k X.A) (hg:Gl X x) (hm:X.mg x=some (.ref f)) (hk:PySem.W.keepIn X.K (.ref f)=true) (hb:Binds X.K fd ps []) (ha:QA X (e::es) t)
  (hdb:(x==("__debug__":Str))=false:=by decide) (he:starEach (e::es) X.env=(false,eval e X.env)::starEach es X.env:=by rfl) (hpl:(backTo pos (starEach es X.env)).any (·.1)=false:=by rfl) :
  QE X (.Call (.Name x p) (e::es) [] pos) (b2k sp EE t):=⟨a1r (a9g F hr hg hm hk hb .nil hp ha.p hdb he hpl) fun τ H Q hx=>hx.un fun σ G R hs hg h up=>⟨σ,G,_,hs,hg,h,fun ws G1 vs H1 h1 rs hg1 t1=>⟨ws,G1,R,EE,by rw[List.append_nil];exact rs,hg1,h1,up.mono t1,fun C G H' z r _=>hU C G H' z r⟩⟩⟩
def b2l (EE:Addr->Hq->Prop) (C:Addr) (te:E3):X3:=fun _ _ _ _ σ G=>te σ G fun _ G1=>EE C G1
theorem a7d (O:Outs X E) (hU:UpX X.K X.H₀ EE E) (hc:X.calm=true) (hg:Gl X x) (hm:X.mg x=some (.ref C)) (hq:PySem.W.excIn X.K C veM "ValueError.__new__"=true) (he:QE X e0 te)
  (hs:starEach [e0] X.env=(false,eval e0 X.env)::starEach [] X.env:=by rfl) (hp:(backTo cpos (starEach [] X.env)).any (·.1)=false:=by rfl) (hd:(x==("__debug__":Str))=false:=by decide) :
  QS X (.Raise (some (.Call (.Name x np) [e0] [] cpos)) none pos) (b2l EE C te):=⟨a4R (b1e O hc hg hm hq he.p hs hp hd) fun D τ H hx=>hx.un fun σ G nx rt bk ct hs hg h u1 u2 u3 u4=>⟨σ,G,_,hs,hg,h,fun w G1 v H1 h1 rv hg1 t1=>fun t=>hU _ _ _ h1 hg1 (b5N t)⟩⟩
variable {o:Expr}{m:Str}{apos:Pos}{to:E3}{PC:Addr->Prop}
def b2m (C:Addr) (m:Str) (sp:PX3) (EE:Addr->Hq->Prop) (to:E3) (t:A3):E3:=fun σ G R=>to σ G fun x G1=>∃ q dx fs,x=.ref q/\G1 q=some (.ins C dx fs)/\fs.lookup m=none/\t σ G1 fun ws G2=>sp (.ref q::ws) G2 R EE
theorem a1A {pl:Sem Bool}(hp:a2v (CXx X.prog X.w) X E) (hU:UpN X.K EE E) (ho:QE X o to) (c:Cls X.K C) (hm:Meth X.K C m f) (F:FnOk X.prog X.w X.K X.mg X.base (CXx X.prog X.w) k f fd ps (a4A X.K sp)) (hr:Room k X.A) (hb:Binds X.K fd ps []) (ha:QA X (e::es) t)
  (hst:starEach (e::es) X.env=(false,eval e X.env)::starEach es X.env:=by rfl) (hpl:(backTo pos (starEach es X.env)).any (·.1)=false:=by rfl)
  (ht:eval (.Call (.Attribute o m apos) (e::es) [] pos) X.env=(do
   let ov <- eval o X.env
   standAt apos.atName
   let (f,first) <- holding [ov] (getMethod ov m pl)
   callWith pos f first (backTo pos (starEach (e::es) X.env)) (backToKw pos (keywordEach [] X.env))):=by rfl):QE X (.Call (.Attribute o m apos) (e::es) [] pos) (b2m C m sp EE to t):=
 ⟨a1r (a9h ho.p c hm F hr hb .nil hp ha.p hst hpl ht) fun τ H Q hx=>hx.un fun σ G R hs hg h up=>by
  refine⟨σ,G,_,hs,hg,h,fun w G1 v H1 ⟨q,dx,fs,ew,ea,el,hq⟩ rv hg1 t1=>?_⟩;subst ew;rw[a0m]at rv;obtain⟨gs,e1,e2,e3⟩:=hg1 _ _ ea;refine⟨q,dx,gs,rv,e1,(a2J e2 e3).1 el,σ,G1,_,hs.mono t1,hg1,hq,fun ws G2 vs H2 h2 rs hg2 t2=>?_⟩;exact⟨.ref q::ws,G2,R,EE,by rw[List.append_nil,a0o];exact⟨v,vs,rfl,by rw[a0m];exact rv,rs⟩,hg2,h2,up.mono (t1.trans t2),fun C G H' z r _=>hU C G H' z r⟩⟩
end
section
variable {X:Cx}{EW:XK}{N':List Str}{sc:Scope}{cap:List (Option Nat)}{tg iter elt:Expr}{ifs:List Expr}{wi:I3}{pt:Pt}{tt:T3}{te:E3}{pos:Pos}
end
section
variable {P:Program}{w:World}{K:Fg}{mg:Str->Option Value}{base:Heap}
theorem fn3x {x qual:Str}{st:Stmt}{f:Addr}{fd:FuncData}{N ps:List Str}{k:Nat}{sp:PX3}(F:Fun K x qual st f fd) (S:FnScope N ps (a0g st)) (len:∀ ws G R EE,sp ws G R EE->ws.length=ps.length)
  (hbody:∀ (cdv:Value) (A:Around) (outer:List Env) (s:Shared) (H:Hp) (E:XK) (ws:List Z) (G:Hq) (R:K3) (EE:Addr->Hq->Prop),Room k (A.deeper (envOfC qual (a0g st) s.heap.objs.size f cdv))->sp ws G R EE->UpX K H EE E ->
   ∃ t,QSs (cxOf (CXx P w) P w K mg base N qual (a0g st) f cdv A outer s H E) (a1O st) t/\t (fun _ G'=>R .non G') R (fun _ _=>False) (fun _ _=>False) (a3S N ws) G):FnOk P w K mg base (CXx P w) (k+1) f fd ps (a4A K sp):=by
 obtain⟨oc,od,kV,doc,pm,an,cdv,ct,osl,rfl,lk,hcd⟩:=F.ex;refine b4s lk hcd S (fun vs H Q E ⟨ws,G,R,EE,rs,hg,h,up,ux⟩=>by rw[<- rs.length];exact len _ _ _ _ h) ?_;rintro A outer s H vs Q E hr ⟨ws,G,R,EE,rs,hg,h,up,ux⟩;obtain⟨t,ht,hq⟩:=hbody cdv A outer s H E ws G R EE hr h ux;exact⟨_,ht.p,a3S N ws,G,_,R,_,_,.start rs,hg,hq,fun σ' G' τ' H' h' hs' hg' t'=>up _ _ _ _ h' (by rw[a00]) hg' t',up,fun _ _ _ _ h _ _ _=>h.elim,fun _ _ _ _ h _ _ _=>h.elim⟩
end
end L3
namespace L3
open PySem PySem.Spec PyProof.Rows L2
mutual
def DZ (G:Hq):PyData->Z->Prop
 | .none,x=>x=.non
 | .bool b,x=>x=.bl b
 | .int i,x=>x=.int i
 | .str s,x=>x=.str s
 | .list ds,x=>∃ p ws,x=.ref p/\G p=some (.lst ws)/\DZs G ds ws
 | .tuple ds,x=>∃ ws,x=.tup ws/\DZs G ds ws
 | .dict _,_=>False
def DZs (G:Hq):List PyData->List Z->Prop
 | [],ws=>ws=[]
 | d::ds,ws=>∃ w r,ws=w::r/\DZ G d w/\DZs G ds r
end
mutual
theorem DZ.sm {G G':Hq}(s:Sm G G'):∀ {d:PyData}{w:Z},DZ G d w->DZ G' d w
 | .none,w,q=>by unfold DZ at q ⊢;exact q
 | .bool b,w,q=>by unfold DZ at q ⊢;exact q
 | .int i,w,q=>by unfold DZ at q ⊢;exact q
 | .str _,w,q=>by unfold DZ at q ⊢;exact q
 | .list ds,w,q=>by
  unfold DZ at q ⊢;obtain⟨p,ws,e,hp,q⟩:=q;exact⟨p,ws,e,s _ _ hp,DZs.sm s q⟩
 | .tuple ds,w,q=>by
  unfold DZ at q ⊢;obtain⟨ws,e,q⟩:=q;exact⟨ws,e,DZs.sm s q⟩
 | .dict _,w,q=>by unfold DZ at q;exact q.elim
theorem DZs.sm {G G':Hq}(s:Sm G G'):∀ {ds:List PyData}{ws:List Z},DZs G ds ws->DZs G' ds ws
 | [],ws,q=>by unfold DZs at q ⊢;exact q
 | d::ds,ws,q=>by
  unfold DZs at q ⊢;obtain⟨w,r,e,q1,q2⟩:=q;exact⟨w,r,e,DZ.sm s q1,DZs.sm s q2⟩
end
section
variable {X:Cx}
end
def b5O:List Z->Hq->K3->Prop:=fun xs G R=>match xs with
 | [.bl b]=>R (.int (if b then 1 else 0)) G
 | _=>False
end L3
namespace L2
open PySem PySem.Spec PyProof.Rows
theorem b0h {X:Cx}:CallR X (.type "int") (fun xs H Q=>∃ b:Bool,xs=[.bl b]/\Q (.int (if b then 1 else 0)) H):=by
 intro pins s σ H xs us Q I r h;obtain⟨b,rfl,q⟩:=h;obtain⟨u,rfl,rx⟩:=a3X r;cases (show u=Value.bool b from rx);exact PySem.call_int_bool ⟨.int _,H,I.tok _,⟨_,rfl⟩,q⟩
end L2
namespace L3
open PySem PySem.Spec PyProof.Rows L2
theorem b5P {X:Cx}:a2V X (.type "int") b5O:=a1y b0h fun xs H Q hx=>hx.un fun ws G R rs hg h up=>by
 match ws,h with
 | [.bl b],h=>
  obtain⟨v,rfl,r⟩:=rs.one;rw[a0O]at r;exact⟨b,by rw[r],up _ _ _ _ h (by rw[a0q]) hg (.refl _ _)⟩
theorem b5Q {b:Bool}{G:Hq}{R:K3}(h:R (.int (if b then 1 else 0)) G):b5O [.bl b] G R:=h
section
variable {X:Cx}{E:XK}{e:Expr}{es:List Expr}{x n:Str}{p pos np hpos tpos:Pos}{t:A3}{k:Nat}{f D:Addr}{fd:FuncData}{ps:List Str}{sp:PX3}
end
end L3
namespace L2
open PySem PySem.Spec PyProof.Rows
def ItD (o:Obj) (a:Addr) (kvs:List (Key×V)):It:=
 ⟨fun i H=>H a=some (.frz o (.dK kvs))/\i<kvs.length,fun i H x H'=>H'=H/\∃ p,kvs[i]?=some p/\x=kV p.1,fun i H=>H a=some (.frz o (.dK kvs))/\kvs.length≤i⟩
theorem b7i {P:Program}{w:World}{k:Key}{u:Value}(h:(a0F P w).is k u=true):RelV (kV k) u:=by
 rcases a0E (k:=k) (v:=u) h with ⟨i,t,rfl,rfl⟩ | ⟨x,t,rfl,rfl⟩ | ⟨rfl,rfl⟩
 ·exact⟨t,rfl⟩
 ·exact⟨t,rfl⟩
 ·rfl
theorem a7X:∀ {kvs:List (Key×V)}{vs:List (Key×Value)},KV kvs vs->vs.length=kvs.length
 | [],vs,h=>by cases h;rfl
 | p::kvs,vs,h=>by
  cases h with
  | cons h1 h2=>rw[List.length_cons,List.length_cons,a7X h2]
theorem b2n:∀ {kvs:List (Key×V)}{vs:List (Key×Value)}{i:Nat}{p:Key×V},KV kvs vs->kvs[i]?=some p->∃ q,vs[i]?=some q/\p.1=q.1
 | [],vs,i,p,h,e=>by simp at e
 | p0::kvs,vs,i,p,h,e=>by
  cases h with
  | cons h1 h2=>
   cases i with
   | zero=>cases e;exact⟨_,rfl,h1.1⟩
   | succ i=>exact b2n (i:=i) h2 (by simpa using e)
theorem b0i {P:Program}{w:World}{K:Fg}{tg:Expr}(a it:Addr) {o:Obj}(kvs:List (Key×V)) {es:Array DictEntry}{ep:Nat}(hd:o.data=.dict es ep):Turn P w K tg (ItD o a kvs) [it] it (fun i h=>h.IsKeyIter it a i kvs.length ep) where
 mem:=by simp
 obj:=fun i h st b hb=>by
  have e:b=it:=by simpa using hb
  subst e;obtain⟨o,e,c,d⟩:=st;exact⟨o,e,fun v z=>by rw[d]at z;cases z⟩
 keep:=fun i h h' st k=>st.at fun o e=>k it (by simp) o e
 item:=by
  intro X hP hw hK hc i pins s σ H E I hf st hg;subst hP hw hK;obtain⟨ha,hi⟩:=hg;obtain⟨g,hz,hsm,vs,kv,dof⟩:=(show ObjOk X.prog X.w H s.heap a (.frz o (.dK kvs)) from I.hok a _ ha);obtain⟨f0,f1,f2,f3,f4,f5⟩:=hf it (by simp);have hl:=a7X kv;have dat:s.heap.DictAt (a0F X.prog X.w) a vs ep:=by
   obtain⟨o',es',ep',h1,h2,h3,h4⟩:=dof;rw[g]at h1;cases h1;rw[hd]at h3;cases h3;exact⟨o,es,g,h2,hd,h4⟩
  obtain⟨p,hp⟩:∃ p,kvs[i]?=some p:=⟨kvs[i],List.getElem?_eq_getElem hi⟩;obtain⟨⟨k,v⟩,hq,e1⟩:=b2n kv hp;refine wpAny_pyNext_dict_item (by rw[hl];exact st) dat hq fun key h' hk st' sb=>?_;have I1:Inv X pins σ H { s with heap:=h' }:=I.turned (t':=s.toks) (fun b o hb e=>(sb.2 b hb).trans e) f0 f1 f3 f4 f5;rw[hl]at st';obtain⟨oi,e,c,d⟩:=id st';exact⟨key,rfl,a8o (s:={ s with heap:=h' }) e c d (by decide) ⟨kV p.1,H,I1,by rw[e1];exact b7i hk,⟨rfl,p,hp,rfl⟩,st',fun b hb=>(hf b hb).1⟩⟩
 done:=by
  intro X hP hw hK hc i pins s σ H E I hf st hg;subst hP hw hK;obtain⟨ha,hi⟩:=hg;obtain⟨g,hz,hsm,vs,kv,dof⟩:=(show ObjOk X.prog X.w H s.heap a (.frz o (.dK kvs)) from I.hok a _ ha);obtain⟨f0,f1,f2,f3,f4,f5⟩:=hf it (by simp);have hl:=a7X kv;have dat:s.heap.DictAt (a0F X.prog X.w) a vs ep:=by
   obtain⟨o',es',ep',h1,h2,h3,h4⟩:=dof;rw[g]at h1;cases h1;rw[hd]at h3;cases h3;exact⟨o,es,g,h2,hd,h4⟩
  exact wpAny_pyNext_dict_end (I.ok.hd hc) (by rw[hl];exact st) dat (List.getElem?_eq_none (by omega)) fun h' eb=>⟨rfl,I.turned (t':=s.toks) (fun b o hb e=>eb b o hb e) f0 f1 f3 f4 f5⟩
 self:=fun _ _ _ _ _ st h=>wpAny_pyIter_keyiter st h
section
variable {X:Cx}{pins:List (Addr×Obj)}{σ:St}{H:Hp}{s:Shared}{a:Addr}{kvs:List (Key×V)}{tg:Expr}
theorem Inv.freeze (I:Inv X pins σ H s) (e:H a=some (.dK kvs)):∃ o,Inv X pins σ (upd H a (.frz o (.dK kvs))) s:=by
 obtain⟨hz,hsm,vs,kv,dof⟩:=(show ObjOk X.prog X.w H s.heap a (.dK kvs) from I.hok a _ e);have dof':=dof;obtain⟨o,es,ep,g,r⟩:=dof';refine⟨o,?_⟩;have nn:∀ b,H b=none->b≠a:=fun b q z=>by rw[z,e]at q;cases q
 have nt:∀ b xs,H b=some (.tup xs)->b≠a:=fun b xs q z=>by rw[z,e]at q;cases q
 have nf:∀ b o u,H b=some (.frz o u)->b≠a:=fun b o u q z=>by rw[z,e]at q;cases q
 have nb:∀ b ps,H b=some (.tbl ps)->b≠a:=fun b ps q z=>by rw[z,e]at q;cases q
 have no:∀ b c,H b=some (.own c)->b≠a:=fun b c q z=>by rw[z,e]at q;cases q
 refine I.un (t':=s.toks) (h':=s.heap) ⟨fun b o q _ _ _=>q,fun b o q _ _ _=>⟨o.slots,q⟩,fun b o q n _=>by rw[a0v (nn b n)];exact n,fun b o q _=>⟨o,q⟩,fun b xs q=>by rw[a0v (nt b xs q)];exact q,fun b o u q=>by rw[a0v (nf b o u q)];exact q,fun b ps q=>⟨#[],by rw[a0v (nb b ps q),Array.append_empty];exact q⟩⟩ fun b u q=>?_
 by_cases hb:b=a
 ·subst hb;rw[a0y]at q;cases q;exact⟨g,hz,hsm,vs,kv,dof⟩
 ·rw[a0v hb]at q;exact (I.hok b u q).stay (fun c v _ r=>r) (fun c r=>by rw[a0v (no c b r)];exact r) fun c xs r=>by rw[a0v (nt c xs r)];exact r
def iDct (tl:TE):TI:=fun σ H R=>tl σ H fun x H1=>∃ a kvs,x=.ref a/\((H1 a=some (.dK kvs)/\∀ o,R (ItD o a kvs) (upd H1 a (.frz o (.dK kvs))))\/∃ o,H1 a=some (.frz o (.dK kvs))/\R (ItD o a kvs) H1)
theorem b3r {l:Expr}{tl:TE}(hl:PE X l tl):PI X tg l (iDct tl):=by
 intro pins s σ H R I h;refine thn (hl pins s σ H _ I h) fun v s1 ⟨x,H1,I1,r1,q1⟩=>?_;obtain⟨a,kvs,e,q⟩:=q1;subst e;cases r1;have core:∀ o H2,Inv X pins σ H2 s1->H2 a=some (.frz o (.dK kvs))->R (ItD o a kvs) H2->wpAny (model X.prog X.w) X.A (pyIter (.ref a)) (PIE X pins σ tg R) X.xe s1:=fun o H2 I2 ea q=>by
  obtain⟨g,hz,hsm,vs,kv,dof⟩:=(show ObjOk X.prog X.w H2 s1.heap a (.frz o (.dK kvs)) from I2.hok a _ ea);obtain⟨ep,dat⟩:=dof.dictAt;have dat':=dat;obtain⟨o',es,g',_,hd,_⟩:=dat';rw[g]at g';cases g';refine wpAny_pyIter_dict hsm dat ?_;refine⟨s1.heap.objs.size,[s1.heap.objs.size],_,_,H2,rfl,I2.kept (t':=s1.toks) fun b o e=>Heap.get?_push_of_some _ e,b0i a _ kvs hd,⟨_,Heap.get?_push_size _ rfl,rfl,by rw[a7X kv];rfl⟩,fun b hb=>?_,q⟩;have e:b=s1.heap.objs.size:=by simpa using hb
  subst e;exact I2.fpOk (Nat.le_refl _) (I2.hok.fresh (Nat.le_refl _))
 rcases q with ⟨ea,q⟩ | ⟨o,ea,q⟩
 ·obtain⟨o,I2⟩:=I1.freeze ea;exact core o _ I2 a0y (q o)
 ·exact core o H1 I1 ea q
end
end L2
namespace L3
open PySem PySem.Spec PyProof.Rows L2
def keyW:Key->Z
 | .inl (some i)=>.int i
 | .inl none=>.non
 | .inr s=>.str s
theorem b1A {K:Fg}{H:Hp}:∀ k:Key,Rep K H (keyW k) (kV k)
 | .inl (some i)=>by show Rep K H (.int i) (.int i);rw[a0q]
 | .inl none=>by show Rep K H .non .non;rw[a00]
 | .inr s=>by show Rep K H (.str s) (.str s);rw[a0A]
def wkD (x:Z) (G:Hq) (R:List Z->(Hq->Prop)->Hq->Prop):Prop:=match x with
 | .ref a=>∃ kvs,(G a=some (.dK kvs)\/G a=some (.dF kvs))/\R (kvs.map fun p=>keyW p.1) (fun _=>True) (put G a (.dF kvs))
 | _=>False
def iD (tl:E3):I3:=fun σ G R=>tl σ G fun x G1=>wkD x G1 R
theorem a5i {K:Fg}{a:Addr}{o:Obj}{us:List (Key×V)}{kvs:List (Key×Z)}{H0:Hp}(e:H0 a=some (.frz o (.dK us))) (hn:us.map (·.1)=kvs.map (·.1)):a5G K (kvs.map fun p=>keyW p.1) (fun _=>True) (ItD o a us) H0:=fun i G H hg t ok hi=>by
 have e1:=t.frd _ _ _ e;have hl:us.length=kvs.length:=by have:=congrArg List.length hn;simpa using this
 rw[List.length_map]at hi;refine⟨fun h=>⟨e1,by rw[List.length_map]at h;omega⟩,fun w hw=>?_⟩;rw[List.getElem?_map]at hw;cases hk:kvs[i]? with
 | none=>rw[hk]at hw;cases hw
 | some p=>
  rw[hk]at hw;cases hw;have hlt:=(List.getElem?_eq_some_iff.mp hk).1;refine⟨⟨e1,by omega⟩,?_⟩;rintro x H' ⟨rfl,q,hq,rfl⟩
  have:q.1=p.1:=by
   have h1:(us.map (·.1))[i]?=some q.1:=by rw[List.getElem?_map,hq];rfl
   rw[hn,List.getElem?_map,hk]at h1;exact (Option.some.inj h1).symm
  rw[this];exact⟨b1A _,hg,.refl _ _⟩
section
variable {X:Cx}{tg l:Expr}{tl:E3}
theorem b3s (hl:QE X l tl):QI X tg l (iD tl):=a8A (b3r hl.p) fun τ H R2 hx=>hx.un fun σ G R hs hg h up=>by
 refine⟨σ,G,_,hs,hg,h,fun w G1 v H1 h1 rv hg1 t1=>?_⟩;cases w with
 | ref a=>
  rw[a0m]at rv;obtain⟨kvs,e,h1⟩:=h1;rcases e with e | e
  ·obtain⟨us,e',hn,rr⟩:=hg1 _ _ e;refine⟨a,us,rv,.inl ⟨e',fun o=>?_⟩⟩;have tk:TK X.K H1 (L2.upd H1 a (.frz o (.dK us))):=.dK e';exact up _ _ _ _ _ h1 (a5i a0y hn) (hg1.set (o:=.dF kvs) tk ⟨o,us,a0y,hn,rr.mono tk⟩) (t1.trans tk)
  ·have e0:=e;obtain⟨o,us,e',hn,rr⟩:=hg1 _ _ e;refine⟨a,us,rv,.inr ⟨o,e',?_⟩⟩;have eG:put G1 a (.dF kvs)=G1:=by
    funext b
    unfold put
    split
    ·next hb=>rw[hb,e0]
    ·rfl
   rw[eG]at h1;exact up _ _ _ _ _ h1 (a5i e' hn) hg1 t1
 | _=>exact False.elim h1
theorem i_iD {tl:E3}{σ:S3}{G:Hq}{R:List Z->(Hq->Prop)->Hq->Prop}(h:tl σ G fun x G1=>wkD x G1 R):iD tl σ G R:=h
theorem b7j {p:Addr}{kvs:List (Key×Z)}{G:Hq}{R:List Z->(Hq->Prop)->Hq->Prop}(e:G p=some (.dK kvs)\/G p=some (.dF kvs)) (h:R (kvs.map fun p=>keyW p.1) (fun _=>True) (put G p (.dF kvs))):wkD (.ref p) G R:=⟨kvs,e,h⟩
end
end L3
namespace L2
open PySem PySem.Spec PyProof.Rows
theorem b0j:∀ {ss:List Str}{us:List Value},Vals (ss.map V.str) us->StrsAre us ss
 | [],us,r=>by rw[List.map_nil]at r;cases r;exact .nil
 | s::ss,us,r=>by
  rw[List.map_cons]at r;cases r with
  | cons r1 r2=>obtain⟨t,rfl⟩:=r1;exact .cons s t (b0j r2)
theorem a6A:∀ {vs:List Value}{ss:List Str},StrsAre vs ss->Vals (ss.map V.str) vs
 | _,_,.nil=>.nil
 | _,_,.cons s t h=>.cons ⟨t,rfl⟩ (a6A h)
def b1B (K:Fg):List V->Hp->VK->Prop:=fun xs H Q=>∃ (p:Addr) (ss:List Str),xs=[.ref p]/\SqL K H p (ss.map V.str)/\ss.length<64 /\
 ∀ (t:Addr) (ts:List Str),H t=none->ts.Perm ss->sortedS ts=true->Q (.ref t) (upd H t (.lst (ts.map V.str)))
theorem a6B {X:Cx}:CallR X (.builtin "sorted") (b1B X.K):=by
 intro pins s σ H xs us Q I r h;obtain⟨p,ss,rfl,hq,h64,q⟩:=h;obtain⟨u,rfl,rx⟩:=a3X r;cases rx;obtain⟨its,rv,pl,_⟩:=I.list hq;have hS:=b0j rv;have hl:=hS.length;refine sorted_strs pl.isList hS (by omega) fun out ts a1 a2 a3=>?_;obtain⟨e,he⟩:=sortedAll_at s.heap its out;exact⟨.ref (s.heap.objs.size+1),_,I.laid (t':=s.toks) (fun _ _=>sortedAll_old) (Nat.le_succ _) (show ObjOk X.prog X.w _ _ _ (.lst (ts.map V.str)) from ⟨by rw[List.length_map,a2.length_eq,sizeLine_eq];omega,out.toList,e,a6A a1,by simpa[seqObj]using he⟩),rfl,q _ ts (I.hok.fresh (Nat.le_succ _)) a2 a3⟩
end L2
namespace L3
open PySem PySem.Spec PyProof.Rows L2
theorem a5j {K:Fg}{H:Hp}:∀ ss:List Str,Reps K H (ss.map Z.str) (ss.map V.str)
 | []=>by rw[List.map_nil,List.map_nil,a0w]
 | s::ss=>by
  rw[List.map_cons,List.map_cons,a0o];exact⟨_,_,rfl,by rw[a0A],a5j ss⟩
theorem a5k {K:Fg}{H:Hp}:∀ {ss:List Str}{vs:List V},Reps K H (ss.map Z.str) vs->vs=ss.map V.str
 | [],vs,h=>by rw[List.map_nil,a0w]at h;subst h;rfl
 | s::ss,vs,h=>by
  rw[List.map_cons,a0o]at h;obtain⟨v,r,rfl,h1,h2⟩:=h;rw[a0A]at h1;rw[h1,a5k h2];rfl
def a7Y:List Z->Hq->K3->Prop:=fun xs G R=>match xs with
 | [.ref p]=>∃ ss:List Str,G p=some (.lst (ss.map Z.str))/\ss.length<64/\∀ (t:Addr) (ts:List Str),G t=none->ts.Perm ss->sortedS ts=true->R (.ref t) (put G t (.lst (ts.map Z.str)))
 | _=>False
theorem a6C {X:Cx}:a2V X (.builtin "sorted") a7Y:=a1y a6B fun xs H Q hx=>hx.un fun ws G R rs hg h up=>by
 match ws,h with
 | [.ref p],h=>
  obtain⟨v,rfl,r⟩:=rs.one;rw[a0m]at r;obtain⟨ss,e,h64,h⟩:=h;obtain⟨vs,e',r'⟩:=hg _ _ e
  have:=a5k r'
  subst this;exact⟨p,ss,by rw[r],SqL.of e',h64,fun t ts ht h1 h2=>up _ _ _ _ (h t ts (hg.out ht) h1 h2) (by rw[a0m]) (hg.set (o:=.lst (ts.map Z.str)) (.new ht) ⟨_,a0y,a5j ts⟩) (.new ht)⟩
theorem a6D {G:Hq}{R:K3}{p:Addr}{ss:List Str}(e:G p=some (.lst (ss.map Z.str))) (z:ss.length<64) (h:∀ (t:Addr) (ts:List Str),G t=none->ts.Perm ss->sortedS ts=true->R (.ref t) (put G t (.lst (ts.map Z.str)))):a7Y [.ref p] G R:=⟨ss,e,z,h⟩
end L3
namespace L2
open PySem PySem.Spec PyProof.Rows
structure Cl where
 x:Str
 np:Pos
 b₀:Stmt
 suite:List Stmt
 hp:Pos
def Cl.h (n:Str) (c:Cl):ExceptHandler:=.ExceptHandler (some (.Name c.x c.np)) (some n) (c.b₀::c.suite) c.hp
inductive Picks (X:Cx) (C:Addr) (th:Addr->TS):List Cl->Prop
 | here {c:Cl} {cs:List Cl} {D:Addr} (hg:Gl X c.x) (hm:X.mg c.x=some (.ref D)) (hd:(c.x==("__debug__":Str))=false) (hD:PySem.W.exmOne X.K (.ref C) (.ref D)=some true)
   (hh:∀ e oe,oe.cls=.ref C->oe.dict=none->PySem.W.notCls oe=true->PSs (X.hnd e oe) (c.b₀::c.suite) (th e)):Picks X C th (c::cs)
 | next {c:Cl} {cs:List Cl} {D:Addr} (hg:Gl X c.x) (hm:X.mg c.x=some (.ref D)) (hd:(c.x==("__debug__":Str))=false) (hD:PySem.W.exmOne X.K (.ref C) (.ref D)=some false) (hp:Picks X C th cs):Picks X C th (c::cs)
section
variable {X:Cx}{n:Str}{pos tpos:Pos}{ce:Expr}
end
end L2
namespace L3
open PySem PySem.Spec PyProof.Rows L2
inductive Alt (X:Cx) (cs:List Cl):List (Addr×(Addr->X3))->Prop
 | nil:Alt X cs []
 | cons {C:Addr} {th:Addr->X3} {l:List (Addr×(Addr->X3))} (h:Picks X C (fun e=>lowS X.K (th e)) cs) (hs:Alt X cs l):Alt X cs ((C,th)::l)
theorem Alt.get {X:Cx}{cs:List Cl}:∀ {l:List (Addr×(Addr->X3))},Alt X cs l->∀ p∈l,Picks X p.1 (fun e=>lowS X.K (p.2 e)) cs
 | _,.nil,p,h=>by simp at h
 | _,.cons h hs,p,hp=>by
  rcases List.mem_cons.mp hp with rfl | hp
  ·exact h
  ·exact hs.get p hp
section
variable {X:Cx}{e:Expr}{es:List Expr}{n:Str}{p pos tpos:Pos}{t:A3}{k:Nat}{f:Addr}{fd:FuncData}{ps:List Str}{sp:PX3}
end
end L3
namespace L2
open PySem PySem.W
end L2
namespace L2
open PySem PySem.Spec PyProof.Rows
theorem Inv.melt {X:Cx}{pins:List (Addr×Obj)}{σ:St}{H:Hp}{s:Shared}{a:Addr}{kvs:List (Key×V)}{o:Obj}(I:Inv X pins σ H s) (e:H a=some (.frz o (.dK kvs))) (n:∀ o u,X.H₀ a≠some (.frz o u)):Inv X pins σ (upd H a (.dK kvs)) s:=by
 obtain⟨g,hz,hsm,vs,kv,dof⟩:=(show ObjOk X.prog X.w H s.heap a (.frz o (.dK kvs)) from I.hok a _ e);have nn:∀ b,H b=none->b≠a:=fun b q z=>by rw[z,e]at q;cases q
 have nt:∀ b xs,H b=some (.tup xs)->b≠a:=fun b xs q z=>by rw[z,e]at q;cases q
 have nb:∀ b ps,H b=some (.tbl ps)->b≠a:=fun b ps q z=>by rw[z,e]at q;cases q
 have no:∀ b c,H b=some (.own c)->b≠a:=fun b c q z=>by rw[z,e]at q;cases q
 refine⟨I.ok,I.os,I.bare,⟨I.base.keep,I.base.slot,fun b o q1 q2 q3=>?_,I.base.there,fun b xs q=>?_,fun b o u q=>?_,fun b ps q=>?_⟩,I.loc,I.cell,?_,fun x c q=>?_,fun p hp=>?_,fun b u q=>?_,I.len⟩
 ·have h:=I.base.free b o q1 q2 q3;rw[a0v (nn b h)];exact h
 ·have h:=I.base.tups b xs q;rw[a0v (nt b xs h)];exact h
 ·rw[a0v (fun z=>n o u (by rw[<- z];exact q))];exact I.base.frzs b o u q
 ·obtain⟨m,h⟩:=I.base.tbls b ps q;exact⟨m,by rw[a0v (nb b _ h)];exact h⟩
 ·rw[a0v (nn _ I.free)];exact I.free
 ·have h:=I.freeC x c q;rw[a0v (nn _ h)];exact h
 ·obtain⟨a1,a2,a3⟩:=I.pin p hp;exact⟨a1,by rw[a0v (nn _ a2)];exact a2,a3⟩
 ·by_cases hb:b=a
  ·subst hb;rw[a0y]at q;cases q;exact⟨hz,hsm,vs,kv,dof⟩
  ·rw[a0v hb]at q;exact (I.hok b u q).stay (fun c v _ r=>r) (fun c r=>by rw[a0v (no c b r)];exact r) fun c xs r=>by rw[a0v (nt c xs r)];exact r
end L2
namespace L3
open PySem PySem.Spec PyProof.Rows L2
section
variable {X:Cx}{K:Fg}{H H1:Hp}{a:Addr}{us us1:List (Key×V)}{o:Obj}{e:Expr}{t:E3}{G:Hq}{kvs:List (Key×Z)}
theorem a4C (h:H1 a=some (.frz o (.dK us1))):TW K H1 (upd H1 a (.dK us1)):=
 ⟨fun c xs q=>by rw[a0v (fun z=>by rw[z,h]at q;cases q)];exact q,fun c xs q=>by
  rcases q with ⟨o',q⟩ | q
  ·exact .inl ⟨o',by rw[a0v (fun z=>by rw[z,h]at q;cases q)];exact q⟩
  ·exact .inr q⟩
theorem b3t (h0:H a=some (.dK us)) (t:TK K H H1) (h:H1 a=some (.frz o (.dK us1))):TK K H (upd H1 a (.dK us1)):=
 ⟨fun c xs q=>(a4C (K:=K) h).tup c xs (t.tup c xs q),fun c xs q=>(a4C (K:=K) h).frz c xs (t.frz c xs q),fun c o' u q=>by
  rw[a0v (fun z=>by rw[z,h0]at q;cases q)];exact t.frd c o' u q⟩
theorem b7k {o':O}{b:Addr}(t:TW K H H1) (e:H1 b=H b) (h:ROb K H b o'):ROb K H1 b o':=by
 cases o' with
 | lst ws=>obtain⟨vs,q,r⟩:=h;exact⟨vs,e.trans q,r.monoW t⟩
 | dK kvs=>obtain⟨vs,q,n,r⟩:=h;exact⟨vs,e.trans q,n,r.monoW t⟩
 | ins C dx fs=>obtain⟨vs,q,n,r⟩:=h;exact⟨vs,e.trans q,n,r.monoW t⟩
 | dF kvs=>obtain⟨ob,vs,q,n,r⟩:=h;exact⟨ob,vs,e.trans q,n,r.monoW t⟩
theorem b3u (g:RH K G H1) (e1:G a=some (.dF kvs)):∃ o us1,H1 a=some (.frz o (.dK us1))/\RH K (put G a (.dK kvs)) (upd H1 a (.dK us1)):=by
 obtain⟨o,us1,h,hn,rr⟩:=g _ _ e1;refine⟨o,us1,h,fun b o' q=>?_⟩
 by_cases hb:b=a
 ·subst hb;rw[a0d]at q;cases q;exact⟨us1,a0y,hn,rr.monoW (a4C h)⟩
 ·rw[a0B hb]at q;exact b7k (a4C h) (a0v hb) (g b o' q)
def uUnf (t:E3):E3:=fun σ G R=>∃ a kvs,G a=some (.dK kvs)/\t σ G fun v G'=>G' a=some (.dF kvs)/\R v (put G' a (.dK kvs))
theorem b7l (h:QE X e t):QE X e (uUnf t):=⟨fun pins s τ H Q I z=>by
 obtain⟨σ,G,R,hs,hg,⟨a,kvs,ea,ht⟩,up⟩:=z;obtain⟨us,e',hn,rr⟩:=hg _ _ ea;refine thn (h.p pins s τ H (fun v H1=>∃ w G1,Rep X.K H1 w v/\RH X.K G1 H1/\TK X.K H H1/\G1 a=some (.dF kvs)/\R w (put G1 a (.dK kvs))) I ⟨σ,G,_,hs,hg,ht,fun w G1 v H1 q r g t=>⟨w,G1,r,g,t,q.1,q.2⟩⟩) fun u s1 ⟨v,H1,I1,rv,w,G1,r,g,t,e1,q⟩=>?_;obtain⟨o,us1,h1,g1⟩:=b3u g e1;exact⟨v,_,I1.melt h1 (fun o u z=>by have:=I.base.frzs a o u z;rw[e']at this;cases this),rv,up w _ v _ q (r.monoW (a4C h1)) g1 (b3t e' t h1)⟩⟩
theorem b7m {σ:S3}{R:K3}(e:G a=some (.dK kvs)) (h:t σ G fun v G'=>G' a=some (.dF kvs)/\R v (put G' a (.dK kvs))):uUnf t σ G R:=⟨a,kvs,e,h⟩
end
end L3
set_option maxHeartbeats 4000000
namespace L3
set_option genInjectivity false in
inductive Ex4 {α0 α1 α2 α3:Type}(p:α0->α1->α2->α3->Prop):Prop
 | mk (a0:α0) (a1:α1) (a2:α2) (a3:α3) (h:p a0 a1 a2 a3):Ex4 p
set_option genInjectivity false in
inductive Ex5 {α0 α1 α2 α3 α4:Type}(p:α0->α1->α2->α3->α4->Prop):Prop
 | mk (a0:α0) (a1:α1) (a2:α2) (a3:α3) (a4:α4) (h:p a0 a1 a2 a3 a4):Ex5 p
set_option genInjectivity false in
inductive Ex6 {α0 α1 α2 α3 α4 α5:Type}(p:α0->α1->α2->α3->α4->α5->Prop):Prop
 | mk (a0:α0) (a1:α1) (a2:α2) (a3:α3) (a4:α4) (a5:α5) (h:p a0 a1 a2 a3 a4 a5):Ex6 p
set_option genInjectivity false in
inductive Ex9 {α0 α1 α2 α3 α4 α5 α6 α7 α8:Type}(p:α0->α1->α2->α3->α4->α5->α6->α7->α8->Prop):Prop
 | mk (a0:α0) (a1:α1) (a2:α2) (a3:α3) (a4:α4) (a5:α5) (a6:α6) (a7:α7) (a8:α8) (h:p a0 a1 a2 a3 a4 a5 a6 a7 a8):Ex9 p
end L3
namespace Lw
open PySem L2 L3
def top (i:Nat):Stmt:=PySem.Challenge.pw_twotimes_k13_lines_and_keys.main.body.getD i (.Pass ⟨0,0,0,0⟩)
abbrev a2f:Stmt:=top 9
abbrev a2g:Stmt:=top 10
abbrev a1U:Stmt:=top 11
abbrev a1B:Stmt:=top 12
abbrev a1V:Stmt:=top 14
abbrev a1k:Stmt:=top 15
abbrev a1a:Stmt:=top 16
abbrev a1I:Stmt:=top 19
abbrev a0X:Stmt:=top 21
abbrev a2h:Stmt:=top 20
abbrev a3F:Stmt:=top 18
abbrev a1l:Stmt:=top 23
abbrev a1C:Stmt:=top 24
abbrev a4D:Stmt:=top 27
abbrev b3v:Stmt:=top 28
abbrev a7e:Stmt:=top 29
abbrev a4E:Stmt:=top 30
abbrev a4F:Stmt:=top 31
abbrev a7f:Stmt:=top 32
abbrev a4G:Stmt:=top 33
abbrev a4H:Stmt:=top 34
abbrev a7g:Stmt:=top 35
abbrev a1J:Stmt:=top 36
abbrev a0Y:Stmt:=a2w (top 25) 7
abbrev a0S:Stmt:=a2w (top 25) 9
abbrev a1D:Stmt:=a2w (top 25) 5
abbrev a1b:Stmt:=a2w (top 25) 6
abbrev a5P:Stmt:=top 37
abbrev a1t:Stmt:=a2w (top 25) 0
abbrev a1m:Stmt:=a2w (top 25) 8
abbrev a2A:Stmt:=a2w (top 25) 1
abbrev a1u:Stmt:=a2w (top 25) 2
abbrev a4V:Stmt:=top 38
theorem a02 {A:Around}{k:Nat}(hr:Room k A):A.units+66<cLine:=by have:=hr.un;omega
local macro_rules | `(tactic| walk_at "sc")=>`(tactic| exact⟨rfl,rfl,rfl,by decide +kernel,rfl,by decide +kernel,by decide +kernel⟩)
theorem a6E:FnScope ["thing"] ["thing"] (a0g a2f):=by walk_at "sc"
theorem a4W:FnScope ["thing"] ["thing"] (a0g a2g):=by walk_at "sc"
theorem a4I:FnScope ["begin","end"] ["begin","end"] (a0g a1U):=by walk_at "sc"
theorem a34:FnScope ["end","other"] ["end","other"] (a0g a1B):=by walk_at "sc"
theorem a4J:FnScope ["thing"] ["thing"] (a0g a1V):=by walk_at "sc"
theorem a3j:FnScope ["begin","end"] ["begin","end"] (a0g a1k):=by walk_at "sc"
theorem a21:FnScope ["knowing","last"] ["knowing","last"] (a0g a1a):=by walk_at "sc"
theorem a5Q:FnScope ["line","moment"] ["line","moment"] (a0g a1I):=by walk_at "sc"
theorem sc_p_with_alike_joined:FnScope ["pieces","told","piece"] ["pieces"] (a0g a0X):=by walk_at "sc"
theorem a6F:FnScope ["line","moment"] ["line","moment"] (a0g a2h):=by walk_at "sc"
theorem sc_p_put_on:FnScope ["line","begin","end","worth","pieces"] ["line","begin","end","worth"] (a0g a3F):=by walk_at "sc"
theorem sc_p_check_telling:FnScope ["telling","name"] ["telling"] (a0g a1l):=by walk_at "sc"
theorem sc_p_line_behind:FnScope ["line","telling","worth"] ["line","telling"] (a0g a1C):=by walk_at "sc"
theorem a8J:FnScope ["script","k"] ["script","k"] (a0g a4D):=by walk_at "sc"
theorem sc_mix:FnScope ["cell","k","one"] ["cell","k"] (a0g b3v):=by walk_at "sc"
theorem sc_parts:FnScope ["cell","way","bounds","found","k"] ["cell","way","bounds"] (a0g a7e):=by walk_at "sc"
theorem sc_names:FnScope ["cell","way","many","letters","xs","stem","at","found"] ["cell","way","many"] (a0g a4E):=by walk_at "sc"
theorem sc_telling:FnScope ["cell","way","keys","worths","xs","begin","end"] ["cell","way","keys","worths"] (a0g a4F):=by walk_at "sc"
theorem sc_worth:FnScope ["tellings","key","moment","knowing","found","telling"] ["tellings","key","moment","knowing"] (a0g a7f):=by walk_at "sc"
theorem sc_moments:FnScope ["tellings","found","telling","bound","moment"] ["tellings"] (a0g a4G):=by walk_at "sc"
theorem sc_is_line:FnScope ["line","k"] ["line"] (a0g a4H):=by walk_at "sc"
theorem sc_shown:FnScope ["line","moment","begin","end","worth"] ["line","moment"] (a0g a7g):=by walk_at "sc"
theorem sc_line_right:FnScope ["line","tellings","key","knowing","own","bounds","telling","begin","end","worth","moment"] ["line","tellings","key","knowing"] (a0g a1J):=by walk_at "sc"
theorem a2s:FnScope ["self","knowing"] ["self","knowing"] (a0g a0Y):=by walk_at "sc"
theorem sc_Sheet_known_line:FnScope ["self","key","knowing","since","line"] ["self","key","knowing"] (a0g a0S):=by walk_at "sc"
theorem a35:FnScope ["self","key","knowing"] ["self","key","knowing"] (a0g a1D):=by walk_at "sc"
theorem a36:FnScope ["self","knowing"] ["self","knowing"] (a0g a1b):=by walk_at "sc"
theorem sc_asked:FnScope ["sheet","tellings","keys","cell","held","knowing","key","line","found"] ["sheet","tellings","keys","cell","held"] (a0g a5P):=by walk_at "sc"
theorem a3G:FnScope ["self"] ["self"] (a0g a1t):=by walk_at "sc"
theorem a3k:FnScope ["self","key","line"] ["self","key","line"] (a0g a1m):=by walk_at "sc"
theorem sc_Sheet_tell:FnScope ["self","telling","key","line"] ["self","telling"] (a0g a2A):=by walk_at "sc"
theorem a3H:FnScope ["self"] ["self"] (a0g a1u):=by walk_at "sc"
theorem sc_law:FnScope ["script","way","many","names","keys","worths","sheet","tellings","cell","held"] ["script"] (a0g a4V):=by walk_at "sc"
theorem b7n:List.Nodup (α:=Str) ["sign"]:=by decide +kernel
theorem a8K:List.Nodup (α:=Str) ["begin","end","worth","moment"]:=by decide +kernel
theorem b7o:List.Nodup (α:=Str) ["k","letters","xs"]:=by decide +kernel
theorem b7p:List.Nodup (α:=Str) ["k","stem","letters","at","xs"]:=by decide +kernel
theorem b7q:List.Nodup (α:=Str) ["telling","key"]:=by decide +kernel
theorem b3w:List.Nodup (α:=Str) ["begin","end","worth"]:=by decide +kernel
theorem b7r:List.Nodup (α:=Str) ["key","knowing","self"]:=by decide +kernel
theorem b7s:List.Nodup (α:=Str) ["one","knowing","sheet"]:=by decide +kernel
theorem b5R:List.Nodup (α:=Str) ["told","kept"]:=by decide +kernel
set_option genInjectivity false in
structure Ad where
 f0:Addr
 d0:FuncData
 f1:Addr
 d1:FuncData
 f2:Addr
 d2:FuncData
 f3:Addr
 d3:FuncData
 f4:Addr
 d4:FuncData
 f5:Addr
 d5:FuncData
 f6:Addr
 d6:FuncData
 f7:Addr
 d7:FuncData
 f8:Addr
 d8:FuncData
 f9:Addr
 d9:FuncData
 f10:Addr
 d10:FuncData
 f11:Addr
 d11:FuncData
 f12:Addr
 d12:FuncData
 f13:Addr
 d13:FuncData
 f14:Addr
 d14:FuncData
 f15:Addr
 d15:FuncData
 f16:Addr
 d16:FuncData
 f17:Addr
 d17:FuncData
 f18:Addr
 d18:FuncData
 f19:Addr
 d19:FuncData
 f20:Addr
 d20:FuncData
 f21:Addr
 d21:FuncData
 f22:Addr
 d22:FuncData
 f23:Addr
 d23:FuncData
 f24:Addr
 d24:FuncData
 f25:Addr
 d25:FuncData
 f26:Addr
 d26:FuncData
 f27:Addr
 d27:FuncData
 f28:Addr
 d28:FuncData
 f29:Addr
 d29:FuncData
 f30:Addr
 d30:FuncData
 f31:Addr
 d31:FuncData
 f32:Addr
 d32:FuncData
 c_Sheet:Addr
 x_NoName:Addr
 x_NoStretch:Addr
 x_NoKnowing:Addr
structure Fns (K:Fg) (a:Ad):Prop where
 n0:Fun K "is_name" "is_name" a2f a.f0 a.d0
 n1:Fun K "is_moment" "is_moment" a2g a.f1 a.d1
 n2:Fun K "is_stretch" "is_stretch" a1U a.f2 a.d2
 n3:Fun K "earlier_end" "earlier_end" a1B a.f3 a.d3
 n4:Fun K "check_name" "check_name" a1V a.f4 a.d4
 n5:Fun K "check_stretch" "check_stretch" a1k a.f5 a.d5
 n6:Fun K "check_in_reach" "check_in_reach" a1a a.f6 a.d6
 n7:Fun K "ahead_of" "ahead_of" a1I a.f7 a.d7
 n8:Fun K "with_alike_joined" "with_alike_joined" a0X a.f8 a.d8
 n9:Fun K "from_on" "from_on" a2h a.f9 a.d9
 n10:Fun K "put_on" "put_on" a3F a.f10 a.d10
 n11:Fun K "check_telling" "check_telling" a1l a.f11 a.d11
 n12:Fun K "line_behind" "line_behind" a1C a.f12 a.d12
 n13:Fun K "_law_cell_at" "_law_cell_at" a4D a.f13 a.d13
 n14:Fun K "_law_mix" "_law_mix" b3v a.f14 a.d14
 n15:Fun K "_law_parts" "_law_parts" a7e a.f15 a.d15
 n16:Fun K "_law_names" "_law_names" a4E a.f16 a.d16
 n17:Fun K "_law_telling" "_law_telling" a4F a.f17 a.d17
 n18:Fun K "_law_worth" "_law_worth" a7f a.f18 a.d18
 n19:Fun K "_law_moments" "_law_moments" a4G a.f19 a.d19
 n20:Fun K "_law_is_line" "_law_is_line" a4H a.f20 a.d20
 n21:Fun K "_law_shown" "_law_shown" a7g a.f21 a.d21
 n22:Fun K "_law_line_right" "_law_line_right" a1J a.f22 a.d22
 n23:Fun K "check_knowing" "Sheet.check_knowing" a0Y a.f23 a.d23
 n24:Fun K "known_line" "Sheet.known_line" a0S a.f24 a.d24
 n25:Fun K "line_at" "Sheet.line_at" a1D a.f25 a.d25
 n26:Fun K "keys_at" "Sheet.keys_at" a1b a.f26 a.d26
 n27:Fun K "_law_asked" "_law_asked" a5P a.f27 a.d27
 n28:Fun K "__init__" "Sheet.__init__" a1t a.f28 a.d28
 n29:Fun K "keep_line" "Sheet.keep_line" a1m a.f29 a.d29
 n30:Fun K "tell" "Sheet.tell" a2A a.f30 a.d30
 n31:Fun K "knowings" "Sheet.knowings" a1u a.f31 a.d31
 n32:Fun K "law" "law" a4V a.f32 a.d32
theorem a6G {K:Fg}{a:Ad}(F:Fns K a):Binds K a.d0 ["thing"] []:=F.n0.binds fun _ _ _ _ _ _=>lnS fun _=>ln0 rfl
theorem a2Q {K:Fg}{a:Ad}(F:Fns K a):Binds K a.d1 ["thing"] []:=F.n1.binds fun _ _ _ _ _ _=>lnS fun _=>ln0 rfl
theorem a4K {K:Fg}{a:Ad}(F:Fns K a):Binds K a.d2 ["begin","end"] []:=F.n2.binds fun _ _ _ _ _ _=>lnS fun _=>lnS fun _=>ln0 rfl
theorem a37 {K:Fg}{a:Ad}(F:Fns K a):Binds K a.d3 ["end","other"] []:=F.n3.binds fun _ _ _ _ _ _=>lnS fun _=>lnS fun _=>ln0 rfl
theorem a2B {K:Fg}{a:Ad}(F:Fns K a):Binds K a.d4 ["thing"] []:=F.n4.binds fun _ _ _ _ _ _=>lnS fun _=>ln0 rfl
theorem a3l {K:Fg}{a:Ad}(F:Fns K a):Binds K a.d5 ["begin","end"] []:=F.n5.binds fun _ _ _ _ _ _=>lnS fun _=>lnS fun _=>ln0 rfl
theorem a22 {K:Fg}{a:Ad}(F:Fns K a):Binds K a.d6 ["knowing","last"] []:=F.n6.binds fun _ _ _ _ _ _=>lnS fun _=>lnS fun _=>ln0 rfl
theorem a5R {K:Fg}{a:Ad}(F:Fns K a):Binds K a.d7 ["line","moment"] []:=F.n7.binds fun _ _ _ _ _ _=>lnS fun _=>lnS fun _=>ln0 rfl
theorem a2t {K:Fg}{a:Ad}(F:Fns K a):Binds K a.d8 ["pieces"] []:=F.n8.binds fun _ _ _ _ _ _=>lnS fun _=>ln0 rfl
theorem a6H {K:Fg}{a:Ad}(F:Fns K a):Binds K a.d9 ["line","moment"] []:=F.n9.binds fun _ _ _ _ _ _=>lnS fun _=>lnS fun _=>ln0 rfl
theorem a7h {K:Fg}{a:Ad}(F:Fns K a):Binds K a.d10 ["line","begin","end","worth"] []:=F.n10.binds fun _ _ _ _ _ _=>lnS fun _=>lnS fun _=>lnS fun _=>lnS fun _=>ln0 rfl
theorem a3m {K:Fg}{a:Ad}(F:Fns K a):Binds K a.d11 ["telling"] []:=F.n11.binds fun _ _ _ _ _ _=>lnS fun _=>ln0 rfl
theorem a38 {K:Fg}{a:Ad}(F:Fns K a):Binds K a.d12 ["line","telling"] []:=F.n12.binds fun _ _ _ _ _ _=>lnS fun _=>lnS fun _=>ln0 rfl
theorem a2K {K:Fg}{a:Ad}(F:Fns K a):Binds K a.d13 ["script","k"] []:=F.n13.binds fun _ _ _ _ _ _=>lnS fun _=>lnS fun _=>ln0 rfl
theorem a7Z {K:Fg}{a:Ad}(F:Fns K a):Binds K a.d14 ["cell","k"] []:=F.n14.binds fun _ _ _ _ _ _=>lnS fun _=>lnS fun _=>ln0 rfl
theorem a70 {K:Fg}{a:Ad}(F:Fns K a):Binds K a.d15 ["cell","way","bounds"] []:=F.n15.binds fun _ _ _ _ _ _=>lnS fun _=>lnS fun _=>lnS fun _=>ln0 rfl
theorem a71 {K:Fg}{a:Ad}(F:Fns K a):Binds K a.d16 ["cell","way","many"] []:=F.n16.binds fun _ _ _ _ _ _=>lnS fun _=>lnS fun _=>lnS fun _=>ln0 rfl
theorem a8L {K:Fg}{a:Ad}(F:Fns K a):Binds K a.d17 ["cell","way","keys","worths"] []:=F.n17.binds fun _ _ _ _ _ _=>lnS fun _=>lnS fun _=>lnS fun _=>lnS fun _=>ln0 rfl
theorem b1C {K:Fg}{a:Ad}(F:Fns K a):Binds K a.d18 ["tellings","key","moment","knowing"] []:=F.n18.binds fun _ _ _ _ _ _=>lnS fun _=>lnS fun _=>lnS fun _=>lnS fun _=>ln0 rfl
theorem a8M {K:Fg}{a:Ad}(F:Fns K a):Binds K a.d19 ["tellings"] []:=F.n19.binds fun _ _ _ _ _ _=>lnS fun _=>ln0 rfl
theorem a8N {K:Fg}{a:Ad}(F:Fns K a):Binds K a.d20 ["line"] []:=F.n20.binds fun _ _ _ _ _ _=>lnS fun _=>ln0 rfl
theorem b1D {K:Fg}{a:Ad}(F:Fns K a):Binds K a.d21 ["line","moment"] []:=F.n21.binds fun _ _ _ _ _ _=>lnS fun _=>lnS fun _=>ln0 rfl
theorem a5S {K:Fg}{a:Ad}(F:Fns K a):Binds K a.d22 ["line","tellings","key","knowing"] []:=F.n22.binds fun _ _ _ _ _ _=>lnS fun _=>lnS fun _=>lnS fun _=>lnS fun _=>ln0 rfl
theorem a1d {K:Fg}{a:Ad}(F:Fns K a):Binds K a.d23 ["self","knowing"] []:=F.n23.binds fun _ _ _ _ _ _=>lnS fun _=>lnS fun _=>ln0 rfl
theorem a03 {K:Fg}{a:Ad}(F:Fns K a):Binds K a.d24 ["self","key","knowing"] []:=F.n24.binds fun _ _ _ _ _ _=>lnS fun _=>lnS fun _=>lnS fun _=>ln0 rfl
theorem a0Q {K:Fg}{a:Ad}(F:Fns K a):Binds K a.d25 ["self","key","knowing"] []:=F.n25.binds fun _ _ _ _ _ _=>lnS fun _=>lnS fun _=>lnS fun _=>ln0 rfl
theorem a1v {K:Fg}{a:Ad}(F:Fns K a):Binds K a.d26 ["self","knowing"] []:=F.n26.binds fun _ _ _ _ _ _=>lnS fun _=>lnS fun _=>ln0 rfl
theorem b1E {K:Fg}{a:Ad}(F:Fns K a):Binds K a.d27 ["sheet","tellings","keys","cell","held"] []:=F.n27.binds fun _ _ _ _ _ _=>lnS fun _=>lnS fun _=>lnS fun _=>lnS fun _=>lnS fun _=>ln0 rfl
theorem a3I {K:Fg}{a:Ad}(F:Fns K a):Binds K a.d28 ["self"] []:=F.n28.binds fun _ _ _ _ _ _=>lnS fun _=>ln0 rfl
theorem a3n {K:Fg}{a:Ad}(F:Fns K a):Binds K a.d29 ["self","key","line"] []:=F.n29.binds fun _ _ _ _ _ _=>lnS fun _=>lnS fun _=>lnS fun _=>ln0 rfl
theorem a5T {K:Fg}{a:Ad}(F:Fns K a):Binds K a.d30 ["self","telling"] []:=F.n30.binds fun _ _ _ _ _ _=>lnS fun _=>lnS fun _=>ln0 rfl
theorem a3J {K:Fg}{a:Ad}(F:Fns K a):Binds K a.d31 ["self"] []:=F.n31.binds fun _ _ _ _ _ _=>lnS fun _=>ln0 rfl
def FE (K:Fg) (x q:Str) (st:Stmt) (f:Addr):Prop:=∃ d,Fun K x q st f d
theorem fe_mk {K:Fg}{x qual:Str}{st:Stmt}{f:Addr}{oc:Value}{od an:Option Addr}{osl:Array (Option Value)}{kV doc pm cdv ct:Value}(l:K.lookup f=some ⟨oc,od,.func (PySem.W.fnOf x qual (a2T st) (a1O st) (a0g st) .none kV doc pm an cdv ct),osl⟩) (c:PySem.W.codeIn K cdv qual=true) (k:PySem.W.keepIn K (.ref f)=true):FE K x qual st f:=⟨_,b11 l c k⟩
structure Txt (K:Fg) (mg:Str->Option Value) (a:Ad):Prop where
 m0:mg "is_name"=some (.ref a.f0)
 m1:mg "is_moment"=some (.ref a.f1)
 m2:mg "is_stretch"=some (.ref a.f2)
 m3:mg "earlier_end"=some (.ref a.f3)
 m4:mg "check_name"=some (.ref a.f4)
 m5:mg "check_stretch"=some (.ref a.f5)
 m6:mg "check_in_reach"=some (.ref a.f6)
 m7:mg "ahead_of"=some (.ref a.f7)
 m8:mg "with_alike_joined"=some (.ref a.f8)
 m9:mg "from_on"=some (.ref a.f9)
 m10:mg "put_on"=some (.ref a.f10)
 m11:mg "check_telling"=some (.ref a.f11)
 m12:mg "line_behind"=some (.ref a.f12)
 m13:mg "_law_cell_at"=some (.ref a.f13)
 m14:mg "_law_mix"=some (.ref a.f14)
 m15:mg "_law_parts"=some (.ref a.f15)
 m16:mg "_law_names"=some (.ref a.f16)
 m17:mg "_law_telling"=some (.ref a.f17)
 m18:mg "_law_worth"=some (.ref a.f18)
 m19:mg "_law_moments"=some (.ref a.f19)
 m20:mg "_law_is_line"=some (.ref a.f20)
 m21:mg "_law_shown"=some (.ref a.f21)
 m22:mg "_law_line_right"=some (.ref a.f22)
 mt23:Meth K a.c_Sheet "check_knowing" a.f23
 mt24:Meth K a.c_Sheet "known_line" a.f24
 mt25:Meth K a.c_Sheet "line_at" a.f25
 mt26:Meth K a.c_Sheet "keys_at" a.f26
 m27:mg "_law_asked"=some (.ref a.f27)
 mt28:Meth K a.c_Sheet "__init__" a.f28
 mt29:Meth K a.c_Sheet "keep_line" a.f29
 mt30:Meth K a.c_Sheet "tell" a.f30
 mt31:Meth K a.c_Sheet "knowings" a.f31
 m32:mg "law"=some (.ref a.f32)
 b_all:mg "all"=none
 b_isinstance:mg "isinstance"=none
 b_str:mg "str"=none
 b_len:mg "len"=none
 b_bool:mg "bool"=none
 b_int:mg "int"=none
 b_min:mg "min"=none
 b_max:mg "max"=none
 b_range:mg "range"=none
 b_sorted:mg "sorted"=none
 b_list:mg "list"=none
 b_tuple:mg "tuple"=none
 b_reversed:mg "reversed"=none
 cl_Sheet:Cls K a.c_Sheet
 mg_Sheet:mg "Sheet"=some (.ref a.c_Sheet)
 mk_Sheet:Mk K a.c_Sheet a.f28
 na_last:NoAttr K a.c_Sheet "last"
 na_kept:NoAttr K a.c_Sheet "kept"
 x_NoName:mg "NoName"=some (.ref a.x_NoName)
 x_NoStretch:mg "NoStretch"=some (.ref a.x_NoStretch)
 x_NoKnowing:mg "NoKnowing"=some (.ref a.x_NoKnowing)
 xi_NoName:PySem.W.excIn K a.x_NoName veM "ValueError.__new__"=true
 xi_NoStretch:PySem.W.excIn K a.x_NoStretch veM "ValueError.__new__"=true
 xi_NoKnowing:PySem.W.excIn K a.x_NoKnowing veM "ValueError.__new__"=true
 c_LONGEST_NAME:∃ t,mg "LONGEST_NAME"=some (.int 8 t)
 c_LAST_MOMENT:∃ t,mg "LAST_MOMENT"=some (.int 1000000000000 t)
theorem a72 {X:Cx}{x:Str}{i:Int}{pos:Pos}(hg:Gl X x) (hm:∃ t,X.mg x=some (.int i t)) (hd:(x==("__debug__":Str))=false:=by decide):PE X (.Name x pos) (tC (.int i)):=by
 obtain⟨t,h⟩:=hm;exact b2x hg h ⟨t,rfl⟩ hd
def a5l:P3:=fun ws G R=>∃ a ns,ws=[.scr a ns]/\ns.length≤63/\∀ G',R (.bl true) G'
theorem b0k {K:Fg}{H:Hp}{E:XK}(a:Addr) (ns:List Int) (hl:ns.length≤63) (f:Fz K H a (ns.map V.int)):lowP K a5l [.ref a] H (fun v _=>v=.bl true) E:=
 ⟨[.scr a ns],fun _=>none,fun w _=>w=.bl true,.cons (by rw[a1R];exact⟨rfl,f⟩) .nil,fun _ _ e=>(nomatch e),⟨a,ns,rfl,hl,fun _=>rfl⟩,fun w G v H' e r _ _=>by subst e;rw[a0O]at r;exact r⟩
theorem lenK {n:Nat}(h:Nat.ble n 1000=true):n≤sizeLine:=Nat.le_of_lt (a0s (Nat.le_of_ble_eq_true h))
theorem a3o {n:Nat}(h:n≤1000):n≤sizeLine:=Nat.le_of_lt (a0s h)
def b5S (x w:Int):Prop:=w=0\/(w=1/\0≤x/\x<536870909)
abbrev RowO (x w:Int):O:=.lst [.int x,.int w]
def RowAt (G:Hq) (r:Addr):Prop:=∃ x w,G r=some (RowO x w)/\b5S x w
local macro_rules | `(tactic| walk_at "sd")=>`(tactic| first | assumption | (exact a3o (by first | decide | omega | (simp;done) | (simp;omega))) | (exact a0s (by first | decide | omega | (simp;done) | (simp;omega))) | decide | omega)
local macro_rules | `(tactic| walk_at "hp")=>`(tactic| first | assumption | exact a0d | (refine a0n ?_ (by assumption);walk_at "hp") | (refine Sm.get (by assumption) ?_;walk_at "hp"))
local macro_rules | `(tactic| walk_at "go1")=>`(tactic| with_reducible (first
 | refine b6Q ?_ | refine b6J (by with_unfolding_all rfl) ?_ | refine i_c ?_ | refine i_op ?_ | refine i_un ?_ | refine b47 ?_ | refine b3b ?_ | refine b6K ?_ | refine i_or ?_ | refine b6L ?_ | refine b48 ?_ | refine i_orV ?_ | refine i_notV ?_ | refine i_if ?_
 | refine b6M ?_ | refine i_truI ?_ | refine i_truB ?_ | refine i_sl ?_ | refine b1m ?_ | refine b49 ?_ | refine b6N ?_ | refine b5a ?_ | refine b6O ?_ | refine b6P ?_ | refine i_cb ?_ | refine i_uss ?_ | refine i_bm0 ?_ | refine i_bm ?_ | refine b5b ?_
 | refine b5c ?_ | refine b5d ?_ | refine b6R ?_ | refine i_retN ?_ | refine b6S ?_ | refine b6T ?_ | refine b6U ?_ | refine i_aug (by with_unfolding_all rfl) ?_ | refine i_break ?_ | refine i_cont ?_ | refine b5n ?_ | refine b61 ?_ | refine i_iL ?_ | refine i_iT ?_ | refine i_iS ?_ | refine b62 ?_ | refine i_iR2 ?_ | refine i_wkC ?_ | refine b63 ?_ | refine b64 ?_ | refine i_tt ?_
 | refine b5e ?_ | refine i_I0 ?_ | refine b6V ?_ | refine i_CI ?_ | refine i_CS ?_ | refine b6W ?_ | refine i_isB ?_ | refine b5g ?_ | refine i_eqB ?_ | refine b5h ?_ | refine b6X ?_ | refine i_inS ?_ | refine b5j ?_ | refine i_nm ?_ | refine a33 (by with_unfolding_all rfl) ?_ | refine b5k ?_ | refine b5l ?_ | refine i_mm ?_ | refine b60 ?_
 | refine ifT ?_ | refine ifF ?_ | refine ifNN ?_ | refine ifNI ?_ | refine ifNS ?_ | refine ifNU ?_ | refine ifMN ?_ | refine ifMI ?_ | refine ifMS ?_ | refine ifMU ?_ | refine a33 at0 ?_ | refine a33 at1 ?_ | refine a33 at2 ?_ | refine i_find ?_ | refine b5x ?_ | refine i_iR3 ?_ | refine i_iZip ?_ | refine b5A ?_ | refine b3l ?_ | refine b3m ?_ | refine b5B ?_ | refine b5C ?_ | refine b5J ?_ | refine b3q ?_ | refine b5K ?_ | refine⟨_,rfl,?_⟩))
local macro_rules | `(tactic| walk_at "go")=>`(tactic| repeat walk_at "go1")
def a5m:P3:=fun ws G R=>∃ p ns k,ws=[.scr p ns,.int k]/\0≤k/\∀ i,R (.int i) G
theorem a7i {ws:List Z}{G:Hq}{R:K3}(h:a5m ws G R):ws.length=2:=by obtain⟨_,_,_,rfl,_⟩:=h;rfl
variable {P:Program}{w:World}{K:Fg}{mg:Str->Option Value}{base:Heap}{a:Ad}
theorem a8O (F:Fns K a) (T:Txt K mg a):FnOk P w K mg base CX0 1 a.f13 a.d13 ["script","k"] (lowP K a5m):=by
 refine fn3 F.n13 a8J (fun ws G R h=>(by exact a7i h)) (fun cdv A outer s H E ws G R hr h=>?_);have hu:=a02 hr;refine⟨_,(a0l (z_if (a0t o_lt (a0b (pv 1)) (a0z b_len rfl T.b_len PySem.boot_len (a0c (a0b (pv 0)) a0i a0a) (he:=a0a) (hpl:=a0j)) (a0r _))
  (a0p (a0G (q_ix x_ix (a0b (pv 0)) (a0b (pv 1)) (fun _ _=>rfl))))
  a0V)
  (a0p (a0G a0f))),?_⟩
 obtain⟨p,ns,k,rfl,hk,q⟩:=h;walk_at "go";refine ifD (fun c=>?_) fun _=>?_
 ·obtain⟨j,rfl⟩:=Int.eq_ofNat_of_zero_le hk;have hj:j<ns.length:=by omega
  walk_at "go";exact b6Y (a13 (List.getElem?_eq_getElem hj)) (q _)
 ·walk_at "go";exact q _
theorem m9 (x:Int):0≤x % 536870909/\x % 536870909<536870909:=⟨Int.emod_nonneg _ (by decide),Int.emod_lt_of_pos _ (by decide)⟩
theorem RowAt.new {G:Hq}{r p:Addr}{o:O}(h:RowAt G r) (n:G p=none):RowAt (put G p o) r:=by
 obtain⟨x,w,e,k⟩:=h;exact⟨x,w,a0n e n,k⟩
theorem RowAt.at {G:Hq}{r:Addr}{x w:Int}(k:b5S x w):RowAt (put G r (RowO x w)) r:=⟨x,w,a0d,k⟩
structure Rw where
 b:Int
 e:Option Int
 w:List Z
@[reducible] def oz:Option Int->Z
 | none=>.non
 | some i=>.int i
def Rw.z (r:Rw):Z:=.tup (.int r.b::oz r.e::r.w)
def bef (t:Int):Option Int->Bool
 | none=>true
 | some e=>decide (t<e)
def Rw.has (r:Rw) (t:Int):Bool:=decide (r.b≤t)&&bef t r.e
def Rw.good (r:Rw):Prop:=bef r.b r.e=true
def val (l:List Rw) (t:Int):Option (List Z):=(l.find? (·.has t)).map (·.w)
theorem a2i {t:Int}:val [] t=none:=rfl
theorem a0K {r:Rw}{l:List Rw}{t:Int}:val (r::l) t=if r.has t=true then some r.w else val l t:=by
 unfold val;rw[List.find?_cons];cases h:r.has t<;>simp
theorem a1n {l m:List Rw}{t:Int}:val (l++m) t=(val l t).or (val m t):=by
 unfold val;rw[List.find?_append];cases h:l.find? (·.has t)<;>simp
def Lt (r s:Rw):Prop:=∃ e,r.e=some e/\e≤s.b
def Lt2 (r s:Rw):Prop:=∃ e,r.e=some e/\e≤s.b/\(e=s.b->r.w≠s.w)
def Rise (l:List Rw):Prop:=(∀ r∈l,r.good)/\l.Pairwise Lt
def Can (l:List Rw):Prop:=(∀ r∈l,r.good)/\l.Pairwise Lt2
theorem Lt2.lt {r s:Rw}(h:Lt2 r s):Lt r s:=let ⟨e,a,b,_⟩:=h;⟨e,a,b⟩
theorem Can.rise {l:List Rw}(h:Can l):Rise l:=⟨h.1,h.2.imp Lt2.lt⟩
theorem Can.nil:Can []:=⟨fun _ h=>by simp at h,.nil⟩
theorem Rise.nil:Rise []:=Can.nil.rise
theorem Can.tail {r:Rw}{l:List Rw}(h:Can (r::l)):Can l:=⟨fun s hs=>h.1 s (.tail _ hs),(List.pairwise_cons.mp h.2).2⟩
theorem Rise.tail {r:Rw}{l:List Rw}(h:Rise (r::l)):Rise l:=⟨fun s hs=>h.1 s (.tail _ hs),(List.pairwise_cons.mp h.2).2⟩
theorem a4X {r:Rw}(h:r.good):r.has r.b=true:=by
 unfold Rw.has;rw[show bef r.b r.e=true from h];simp
theorem Lt.has {r s:Rw}{t:Int}(h:Lt r s) (a:r.has t=true):s.has t=false:=by
 obtain⟨e,h1,h2⟩:=h;unfold Rw.has at a ⊢;rw[h1]at a;simp only[bef,Bool.and_eq_true,decide_eq_true_eq]at a
 have:decide (s.b≤t)=false:=decide_eq_false (by omega)
 rw[this,Bool.false_and]
theorem Lt.b {r s:Rw}(g:r.good) (h:Lt r s):r.b<s.b:=by
 obtain⟨e,h1,h2⟩:=h
 have:bef r.b r.e=true:=g
 rw[h1]at this;simp only[bef,decide_eq_true_eq]at this;omega
theorem a5U {l:List Rw}{t:Int}(h:∀ r∈l,r.has t=false):val l t=none:=by
 induction l with
 | nil=>rfl
 | cons r l ih=>
  rw[a0K,h r (.head _),if_neg (by decide)];exact ih fun s hs=>h s (.tail _ hs)
theorem a5V {l:List Rw}{t:Int}{w:List Z}(h:val l t=some w):∃ r∈l,r.has t=true/\r.w=w:=by
 induction l with
 | nil=>cases h
 | cons r l ih=>
  rw[a0K]at h
  split at h
  ·next e=>cases h;exact⟨r,.head _,e,rfl⟩
  ·obtain⟨s,h1,h2⟩:=ih h;exact⟨s,.tail _ h1,h2⟩
theorem b5T {r:Rw}{t:Int}(h:t<r.b):r.has t=false:=by
 unfold Rw.has;rw[decide_eq_false (by omega),Bool.false_and]
theorem b5U {r s:Rw}{l m:List Rw}(h:Can (r::l)) (h':Can (s::m)) (q:∀ t,val (r::l) t=val (s::m) t):¬ r.b<s.b:=fun hlt=>by
 have h1:=q r.b;rw[a0K,a4X (h.1 r (.head _)),if_pos rfl,a5U]at h1
 ·cases h1
 ·intro x hx;refine b5T ?_;rcases List.mem_cons.mp hx with rfl | hx
  ·exact hlt
  ·have:=(((List.pairwise_cons.mp h'.2).1 x hx).lt).b (h'.1 s (.head _))
   omega
theorem b3x {r s:Rw}{l m:List Rw}(h:Can (r::l)) (hb:r.b=s.b) (hw:r.w=s.w) (q:∀ t,val (r::l) t=val (s::m) t) {e:Int}(he:r.e=some e):bef e s.e=false:=by
 cases hc:bef e s.e with
 | false=>rfl
 | true=>
  exfalso;have h0:bef r.b r.e=true:=h.1 r (.head _)
  rw[he]at h0;simp only[bef,decide_eq_true_eq]at h0;have h1:=q e;have hs:s.has e=true:=by unfold Rw.has;rw[hc,decide_eq_true (show s.b≤e by omega)];rfl
  have hr:r.has e=false:=by unfold Rw.has;rw[he];simp[bef]
  rw[a0K,a0K,hs,hr,if_pos rfl,if_neg (by decide)]at h1;obtain⟨x,hx,hx1,hx2⟩:=a5V h1;obtain⟨e',a1,a2,a3⟩:=(List.pairwise_cons.mp h.2).1 x hx;rw[he]at a1;cases a1;have hxb:x.b≤e:=by unfold Rw.has at hx1;simp only[Bool.and_eq_true,decide_eq_true_eq]at hx1;exact hx1.1
  exact a3 (by omega) (by rw[hw,hx2])
theorem b2o:∀ {l m:List Rw},Can l->Can m->(∀ t,val l t=val m t)->l=m
 | [],[],_,_,_=>rfl
 | [],s::m,_,h',q=>by
  have:=q s.b
  rw[a2i,a0K,a4X (h'.1 s (.head _)),if_pos rfl]at this;cases this
 | r::l,[],h,_,q=>by
  have:=q r.b
  rw[a2i,a0K,a4X (h.1 r (.head _)),if_pos rfl]at this;cases this
 | r::l,s::m,h,h',q=>by
  have hb:r.b=s.b:=by
   have h1:=b5U h h' q;have h2:=b5U h' h fun t=>(q t).symm;omega
  have hw:r.w=s.w:=by
   have h1:=q r.b;have h2:s.has r.b=true:=by rw[hb];exact a4X (h'.1 s (.head _))
   rw[a0K,a0K,a4X (h.1 r (.head _)),h2,if_pos rfl,if_pos rfl]at h1;exact Option.some.inj h1
  have he:r.e=s.e:=by
   cases e1:r.e with
   | none=>
    cases e2:s.e with
    | none=>rfl
    | some e=>
     have:=b3x h' hb.symm hw.symm (fun t=>(q t).symm) e2
     rw[e1]at this;cases this
   | some e=>
    have:=b3x h hb hw q e1
    cases e2:s.e with
    | none=>rw[e2]at this;cases this
    | some e'=>
     have h3:=b3x h' hb.symm hw.symm (fun t=>(q t).symm) e2;rw[e1]at h3;rw[e2]at this;simp only[bef,decide_eq_false_iff_not]at this h3
     congr 1
     omega
  have hrs:r=s:=by
   obtain⟨_,_,_⟩:=r;obtain⟨_,_,_⟩:=s;simp only at hb hw he;rw[hb,hw,he]
  subst hrs
  congr 1
  refine b2o h.tail h'.tail fun t=>?_;cases ht:r.has t with
  | true=>
   rw[a5U fun x hx=>((List.pairwise_cons.mp h.2).1 x hx).lt.has ht,a5U fun x hx=>((List.pairwise_cons.mp h'.2).1 x hx).lt.has ht]
  | false=>
   have:=q t
   rw[a0K,a0K,ht,if_neg (by decide),if_neg (by decide)]at this;exact this
def jn (told:List Rw) (p:Rw):List Rw:=match told.getLast? with
 | some l=>if l.e=some p.b/\l.w=p.w then told.dropLast++[⟨l.b,p.e,p.w⟩] else told++[p]
 | none=>told++[p]
def join (ps:List Rw):List Rw:=ps.foldl jn []
theorem a3p {α:Type}{l:List α}{x:α}(h:l.getLast?=some x):l=l.dropLast++[x]:=by
 obtain⟨ys,rfl⟩:=List.getLast?_eq_some_iff.mp h;simp
theorem b7t {told:List Rw}{p:Rw}(h:Can told) (g:p.good) (hlt:∀ r∈told,Lt r p):Can (jn told p)/\(∀ t,val (jn told p) t=(val told t).or (val [p] t))/\(∀ x,(∀ r∈told,Lt r x)->Lt p x->∀ r∈jn told p,Lt r x)/\(jn told p).length≤told.length+1/\∀ r∈jn told p,r.w=p.w\/∃ r'∈told,r.w=r'.w:=by
 unfold jn;cases hl:told.getLast? with
 | none=>
  have:told=[]:=List.getLast?_eq_none_iff.mp hl
  subst this;exact⟨⟨fun r hr=>by simp at hr;rw[hr];exact g,by simp⟩,fun t=>by simp[a2i],fun x _ hp r hr=>by simp at hr;rw[hr];exact hp,by simp,fun r hr=>by simp at hr;rw[hr];exact .inl rfl⟩
 | some l=>
  have hs:=a3p hl;generalize told.dropLast=init at hs;subst hs;have hlm:l∈init++[l]:=by simp
  have pw:=List.pairwise_append.mp h.2;dsimp only
  split
  ·next hc=>
   obtain⟨h1,h2⟩:=hc;have gl:l.b<p.b:=by
    have:bef l.b l.e=true:=h.1 l hlm
    rw[h1]at this;simpa[bef]using this
   have gn:(⟨l.b,p.e,p.w⟩:Rw).good:=by
    show bef l.b p.e=true
    have:bef p.b p.e=true:=g
    cases hpe:p.e with
    | none=>rfl
    | some e=>
     rw[hpe]at this;simp only[bef,decide_eq_true_eq]at this ⊢;omega
   refine⟨⟨fun r hr=>?_,?_⟩,fun t=>?_,fun x hx hp r hr=>?_,by simp,fun r hr=>?_⟩
   ·rcases List.mem_append.mp hr with hr | hr
    ·exact h.1 r (by simp[hr])
    ·rw[List.mem_singleton.mp hr];exact gn
   ·refine List.pairwise_append.mpr ⟨pw.1,by simp,fun r hr s hs=>?_⟩;rw[List.mem_singleton.mp hs];obtain⟨e,a1,a2,a3⟩:=pw.2.2 r hr l (by simp);exact⟨e,a1,a2,fun z=>by rw[<- h2];exact a3 z⟩
   ·rw[a1n,a1n];cases val init t with
    | some w=>rfl
    | none=>
     have e1:(⟨l.b,p.e,p.w⟩:Rw).has t=(l.has t||p.has t):=by
      unfold Rw.has;rw[h1]
      have:bef p.b p.e=true:=g
      cases hpe:p.e with
      | none=>
       simp only[bef,Bool.and_true]
       by_cases c1:l.b≤t<;>by_cases c2:t<p.b<;>by_cases c3:p.b≤t<;>simp[c1,c2,c3]<;>omega
      | some e=>
       rw[hpe]at this;simp only[bef,decide_eq_true_eq]at this ⊢
       by_cases c1:l.b≤t<;>by_cases c2:t<p.b<;>by_cases c3:p.b≤t<;>by_cases c4:t<e<;>simp[c1,c2,c3,c4]<;>omega
     simp only[a0K,a2i,e1,h2,Option.none_or];cases l.has t<;>cases p.has t<;>simp
   ·rcases List.mem_append.mp hr with hr | hr
    ·exact hx r (by simp[hr])
    ·rw[List.mem_singleton.mp hr];obtain⟨e,a1,a2⟩:=hp;exact⟨e,a1,a2⟩
   ·rcases List.mem_append.mp hr with hr | hr
    ·exact .inr ⟨r,by simp[hr],rfl⟩
    ·rw[List.mem_singleton.mp hr];exact .inl rfl
  ·next hc=>
   refine⟨⟨fun r hr=>?_,?_⟩,fun t=>a1n,fun x hx hp r hr=>?_,by simp,fun r hr=>?_⟩
   ·rcases List.mem_append.mp hr with hr | hr
    ·exact h.1 r hr
    ·rw[List.mem_singleton.mp hr];exact g
   ·refine List.pairwise_append.mpr ⟨h.2,by simp,fun r hr s hs=>?_⟩;rw[List.mem_singleton.mp hs];obtain⟨e,a1,a2⟩:=hlt r hr;refine⟨e,a1,a2,fun z hw=>?_⟩;rcases List.mem_append.mp hr with hr' | hr'
    ·obtain⟨e',b1,b2,_⟩:=pw.2.2 r hr' l (by simp);rw[a1]at b1;cases b1
     have:=(hlt l hlm).b (h.1 l hlm)
     omega
    ·rw[List.mem_singleton.mp hr']at a1 hw;exact hc ⟨by rw[a1,z],hw⟩
   ·rcases List.mem_append.mp hr with hr | hr
    ·exact hx r hr
    ·rw[List.mem_singleton.mp hr];exact hp
   ·rcases List.mem_append.mp hr with hr | hr
    ·exact .inr ⟨r,hr,rfl⟩
    ·rw[List.mem_singleton.mp hr];exact .inl rfl
theorem b0l:∀ (ps told:List Rw),Can told->Rise ps->(∀ r∈told,∀ p∈ps,Lt r p)->Can (ps.foldl jn told)/\(∀ t,val (ps.foldl jn told) t=(val told t).or (val ps t))/\(ps.foldl jn told).length≤told.length+ps.length/\∀ r∈ps.foldl jn told,∃ r'∈told++ps,r.w=r'.w
 | [],told,h,_,_=>⟨h,fun t=>by simp[a2i],by simp,fun r hr=>⟨r,by simpa using hr,rfl⟩⟩
 | p::ps,told,h,hr,hlt=>by
  have pc:=List.pairwise_cons.mp hr.2;have a:=b7t h (hr.1 p (.head _)) fun r q=>hlt r q p (.head _);have b:=b0l ps (jn told p) a.1 hr.tail fun r q x hx=>a.2.2.1 x (fun r' q'=>hlt r' q' x (.tail _ hx)) (pc.1 x hx) r q;refine⟨b.1,fun t=>?_,?_,fun r hr'=>?_⟩
  ·show val (ps.foldl jn (jn told p)) t=_
   rw[b.2.1 t,a.2.1 t,show p::ps=[p]++ps from rfl,a1n,Option.or_assoc]
  ·have h1:=b.2.2.1;have h2:=a.2.2.2.1
   show (ps.foldl jn (jn told p)).length≤_
   rw[List.length_cons];omega
  ·obtain⟨r',hr1,hr2⟩:=b.2.2.2 r hr';rcases List.mem_append.mp hr1 with hr1 | hr1
   ·rcases a.2.2.2.2 r' hr1 with e | ⟨r2,e1,e2⟩
    ·exact⟨p,by simp,hr2.trans e⟩
    ·exact⟨r2,by simp[e1],hr2.trans e2⟩
   ·exact⟨r',by simp[hr1],hr2⟩
theorem b3y {ps:List Rw}(h:Rise ps):Can (join ps)/\(∀ t,val (join ps) t=val ps t)/\(join ps).length≤ps.length/\∀ r∈join ps,∃ r'∈ps,r.w=r'.w:=by
 have:=b0l ps [] .nil h fun r hr=>by simp at hr
 unfold join;exact⟨this.1,fun t=>by rw[this.2.1 t];rfl,by simpa using this.2.2.1,by simpa using this.2.2.2⟩
def emin:Option Int->Option Int->Option Int
 | none,o=>o
 | some e,none=>some e
 | some e,some o=>some (if o<e then o else e)
def a2R (m:Option Int) (r:Rw):Option Rw:=if bef r.b m=true then some ⟨r.b,emin r.e m,r.w⟩ else none
def ahead (m:Option Int) (l:List Rw):List Rw:=l.filterMap (a2R m)
def a5W (m:Int) (r:Rw):Option Rw:=if bef m r.e=true then some ⟨if m > r.b then m else r.b,r.e,r.w⟩ else none
def fromOn (m:Int) (l:List Rw):List Rw:=l.filterMap (a5W m)
theorem b0m {f:Rw->Option Rw}{t:Int}{c:Bool}(h1:∀ r r',f r=some r'->r'.has t=(r.has t&&c)/\r'.w=r.w) (h2:∀ r,f r=none->(r.has t&&c)=false):∀ l:List Rw,val (l.filterMap f) t=if c=true then val l t else none
 | []=>by simp[a2i]
 | r::l=>by
  have ih:=b0m h1 h2 l;rw[List.filterMap_cons];cases hf:f r with
  | none=>
   have:=h2 r hf
   rw[ih,a0K];cases c with
   | true=>rw[Bool.and_true]at this;rw[this];rfl
   | false=>rfl
  | some r'=>
   obtain⟨a1,a2⟩:=h1 r r' hf;rw[a0K,ih,a1,a2,a0K];cases c<;>cases r.has t<;>rfl
theorem a73 {t:Int}{x y:Option Int}:bef t (emin x y)=(bef t x&&bef t y):=by
 cases x with
 | none=>cases y<;>simp[bef,emin]
 | some a=>
  cases y with
  | none=>simp[bef,emin]
  | some b=>
   simp only[bef,emin];rw[<- Bool.decide_and];apply a0J;rw[eq_iff_iff]
   split<;>omega
theorem a6I (m:Option Int) (l:List Rw) (t:Int):val (ahead m l) t=if bef t m=true then val l t else none:=by
 refine b0m (fun r r' h=>?_) (fun r h=>?_) l
 ·unfold a2R at h
  split at h
  ·cases h;refine⟨?_,rfl⟩;unfold Rw.has;simp only[a73,Bool.and_assoc]
  ·cases h
 ·unfold a2R at h
  split at h
  ·cases h
  ·next hc=>
   unfold Rw.has;cases m with
   | none=>exact absurd rfl hc
   | some m=>
    simp only[bef,decide_eq_true_eq]at hc ⊢
    by_cases c1:r.b≤t
    ·rw[decide_eq_false (show ¬ t<m by omega),Bool.and_false]
    ·rw[decide_eq_false c1];rfl
theorem b1F (m:Int) (l:List Rw) (t:Int):val (fromOn m l) t=if m≤t then val l t else none:=by
 have:(if m≤t then val l t else none)=if decide (m≤t)=true then val l t else none:=by simp
 rw[this];refine b0m (fun r r' h=>?_) (fun r h=>?_) l
 ·unfold a5W at h
  split at h
  ·cases h;refine⟨?_,rfl⟩;unfold Rw.has;simp only
   have:decide ((if m > r.b then m else r.b)≤t)=(decide (r.b≤t)&&decide (m≤t)):=by
    rw[<- Bool.decide_and];apply a0J;rw[eq_iff_iff]
    split<;>omega
   rw[this];cases decide (r.b≤t)<;>cases decide (m≤t)<;>simp
  ·cases h
 ·unfold a5W at h
  split at h
  ·cases h
  ·next hc=>
   unfold Rw.has;cases he:r.e with
   | none=>rw[he]at hc;exact absurd rfl hc
   | some e=>
    rw[he]at hc;simp only[bef,decide_eq_true_eq]at hc ⊢
    by_cases c1:m≤t
    ·rw[decide_eq_false (show ¬ t<e by omega),Bool.and_false];rfl
    ·rw[decide_eq_false c1,Bool.and_false]
theorem a3q {m:Option Int}{l:List Rw}{x:Rw}(h:x∈ahead m l):∃ r∈l,bef r.b m=true/\x=⟨r.b,emin r.e m,r.w⟩:=by
 obtain⟨r,h1,h2⟩:=List.mem_filterMap.mp h;unfold a2R at h2
 split at h2
 ·next c=>cases h2;exact⟨r,h1,c,rfl⟩
 ·cases h2
theorem a4h {m:Int}{l:List Rw}{x:Rw}(h:x∈fromOn m l):∃ r∈l,bef m r.e=true/\x=⟨if m > r.b then m else r.b,r.e,r.w⟩:=by
 obtain⟨r,h1,h2⟩:=List.mem_filterMap.mp h;unfold a5W at h2
 split at h2
 ·next c=>cases h2;exact⟨r,h1,c,rfl⟩
 ·cases h2
theorem b3z {R:Rw->Rw->Prop}{f:Rw->Option Rw}(hf:∀ r s r' s',R r s->f r=some r'->f s=some s'->R r' s'):∀ {l:List Rw},l.Pairwise R->(l.filterMap f).Pairwise R
 | [],_=>by simp
 | r::l,h=>by
  have pc:=List.pairwise_cons.mp h;have ih:=b3z hf pc.2;rw[List.filterMap_cons];cases e:f r with
  | none=>exact ih
  | some r'=>
   refine List.pairwise_cons.mpr ⟨fun s hs=>?_,ih⟩;obtain⟨s0,h1,h2⟩:=List.mem_filterMap.mp hs;exact hf r s0 r' s (pc.1 s0 h1) e h2
theorem b3A {x:Int}{m:Option Int}:∃ e,emin (some x) m=some e/\e≤x:=by
 cases m with
 | none=>exact⟨x,rfl,Int.le_refl _⟩
 | some o=>
  refine⟨_,rfl,?_⟩
  split<;>omega
theorem a8P (m:Option Int) {l:List Rw}(h:Rise l):Rise (ahead m l):=by
 refine⟨fun x hx=>?_,b3z (fun r s r' s' hlt hr hs=>?_) h.2⟩
 ·obtain⟨r,h1,h2,rfl⟩:=a3q hx
  show bef r.b (emin r.e m)=true
  rw[a73,h2,Bool.and_true];exact h.1 r h1
 ·unfold a2R at hr hs
  split at hr
  ·split at hs
   ·cases hr;cases hs;obtain⟨e,a1,a2⟩:=hlt;obtain⟨e',b1,b2⟩:=@b3A e m;exact⟨e',by rw[<- b1,<- a1],by show e'≤s.b;omega⟩
   ·cases hs
  ·cases hr
theorem b0n (m:Int) {l:List Rw}(h:Rise l):Rise (fromOn m l):=by
 refine⟨fun x hx=>?_,b3z (fun r s r' s' hlt hr hs=>?_) h.2⟩
 ·obtain⟨r,h1,h2,rfl⟩:=a4h hx
  show bef (if m > r.b then m else r.b) r.e=true
  split
  ·exact h2
  ·exact h.1 r h1
 ·unfold a5W at hr hs
  split at hr
  ·split at hs
   ·cases hr;cases hs;obtain⟨e,a1,a2⟩:=hlt;exact⟨e,a1,by show e≤(if m > s.b then m else s.b);split<;>omega⟩
   ·cases hs
  ·cases hr
theorem a6J (m:Option Int) (l:List Rw):(ahead m l).length≤l.length:=List.length_filterMap_le _ _
theorem b1G (m:Int) (l:List Rw):(fromOn m l).length≤l.length:=List.length_filterMap_le _ _
theorem a74 {b e:Int}(hbe:b≤e):∀ {l:List Rw},Rise l->(ahead (some b) l).length+(fromOn e l).length≤l.length+1
 | [],_=>by simp[ahead,fromOn]
 | r::l,h=>by
  have ih:=a74 hbe h.tail;have pc:=(List.pairwise_cons.mp h.2).1;have la:(ahead (some b) (r::l)).length=(if bef r.b (some b)=true then 1 else 0)+(ahead (some b) l).length:=by
   unfold ahead;rw[List.filterMap_cons];unfold a2R
   split
   ·next q=>
         split at q
         ·cases q
         ·next hc=>rw[if_neg hc];simp
   ·next q=>
         split at q
         ·next hc=>rw[if_pos hc,List.length_cons];omega
         ·cases q
  have lf:(fromOn e (r::l)).length=(if bef e r.e=true then 1 else 0)+(fromOn e l).length:=by
   unfold fromOn;rw[List.filterMap_cons];unfold a5W
   split
   ·next q=>
         split at q
         ·cases q
         ·next hc=>rw[if_neg hc];simp
   ·next q=>
         split at q
         ·next hc=>rw[if_pos hc,List.length_cons];omega
         ·cases q
  rw[la,lf,List.length_cons]
  by_cases c1:bef r.b (some b)=true
  ·by_cases c2:bef e r.e=true
   ·have:ahead (some b) l=[]:=by
     unfold ahead;rw[List.filterMap_eq_nil_iff];intro s hs;unfold a2R;obtain⟨e',a1,a2⟩:=pc s hs;rw[a1]at c2;simp only[bef,decide_eq_true_eq]at c1 c2 ⊢;rw[if_neg (by omega)]
    have:=b1G e l
    rw[if_pos c1,if_pos c2];simp_all;omega
   ·rw[if_pos c1,if_neg c2];omega
  ·rw[if_neg c1];split<;>omega
def a1K (l:List Rw) (b:Int) (e:Option Int) (w:Option (List Z)):List Rw:=
 ahead (some b) l++(match w with | some w=>[⟨b,e,w⟩] | none=>[])++(match e with | some e=>fromOn e l | none=>[])
theorem a6K {l:List Rw}{b:Int}{e:Option Int}{w:Option (List Z)}(h:Rise l) (g:bef b e=true):Rise (a1K l b e w)/\(∀ t,val (a1K l b e w) t=if (decide (b≤t)&&bef t e)=true then w else val l t)/\(a1K l b e w).length≤l.length+2:=by
 have hA:=a8P (some b) h;have eA:∀ r∈ahead (some b) l,∃ x,r.e=some x/\x≤b:=fun r hr=>by
  obtain⟨r0,_,_,rfl⟩:=a3q hr
  show ∃ x,emin r0.e (some b)=some x/\x≤b
  cases r0.e with
  | none=>exact⟨b,rfl,Int.le_refl _⟩
  | some x=>refine⟨_,rfl,?_⟩;split<;>omega
 have hM:Rise (match w with | some w=>[(⟨b,e,w⟩:Rw)] | none=>[]):=by
  cases w with
  | none=>exact .nil
  | some w=>exact⟨fun r hr=>by rw[List.mem_singleton.mp hr];exact g,by simp⟩
 have mM:∀ r∈(match w with | some w=>[(⟨b,e,w⟩:Rw)] | none=>[]),r.b=b/\r.e=e:=fun r hr=>by
  cases w with
  | none=>simp at hr
  | some w=>rw[List.mem_singleton.mp hr];exact⟨rfl,rfl⟩
 have vM:∀ t,val (match w with | some w=>[(⟨b,e,w⟩:Rw)] | none=>[]) t=if (decide (b≤t)&&bef t e)=true then w else none:=fun t=>by
  cases w with
  | none=>simp[a2i]
  | some w=>rw[a0K,a2i];rfl
 have app:∀ {A B:List Rw},Rise A->Rise B->(∀ r∈A,∀ s∈B,Lt r s)->Rise (A++B):=fun ha hb hab=>⟨fun r hr=>(List.mem_append.mp hr).elim (ha.1 r) (hb.1 r),List.pairwise_append.mpr ⟨ha.2,hb.2,hab⟩⟩;unfold a1K;cases e with
 | none=>
  dsimp only;rw[List.append_nil];refine⟨app hA hM fun r hr s hs=>?_,fun t=>?_,?_⟩
  ·obtain⟨x,a1,a2⟩:=eA r hr;exact⟨x,a1,by rw[(mM s hs).1];exact a2⟩
  ·rw[a1n,a6I,vM];simp only[bef,Bool.and_true,decide_eq_true_eq]
   by_cases c:b≤t
   ·rw[if_neg (by omega),if_pos c,if_pos c];rfl
   ·rw[if_pos (by omega),if_neg c,if_neg c];simp
  ·rw[List.length_append]
   have:=a6J (some b) l
   cases w<;>simp<;>omega
 | some e=>
  have hbe:b<e:=by simpa[bef]using g
  have hF:=b0n e h;have bF:∀ s∈fromOn e l,e≤s.b:=fun s hs=>by
   obtain⟨r0,_,_,rfl⟩:=a4h hs
   show e≤(if e > r0.b then e else r0.b)
   split<;>omega
  dsimp only;refine⟨app (app hA hM fun r hr s hs=>?_) hF fun r hr s hs=>?_,fun t=>?_,?_⟩
  ·obtain⟨x,a1,a2⟩:=eA r hr;exact⟨x,a1,by rw[(mM s hs).1];exact a2⟩
  ·have hs':=bF s hs;rcases List.mem_append.mp hr with hr | hr
   ·obtain⟨x,a1,a2⟩:=eA r hr;exact⟨x,a1,by omega⟩
   ·exact⟨e,(mM r hr).2,hs'⟩
  ·rw[a1n,a1n,a6I,vM,b1F];simp only[bef,Bool.and_eq_true,decide_eq_true_eq]
   by_cases c1:b≤t
   ·by_cases c2:t<e
    ·rw[if_neg (by omega),if_pos ⟨c1,c2⟩,if_neg (by omega),if_pos ⟨c1,c2⟩];simp
    ·rw[if_neg (by omega),if_neg (by omega),if_pos (by omega),if_neg (by omega)];rfl
   ·rw[if_pos (by omega),if_neg (by omega),if_neg (by omega),if_neg (by omega)];simp
  ·rw[List.length_append,List.length_append]
   have:=a74 (b:=b) (e:=e) (by omega) h
   cases w<;>simp<;>omega
def a1e (puts:List Rw) (t:Int):Z:=match puts.reverse.find? (·.has t) with
 | some r=>r.w.headD .non
 | none=>.non
def optW (z:Z):Option (List Z):=if z=.non then none else some [z]
theorem a4L (puts:List Rw) (p:Rw) (t:Int):a1e (puts++[p]) t=if p.has t=true then p.w.headD .non else a1e puts t:=by
 unfold a1e;rw[List.reverse_append,List.reverse_cons,List.reverse_nil,List.nil_append,List.singleton_append,List.find?_cons];cases p.has t<;>rfl
theorem b1H {r:Rw}{b t:Int}(h:b≤t) (h1:r.b≤t->r.b≤b) (h2:∀ e,r.e=some e->e≤t->e≤b):r.has t=r.has b:=by
 unfold Rw.has;have e1:decide (r.b≤t)=decide (r.b≤b):=a0J (by rw[eq_iff_iff];omega);rw[e1]
 congr 1
 cases he:r.e with
 | none=>rfl
 | some e=>
  have:=h2 e he
  simp only[bef];exact a0J (by rw[eq_iff_iff];omega)
theorem a5n {f g:Rw->Bool}:∀ {l:List Rw},(∀ r∈l,f r=g r)->l.find? f=l.find? g
 | [],_=>rfl
 | r::l,h=>by rw[List.find?_cons,List.find?_cons,h r (.head _),a5n fun s hs=>h s (.tail _ hs)]
def a5X (l:List Rw) (b:Int) (e:Option Int) (w:Option (List Z)):List Rw:=join (a1K l b e w)
theorem b1I {l:List Rw}{b:Int}{e:Option Int}{w:Option (List Z)}(h:Rise l) (g:bef b e=true):Can (a5X l b e w)/\(∀ t,val (a5X l b e w) t=if (decide (b≤t)&&bef t e)=true then w else val l t)/\(a5X l b e w).length≤l.length+2:=by
 have a:=a6K (w:=w) h g;have j:=b3y a.1;exact⟨j.1,fun t=>by rw[<- a.2.1 t];exact j.2.1 t,Nat.le_trans j.2.2.1 a.2.2⟩
def okW (w:List Z):Prop:=w≠[]/\w.length≤4/\w.all (flat 4)=true
def OkR (l:List Rw):Prop:=∀ r∈l,okW r.w
theorem a1Z:∀ {n m:Nat}{z:Z},n≤m->flat n z=true->flat m z=true:=by
 intro n
 induction n with
 | zero=>intro m z _ h;cases z<;>first | (simp[flat]at h;done) | (cases m<;>simp_all[flat])
 | succ n ih=>
  intro m z hm h;cases m with
  | zero=>omega
  | succ m=>
   cases z with
   | tup ws=>
    simp only[flat,List.all_eq_true]at h ⊢;exact fun x hx=>ih (by omega) (h x hx)
   | _=>first | (simp[flat];done) | (simp[flat]at h;done) | (simp only[flat]at h ⊢;exact h)
theorem b1J {n m:Nat}{ws:List Z}(hm:n≤m) (h:ws.all (flat n)=true):ws.all (flat m)=true:=by
 rw[List.all_eq_true]at h ⊢;exact fun x hx=>a1Z hm (h x hx)
theorem b3B {n:Nat}{e:Option Int}:flat n (oz e)=true:=by
 cases e<;>cases n<;>rfl
theorem a75 {n:Nat}{i:Int}:flat n (.int i)=true:=by cases n<;>rfl
theorem b1K {n:Nat}:flat n .non=true:=by cases n<;>rfl
theorem b1L {r:Rw}(h:okW r.w):flat 5 r.z=true:=by
 show ((Z.int r.b::oz r.e::r.w).all (flat 4))=true
 rw[List.all_cons,List.all_cons,a75,b3B,h.2.2];rfl
theorem a4M {l:List Rw}(h:OkR l):(l.map Rw.z).all (flat 8)=true:=by
 rw[List.all_eq_true];intro x hx;obtain⟨r,hr,rfl⟩:=List.mem_map.mp hx;exact a1Z (by decide) (b1L (h r hr))
def wz:Option (List Z)->Z
 | none=>.non
 | some w=>w.headD .non
theorem b5V {G:Hq}{R:K3}{e:Option Int}{b:Int}(h:R (.bl (decide (e=some b))) G):zEq id (oz e) (.int b) G R:=by
 cases e with
 | none=>
  refine (show flat 8 (Z.non)=true/\flat 8 (Z.int b)=true/\R (.bl (id (decide (Z.non=Z.int b)))) G from ⟨b1K,a75,?_⟩)
  have:decide (Z.non=Z.int b)=decide (none=some b):=by simp
  rw[this];exact h
 | some e=>
  refine b5h ?_
  have:decide (e=b)=decide (some e=some b):=a0J (by simp)
  rw[this];exact h
theorem b7u {f:Bool->Bool}{G:Hq}{R:K3}{xs ys:List Z}(h1:flat 8 (.tup xs)=true) (h2:flat 8 (.tup ys)=true) (h:R (.bl (f (decide (xs=ys)))) G):zEq f (.tup xs) (.tup ys) G R:=by
 refine (show flat 8 (.tup xs)=true/\flat 8 (.tup ys)=true/\R (.bl (f (decide (Z.tup xs=Z.tup ys)))) G from ⟨h1,h2,?_⟩);rw[a0J (Z.tup.injEq _ _)];exact h
def a2m:P3:=fun ws G R=>∃ x y,ws=[oz x,oz y]/\R (oz (emin x y)) G
theorem a3K {ws:List Z}{G:Hq}{R:K3}(h:a2m ws G R):ws.length=2:=by obtain⟨_,_,rfl,_⟩:=h;rfl
theorem a39 (F:Fns K a) (T:Txt K mg a):FnOk P w K mg base CX0 1 a.f3 a.d3 ["end","other"] (lowP K a2m):=by
 refine fn3 F.n3 a34 (fun ws G R h=>(by exact a3K h)) (fun cdv A outer s H E ws G R hr h=>?_);have hu:=a02 hr;refine⟨_,(a0l (z_if (a0t o_is (a0b (pv 0)) a18 (a0r _))
  (a0p (a0G (a0b (pv 1))))
  a0V)
  (a0l (z_if (a0t o_is (a0b (pv 1)) a18 (a0r _))
  (a0p (a0G (a0b (pv 0))))
  a0V)
  (a0p (a0G (a0z (b_min rfl) rfl T.b_min rfl (a0c (a0b (pv 0)) (a0c (a0b (pv 1)) a0i a0a) a0a) (he:=a0a) (hpl:=(a0k a0a a0j))))))),?_⟩
 obtain⟨x,y,rfl,q⟩:=h;cases x with
 | none=>
  walk_at "go";cases y<;>exact q
 | some x=>
  cases y with
  | none=>
   walk_at "go";exact q
  | some y=>
   walk_at "go";exact q
theorem a5Y {α β:Type}{l:List α}{g:α->Z}{g':β->Z}{ok:Hq->Prop}{cap:List (Option Nat)}{pt:Pt}{tt:T3}{te:E3}{σ:S3}{R:K3}{D:Addr}{G1:Hq}(f:α->Option β) (hok:∀ ys,ok (put G1 D (.lst ys))) (hz:l.length≤1000)
  (turn:∀ x,x∈l->∀ (ys:List Z) (K1:K3) (K2:Hq->Prop),(∀ y,f x=some y->K1 (g' y) (put G1 D (.lst ys)))->(f x=none->K2 (put G1 D (.lst ys)))->∃ σ',a4U pt (g x) (cap3 cap σ)=some σ'/\tt σ' (put G1 D (.lst ys)) fun b G4=>if b=true then te σ' G4 K1 else K2 G4)
  (fin:R (.ref D) (put G1 D (.lst ((l.filterMap f).map g')))):LCB (l.map g) ok cap pt tt te σ R D G1:=by
 refine a8C (fun i ys G=>ys=((l.take i).filterMap f).map g'/\G=put G1 D (.lst ys)) ⟨by simp,rfl⟩ ?_ ?_ ?_
 ·rintro i ys G _ ⟨_,rfl⟩;exact hok ys
 ·rintro i x ys G hx ⟨e,rfl⟩;rw[List.getElem?_map]at hx;cases hx':l[i]? with
  | none=>rw[hx']at hx;cases hx
  | some a=>
   rw[hx']at hx;cases hx;refine turn a (List.mem_of_getElem? hx') ys _ _ (fun y hy=>⟨a0d,?_,?_,?_⟩) fun hn=>⟨?_,rfl⟩
   ·rw[e,List.length_map];exact Nat.lt_of_le_of_lt (Nat.le_trans (List.length_filterMap_le _ _) (by rw[List.length_take];omega)) (a0s (Nat.le_refl 1000))
   ·rw[a1G hx',hy,e,List.map_append];rfl
   ·rw[a1S]
   ·rw[a1G hx',hn,e];simp
 ·rintro ys G ⟨e,rfl⟩;rw[List.length_map,List.take_length]at e;rw[e];exact fin
def One (l:List Rw):Prop:=∀ r∈l,∃ x,r.w=[x]
def a3r:P3:=fun ws G R=>∃ p l m,ws=[.ref p,oz m]/\G p=some (.lst (l.map Rw.z))/\One l/\l.length≤1000/\∀ t,G t=none->R (.ref t) (put G t (.lst ((ahead m l).map Rw.z)))
theorem a4Y {ws:List Z}{G:Hq}{R:K3}(h:a3r ws G R):ws.length=2:=by obtain⟨_,_,_,rfl,_⟩:=h;rfl
theorem a5Z (F:Fns K a) (T:Txt K mg a):FnOk P w K mg base CX0 2 a.f7 a.d7 ["line","moment"] (lowP K a3r):=by
 have G_p_earlier_end:=a39 (P:=P) (w:=w) (base:=base) F T;refine fn3 F.n7 a5Q (fun ws G R h=>(by exact a4Y h)) (fun cdv A outer s H E ws G R hr h=>?_);have hu:=a02 hr;refine⟨_,(a0p (a0G (q_lc (N₀:=["line","moment"]) (so:=a0g a1I) (N':=["begin","end","worth","moment"]) (cap:=[none,none,none,some 1]) (pt:=(.tp [0,1,2])) rfl rfl rfl (by decide +kernel) rfl (a01 (a0b (pv 0))) (fun _ _ _ _=>(show QP _ _ (.tp [0,1,2]) from (a4m rfl (a0H (a0u (i:=0) a8K rfl (Or.inl rfl)) (a0H (a0u (i:=1) a8K rfl (Or.inl rfl)) (a0H (a0u (i:=2) a8K rfl (Or.inl rfl)) a2S)))))) (fun _ _ _ _=>(a3D (QW.qt (q_or (a0t o_is (a0b (pv 3)) a18 (a0r _)) (a4T (a0t o_lt (a0b (pv 0)) (a0b (pv 3)) (a0r _))))))) (fun _ _ _ _=>(a4t (a0c (a0b (pv 0)) (a0c (a0M G_p_earlier_end (hr.mono (by decide)) rfl T.m3 F.n3.kp (a37 F) (a0c (a0b (pv 1)) (a0c (a0b (pv 3)) a0i a0a) a0a) (he:=a0a) (hpl:=(a0k a0a a0j))) (a0c (a0b (pv 2)) a0i a0a) a0N) a0a)))))),?_⟩;obtain⟨p,l,m,rfl,hp,h1,hz,q⟩:=h;walk_at "go";refine a2z hp ?_;intro D hD;refine a5Y (a2R m) (fun ys=>a0n hp hD) hz ?_ (q D hD);intro r hr ys K1 K2 k1 k2;obtain⟨x,hx⟩:=h1 r hr;obtain⟨b,e,w⟩:=r;cases hx;refine⟨_,rfl,?_⟩;cases m with
 | none=>
  walk_at "go";refine⟨e,none,rfl,?_⟩;walk_at "go";refine⟨lenK rfl,?_⟩;exact k1 _ rfl
 | some m=>
  walk_at "go";refine ifD (fun c=>?_) fun c=>?_
  ·walk_at "go";refine⟨e,some m,rfl,?_⟩;walk_at "go";refine⟨lenK rfl,?_⟩;refine k1 ⟨b,emin e (some m),[x]⟩ ?_;unfold a2R;rw[if_pos (by simpa[bef]using c)]
  ·refine k2 ?_;unfold a2R;rw[if_neg (by simpa[bef]using c)]
def a3V:P3:=fun ws G R=>∃ p l m,ws=[.ref p,.int m]/\G p=some (.lst (l.map Rw.z))/\One l/\l.length≤1000/\∀ t,G t=none->R (.ref t) (put G t (.lst ((fromOn m l).map Rw.z)))
theorem a50 {ws:List Z}{G:Hq}{R:K3}(h:a3V ws G R):ws.length=2:=by obtain⟨_,_,_,rfl,_⟩:=h;rfl
theorem a6L (F:Fns K a) (T:Txt K mg a):FnOk P w K mg base CX0 1 a.f9 a.d9 ["line","moment"] (lowP K a3V):=by
 refine fn3 F.n9 a6F (fun ws G R h=>(by exact a50 h)) (fun cdv A outer s H E ws G R hr h=>?_);have hu:=a02 hr;refine⟨_,(a0p (a0G (q_lc (N₀:=["line","moment"]) (so:=a0g a2h) (N':=["begin","end","worth","moment"]) (cap:=[none,none,none,some 1]) (pt:=(.tp [0,1,2])) rfl rfl rfl (by decide +kernel) rfl (a01 (a0b (pv 0))) (fun _ _ _ _=>(show QP _ _ (.tp [0,1,2]) from (a4m rfl (a0H (a0u (i:=0) a8K rfl (Or.inl rfl)) (a0H (a0u (i:=1) a8K rfl (Or.inl rfl)) (a0H (a0u (i:=2) a8K rfl (Or.inl rfl)) a2S)))))) (fun _ _ _ _=>(a3D (QW.qt (q_or (a0t o_is (a0b (pv 1)) a18 (a0r _)) (a4T (a0t o_lt (a0b (pv 3)) (a0b (pv 1)) (a0r _))))))) (fun _ _ _ _=>(a4t (a0c (a0z (b_max rfl) rfl T.b_max rfl (a0c (a0b (pv 0)) (a0c (a0b (pv 3)) a0i a0a) a0a) (he:=a0a) (hpl:=(a0k a0a a0j))) (a0c (a0b (pv 1)) (a0c (a0b (pv 2)) a0i a0a) a0a) a0N)))))),?_⟩;obtain⟨p,l,m,rfl,hp,h1,hz,q⟩:=h;walk_at "go";refine a2z hp ?_;intro D hD;refine a5Y (a5W m) (fun ys=>a0n hp hD) hz ?_ (q D hD);intro r hr ys K1 K2 k1 k2;obtain⟨x,hx⟩:=h1 r hr;obtain⟨b,e,w⟩:=r;cases hx;refine⟨_,rfl,?_⟩;cases e with
 | none=>
  walk_at "go";refine⟨lenK rfl,?_⟩;exact k1 ⟨if m > b then m else b,none,[x]⟩ rfl
 | some e=>
  walk_at "go";refine ifD (fun c=>?_) fun c=>?_
  ·walk_at "go";refine⟨lenK rfl,?_⟩;refine k1 ⟨if m > b then m else b,some e,[x]⟩ ?_;unfold a5W;rw[if_pos (by simpa[bef]using c)]
  ·refine k2 ?_;unfold a5W;rw[if_neg (by simpa[bef]using c)]
theorem a7j {n:Nat}(h:0<n):ixN n (-1)=some (n - 1):=by
 unfold ixN;rw[if_neg (by decide),if_pos (by omega)]
 congr 1
 omega
theorem a51 {α:Type}{l:List α}{x:α}(h:l.getLast?=some x):atI l (-1)=some x:=by
 have hne:l≠[]:=fun z=>by subst z;simp at h
 unfold atI;rw[a7j (List.length_pos_iff.mpr hne)]
 show l[l.length - 1]?=some x
 rw[<- List.getLast?_eq_getElem?];exact h
theorem a76 {α:Type}{l:List α}{x y:α}(h:l.getLast?=some x):l.set (l.length - 1) y=l.dropLast++[y]:=by
 have hs:=a3p h;generalize l.dropLast=i at hs;subst hs;simp
theorem sIx2 {a b:Z}{w:List Z}:HT.sIx (a::b::w).length 0 (some 2)=2:=by
 have:=HT.sIx_nat (a::b::w).length 0 2
 rw[show ((2:Nat):Int)=2 from rfl]at this;rw[this];simp
theorem cut2 {a b:Z}{w:List Z}:cutZ (a::b::w) (some 2) none=w:=by
 unfold cutZ;rw[sIx2,HT.sIx_none];simp
theorem b0o {a b:Z}{w:List Z}:¬ (HT.sIx (a::b::w).length 0 (some 2)=0/\HT.sIx (a::b::w).length (a::b::w).length none=(a::b::w).length):=by
 rw[sIx2];intro h;exact absurd h.1 (by decide)
def a0R:P3:=fun ws G R=>∃ p ps,ws=[.ref p]/\G p=some (.lst (ps.map Rw.z))/\OkR ps/\ps.length≤1000/\∀ t,G t=none->R (.ref t) (put G t (.lst ((join ps).map Rw.z)))
theorem a2j {ws:List Z}{G:Hq}{R:K3}(h:a0R ws G R):ws.length=1:=by obtain⟨_,_,rfl,_⟩:=h;rfl
theorem b3C {G:Hq}{R:K3}{a b:Z}{w:List Z}(h:R (.tup w) G):zSl (.tup (a::b::w)) (some 2) none G R:=a9Y b0o (by rw[cut2];exact h)
theorem b0p {w:List Z}(h:okW w):flat 8 (.tup w)=true:=b1J (n:=4) (m:=7) (by decide) h.2.2
theorem a77:∀ (ps told:List Rw),OkR told->OkR ps->OkR (ps.foldl jn told)
 | [],_,h,_=>h
 | p::ps,told,h,h'=>by
  refine a77 ps (jn told p) (fun r hr=>?_) fun r hr=>h' r (.tail _ hr);unfold jn at hr
  split at hr
  ·next l hl=>
   split at hr
   ·rcases List.mem_append.mp hr with hr | hr
    ·exact h r (List.dropLast_subset _ hr)
    ·rw[List.mem_singleton.mp hr];exact h' p (.head _)
   ·rcases List.mem_append.mp hr with hr | hr
    ·exact h r hr
    ·rw[List.mem_singleton.mp hr];exact h' p (.head _)
  ·rcases List.mem_append.mp hr with hr | hr
   ·exact h r hr
   ·rw[List.mem_singleton.mp hr];exact h' p (.head _)
theorem b5W (told:List Rw) (p:Rw):(jn told p).length≤told.length+1:=by
 unfold jn
 split
 ·split<;>simp
 ·simp
theorem a78:∀ (ps told:List Rw),(ps.foldl jn told).length≤told.length+ps.length
 | [],told=>by simp
 | p::ps,told=>by
  have h1:=a78 ps (jn told p);have h2:=b5W told p
  show (ps.foldl jn (jn told p)).length≤_
  rw[List.length_cons];omega
theorem b0q {ps:List Rw}{i:Nat}{p:Rw}(h:ps[i]?=some p):(ps.take (i+1)).foldl jn []=jn ((ps.take i).foldl jn []) p:=by
 rw[List.take_add_one,h];simp[List.foldl_append]
theorem a2u (F:Fns K a) (T:Txt K mg a):FnOk P w K mg base CX0 1 a.f8 a.d8 ["pieces"] (lowP K a0R):=by
 refine fn3 F.n8 sc_p_with_alike_joined (fun ws G R h=>(by exact a2j h)) (fun cdv A outer s H E ws G R hr h=>?_);have hu:=a02 hr;refine⟨_,(a0l (a0Z (i:=1) sc_p_with_alike_joined.nd rfl (Or.inl rfl) (a2a a0i))
  (a0l (a2X (pt:=(.nm 2)) PassesOwn.never rfl (a01 (a0b (pv 0))) (show QP _ _ (.nm 2) from (a0u (i:=2) sc_p_with_alike_joined.nd rfl (Or.inl rfl)))
  (a0p (z_if (QW.qt (a30 (b4Q (a0b (pv 1)) (fun _=>rfl)) (a30 (a0t (o_eq hu) (q_ix x_ix (q_ix x_ix (a0b (pv 1)) (q_un a2b a0f) (fun _ _=>rfl)) a0f (fun _ _=>rfl)) (q_ix x_ix (a0b (pv 2)) a0f (fun _ _=>rfl)) (a0r _)) (a3a (a0t (o_eq hu) (a1h x_sl (q_ix x_ix (a0b (pv 1)) (q_un a2b a0f) (fun _ _=>rfl)) (a1w a0f) a1o) (a1h x_sl (a0b (pv 2)) (a1w a0f) a1o) (a0r _))))))
  (a0p (a5d (q_op a1Y (a4t (a0c (q_ix x_ix (q_ix x_ix (a0b (pv 1)) (q_un a2b a0f) (fun _ _=>rfl)) a0f (fun _ _=>rfl)) (a0c (q_ix x_ix (a0b (pv 2)) a0f (fun _ _=>rfl)) a0i a0h) a0h)) (a1h x_sl (a0b (pv 2)) (a1w a0f) a1o)) (a0b (pv 1)) (q_un a2b a0f) b3a))
  (a0p (a05 (q_bm PySem.F.plainAttrs_list PySem.F.slot_list_append PySem.F.type_list_append a1p (a0b (pv 1)) (a0c (a0b (pv 2)) a0i a0a)))))))
  (a0p (a0G (a0b (pv 1)))))),?_⟩
 obtain⟨p,ps,rfl,hp,hok,hz,q⟩:=h;walk_at "go";refine⟨lenK rfl,fun t ht=>?_⟩;walk_at "go";refine a2z (a0n hp ht) ?_;refine a06 (fun i σ G'=>∃ v,σ=[some (.ref p),some (.ref t),v]/\G'=put G t (.lst (((ps.take i).foldl jn []).map Rw.z))) ⟨_,rfl,by simp⟩ (by rintro i σ G' _ ⟨v,_,e⟩;exact by rw[e];exact a0n hp ht) ?_ ?_
 ·rintro i x σ G' hx ⟨v,rfl,rfl⟩;rw[List.getElem?_map]at hx;cases hx':ps[i]? with
  | none=>rw[hx']at hx;cases hx
  | some r=>
   rw[hx']at hx;cases hx;have hr:=hok r (List.mem_of_getElem? hx');have hot:OkR ((ps.take i).foldl jn []):=a77 _ _ (fun r hr=>by simp at hr) fun r hr=>hok r (List.mem_of_mem_take hr);have hlt:=a78 (ps.take i) [];rw[List.length_take]at hlt;have hi:=(List.getElem?_eq_some_iff.mp hx').1;rw[b0q hx'];generalize (ps.take i).foldl jn []=told at hot hlt ⊢;simp only[List.length_nil]at hlt;refine⟨_,rfl,?_⟩;have app:∀ G',G'=put G t (.lst (told.map Rw.z))->jn told r=told++[r]->a63 (.ref t) [r.z] G' (fun _ G1=>∃ v,([some (.ref p),some (.ref t),some r.z]:S3)=[some (.ref p),some (.ref t),v]/\G1=put G t (.lst ((jn told r).map Rw.z))):=by
    rintro _ rfl e;refine a07 a0d (by rw[List.length_map];exact a0s (by omega)) ⟨_,rfl,?_⟩;rw[a1S,e,List.map_append]
    rfl
   walk_at "go";refine b2c a0d ?_;cases hl:told.getLast? with
   | none=>
    have e0:told=[]:=List.getLast?_eq_none_iff.mp hl;subst e0;refine ifF ?_;walk_at "go";refine a3c a0d ?_;walk_at "go";exact app _ rfl (by unfold jn;rw[hl])
   | some k=>
    have hne:told≠[]:=fun z=>by subst z;simp at hl
    have hlm:(told.map Rw.z).getLast?=some k.z:=by rw[List.getLast?_map,hl];rfl
    have he:(told.map Rw.z).isEmpty=false:=by cases told with | nil=>exact absurd rfl hne | cons _ _=>rfl
    have hk:=hot k (List.mem_of_getLast? hl);rw[he];refine ifT ?_;walk_at "go";refine a0D a0d (a51 hlm) ?_;walk_at "go";refine a33 at1 ?_;walk_at "go";refine a33 at0 ?_;refine b5V ?_;walk_at "go";refine ifD (fun c1=>?_) fun c1=>?_
    ·walk_at "go";refine a0D a0d (a51 hlm) ?_;walk_at "go";refine b3C ?_;walk_at "go";refine b3C ?_;refine b7u (b0p hk) (b0p hr) ?_;walk_at "go";refine ifD (fun c2=>?_) fun c2=>?_
     ·walk_at "go";refine a0D a0d (a51 hlm) ?_;walk_at "go";refine a33 at0 ?_;walk_at "go";refine a33 at1 ?_;walk_at "go";refine⟨lenK rfl,?_⟩;walk_at "go";refine b3C ?_;refine b5f (by simp) (a3o (by have:=hr.2.1;simp;omega)) ?_;walk_at "go";refine b3f a0d (a7j (by rw[List.length_map];exact List.length_pos_iff.mpr hne)) ?_;refine⟨_,rfl,?_⟩;rw[a1S,a76 hlm]
      congr 1
      unfold jn;rw[hl];dsimp only;rw[if_pos ⟨c1,c2⟩,List.map_append,List.map_dropLast]
      rfl
     ·walk_at "go";refine a3c a0d ?_;walk_at "go";exact app _ rfl (by unfold jn;rw[hl];dsimp only;rw[if_neg fun z=>c2 z.2])
    ·refine ifF ?_;walk_at "go";refine a3c a0d ?_;walk_at "go";exact app _ rfl (by unfold jn;rw[hl];dsimp only;rw[if_neg fun z=>c1 z.1])
 ·rintro σ G' ⟨v,rfl,rfl⟩;walk_at "go";rw[List.length_map,List.take_length];exact q t ht
theorem Rise.drop {l:List Rw}(h:Rise l) (k:Nat):Rise (l.drop k):=⟨fun r hr=>h.1 r (List.mem_of_mem_drop hr),h.2.sublist (List.drop_sublist _ _)⟩
theorem drop_get {α:Type}{l:List α}{k:Nat}{x:α}(h:l[k]?=some x):l.drop k=x::l.drop (k+1):=by
 obtain⟨h1,h2⟩:=List.getElem?_eq_some_iff.mp h;rw[List.drop_eq_getElem_cons h1,h2]
theorem b0r {l:List Rw}{k:Nat}{r:Rw}(h:l[k]?=some r):atI (l.map Rw.z) (k:Int)=some r.z:=a13 (by rw[List.getElem?_map,h];rfl)
theorem take_snoc {α:Type}{l:List α}{i:Nat}{x:α}(h:l[i]?=some x):l.take (i+1)=l.take i++[x]:=by rw[List.take_add_one,h];rfl
theorem b0s {m:Option Int}{l:List Rw}(h:OkR l):OkR (ahead m l):=fun x hx=>by
 obtain⟨r,h1,_,rfl⟩:=a3q hx;exact h r h1
theorem b1M {m:Int}{l:List Rw}(h:OkR l):OkR (fromOn m l):=fun x hx=>by
 obtain⟨r,h1,_,rfl⟩:=a4h hx;exact h r h1
def okV (z:Z):Prop:=flat 4 z=true
theorem b5X {z:Z}(h:okV z):okW [z]:=⟨by simp,by simp,by rw[List.all_cons,show flat 4 z=true from h];rfl⟩
theorem a8Q {l:List Rw}{b:Int}{e:Option Int}{z:Z}(h:OkR l) (hz:okV z):OkR (a1K l b e (optW z)):=by
 intro r hr;unfold a1K at hr;rcases List.mem_append.mp hr with hr | hr
 ·rcases List.mem_append.mp hr with hr | hr
  ·exact b0s h r hr
  ·unfold optW at hr
   split at hr
   ·next w e=>
          split at e
          ·cases e
          ·cases e;rw[List.mem_singleton.mp hr];exact b5X hz
   ·simp at hr
 ·cases e with
  | none=>simp at hr
  | some e=>exact b1M h r hr
def a4N:P3:=fun ws G R=>Ex5 fun p l b e z=>ws=[.ref p,.int b,oz e,z]/\G p=some (.lst (l.map Rw.z))/\Rise l/\OkR l/\One l/\l.length≤900/\bef b e=true/\okV z /\
 ∀ t G',G t=none->Sm G G'->G' t=some (.lst ((a5X l b e (optW z)).map Rw.z))->R (.ref t) G'
theorem a6M {ws:List Z}{G:Hq}{R:K3}(h:a4N ws G R):ws.length=4:=by obtain⟨_,_,_,_,_,rfl,_⟩:=h;rfl
theorem a7k (F:Fns K a) (T:Txt K mg a):FnOk P w K mg base CX0 3 a.f10 a.d10 ["line","begin","end","worth"] (lowP K a4N):=by
 have G_p_ahead_of:=a5Z (P:=P) (w:=w) (base:=base) F T;have G_p_with_alike_joined:=a2u (P:=P) (w:=w) (base:=base) F T;have G_p_from_on:=a6L (P:=P) (w:=w) (base:=base) F T;refine fn3 F.n10 sc_p_put_on (fun ws G R h=>(by exact a6M h)) (fun cdv A outer s H E ws G R hr h=>?_);have hu:=a02 hr;refine⟨_,(a0l (a0Z (i:=4) sc_p_put_on.nd rfl (Or.inl rfl) (a0M G_p_ahead_of (hr.mono (by decide)) rfl T.m7 F.n7.kp (a5R F) (a0c (a0b (pv 0)) (a0c (a0b (pv 1)) a0i a0a) a0a) (he:=a0a) (hpl:=(a0k a0a a0j))))
  (b1h (z_if (a0t a5I (a0b (pv 3)) a18 (a0r _))
  (a0p (a05 (q_bm PySem.F.plainAttrs_list PySem.F.slot_list_append PySem.F.type_list_append a1p (a0b (pv 4)) (a0c (a4t (a0c (a0b (pv 1)) (a0c (a0b (pv 2)) (a0c (a0b (pv 3)) a0i a0a) a0a) a0a)) a0i a3b))))
  a0V)
  (b1h (z_if (a0t a5I (a0b (pv 2)) a18 (a0r _))
  (a0p (a05 (q_bm PySem.F.plainAttrs_list PySem.F.slot_list_extend PySem.F.type_list_extend b1l (a0b (pv 4)) (a0c (a0M G_p_from_on (hr.mono (by decide)) rfl T.m9 F.n9.kp (a6H F) (a0c (a0b (pv 0)) (a0c (a0b (pv 2)) a0i a0a) a0a) (he:=a0a) (hpl:=(a0k a0a a0j))) a0i a0N))))
  a0V)
  (a0p (a0G (a0M G_p_with_alike_joined (hr.mono (by decide)) rfl T.m8 F.n8.kp (a2t F) (a0c (a0b (pv 4)) a0i a0a) (he:=a0a) (hpl:=a0j))))))),?_⟩
 obtain⟨p,l,b,e,z,rfl,hp,hr,hok,h1,hz,g,hv,q⟩:=h;have hpc:=(a6K (w:=optW z) hr g).2.2;walk_at "go";refine⟨p,l,some b,rfl,hp,h1,by omega,fun t ht=>?_⟩;walk_at "go";have la:=a6J (some b) l;refine b1n (fun σ' G'=>σ'=[some (.ref p),some (.int b),some (oz e),some z,some (.ref t)]/\G'=put G t (.lst ((ahead (some b) l++(match optW z with | some w=>[(⟨b,e,w⟩:Rw)] | none=>[])).map Rw.z))) ?_ ?_
 ·walk_at "go";refine ifN (fun c=>?_) fun c=>?_
  ·walk_at "go";refine a3c a0d ?_;walk_at "go";refine⟨lenK rfl,?_⟩;walk_at "go";refine a07 a0d (by rw[List.length_map];exact a0s (by omega)) ⟨rfl,?_⟩;rw[a1S,optW,if_neg c,List.map_append];rfl
  ·walk_at "go";refine⟨rfl,?_⟩;rw[optW,if_pos c];simp
 ·rintro σ' G' ⟨rfl,rfl⟩;have hp1:∀ o,put G t o p=some (.lst (l.map Rw.z)):=fun o=>a0n hp ht;have fin:∀ G' ,Sm G G'->G' t=some (.lst ((a1K l b e (optW z)).map Rw.z))->a0R [.ref t] G' R:=fun G' s ht'=>by
   refine⟨t,_,rfl,ht',a8Q hok hv,by omega,fun u hu=>?_⟩;exact q u _ (s.free hu) (s.trans (Sm.new hu)) a0d
  refine b1n (fun σ' G'=>σ'=[some (.ref p),some (.int b),some (oz e),some z,some (.ref t)]/\Sm G G'/\G' t=some (.lst ((a1K l b e (optW z)).map Rw.z))) ?_ ?_
  ·cases e with
   | none=>
    walk_at "go";refine⟨rfl,Sm.new ht,?_⟩;unfold a1K;rw[List.append_nil];exact a0d
   | some e=>
    walk_at "go";refine a3c a0d ?_;walk_at "go";refine⟨p,l,e,rfl,hp1 _,h1,by omega,fun u hu=>?_⟩;have hut:t≠u:=fun z=>by subst z;rw[a0d]at hu;cases hu
    have hpl:(a1K l b (some e) (optW z)).length=(ahead (some b) l++(match optW z with | some w=>[(⟨b,some e,w⟩:Rw)] | none=>[])).length+(fromOn e l).length:=by
     unfold a1K;exact List.length_append
    generalize hA:(ahead (some b) l++(match optW z with | some w=>[(⟨b,some e,w⟩:Rw)] | none=>[]))=A at hu hpl ⊢
    have e1:put (put G t (.lst (A.map Rw.z))) u (.lst ((fromOn e l).map Rw.z)) t=some (.lst (A.map Rw.z)):=by rw[a0B hut];exact a0d
    walk_at "go";refine b1o e1 a0d (by rw[List.length_map,List.length_map];exact a3o (by omega)) ?_;refine⟨rfl,?_,?_⟩
    ·exact ((Sm.new ht).trans (Sm.new hu)).put ht
    ·rw[a0d,<- List.map_append,<- hA]
     rfl
  ·rintro σ' G' ⟨rfl,s,ht'⟩;walk_at "go";exact fin G' s ht'
def okS (s:Str):Prop:=s.length≤1000/\PyData.strOk s=true
def Th (G:Hq):Z->Prop
 | .non=>True
 | .bl _=>True
 | .int _=>True
 | .str s=>okS s
 | .tup _=>True
 | .ref p=>(∃ ws,G p=some (.lst ws))\/∃ kvs,G p=some (.dK kvs)
 | _=>False
theorem Th.sm {G G':Hq}(s:Sm G G') {x:Z}(h:Th G x):Th G' x:=by
 cases x with
 | ref p=>
  rcases h with ⟨ws,e⟩ | ⟨ws,e⟩
  ·exact .inl ⟨ws,s _ _ e⟩
  ·exact .inr ⟨ws,s _ _ e⟩
 | _=>exact h
structure Kd (G:Hq) (x:Z) (n:String):Prop where
 ty:tyN G x=some n
 is:n="NoneType"\/n="bool"\/n="int"\/n="str"\/n="tuple"\/n="list"\/n="dict"
theorem Th.kd {G:Hq}{x:Z}(h:Th G x):∃ n,Kd G x n:=by
 cases x with
 | non=>exact⟨_,rfl,.inl rfl⟩
 | bl _=>exact⟨_,rfl,.inr (.inl rfl)⟩
 | int _=>exact⟨_,rfl,.inr (.inr (.inl rfl))⟩
 | str _=>exact⟨_,rfl,.inr (.inr (.inr (.inl rfl)))⟩
 | tup _=>exact⟨_,rfl,.inr (.inr (.inr (.inr (.inl rfl))))⟩
 | ref p=>
  rcases h with ⟨ws,e⟩ | ⟨ws,e⟩
  ·exact⟨"list",by simp[tyN,e],.inr (.inr (.inr (.inr (.inr (.inl rfl)))))⟩
  ·exact⟨"dict",by simp[tyN,e],.inr (.inr (.inr (.inr (.inr (.inr rfl)))))⟩
 | _=>exact False.elim h
theorem b3D {n:String}(h:n="NoneType"\/n="bool"\/n="int"\/n="str"\/n="tuple"\/n="list"\/n="dict"):kit0 n "str"=some (decide (n="str")):=by
 rcases h with rfl | rfl | rfl | rfl | rfl | rfl | rfl<;>decide +kernel
theorem b1N {n:String}(h:n="NoneType"\/n="bool"\/n="int"\/n="str"\/n="tuple"\/n="list"\/n="dict"):kit0 n "bool"=some (decide (n="bool")):=by
 rcases h with rfl | rfl | rfl | rfl | rfl | rfl | rfl<;>decide +kernel
theorem b3E {n:String}(h:n="NoneType"\/n="bool"\/n="int"\/n="str"\/n="tuple"\/n="list"\/n="dict"):kit0 n "int"=some (decide (n="int")||decide (n="bool")):=by
 rcases h with rfl | rfl | rfl | rfl | rfl | rfl | rfl<;>decide +kernel
def isS:Z->Bool
 | .str _=>true
 | _=>false
def isB:Z->Bool
 | .bl _=>true
 | _=>false
def isI:Z->Bool
 | .int _=>true
 | .bl _=>true
 | _=>false
theorem b7v {G:Hq}{R:K3}{x:Z}(h:Th G x) (q:R (.bl (isS x)) G):zIsT [x,.ty "str"] G R:=by
 obtain⟨n,k⟩:=h.kd;refine⟨n,_,k.ty,b3D k.is,?_⟩;have e:decide (n="str")=isS x:=by
  have:=k.ty
  cases x with
  | ref p=>rcases h with ⟨ws,e⟩ | ⟨ws,e⟩<;>(simp[tyN,e]at this;subst this;show _=false;decide)
  | _=>first | (cases this;show _=false;decide;done) | (cases this;show _=true;decide;done) | exact False.elim h
 rw[e];exact q
theorem b5Y {G:Hq}{R:K3}{x:Z}(h:Th G x) (q:R (.bl (isB x)) G):zIsT [x,.ty "bool"] G R:=by
 obtain⟨n,k⟩:=h.kd;refine⟨n,_,k.ty,b1N k.is,?_⟩;have e:decide (n="bool")=isB x:=by
  have:=k.ty
  cases x with
  | ref p=>rcases h with ⟨ws,e⟩ | ⟨ws,e⟩<;>(simp[tyN,e]at this;subst this;show _=false;decide)
  | _=>first | (cases this;show _=false;decide;done) | (cases this;show _=true;decide;done) | exact False.elim h
 rw[e];exact q
theorem b5Z {G:Hq}{R:K3}{x:Z}(h:Th G x) (q:R (.bl (isI x)) G):zIsT [x,.ty "int"] G R:=by
 obtain⟨n,k⟩:=h.kd;refine⟨n,_,k.ty,b3E k.is,?_⟩;have e:(decide (n="int")||decide (n="bool"))=isI x:=by
  have:=k.ty
  cases x with
  | ref p=>rcases h with ⟨ws,e⟩ | ⟨ws,e⟩<;>(simp[tyN,e]at this;subst this;show _=false;decide)
  | _=>first | (cases this;show _=false;decide;done) | (cases this;show _=true;decide;done) | exact False.elim h
 rw[e];exact q
def okC (c:Nat):Bool:=decide (97≤c)&&decide (c≤122)
def a2L:Z->Bool
 | .str s=>decide (1≤s.length)&&decide (s.length≤8)&&s.cps.toList.all okC
 | _=>false
def momB:Z->Bool
 | .int i=>decide (0≤i)&&decide (i≤1000000000000)
 | _=>false
theorem a52 {i:Int}:momB (.int i)=(decide (0≤i)&&decide (i≤1000000000000)):=rfl
def strB (x y:Z):Bool:=momB x&&match y with
 | .non=>true
 | .int j=>momB (.int j)&&match x with | .int i=>decide (i<j) | _=>false
 | _=>false
def spB1 (f:Z->Bool):P3:=fun ws G R=>∃ x,ws=[x]/\Th G x/\∀ G',Sm G G'->R (.bl (f x)) G'
theorem b50 {f:Z->Bool}{ws:List Z}{G:Hq}{R:K3}(h:spB1 f ws G R):ws.length=1:=by obtain⟨_,rfl,_⟩:=h;rfl
def spB2 (f:Z->Z->Bool):P3:=fun ws G R=>∃ x y,ws=[x,y]/\Th G x/\Th G y/\∀ G',Sm G G'->R (.bl (f x y)) G'
theorem b7w {f:Z->Z->Bool}{ws:List Z}{G:Hq}{R:K3}(h:spB2 f ws G R):ws.length=2:=by obtain⟨_,_,rfl,_⟩:=h;rfl
abbrev a6N:P3:=spB1 a2L
abbrev a4Z:P3:=spB1 momB
abbrev a4O:P3:=spB2 strB
theorem b0t (a b:Nat):ltS ⟨#[a]⟩ ⟨#[b]⟩=decide (a<b):=by
 show decide ([a]<[b])=decide (a<b)
 by_cases h:a<b
 ·rw[decide_eq_true h];exact decide_eq_true (List.cons_lt_cons_iff.mpr (.inl h))
 ·rw[decide_eq_false h];refine decide_eq_false fun q=>?_;rcases List.cons_lt_cons_iff.mp q with q | q
  ·exact h q
  ·exact absurd q.2 (List.not_lt_nil _)
theorem strA:(Str.ofString "a")=⟨#[97]⟩:=by decide +kernel
theorem strZ:(Str.ofString "z")=⟨#[122]⟩:=by decide +kernel
theorem b1O (x:Str) (g:Nat->Option Z) (f:Z->Option Z) (h:∀ c,f (.str ⟨#[c]⟩)=g c):(a32 x).filterMap f=x.cps.toList.filterMap g:=by
 unfold a32;rw[List.filterMap_map]
 congr 1
 funext c
 exact h c
theorem b0u {x:Str}(h:x.length≤1000):(a32 x).length≤1000:=by unfold a32;rw[List.length_map,Array.length_toList];exact h
theorem b51 (l:List Nat):(l.filterMap fun c=>some (Z.bl (okC c)))=(l.map okC).map Z.bl:=by
 induction l with
 | nil=>rfl
 | cons c l ih=>simp[List.filterMap_cons,ih]
theorem b3F (l:List Nat):(l.map okC).all id=l.all okC:=by
 induction l with
 | nil=>rfl
 | cons c l ih=>simp[List.all_cons,ih]
theorem a4i {s:Str}:a2L (.str s)=(decide (1≤s.length)&&decide (s.length≤8)&&s.cps.toList.all okC):=rfl
theorem a6O (F:Fns K a) (T:Txt K mg a):FnOk P w K mg base CX0 1 a.f0 a.d0 ["thing"] (lowP K a6N):=by
 refine fn3 F.n0 a6E (fun ws G R h=>(by exact b50 h)) (fun cdv A outer s H E ws G R hr h=>?_);have hu:=a02 hr;refine⟨_,(a0l (z_if (a2l (a2W (a0z a5J rfl T.b_isinstance rfl (a0c (a0b (pv 0)) (a0c (q_ty (a12 (v:=.ty "str") rfl T.b_str rfl rfl)) a0i a0a) a0a) (he:=a0a) (hpl:=(a0k a0a a0j)))))
  (a0p (a0G q_bl))
  a0V)
  (a0l (z_if (QW.qt (q_or (a0t o_lt (a0z b_len rfl T.b_len PySem.boot_len (a0c (a0b (pv 0)) a0i a0a) (he:=a0a) (hpl:=a0j)) a0f (a0r _)) (a4T (a0t o_gt (a0z b_len rfl T.b_len PySem.boot_len (a0c (a0b (pv 0)) a0i a0a) (he:=a0a) (hpl:=a0j)) (b13 (a72 rfl T.c_LONGEST_NAME)) (a0r _)))))
  (a0p (a0G q_bl))
  a0V)
  (a0p (a0G (a0z (b_all rfl) rfl T.b_all rfl (a0c (q_lc (N₀:=["thing"]) (so:=a0g a2f) (N':=["sign"]) (cap:=[none]) (pt:=(.nm 0)) rfl rfl rfl (by decide +kernel) rfl (b46 (a0b (pv 0))) (fun _ _ _ _=>(show QP _ _ (.nm 0) from (a0u (i:=0) b7n rfl (Or.inl rfl)))) (fun _ _ _ _=>a5H) (fun _ _ _ _=>(a9D o_le o_le a3Z (a0b (pv 0)) a3Z))) a0i a1z) (he:=a1z) (hpl:=a0j)))))),?_⟩
 obtain⟨x,rfl,hx,q⟩:=h;walk_at "go";refine b7v hx ?_;walk_at "go";refine ifNB (fun c=>?_) fun c=>?_
 ·walk_at "go";have e:a2L x=false:=by cases x<;>first | rfl | cases c
  have:=q G (Sm.refl G)
  rw[e]at this;exact this
 ·obtain⟨s,rfl⟩:∃ s,x=.str s:=by cases x<;>first | exact⟨_,rfl⟩ | cases c
  have hs:okS s:=hx;walk_at "go";refine a7K (a3o hs.1) ?_;walk_at "go";have no:a2L (.str s)=false->R (.bl false) G:=fun e=>by have:=q G (Sm.refl G);rw[e]at this;exact this
  refine ifD (fun c1=>?_) fun c1=>?_
  ·walk_at "go";exact no (by rw[a4i,decide_eq_false (show ¬ 1≤s.length by omega)];rfl)
  ·walk_at "go";refine a7K (a3o hs.1) ?_;walk_at "go";refine ifD (fun c2=>?_) fun c2=>?_
   ·walk_at "go";exact no (by rw[a4i,decide_eq_false (show ¬ s.length≤8 by omega),Bool.and_false];rfl)
   ·walk_at "go";intro D hD;refine b22 (fun x=>match x with | .str z=>some (.bl (!ltS z (Str.ofString "a")&&!ltS (Str.ofString "z") z)) | _=>none) (fun _=>True.intro) (b0u hs.1) ?_ ?_
    ·intro x hm ys K1 K2 k1 k2;unfold a32 at hm;obtain⟨c,_,rfl⟩:=List.mem_map.mp hm;refine⟨_,rfl,?_⟩;walk_at "go";refine ifB (fun z=>?_) fun z=>?_
     ·walk_at "go";refine k1 _ ?_;dsimp only;rw[z];rfl
     ·refine k1 _ ?_;dsimp only;rw[z];rfl
    ·have e:(a32 s).filterMap (fun x=>match x with | .str z=>some (.bl (!ltS z (Str.ofString "a")&&!ltS (Str.ofString "z") z)) | _=>none)=(s.cps.toList.map okC).map Z.bl:=by
      rw[b1O s (fun c=>some (.bl (okC c))) _ fun c=>?_,b51];dsimp only;rw[strA,strZ,b0t,b0t];unfold okC
      congr 2
      by_cases h1:c<97<;>by_cases h2:122<c<;>simp[h1,h2]<;>omega
     have e2:a2L (.str s)=s.cps.toList.all okC:=by rw[a4i,decide_eq_true (show 1≤s.length by omega),decide_eq_true (show s.length≤8 by omega),Bool.true_and,Bool.true_and]
     refine b6Z (by rw[e];exact a0d) ?_;rw[b3F,<- e2];exact q _ (Sm.new hD)
theorem a40 (F:Fns K a) (T:Txt K mg a):FnOk P w K mg base CX0 1 a.f1 a.d1 ["thing"] (lowP K a4Z):=by
 refine fn3 F.n1 a4W (fun ws G R h=>(by exact b50 h)) (fun cdv A outer s H E ws G R hr h=>?_);have hu:=a02 hr;refine⟨_,(a0l (z_if (QW.qt (q_or (a2W (a0z a5J rfl T.b_isinstance rfl (a0c (a0b (pv 0)) (a0c (q_ty (a12 (v:=.ty "bool") rfl T.b_bool rfl rfl)) a0i a0a) a0a) (he:=a0a) (hpl:=(a0k a0a a0j)))) (a4T (a2l (a2W (a0z a5J rfl T.b_isinstance rfl (a0c (a0b (pv 0)) (a0c (q_ty (a12 (v:=.ty "int") rfl T.b_int rfl rfl)) a0i a0a) a0a) (he:=a0a) (hpl:=(a0k a0a a0j))))))))
  (a0p (a0G q_bl))
  a0V)
  (a0p (a0G (a9D o_le o_le a0f (a0b (pv 0)) (b13 (a72 rfl T.c_LAST_MOMENT)))))),?_⟩
 obtain⟨x,rfl,hx,q⟩:=h;have no:momB x=false->R (.bl false) G:=fun e=>by have:=q G (Sm.refl G);rw[e]at this;exact this
 walk_at "go";refine b5Y hx ?_;walk_at "go";refine ifB (fun c=>?_) fun c=>?_
 ·walk_at "go";exact no (by cases x<;>first | rfl | cases c)
 ·walk_at "go";refine b5Z hx ?_;walk_at "go";refine ifNB (fun c2=>?_) fun c2=>?_
  ·walk_at "go";exact no (by cases x<;>first | rfl | cases c2)
  ·obtain⟨i,rfl⟩:∃ i,x=.int i:=by cases x<;>first | exact⟨_,rfl⟩ | (cases c;done) | (cases c2;done)
   walk_at "go";refine ifD (fun z=>?_) fun z=>?_
   ·walk_at "go"
    have:=q G (Sm.refl G)
    rw[a52,decide_eq_true z,Bool.true_and]at this;exact this
   ·exact no (by rw[a52,decide_eq_false z];rfl)
theorem a4P (F:Fns K a) (T:Txt K mg a):FnOk P w K mg base CX0 2 a.f2 a.d2 ["begin","end"] (lowP K a4O):=by
 have G_p_is_moment:=a40 (P:=P) (w:=w) (base:=base) F T;refine fn3 F.n2 a4I (fun ws G R h=>(by exact b7w h)) (fun cdv A outer s H E ws G R hr h=>?_);have hu:=a02 hr;refine⟨_,(a0l (z_if (a2l (a2W (a0M G_p_is_moment (hr.mono (by decide)) rfl T.m1 F.n1.kp (a2Q F) (a0c (a0b (pv 0)) a0i a0a) (he:=a0a) (hpl:=a0j))))
  (a0p (a0G q_bl))
  a0V)
  (a0l (z_if (a0t o_is (a0b (pv 1)) a18 (a0r _))
  (a0p (a0G q_bl))
  a0V)
  (a0p (a0G (b14 (a0M G_p_is_moment (hr.mono (by decide)) rfl T.m1 F.n1.kp (a2Q F) (a0c (a0b (pv 1)) a0i a0a) (he:=a0a) (hpl:=a0j)) (b4P (a9A o_lt (a0b (pv 0)) (a0b (pv 1)) (a0r _)))))))),?_⟩
 obtain⟨x,y,rfl,hx,hy,q⟩:=h;walk_at "go";refine⟨x,rfl,hx,fun G1 s1=>?_⟩;have no:∀ G',Sm G G'->strB x y=false->R (.bl false) G':=fun G' s e=>by have:=q G' s;rw[e]at this;exact this
 walk_at "go";refine ifNB (fun c=>?_) fun c=>?_
 ·walk_at "go";exact no _ s1 (by unfold strB;rw[c];rfl)
 ·walk_at "go";refine ifD (fun z=>?_) fun z=>?_
  ·walk_at "go"
   have:=q _ s1
   unfold strB at this;rw[c,z]at this;exact this
  ·walk_at "go";refine⟨y,rfl,hy.sm s1,fun G2 s2=>?_⟩;have s12:=s1.trans s2;walk_at "go";refine ifB (fun c2=>?_) fun c2=>?_
   ·obtain⟨i,rfl⟩:∃ i,x=.int i:=by cases x<;>first | exact⟨_,rfl⟩ | cases c
    obtain⟨j,rfl⟩:∃ j,y=.int j:=by cases y<;>first | exact⟨_,rfl⟩ | cases c2
    walk_at "go"
    have:=q _ s12
    unfold strB at this;rw[c]at this;dsimp only at this;rw[c2,Bool.true_and,Bool.true_and]at this;exact this
   ·refine no _ s12 ?_;unfold strB;rw[c,Bool.true_and];cases y<;>first | rfl | exact absurd rfl z | (dsimp only;rw[c2];rfl)
def isL (c:Nat):Prop:=97≤c/\c≤122
def nmOk (s:Str):Prop:=1≤s.cps.toList.length/\s.cps.toList.length≤8/\∀ c∈s.cps.toList,isL c
theorem a4a (s:Str):s.length=s.cps.toList.length:=by rw[Array.length_toList];rfl
theorem a79 {s:Str}(h:∀ c∈s.cps.toList,isL c):PyData.strOk s=true:=by
 unfold PyData.strOk;rw[Array.all_eq_true_iff_forall_mem];intro c hc
 have:=(h c (by simpa using hc)).2
 exact decide_eq_true (by omega)
theorem b0v {s:Str}(h:nmOk s) {n:Nat}:flat n (.str s)=true:=by
 have:=a79 h.2.2
 cases n<;>exact this
theorem a6P {G:Hq}{s:Str}(h:nmOk s):Th G (.str s):=⟨by rw[a4a];have:=h.2.1;omega,a79 h.2.2⟩
theorem nm_b {s:Str}(h:nmOk s):a2L (.str s)=true:=by
 rw[a4i,decide_eq_true (by rw[a4a];exact h.1),decide_eq_true (by rw[a4a];exact h.2.1)];rw[Bool.true_and,Bool.true_and,List.all_eq_true];intro c hc;obtain⟨h1,h2⟩:=h.2.2 c hc;unfold okC;rw[decide_eq_true h1,decide_eq_true h2];rfl
def T12:Int:=1000000000000
def stOk (b:Int) (e:Option Int):Prop:=0≤b/\b≤T12/\∀ x,e=some x->b<x/\x≤T12
theorem stOk.bef {b:Int}{e:Option Int}(h:stOk b e):bef b e=true:=by
 cases e with
 | none=>rfl
 | some x=>simp only[Lw.bef,decide_eq_true_eq];exact (h.2.2 x rfl).1
theorem st_b {b:Int}{e:Option Int}(h:stOk b e):strB (.int b) (oz e)=true:=by
 obtain⟨h1,h2,h3⟩:=h;unfold T12 at *;unfold strB;rw[a52,decide_eq_true h1,decide_eq_true h2];cases e with
 | none=>rfl
 | some x=>
  obtain⟨h4,h5⟩:=h3 x rfl
  show (true&&(momB (.int x)&&decide (b<x)))=true
  rw[a52,decide_eq_true (show 0≤x by omega),decide_eq_true h5,decide_eq_true h4];rfl
def Plain (l:List Rw):Prop:=∀ r∈l,∃ x,r.w=[x]/\flat 0 x=true
theorem Plain.one {l:List Rw}(h:Plain l):One l:=fun r hr=>let ⟨x,e,_⟩:=h r hr;⟨x,e⟩
theorem Plain.okR {l:List Rw}(h:Plain l):OkR l:=fun r hr=>by
 obtain⟨x,e,f⟩:=h r hr;rw[e];exact b5X (a1Z (by decide) f)
theorem Plain.nil:Plain []:=fun r hr=>by simp at hr
theorem a3W {puts:List Rw}(h:Plain puts) (t:Int):flat 0 (a1e puts t)=true:=by
 unfold a1e;cases e:puts.reverse.find? (·.has t) with
 | none=>rfl
 | some r=>
  obtain⟨x,ex,f⟩:=h r (by have:=List.mem_of_find?_eq_some e;simpa using this)
  show flat 0 (r.w.headD .non)=true
  rw[ex];exact f
theorem b3G (z:Z):wz (optW z)=z:=by
 unfold optW
 split
 ·next h=>rw[h];rfl
 ·rfl
theorem b0w {L:List Rw}{b:Int}{e:Option Int}{z:Z}(h:Plain L) (f:flat 0 z=true):Plain (a5X L b e (optW z)):=fun r hr=>by
 unfold a5X at hr;have hp:Plain (a1K L b e (optW z)):=fun r hr=>by
  unfold a1K at hr;rcases List.mem_append.mp hr with hr | hr
  ·rcases List.mem_append.mp hr with hr | hr
   ·obtain⟨r0,h1,_,rfl⟩:=a3q hr;exact h r0 h1
   ·unfold optW at hr
    split at hr
    ·next w e=>
           split at e
           ·cases e
           ·cases e;rw[List.mem_singleton.mp hr];exact⟨z,rfl,f⟩
    ·simp at hr
  ·cases e with
   | none=>simp at hr
   | some e=>
    obtain⟨r0,h1,_,rfl⟩:=a4h hr;exact h r0 h1
 have key:∀ (ps told:List Rw),Plain told->Plain ps->Plain (ps.foldl jn told):=by
  intro ps
  induction ps with
  | nil=>exact fun _ h _=>h
  | cons p ps ih=>
   intro told ht hps;refine ih (jn told p) (fun r hr=>?_) fun r hr=>hps r (.tail _ hr)
   have:=hps p (.head _)
   unfold jn at hr
   split at hr
   ·split at hr
    ·rcases List.mem_append.mp hr with hr | hr
     ·exact ht r (List.dropLast_subset _ hr)
     ·rw[List.mem_singleton.mp hr];exact this
    ·rcases List.mem_append.mp hr with hr | hr
     ·exact ht r hr
     ·rw[List.mem_singleton.mp hr];exact this
   ·rcases List.mem_append.mp hr with hr | hr
    ·exact ht r hr
    ·rw[List.mem_singleton.mp hr];exact this
 exact key _ [] Plain.nil hp r hr
theorem b3H {f:Bool->Bool}{G:Hq}{R:K3}{x y:Z}(h1:flat 8 x=true) (h2:flat 8 y=true) (h:R (.bl (f (decide (x=y)))) G):zEq f x y G R:=by
 cases x<;>cases y<;>first
  | exact⟨h1,h2,h⟩
  | (simp[flat]at h1;done)
  | (simp[flat]at h2;done)
  | (rw[a0J (Z.int.injEq _ _)]at h;exact h)
  | (rw[a0J (Z.str.injEq _ _)]at h;exact h)
structure Tl where
 key:Str
 w:Option Str
 b:Int
 e:Option Int
abbrev sPut:Str:=Str.ofString "put"
abbrev a8a:Str:=Str.ofString "clear"
def Tl.z (τ:Tl):Z:=match τ.w with
 | some w=>.tup [.str sPut,.str τ.key,.str w,.int τ.b,oz τ.e]
 | none=>.tup [.str a8a,.str τ.key,.int τ.b,oz τ.e]
def Tl.v (τ:Tl):Z:=match τ.w with
 | some w=>.str w
 | none=>.non
structure Tl.Ok (τ:Tl):Prop where
 k:nmOk τ.key
 w:∀ s,τ.w=some s->nmOk s
 st:stOk τ.b τ.e
theorem Tl.Ok.v {τ:Tl}(h:τ.Ok):flat 0 τ.v=true:=by
 unfold Tl.v;cases e:τ.w with
 | none=>rfl
 | some w=>exact b0v (h.w w e)
def Tl.rw (τ:Tl):Rw:=⟨τ.b,τ.e,[τ.v]⟩
def a0P (T:List Tl) (k:Str):List Rw:=(T.filter fun τ=>decide (τ.key=k)).map Tl.rw
theorem a5o {T:List Tl}{τ:Tl}{k:Str}:a0P (T++[τ]) k=a0P T k++(if τ.key=k then [τ.rw] else []):=by
 unfold a0P;rw[List.filter_append,List.map_append]
 congr 1
 by_cases c:τ.key=k<;>simp[c]
def OkT (T:List Tl):Prop:=∀ τ∈T,τ.Ok
theorem a5p {T:List Tl}{k:Str}(h:OkT T):Plain (a0P T k):=fun r hr=>by
 unfold a0P at hr;obtain⟨τ,h1,rfl⟩:=List.mem_map.mp hr;exact⟨_,rfl,(h τ (List.mem_filter.mp h1).1).v⟩
structure IsLine (T:List Tl) (k:Str) (L:List Rw):Prop where
 can:Can L
 pl:Plain L
 len:L.length≤2*T.length
 v:∀ t,val L t=optW (a1e (a0P T k) t)
theorem IsLine.nil {T:List Tl}{k:Str}(h:a0P T k=[]):IsLine T k []:=⟨Can.nil,Plain.nil,by simp,fun t=>by rw[h];rfl⟩
theorem IsLine.snoc {T:List Tl}{τ:Tl}{L:List Rw}(h:IsLine T τ.key L) (o:τ.Ok):IsLine (T++[τ]) τ.key (a5X L τ.b τ.e (optW τ.v)):=by
 have po:=b1I (w:=optW τ.v) h.can.rise o.st.bef;refine⟨po.1,b0w h.pl o.v,by have:=po.2.2;have:=h.len;simp;omega,fun t=>?_⟩;rw[a5o,if_pos rfl,a4L,po.2.1 t,h.v t];unfold Rw.has
 show _=optW (if (decide (τ.b≤t)&&bef t τ.e)=true then τ.v else a1e (a0P T τ.key) t)
 split<;>rfl
def ixF (k:Str):Nat->List Tl->List Int
 | _,[]=>[]
 | n,τ::T=>(if τ.key=k then [(n:Int)+1] else [])++ixF k (n+1) T
def ix (T:List Tl) (k:Str):List Int:=ixF k 0 T
theorem a8b {k:Str}{τ:Tl}:∀ (n:Nat) (T:List Tl),ixF k n (T++[τ])=ixF k n T++(if τ.key=k then [(n+T.length:Int)+1] else [])
 | n,[]=>by simp[ixF]
 | n,σ::T=>by
  rw[List.cons_append,ixF,a8b,ixF,List.append_assoc]
  congr 2
  split
  ·congr 1;rw[List.length_cons];omega
  ·rfl
theorem a3L {k:Str}{τ:Tl}{T:List Tl}:ix (T++[τ]) k=ix T k++(if τ.key=k then [(T.length:Int)+1] else []):=by
 unfold ix;rw[a8b];simp
theorem a8c {k:Str}:∀ {n:Nat}{T:List Tl}{i:Int},i∈ixF k n T->(n:Int)+1≤i/\i≤n+T.length
 | _,[],i,h=>by simp[ixF]at h
 | n,τ::T,i,h=>by
  rw[ixF]at h;rw[List.length_cons];rcases List.mem_append.mp h with h | h
  ·split at h
   ·rw[List.mem_singleton.mp h];omega
   ·simp at h
  ·have:=a8c h;omega
theorem b52 {k:Str}{T:List Tl}{i:Int}(h:i∈ix T k):1≤i/\i≤T.length:=by
 have:=a8c h
 simpa using this
theorem b0x {k:Str}:∀ (n:Nat) (T:List Tl),(ixF k n T).length≤T.length
 | _,[]=>by simp[ixF]
 | n,τ::T=>by
  have:=b0x (k:=k) (n+1) T
  rw[ixF,List.length_append,List.length_cons]
  split<;>simp<;>omega
theorem b53 (T:List Tl) (k:Str):(ix T k).length≤T.length:=b0x 0 T
theorem a5q {k:Str}:∀ (n:Nat) (T:List Tl),(ixF k n T).Pairwise (·<·)
 | _,[]=>.nil
 | n,τ::T=>by
  rw[ixF];refine List.pairwise_append.mpr ⟨by split<;>simp,a5q (n+1) T,fun x hx y hy=>?_⟩
  have:=a8c hy
  split at hx
  ·rw[List.mem_singleton.mp hx];omega
  ·simp at hx
theorem b0y (T:List Tl) (k:Str):(ix T k).Pairwise (·<·):=a5q 0 T
theorem a4j {k:Str}:∀ (n:Nat) (T:List Tl) (s q:Nat),s≤q->(∀ i∈ixF k n T,(i:Int)≤n+s\/(n+q:Int)<i)->a0P (T.take q) k=a0P (T.take s) k
 | n,[],s,q,_,_=>by simp
 | n,τ::T,s,0,hs,_=>by
  have:s=0:=by omega
  subst this;rfl
 | n,τ::T,0,q+1,hs,h=>by
  have hk:¬ τ.key=k:=fun e=>by
   have:=h ((n:Int)+1) (by rw[ixF,if_pos e];simp)
   omega
  have ih:=a4j (k:=k) (n+1) T 0 q (by omega) fun i hi=>by
   rcases h i (by rw[ixF];simp[hi]) with c | c
   ·have:=a8c hi;omega
   ·right;omega
  rw[List.take_succ_cons];unfold a0P at ih ⊢;rw[List.filter_cons,if_neg (by simpa using hk),ih];simp
 | n,τ::T,s+1,q+1,hs,h=>by
  have ih:=a4j (k:=k) (n+1) T s q (by omega) fun i hi=>by
   rcases h i (by rw[ixF];simp[hi]) with c | c
   ·left;omega
   ·right;omega
  rw[List.take_succ_cons,List.take_succ_cons];unfold a0P at ih ⊢;rw[List.filter_cons,List.filter_cons]
  split
  ·rw[List.map_cons,List.map_cons,ih]
  ·exact ih
theorem IsLine.cut {T:List Tl}{k:Str}{L:List Rw}{s q:Nat}(h:IsLine (T.take s) k L) (hs:s≤q) (hi:∀ i∈ix T k,i≤(s:Int)\/(q:Int)<i):IsLine (T.take q) k L:=by
 have e:=a4j (k:=k) 0 T s q hs fun i h=>by have:=hi i h;simpa using this
 exact⟨h.can,h.pl,by have:=h.len;rw[List.length_take]at this ⊢;omega,fun t=>by rw[e];exact h.v t⟩
abbrev a6Q:Str:=Str.ofString "last"
abbrev a8R:Str:=Str.ofString "kept"
def shF (n:Int) (d:Addr):List (Str×Z):=[(a6Q,.int n),(a8R,.ref d)]
theorem b7x:¬ (a6Q=a8R):=by decide +kernel
theorem b3I {n:Int}{d:Addr}:putQ a8R (.ref d) [(a6Q,.int n)]=shF n d:=by
 unfold putQ;rw[if_neg b7x];rfl
theorem b3J {n m:Int}{d:Addr}:putQ a6Q (.int m) (shF n d)=shF m d:=by
 unfold shF putQ;rw[if_pos rfl]
theorem a23 {n:Int}{d:Addr}:(shF n d).lookup a6Q=some (.int n):=by
 unfold shF;rw[List.lookup_cons,beq_self_eq_true]
theorem a7l {n:Int}{d:Addr}:(shF n d).lookup a8R=some (.ref d):=by
 unfold shF;rw[List.lookup_cons,show (a8R==a6Q)=false by decide +kernel,List.lookup_cons,beq_self_eq_true]
theorem a2M {n:Int}{d:Addr}{m:Str}(h1:(m==a6Q)=false) (h2:(m==a8R)=false):(shF n d).lookup m=none:=by
 unfold shF;rw[List.lookup_cons,h1,List.lookup_cons,h2];rfl
abbrev enZ (e:Int×Addr):Z:=.tup [.int e.1,.ref e.2]
structure Hist (G:Hq) (S:Addr->Prop) (T:List Tl) (k:Str) (h:Addr) (es:List (Int×Addr)):Prop where
 s:S h
 at_:G h=some (.lst (es.map enZ))
 ix:es.map (·.1)=ix T k
 ne:es≠[]
 ln:∀ e∈es,S e.2/\∃ L,G e.2=some (.lst (L.map Rw.z))/\IsLine (T.take e.1.toNat) k L
structure ShM (C:Addr) (G:Hq) (p:Addr) (S:Addr->Prop) (T:List Tl) (n:Int) (dx d:Addr) (kvs:List (Key×Z)):Prop where
 ob:G p=some (.ins C dx (shF n d))
 sp:S p
 sd:S d
 dc:G d=some (.dK kvs)
 len:kvs.length≤T.length
 no:∀ k,valZ kvs (.inr k)=none->ix T k=[]
 hs:∀ k z,valZ kvs (.inr k)=some z->∃ h es,z=.ref h/\Hist G S T k h es
 inj:∀ k k' z,valZ kvs (.inr k)=some z->valZ kvs (.inr k')=some z->k=k'
 al:∀ b,S b->∃ o,G b=some o
 nd:(kvs.map (·.1)).Nodup
 sk:∀ q∈kvs,∃ s,q.1=Sum.inr s
def Sheet (C:Addr) (G:Hq) (p:Addr) (S:Addr->Prop) (T:List Tl):Prop:=∃ dx d kvs,ShM C G p S T T.length dx d kvs
def KS (S:Addr->Prop) (G G':Hq):Prop:=∀ b o,S b->G b=some o->G' b=some o
def KN (S:Addr->Prop) (G G':Hq):Prop:=∀ b o,¬ S b->G b=some o->G' b=some o
theorem Sm.ks {S:Addr->Prop}{G G':Hq}(s:Sm G G'):KS S G G':=fun b o _ e=>s b o e
theorem Sm.kn {S:Addr->Prop}{G G':Hq}(s:Sm G G'):KN S G G':=fun b o _ e=>s b o e
theorem KN.trans {S:Addr->Prop}{G G1 G2:Hq}(a:KN S G G1) (b:KN S G1 G2):KN S G G2:=fun c o n e=>b c o n (a c o n e)
theorem Hist.keep {G G':Hq}{S:Addr->Prop}{T:List Tl}{k:Str}{h:Addr}{es:List (Int×Addr)}(H:Hist G S T k h es) (q:KS S G G'):Hist G' S T k h es:=
 ⟨H.s,q _ _ H.s H.at_,H.ix,H.ne,fun e he=>let ⟨s,L,a,b⟩:=H.ln e he;⟨s,L,q _ _ s a,b⟩⟩
theorem ShM.keep {C:Addr}{G G':Hq}{p:Addr}{S:Addr->Prop}{T:List Tl}{n:Int}{dx d:Addr}{kvs:List (Key×Z)}(H:ShM C G p S T n dx d kvs) (q:KS S G G'):ShM C G' p S T n dx d kvs:=
 ⟨q _ _ H.sp H.ob,H.sp,H.sd,q _ _ H.sd H.dc,H.len,H.no,fun k z e=>let ⟨h,es,a,b⟩:=H.hs k z e;⟨h,es,a,b.keep q⟩,H.inj,(fun b hb=>let ⟨o,e⟩:=H.al b hb;⟨o,q b o hb e⟩),H.nd,H.sk⟩
theorem Sheet.keep {C:Addr}{G G':Hq}{p:Addr}{S:Addr->Prop}{T:List Tl}(H:Sheet C G p S T) (q:KS S G G'):Sheet C G' p S T:=let ⟨dx,d,kvs,h⟩:=H;⟨dx,d,kvs,h.keep q⟩
structure ShV (C:Addr) (G:Hq) (p:Addr) (S:Addr->Prop) (T:List Tl) (n:Int) (dx d:Addr) (kvs:List (Key×Z)):Prop where
 ob:G p=some (.ins C dx (shF n d))
 sp:S p
 sd:S d
 dc:G d=some (.dK kvs)\/G d=some (.dF kvs)
 len:kvs.length≤T.length
 no:∀ k,valZ kvs (.inr k)=none->ix T k=[]
 hs:∀ k z,valZ kvs (.inr k)=some z->∃ h es,z=.ref h/\Hist G S T k h es
 al:∀ b,S b->∃ o,G b=some o
 nd:(kvs.map (·.1)).Nodup
 sk:∀ q∈kvs,∃ s,q.1=Sum.inr s
theorem ShM.v {C:Addr}{G:Hq}{p:Addr}{S:Addr->Prop}{T:List Tl}{n:Int}{dx d:Addr}{kvs:List (Key×Z)}(H:ShM C G p S T n dx d kvs):ShV C G p S T n dx d kvs:=⟨H.ob,H.sp,H.sd,.inl H.dc,H.len,H.no,H.hs,H.al,H.nd,H.sk⟩
theorem ShV.keep {C:Addr}{G G':Hq}{p:Addr}{S:Addr->Prop}{T:List Tl}{n:Int}{dx d:Addr}{kvs:List (Key×Z)}(H:ShV C G p S T n dx d kvs) (q:KS S G G'):ShV C G' p S T n dx d kvs:=
 ⟨q _ _ H.sp H.ob,H.sp,H.sd,H.dc.imp (q _ _ H.sd) (q _ _ H.sd),H.len,H.no,fun k z e=>let ⟨h,es,a,b⟩:=H.hs k z e;⟨h,es,a,b.keep q⟩,(fun b hb=>let ⟨o,e⟩:=H.al b hb;⟨o,q b o hb e⟩),H.nd,H.sk⟩
def SheetV (C:Addr) (G:Hq) (p:Addr) (S:Addr->Prop) (T:List Tl):Prop:=∃ dx d kvs,ShV C G p S T T.length dx d kvs
theorem Sheet.v {C:Addr}{G:Hq}{p:Addr}{S:Addr->Prop}{T:List Tl}(H:Sheet C G p S T):SheetV C G p S T:=let ⟨dx,d,kvs,h⟩:=H;⟨dx,d,kvs,h.v⟩
theorem SheetV.keep {C:Addr}{G G':Hq}{p:Addr}{S:Addr->Prop}{T:List Tl}(H:SheetV C G p S T) (q:KS S G G'):SheetV C G' p S T:=let ⟨dx,d,kvs,h⟩:=H;⟨dx,d,kvs,h.keep q⟩
theorem b3K {sp:PX3}{EE:Addr->Hq->Prop}{t:A3}{σ:S3}{G:Hq}{R:K3}(h:t σ G fun ws G1=>sp ws G1 R EE):b2k sp EE t σ G R:=h
theorem b3L {EE:Addr->Hq->Prop}{C:Addr}{te:E3}{nx:C3}{rt:K3}{bk ct:C3}{σ:S3}{G:Hq}(h:te σ G fun _ G1=>EE C G1):b2l EE C te nx rt bk ct σ G:=h
theorem b3M {C:Addr}{m:Str}{sp:PX3}{EE:Addr->Hq->Prop}{to:E3}{t:A3}{σ:S3}{G:Hq}{R:K3}(h:to σ G fun x G1=>∃ q dx fs,x=.ref q/\G1 q=some (.ins C dx fs)/\fs.lookup m=none/\t σ G1 fun ws G2=>sp (.ref q::ws) G2 R EE):b2m C m sp EE to t σ G R:=h
local macro_rules | `(tactic| walk_at "go1")=>`(tactic| with_reducible (first | refine b3K ?_ | refine b3L ?_ | refine b3M ?_ | refine i_tryM ?_))
def a2C (a:Ad):PX3:=fun ws G R EE=>∃ x,ws=[x]/\Th G x/\∀ G',Sm G G'->if a2L x=true then R .non G' else EE a.x_NoName G'
theorem a4b {a:Ad}{ws:List Z}{G:Hq}{R:K3}{EE:Addr->Hq->Prop}(h:a2C a ws G R EE):ws.length=1:=by obtain⟨_,rfl,_⟩:=h;rfl
theorem a2D (F:Fns K a) (T:Txt K mg a):FnOk P w K mg base (CXx P w) 2 a.f4 a.d4 ["thing"] (a4A K (a2C a)):=by
 have G_p_is_name:=a6O (P:=P) (w:=w) (base:=base) F T;refine fn3x F.n4 a4J (fun ws G R EE h=>(by exact a4b h)) (fun cdv A outer s H E ws G R EE hr h ux=>?_);have hu:=a02 hr;refine⟨_,(a0p (z_if (a2l (a2W (a0M G_p_is_name (hr.mono (by decide)) rfl T.m0 F.n0.kp (a6G F) (a0c (a0b (pv 0)) a0i a0a) (he:=a0a) (hpl:=a0j))))
  (a0p (a7d Outs.of ux rfl rfl T.x_NoName T.xi_NoName a3Z a0e a0j))
  a0V)),?_⟩
 obtain⟨x,rfl,hx,q⟩:=h;walk_at "go";refine⟨_,rfl,hx,fun G' s1=>?_⟩;have q':=q G' s1;walk_at "go";refine ifNB (fun c=>?_) fun c=>?_
 ·rw[c]at q';walk_at "go";exact q'
 ·rw[c]at q';walk_at "go";exact q'
def a1L (a:Ad):PX3:=fun ws G R EE=>∃ x y,ws=[x,y]/\Th G x/\Th G y/\∀ G',Sm G G'->if strB x y=true then R .non G' else EE a.x_NoStretch G'
theorem a24 {a:Ad}{ws:List Z}{G:Hq}{R:K3}{EE:Addr->Hq->Prop}(h:a1L a ws G R EE):ws.length=2:=by obtain⟨_,_,rfl,_⟩:=h;rfl
theorem a3s (F:Fns K a) (T:Txt K mg a):FnOk P w K mg base (CXx P w) 3 a.f5 a.d5 ["begin","end"] (a4A K (a1L a)):=by
 have G_p_is_stretch:=a4P (P:=P) (w:=w) (base:=base) F T;refine fn3x F.n5 a3j (fun ws G R EE h=>(by exact a24 h)) (fun cdv A outer s H E ws G R EE hr h ux=>?_);have hu:=a02 hr;refine⟨_,(a0p (z_if (a2l (a2W (a0M G_p_is_stretch (hr.mono (by decide)) rfl T.m2 F.n2.kp (a4K F) (a0c (a0b (pv 0)) (a0c (a0b (pv 1)) a0i a0a) a0a) (he:=a0a) (hpl:=(a0k a0a a0j)))))
  (a0p (a7d Outs.of ux rfl rfl T.x_NoStretch T.xi_NoStretch a3Z a0e a0j))
  a0V)),?_⟩
 obtain⟨x,y,rfl,hx,hy,q⟩:=h;walk_at "go";refine⟨_,_,rfl,hx,hy,fun G' s1=>?_⟩;have q':=q G' s1;walk_at "go";refine ifNB (fun c=>?_) fun c=>?_
 ·rw[c]at q';walk_at "go";exact q'
 ·rw[c]at q';walk_at "go";exact q'
structure Tel (G:Hq) (z:Z) (h:Z) (nm:List Z) (x y:Z):Prop where
 e:z=.tup (h::(nm++[x,y]))
 l:(∃ k,nm=[k])\/∃ k w,nm=[k,w]
 n:∀ z∈nm,Th G z
 x:Th G x
 y:Th G y
theorem Tel.sm {G G':Hq}{z h:Z}{nm:List Z}{x y:Z}(T:Tel G z h nm x y) (s:Sm G G'):Tel G' z h nm x y:=⟨T.e,T.l,fun z hz=>(T.n z hz).sm s,T.x.sm s,T.y.sm s⟩
def a1M (a:Ad):PX3:=fun ws G R EE=>Ex5 fun (z h:Z) (nm:List Z) (x y:Z)=>ws=[z]/\Tel G z h nm x y/\∀ G',Sm G G'->if nm.all a2L=true then (if strB x y=true then R .non G' else EE a.x_NoStretch G') else EE a.x_NoName G'
theorem a25 {a:Ad}{ws:List Z}{G:Hq}{R:K3}{EE:Addr->Hq->Prop}(h:a1M a ws G R EE):ws.length=1:=by obtain⟨_,_,_,_,_,rfl,_⟩:=h;rfl
theorem b7y {h k x y:Z}:cutZ [h,k,x,y] (some 1) (some (-2))=[k]:=rfl
theorem b7z {h k w x y:Z}:cutZ [h,k,w,x,y] (some 1) (some (-2))=[k,w]:=rfl
theorem a6R {l:List Z}{f:Z->Bool}{x:Z}(h:x∈l) (c:f x=false):l.all f=false:=List.all_eq_false.mpr ⟨x,h,by rw[c];decide⟩
theorem a8d {l:List Z}{f:Z->Bool}{i:Nat}{x:Z}(h:(l.take i).all f=true) (e:l[i]?=some x) (c:f x=true):(l.take (i+1)).all f=true:=by
 rw[List.take_add_one,List.all_append,h,e]
 show (true&&([x].all f))=true
 rw[List.all_cons,c];rfl
theorem a3t (F:Fns K a) (T:Txt K mg a):FnOk P w K mg base (CXx P w) 4 a.f11 a.d11 ["telling"] (a4A K (a1M a)):=by
 have G_p_check_stretch:=a3s (P:=P) (w:=w) (base:=base) F T;have G_p_check_name:=a2D (P:=P) (w:=w) (base:=base) F T;refine fn3x F.n11 sc_p_check_telling (fun ws G R EE h=>(by exact a25 h)) (fun cdv A outer s H E ws G R EE hr h ux=>?_);have hu:=a02 hr;refine⟨_,(a0l (a2X (pt:=(.nm 1)) PassesOwn.leaving rfl (b17 (a1h x_sl (a0b (pv 0)) (a1w a0f) (a1w (q_un a2b a0f)))) (show QP _ _ (.nm 1) from (a0u (i:=1) sc_p_check_telling.nd rfl (Or.inl rfl)))
  (a0p (a05 (a4B (a17 Outs.of) ux.since G_p_check_name (hr.mono (by decide)) rfl T.m4 F.n4.kp (a2B F) (a0c (a0b (pv 1)) a0i a0a) (he:=a0a) (hpl:=a0j)))))
  (a0p (a05 (a4B (a17 Outs.of) ux.since G_p_check_stretch (hr.mono (by decide)) rfl T.m5 F.n5.kp (a3l F) (a0c (q_ix x_ix (a0b (pv 0)) (q_un a2b a0f) (fun _ _=>rfl)) (a0c (q_ix x_ix (a0b (pv 0)) (q_un a2b a0f) (fun _ _=>rfl)) a0i a0h) a0h) (he:=a0h) (hpl:=(a0k a0h a0j)))))),?_⟩
 obtain⟨z,h,nm,x,y,rfl,⟨rfl,hl,hn,hx,hy⟩,q⟩:=h;rcases hl with ⟨k,rfl⟩ | ⟨k,w,rfl⟩
 ·show uSeq _ _ _ _ _ _ (a3S _ [.tup [h,k,x,y]]) _
  walk_at "go";refine a9Y (show ¬ (HT.sIx 4 0 (some 1)=0/\HT.sIx 4 4 (some (-2))=4) by decide) ?_;rw[b7y];walk_at "go";refine a06 (fun i σ G'=>∃ v:Option Z,Sm G G'/\(([k]:List Z).take i).all a2L=true/\σ=[some (.tup [h,k,x,y]),v]) ⟨_,Sm.refl _,rfl,rfl⟩ (fun _ _ _ _ _=>True.intro) ?_ ?_
  ·rintro i u σ G' hu ⟨v,s,ha,rfl⟩;have hm:=List.mem_of_getElem? hu;refine⟨_,rfl,?_⟩;walk_at "go";refine⟨u,rfl,(hn u hm).sm s,fun G1 s1=>?_⟩;have q':=q G1 (s.trans s1);refine ifB (fun c=>?_) fun c=>?_
   ·walk_at "go";exact⟨_,s.trans s1,a8d ha hu c,rfl⟩
   ·rw[a6R hm c]at q';exact q'
  ·rintro σ G' ⟨v,s,ha,rfl⟩;have ha:([k]:List Z).all a2L=true:=ha;walk_at "go";refine⟨x,y,rfl,hx.sm s,hy.sm s,fun G1 s1=>?_⟩;have q':=q G1 (s.trans s1);rw[ha]at q';refine ifB (fun c=>?_) fun c=>?_
   ·rw[c]at q';walk_at "go";exact q'
   ·rw[c]at q';exact q'
 ·show uSeq _ _ _ _ _ _ (a3S _ [.tup [h,k,w,x,y]]) _
  walk_at "go";refine a9Y (show ¬ (HT.sIx 5 0 (some 1)=0/\HT.sIx 5 5 (some (-2))=5) by decide) ?_;rw[b7z];walk_at "go";refine a06 (fun i σ G'=>∃ v:Option Z,Sm G G'/\(([k,w]:List Z).take i).all a2L=true/\σ=[some (.tup [h,k,w,x,y]),v]) ⟨_,Sm.refl _,rfl,rfl⟩ (fun _ _ _ _ _=>True.intro) ?_ ?_
  ·rintro i u σ G' hu ⟨v,s,ha,rfl⟩;have hm:=List.mem_of_getElem? hu;refine⟨_,rfl,?_⟩;walk_at "go";refine⟨u,rfl,(hn u hm).sm s,fun G1 s1=>?_⟩;have q':=q G1 (s.trans s1);refine ifB (fun c=>?_) fun c=>?_
   ·walk_at "go";exact⟨_,s.trans s1,a8d ha hu c,rfl⟩
   ·rw[a6R hm c]at q';exact q'
  ·rintro σ G' ⟨v,s,ha,rfl⟩;have ha:([k,w]:List Z).all a2L=true:=ha;walk_at "go";refine⟨x,y,rfl,hx.sm s,hy.sm s,fun G1 s1=>?_⟩;have q':=q G1 (s.trans s1);rw[ha]at q';refine ifB (fun c=>?_) fun c=>?_
   ·rw[c]at q';walk_at "go";exact q'
   ·rw[c]at q';exact q'
def a1E (a:Ad):PX3:=fun ws G R EE=>∃ q n:Int,ws=[.int q,.int n]/\if 0≤q/\q≤n then R .non G else EE a.x_NoKnowing G
theorem a2N {a:Ad}{ws:List Z}{G:Hq}{R:K3}{EE:Addr->Hq->Prop}(h:a1E a ws G R EE):ws.length=2:=by obtain⟨_,_,rfl,_⟩:=h;rfl
theorem a26 (F:Fns K a) (T:Txt K mg a):FnOk P w K mg base (CXx P w) 1 a.f6 a.d6 ["knowing","last"] (a4A K (a1E a)):=by
 refine fn3x F.n6 a21 (fun ws G R EE h=>(by exact a2N h)) (fun cdv A outer s H E ws G R EE hr h ux=>?_);have hu:=a02 hr;refine⟨_,(a0p (z_if (QW.qt (q_or (a0t o_lt (a0b (pv 0)) a0f (a0r _)) (a4T (a0t o_gt (a0b (pv 0)) (a0b (pv 1)) (a0r _)))))
  (a0p (a7d Outs.of ux rfl rfl T.x_NoKnowing T.xi_NoKnowing a3Z a0e a0j))
  a0V)),?_⟩
 obtain⟨q,n,rfl,k⟩:=h;walk_at "go";refine ifD (fun c=>?_) fun c=>?_
 ·rw[if_neg (by omega)]at k;walk_at "go";exact k
 ·walk_at "go";refine ifD (fun c2=>?_) fun c2=>?_
  ·rw[if_neg (by omega)]at k;walk_at "go";exact k
  ·rw[if_pos (by omega)]at k;walk_at "go";exact k
def a2n:P3:=fun ws G R=>∃ (l:Addr) (L:List Rw) (τ:Tl),ws=[.ref l,τ.z]/\G l=some (.lst (L.map Rw.z))/\Rise L/\Plain L/\L.length≤400/\τ.Ok /\
 ∀ t G',G t=none->Sm G G'->G' t=some (.lst ((a5X L τ.b τ.e (optW τ.v)).map Rw.z))->R (.ref t) G'
theorem a3M {ws:List Z}{G:Hq}{R:K3}(h:a2n ws G R):ws.length=2:=by obtain⟨_,_,_,rfl,_⟩:=h;rfl
theorem b3N:¬ (a8a=sPut):=by decide +kernel
theorem a4c (F:Fns K a) (T:Txt K mg a):FnOk P w K mg base CX0 4 a.f12 a.d12 ["line","telling"] (lowP K a2n):=by
 have G_p_put_on:=a7k (P:=P) (w:=w) (base:=base) F T;refine fn3 F.n12 sc_p_line_behind (fun ws G R h=>(by exact a3M h)) (fun cdv A outer s H E ws G R hr h=>?_);have hu:=a02 hr;refine⟨_,(a0l (a0Z (i:=2) sc_p_line_behind.nd rfl (Or.inl rfl) (q_if (a0t (o_eq hu) (q_ix x_ix (a0b (pv 1)) a0f (fun _ _=>rfl)) a3Z (a0r _)) (q_ix x_ix (a0b (pv 1)) a0f (fun _ _=>rfl)) a18))
  (a0p (a0G (a0M G_p_put_on (hr.mono (by decide)) rfl T.m10 F.n10.kp (a7h F) (a0c (a0b (pv 0)) (a0c (q_ix x_ix (a0b (pv 1)) (q_un a2b a0f) (fun _ _=>rfl)) (a0c (q_ix x_ix (a0b (pv 1)) (q_un a2b a0f) (fun _ _=>rfl)) (a0c (a0b (pv 2)) a0i a0a) a0h) a0h) a0a) (he:=a0a) (hpl:=(a0k a0h (a0k a0h (a0k a0a a0j)))))))),?_⟩
 obtain⟨l,L,⟨key,w,b,e⟩,rfl,hl,hr,hp,hz,ok,q⟩:=h;have hb:=ok.st.bef;have hv:=ok.v;cases w with
 | none=>
  unfold Tl.z;walk_at "go";refine ifD (fun c=>absurd c b3N) fun _=>?_;walk_at "go";exact⟨l,L,b,e,.non,rfl,hl,hr,hp.okR,hp.one,by omega,hb,rfl,q⟩
 | some w=>
  unfold Tl.z;walk_at "go";refine ifD (fun _=>?_) fun c=>absurd rfl c;walk_at "go";exact⟨l,L,b,e,.str w,rfl,hl,hr,hp.okR,hp.one,by omega,hb,a1Z (by decide) hv,q⟩
def a10 (a:Ad):P3:=fun ws G R=>∃ p dx,ws=[.ref p]/\G p=some (.ins a.c_Sheet dx [])/\∀ d G',G d=none->(∀ b o,G b=some o->b≠p->G' b=some o)->Sheet a.c_Sheet G' p (fun x=>x=p\/x=d) []->R .non G'
theorem a3u {a:Ad}{ws:List Z}{G:Hq}{R:K3}(h:a10 a ws G R):ws.length=1:=by obtain⟨_,_,rfl,_⟩:=h;rfl
theorem a3N (F:Fns K a) (T:Txt K mg a):FnOk P w K mg base CX0 1 a.f28 a.d28 ["self"] (lowP K (a10 a)):=by
 refine fn3 F.n28 a3G (fun ws G R h=>(by exact a3u h)) (fun cdv A outer s H E ws G R hr h=>?_);have hu:=a02 hr;refine⟨_,(a0l (b5y T.cl_Sheet T.na_last (a0b (pv 0)) a0f)
  (a0p (b5y T.cl_Sheet T.na_kept (a0b (pv 0)) b45))),?_⟩
 obtain⟨p,dx,rfl,hp,q⟩:=h;walk_at "go";refine⟨p,dx,[],rfl,hp,by decide,?_⟩;walk_at "go";intro d hd;have hpd:p≠d:=a0x a0d hd;walk_at "go";refine⟨p,dx,[(a6Q,.int 0)],rfl,by rw[a0B hpd];exact a0d,by decide,?_⟩;rw[b3I];walk_at "go";have hd0:G d=none:=by rw[a0B (Ne.symm hpd)]at hd;exact hd
 refine q d _ hd0 (fun b o e nb=>?_) ⟨dx,d,[],⟨a0d,.inl rfl,.inr rfl,?_,by simp,fun k _=>rfl,(fun k z e=>by cases e),(fun k k' z e=>by cases e),?_,.nil,fun q hq=>by simp at hq⟩⟩
 ·rw[a0B nb,a0B (a0x e hd0),a0B nb];exact e
 ·rw[a0B (Ne.symm hpd)];exact a0d
 ·rintro b (rfl | rfl)
  ·exact⟨_,a0d⟩
  ·exact⟨_,by rw[a0B (Ne.symm hpd)];exact a0d⟩
def a1f (a:Ad):PX3:=fun ws G R EE=>Ex4 fun (p:Addr) (S:Addr->Prop) (T:List Tl) (q:Int)=>ws=[.ref p,.int q]/\SheetV a.c_Sheet G p S T/\if 0≤q/\q≤T.length then R .non G else EE a.x_NoKnowing G
theorem a2k {a:Ad}{ws:List Z}{G:Hq}{R:K3}{EE:Addr->Hq->Prop}(h:a1f a ws G R EE):ws.length=2:=by obtain⟨_,_,_,_,rfl,_⟩:=h;rfl
theorem a1g (F:Fns K a) (T:Txt K mg a):FnOk P w K mg base (CXx P w) 2 a.f23 a.d23 ["self","knowing"] (a4A K (a1f a)):=by
 have G_p_check_in_reach:=a26 (P:=P) (w:=w) (base:=base) F T;refine fn3x F.n23 a2s (fun ws G R EE h=>(by exact a2k h)) (fun cdv A outer s H E ws G R EE hr h ux=>?_);have hu:=a02 hr;refine⟨_,(a0p (a05 (a4B (a17 Outs.of) ux.since G_p_check_in_reach (hr.mono (by decide)) rfl T.m6 F.n6.kp (a22 F) (a0c (a0b (pv 1)) (a0c (a6w T.cl_Sheet T.na_last (a0b (pv 0))) a0i a1q) a0a) (he:=a0a) (hpl:=(a0k a1q a0j))))),?_⟩;obtain⟨p,S,T',q,rfl,⟨dx,d,kvs,sh⟩,k⟩:=h;walk_at "go";refine⟨p,dx,_,_,rfl,sh.ob,a23,?_⟩;walk_at "go";refine⟨q,_,rfl,?_⟩
 by_cases c:0≤q/\q≤T'.length
 ·rw[if_pos c]at k ⊢;walk_at "go";exact k
 ·rw[if_neg c]at k ⊢;exact k
def a1F (a:Ad):P3:=fun ws G R=>Ex9 fun (p:Addr) (S:Addr->Prop) (T:List Tl) (k:Str) (q:Int) (n:Int) (dx d:Addr) (kvs:List (Key×Z))=>ws=[.ref p,.str k,.int q]/\ShV a.c_Sheet G p S T n dx d kvs/\0≤q/\q≤T.length/\T.length≤200 /\
 ∀ t L G',G t=none->Sm G G'->G' t=some (.lst (L.map Rw.z))->IsLine (T.take q.toNat) k L->R (.ref t) G'
theorem a2O {a:Ad}{ws:List Z}{G:Hq}{R:K3}(h:a1F a ws G R):ws.length=3:=by obtain⟨_,_,_,_,_,_,_,_,_,rfl,_⟩:=h;rfl
theorem a6S {T:List Tl}{k:Str}{q:Nat}(h:∀ i∈ix T k,(q:Int)<i):a0P (T.take q) k=[]:=by
 have:=a4j (k:=k) 0 T 0 q (Nat.zero_le _) fun i hi=>by right;have:=h i hi;simpa using this
 rw[this];rfl
theorem b3O (l:List Rw):l.filterMap (fun r=>some r)=l:=by
 induction l with
 | nil=>rfl
 | cons r l ih=>rw[List.filterMap_cons,ih]
theorem a04 (F:Fns K a) (T:Txt K mg a):FnOk P w K mg base CX0 1 a.f24 a.d24 ["self","key","knowing"] (lowP K (a1F a)):=by
 refine fn3 F.n24 sc_Sheet_known_line (fun ws G R h=>(by exact a2O h)) (fun cdv A outer s H E ws G R hr h=>?_);have hu:=a02 hr;refine⟨_,(a0l (a2X (pt:=(.tp [3,4])) PassesOwn.never rfl (a7b rfl T.b_reversed (a0c (q_bm PySem.F.plainAttrs_dict PySem.F.slot_dict_get PySem.F.type_dict_get (b5F hu) (a6w T.cl_Sheet T.na_kept (a0b (pv 0))) (a0c (a0b (pv 1)) (a0c (a2a a0i) a0i a5E) a0a)) a0i a0N)) (show QP _ _ (.tp [3,4]) from (a4m rfl (a0H (a0u (i:=3) sc_Sheet_known_line.nd rfl (Or.inl rfl)) (a0H (a0u (i:=4) sc_Sheet_known_line.nd rfl (Or.inl rfl)) a2S))))
  (a0p (z_if (a0t o_le (a0b (pv 3)) (a0b (pv 2)) (a0r _))
  (a0p (a0G (q_lc (N₀:=["self","key","knowing","since","line"]) (so:=a0g a0S) (N':=["begin","end","worth"]) (cap:=[none,none,none]) (pt:=(.tp [0,1,2])) rfl rfl rfl (by decide +kernel) rfl (a01 (a0b (pv 4))) (fun _ _ _ _=>(show QP _ _ (.tp [0,1,2]) from (a4m rfl (a0H (a0u (i:=0) b3w rfl (Or.inl rfl)) (a0H (a0u (i:=1) b3w rfl (Or.inl rfl)) (a0H (a0u (i:=2) b3w rfl (Or.inl rfl)) a2S)))))) (fun _ _ _ _=>a5H) (fun _ _ _ _=>(a4t (a0c (a0b (pv 0)) (a0c (a0b (pv 1)) (a0c (a0b (pv 2)) a0i a0a) a0a) a0a))))))
  a0V)))
  (a0p (a0G (a2a a0i)))),?_⟩
 obtain⟨p,S,T,k,q,n,dx,d,kvs,rfl,sh,h0,h1,hT,fin⟩:=h;obtain⟨q,rfl⟩:=Int.eq_ofNat_of_zero_le h0;walk_at "go";refine⟨p,dx,_,_,rfl,sh.ob,a7l,?_⟩;refine b7e sh.dc ?_;walk_at "go";refine⟨lenK rfl,fun t0 ht0=>?_⟩;walk_at "go";refine b3p (sh.dc.imp (fun e=>a0n e ht0) fun e=>a0n e ht0) rfl ?_;have s0:Sm G (put G t0 (.lst [])):=Sm.new ht0;have none_:(∀ i∈ix T k,(q:Int)<i)->∀ (v1 v2:Option Z) (G1:Hq),Sm G G1->∀ t,G1 t=none->R (.ref t) (put G1 t (.lst [])):=fun hi _ _ G1 s1 t ht=>
  fin t [] _ (s1.free ht) (s1.trans (Sm.new ht)) a0d (by
   have e:((q:Int)).toNat=q:=by omega
   rw[e];exact IsLine.nil (a6S hi))
 cases hv:valZ kvs (.inr k) with
 | none=>
  walk_at "go";refine⟨t0,[],rfl,a0d,?_⟩;refine a06 (fun i σ G'=>∃ v1 v2:Option Z,σ=[some (.ref p),some (.str k),some (.int q),v1,v2]/\G'=put G t0 (.lst [])) ⟨_,_,rfl,rfl⟩ (fun i σ G' _ ⟨_,_,_,e⟩=>by rw[e];exact a0d) ?_ ?_
  ·rintro i x σ G' hx _;simp at hx
  ·rintro σ G' ⟨v1,v2,rfl,rfl⟩;walk_at "go";refine⟨lenK rfl,fun t ht=>?_⟩;exact none_ (fun i hi=>by rw[sh.no k hv]at hi;simp at hi) v1 v2 _ s0 t ht
 | some z=>
  obtain⟨h,es,rfl,H⟩:=sh.hs k z hv;walk_at "go";refine⟨h,_,rfl,a0n H.at_ ht0,?_⟩;rw[<- List.map_reverse];refine a06 (fun i σ G'=>∃ v1 v2:Option Z,(∀ (j:Nat) e,j<i->es.reverse[j]?=some e->(q:Int)<e.1)/\σ=[some (.ref p),some (.str k),some (.int q),v1,v2]/\G'=put G t0 (.lst [])) ⟨_,_,fun j e hj=>by omega,rfl,rfl⟩ (fun i σ G' _ ⟨_,_,_,_,e⟩=>by rw[e];exact a0n H.at_ ht0) ?_ ?_
  ·rintro i x σ G' hx ⟨v1,v2,hall,rfl,rfl⟩;rw[List.getElem?_map]at hx;cases hx':es.reverse[i]? with
   | none=>rw[hx']at hx;cases hx
   | some e=>
   rw[hx']at hx;cases hx;obtain⟨s,l⟩:=e;have hmem:(s,l)∈es:=by have:=List.mem_of_getElem? hx';simpa using this
   have hix:s∈ix T k:=by rw[<- H.ix];exact List.mem_map_of_mem (f:=(·.1)) hmem
   obtain⟨hs1,hs2⟩:=b52 hix;obtain⟨_,L,gl,il⟩:=H.ln _ hmem;refine⟨_,rfl,?_⟩;walk_at "go";refine ifD (fun c=>?_) fun c=>?_
   ·walk_at "go";refine a2z (a0n gl ht0) ?_;intro D hD;have hone:=il.pl.one;have hll:L.length≤1000:=by have:=il.len;rw[List.length_take]at this;omega
    refine a5Y (g':=Rw.z) (fun r=>some r) (fun ys=>a0n (a0n gl ht0) hD) hll ?_ ?_
    ·intro r hr ys K1 K2 k1 k2;obtain⟨x,hx⟩:=hone r hr;obtain⟨b,e,w⟩:=r;cases hx;refine⟨_,rfl,?_⟩;walk_at "go";refine⟨lenK rfl,?_⟩;exact k1 ⟨b,e,[x]⟩ rfl
    ·rw[b3O];refine fin D L _ (s0.free hD) (s0.trans (Sm.new hD)) a0d ?_;have e1:((q:Int)).toNat=q:=by omega
     rw[e1];have il':IsLine (T.take s.toNat) k L:=il;refine il'.cut (by omega) fun j hj=>?_;rw[<- H.ix]at hj;obtain⟨e2,he2,rfl⟩:=List.mem_map.mp hj
     by_cases c2:e2.1≤s
     ·left;omega
     ·right
      have he3:e2∈es.reverse:=by simpa using he2
      obtain⟨m,hm⟩:=List.getElem?_of_mem he3
      by_cases hmi:m<i
      ·exact hall m e2 hmi hm
      ·exfalso;have hst:(ix T k).Pairwise (·<·):=b0y T k
       rw[<- H.ix]at hst;have hst2:es.reverse.Pairwise (fun x y=>y.1<x.1):=by
        rw[List.pairwise_reverse];exact List.pairwise_map.mp hst
       by_cases hmi2:m=i
       ·subst hmi2;rw[hx']at hm;cases hm;omega
       ·obtain⟨l1,e5⟩:=List.getElem?_eq_some_iff.mp hx';obtain⟨l2,e6⟩:=List.getElem?_eq_some_iff.mp hm
        have:=List.pairwise_iff_getElem.mp hst2 i m l1 l2 (by omega)
        rw[e5,e6]at this;simp only at this;omega
   ·walk_at "go";refine⟨_,_,fun j e hj he=>?_,rfl,rfl⟩
    by_cases hji:j<i
    ·exact hall j e hji he
    ·have:j=i:=by omega
     subst this;rw[hx']at he;cases he;simp only;omega
  ·rintro σ G' ⟨v1,v2,hall,rfl,rfl⟩;walk_at "go";refine⟨lenK rfl,fun t ht=>?_⟩;refine none_ (fun j hj=>?_) v1 v2 _ s0 t ht;rw[<- H.ix]at hj;obtain⟨e2,he2,rfl⟩:=List.mem_map.mp hj;have he3:e2∈es.reverse:=by simpa using he2
   obtain⟨m,hm⟩:=List.getElem?_of_mem he3;exact hall m e2 (by rw[List.length_map];exact (List.getElem?_eq_some_iff.mp hm).1) hm
theorem a3v {kvs:List (Key×Z)}{k j:Key}{v:Z}:valZ (putZ kvs k v) j=if j=k then some v else valZ kvs j:=by
 unfold putZ
 split
 ·next hc=>
  have go:∀ kvs:List (Key×Z),valZ (kvs.map fun kv=>if kv.1=k then (kv.1,v) else kv) j=(valZ kvs j).map fun x=>if j=k then v else x:=by
   intro kvs
   induction kvs with
   | nil=>rfl
   | cons p r ih=>
    unfold valZ at ih ⊢;rw[List.map_cons,List.find?_cons,List.find?_cons];have e1:(if p.1=k then (p.1,v) else p).1=p.1:=by split<;>rfl
    rw[e1];cases c:decide (p.1=j) with
    | false=>exact ih
    | true=>
     have cj:=of_decide_eq_true c;simp only[Option.map_some]
     by_cases ck:p.1=k
     ·rw[if_pos ck,if_pos (cj.symm.trans ck)]
     ·rw[if_neg ck,if_neg (fun z=>ck (cj.trans z))]
  rw[go]
  by_cases c:j=k
  ·subst c;rw[if_pos rfl];obtain⟨p,h1,h2⟩:=List.any_eq_true.mp hc
   have:(kvs.find? fun kv=>decide (kv.1=j)).isSome=true:=List.find?_isSome.mpr ⟨p,h1,h2⟩
   unfold valZ;cases e:kvs.find? fun kv=>decide (kv.1=j) with
   | none=>rw[e]at this;cases this
   | some q=>simp
  ·rw[if_neg c];cases valZ kvs j with
   | none=>rfl
   | some x=>simp[c]
 ·next hc=>
  unfold valZ;rw[List.find?_append]
  by_cases c:j=k
  ·subst c;rw[if_pos rfl]
   have:kvs.find? (fun kv=>decide (kv.1=j))=none:=by
    rw[List.find?_eq_none];intro p hp hq;exact hc (List.any_eq_true.mpr ⟨p,hp,hq⟩)
   rw[this];simp
  ·rw[if_neg c]
   have:[(k,v)].find? (fun kv=>decide (kv.1=j))=none:=by simp;exact fun z=>c z.symm
   rw[this,Option.or_none]
theorem a53 {kvs:List (Key×Z)}{k:Key}{v:Z}:(putZ kvs k v).length≤kvs.length+1:=by
 unfold putZ
 split<;>simp
theorem Hist.ne_row {G:Hq}{S:Addr->Prop}{T:List Tl}{k:Str}{h x:Addr}{es:List (Int×Addr)}{L:List Rw}(H:Hist G S T k h es) (e:G x=some (.lst (L.map Rw.z))):x≠h:=fun z=>by
 subst z
 have:=e.symm.trans H.at_
 have h2:L.map Rw.z=es.map enZ:=by simpa using this
 cases es with
 | nil=>exact H.ne rfl
 | cons a es=>
  cases L with
  | nil=>simp at h2
  | cons r L=>
   rw[List.map_cons,List.map_cons]at h2;have h3:=(List.cons.inj h2).1;simp only[Rw.z,enZ,Z.tup.injEq,List.cons.injEq]at h3;obtain⟨rb,re,rw0⟩:=r;have h4:=h3.2.1;cases re<;>cases h4
theorem a6T {kvs:List (Key×Z)}{k:Key}(h:valZ kvs k=none):∀ q∈kvs,q.1≠k:=fun q hq e=>by
 unfold valZ at h
 have:(kvs.find? fun kv=>decide (kv.1=k)).isSome=true:=List.find?_isSome.mpr ⟨q,hq,decide_eq_true e⟩
 cases e2:kvs.find? fun kv=>decide (kv.1=k) with
 | none=>rw[e2]at this;cases this
 | some x=>rw[e2]at h;cases h
theorem b3P {kvs:List (Key×Z)}{k:Key}{v:Z}(h:valZ kvs k=none):putZ kvs k v=kvs++[(k,v)]:=by
 unfold putZ;rw[if_neg fun z=>?_];obtain⟨q,h1,h2⟩:=List.any_eq_true.mp z;exact a6T h q h1 (of_decide_eq_true h2)
theorem b54 {kvs:List (Key×Z)}{k:Key}{v:Z}(h:valZ kvs k=none) (nd:(kvs.map (·.1)).Nodup):((putZ kvs k v).map (·.1)).Nodup:=by
 rw[b3P h,List.map_append,List.nodup_append];refine⟨nd,by simp,fun x hx y hy=>?_⟩;obtain⟨q,hq,rfl⟩:=List.mem_map.mp hx
 have:y=k:=by simpa using hy
 rw[this];exact a6T h q hq
theorem b55 {kvs:List (Key×Z)}{k:Str}{v:Z}(sk:∀ q∈kvs,∃ s,q.1=Sum.inr s):∀ q∈putZ kvs (.inr k) v,∃ s,q.1=Sum.inr s:=fun q hq=>by
 unfold putZ at hq
 split at hq
 ·obtain⟨q0,h0,e⟩:=List.mem_map.mp hq;obtain⟨s,hs⟩:=sk q0 h0;refine⟨s,?_⟩;rw[<- e]
  split
  ·exact hs
  ·exact hs
 ·rcases List.mem_append.mp hq with hq | hq
  ·exact sk q hq
  ·exact⟨k,by rw[List.mem_singleton.mp hq]⟩
def a1N (a:Ad):P3:=fun ws G R=>Ex9 fun (p:Addr) (S:Addr->Prop) (T:List Tl) (τ:Tl) (l:Addr) (L:List Rw) (dx d:Addr) (kvs:List (Key×Z))=>ws=[.ref p,.str τ.key,.ref l]/\ShM a.c_Sheet G p S T ((T.length:Int)+1) dx d kvs/\G l=some (.lst (L.map Rw.z))/\¬ S l/\IsLine (T++[τ]) τ.key L/\T.length≤200 /\
 ∀ (S':Addr->Prop) G',(∀ b,S b->S' b)->(∀ b,S' b->S b\/b=l\/G b=none)->KN S G G'->Sheet a.c_Sheet G' p S' (T++[τ])->R .non G'
theorem a27 {a:Ad}{ws:List Z}{G:Hq}{R:K3}(h:a1N a ws G R):ws.length=3:=by obtain⟨_,_,_,_,_,_,_,_,_,rfl,_⟩:=h;rfl
theorem a54 {T:List Tl}{τ:Tl}{k:Str}{s:Int}(h:s∈ix T k):(T++[τ]).take s.toNat=T.take s.toNat:=by
 have:=b52 h
 rw[List.take_append_of_le_length (by omega)]
theorem a8e {T:List Tl}{τ:Tl}:(T++[τ]).take ((T.length:Int)+1).toNat=T++[τ]:=by
 rw[List.take_of_length_le];rw[List.length_append,List.length_singleton];omega
theorem a3w (F:Fns K a) (T:Txt K mg a):FnOk P w K mg base CX0 1 a.f29 a.d29 ["self","key","line"] (lowP K (a1N a)):=by
 refine fn3 F.n29 a3k (fun ws G R h=>(by exact a27 h)) (fun cdv A outer s H E ws G R hr h=>?_);have hu:=a02 hr;refine⟨_,(a0p (a05 (q_bm PySem.F.plainAttrs_list PySem.F.slot_list_append PySem.F.type_list_append a1p (q_bm PySem.F.plainAttrs_dict PySem.F.slot_dict_setdefault PySem.F.type_dict_setdefault a6x (a6w T.cl_Sheet T.na_kept (a0b (pv 0))) (a0c (a0b (pv 1)) (a0c (a2a a0i) a0i a5E) a0a)) (a0c (a4t (a0c (a6w T.cl_Sheet T.na_last (a0b (pv 0))) (a0c (a0b (pv 2)) a0i a0a) a1q)) a0i a3b)))),?_⟩;obtain⟨p,S,T,τ,l,L,dx,d,kvs,rfl,sh,gl,nl,il,hT,q⟩:=h;walk_at "go";refine⟨p,dx,_,_,rfl,sh.ob,a7l,?_⟩;refine b7d sh.dc ?_;walk_at "go";refine⟨lenK rfl,fun t0 ht0=>?_⟩;walk_at "go";have npd:p≠d:=fun z=>by have e:=sh.ob;rw[z,sh.dc]at e;cases e
 have hlen:((T++[τ]).length:Int)=(T.length:Int)+1:=by simp
 refine b5H (a0n sh.dc ht0) rfl (a0s (by have:=sh.len;omega)) (fun z hz=>?_) fun hz=>?_
 ·obtain⟨h,es,rfl,H⟩:=sh.hs _ z hz;have hpe:p≠h:=fun z=>by have e:=sh.ob;rw[z,H.at_]at e;cases e
  have hde:d≠h:=fun z=>by have e:=sh.dc;rw[z,H.at_]at e;cases e
  have hle:l≠h:=fun z=>nl (z▸H.s);refine a3c (a0n H.at_ ht0) ?_;walk_at "go";refine⟨p,dx,_,_,rfl,a0n sh.ob ht0,a23,?_⟩;walk_at "go";refine⟨lenK rfl,?_⟩;walk_at "go";have hel:es.length≤T.length:=by
   have e1:=congrArg List.length H.ix;rw[List.length_map]at e1;rw[e1];exact b53 T τ.key
  refine a07 (a0n H.at_ ht0) (by rw[List.length_map];exact a0s (by omega)) ?_;have keep:∀ b o,b≠h->G b=some o->put (put G t0 (.lst [])) h (.lst (es.map enZ++[.tup [.int ((T.length:Int)+1),.ref l]])) b=some o:=fun b o nb e=>by rw[a0B nb];exact a0n e ht0
  refine q (fun b=>S b\/b=l) _ (fun b hb=>.inl hb) (fun b hb=>hb.elim .inl fun z=>.inr (.inl z)) (fun b o nb e=>keep b o (fun z=>nb (z▸H.s)) e) ⟨dx,d,kvs,?_⟩;refine⟨by rw[hlen];exact keep _ _ hpe sh.ob,.inl sh.sp,.inl sh.sd,keep _ _ hde sh.dc,by have:=sh.len;simp;omega,fun k hk=>?_,fun k z e=>?_,sh.inj,(fun b hb=>?_),sh.nd,sh.sk⟩
  ·rw[a3L,sh.no k hk,if_neg]
   ·rfl
   ·rintro rfl;rw[hz]at hk;cases hk
  ·by_cases ck:k=τ.key
   ·subst ck;rw[hz]at e;cases e;refine⟨h,es++[((T.length:Int)+1,l)],rfl,.inl H.s,by rw[a0d,List.map_append];rfl,by rw[List.map_append,H.ix,a3L,if_pos rfl];rfl,by simp,fun e he=>?_⟩;rcases List.mem_append.mp he with he | he
    ·obtain⟨s1,L1,g1,i1⟩:=H.ln e he;refine⟨.inl s1,L1,keep _ _ (H.ne_row g1) g1,?_⟩;rw[a54 (k:=τ.key) (by rw[<- H.ix];exact List.mem_map_of_mem (f:=(·.1)) he)];exact i1
    ·rw[List.mem_singleton.mp he];refine⟨.inr rfl,L,keep _ _ hle gl,?_⟩;rw[a8e];exact il
   ·obtain⟨h',es',ez,H'⟩:=sh.hs k z e;have hh:h'≠h:=fun w=>ck (sh.inj k τ.key z e (by rw[hz,ez,w]));refine⟨h',es',ez,.inl H'.s,keep _ _ hh H'.at_,by rw[H'.ix,a3L,if_neg (Ne.symm ck),List.append_nil],H'.ne,fun e he=>?_⟩;obtain⟨s1,L1,g1,i1⟩:=H'.ln e he;refine⟨.inl s1,L1,keep _ _ (H.ne_row g1) g1,?_⟩;rw[a54 (k:=k) (by rw[<- H'.ix];exact List.mem_map_of_mem (f:=(·.1)) he)];exact i1
  ·by_cases c:b=h
   ·rw[c];exact⟨_,a0d⟩
   ·rcases hb with hb | hb
    ·obtain⟨o,e⟩:=sh.al b hb;exact⟨o,keep b o c e⟩
    ·rw[hb]at c ⊢;exact⟨_,keep l _ c gl⟩
 ·have hdt:d≠t0:=a0x sh.dc ht0;have hpt:p≠t0:=a0x sh.ob ht0;have hlt:l≠t0:=a0x gl ht0;have gt1:put (put G t0 (.lst [])) d (.dK (putZ kvs (.inr τ.key) (.ref t0))) t0=some (.lst []):=by rw[a0B (Ne.symm hdt)];exact a0d
  refine a3c gt1 ?_;walk_at "go";refine⟨p,dx,_,_,rfl,by rw[a0B npd];exact a0n sh.ob ht0,a23,?_⟩;walk_at "go";refine⟨lenK rfl,?_⟩;walk_at "go";refine a07 gt1 (a0s (by decide)) ?_;have keep:∀ b o,b≠d->G b=some o->put (put (put G t0 (.lst [])) d (.dK (putZ kvs (.inr τ.key) (.ref t0)))) t0 (.lst ([]++[.tup [.int ((T.length:Int)+1),.ref l]])) b=some o:=fun b o nb e=>by
   rw[a0B (a0x e ht0),a0B nb];exact a0n e ht0
  have nS:∀ h',S h'->∀ o,G h'=some o->h'≠t0:=fun h' _ o e=>a0x e ht0;refine q (fun b=>S b\/b=l\/b=t0) _ (fun b hb=>.inl hb) (fun b hb=>hb.elim .inl fun z=>z.elim (fun z=>.inr (.inl z)) fun z=>.inr (.inr (by rw[z];exact ht0))) (fun b o nb e=>keep b o (fun z=>nb (z▸sh.sd)) e) ⟨dx,d,putZ kvs (.inr τ.key) (.ref t0),?_⟩;refine⟨by rw[hlen];exact keep _ _ npd sh.ob,.inl sh.sp,.inl sh.sd,by rw[a0B hdt];exact a0d,by have h1:=sh.len;have h2:=@a53 kvs (.inr τ.key) (.ref t0);simp;omega,fun k hk=>?_,fun k z e=>?_,fun k k' z e e'=>?_,(fun b hb=>?_),b54 hz sh.nd,b55 sh.sk⟩
  ·rw[a3v]at hk
   split at hk
   ·cases hk
   ·next c=>
    rw[a3L,sh.no k hk,if_neg fun z=>c (by rw[z])]
    rfl
  ·rw[a3v]at e
   split at e
   ·next c=>
    cases e;have ck:k=τ.key:=by simpa using c
    subst ck;refine⟨t0,[((T.length:Int)+1,l)],rfl,.inr (.inr rfl),by rw[a0d];rfl,by rw[a3L,sh.no _ hz,if_pos rfl];rfl,by simp,fun e he=>?_⟩;rw[List.mem_singleton.mp he];refine⟨.inr (.inl rfl),L,keep _ _ (fun z=>by have z':l=d:=z;rw[z',sh.dc]at gl;cases gl) gl,?_⟩;rw[a8e];exact il
   ·next c=>
    obtain⟨h',es',ez,H'⟩:=sh.hs k z e;have hd':h'≠d:=fun w=>by have e:=H'.at_;rw[w,sh.dc]at e;cases e
    refine⟨h',es',ez,.inl H'.s,keep _ _ hd' H'.at_,by rw[H'.ix,a3L,if_neg fun z=>c (by rw[z]),List.append_nil],H'.ne,fun e he=>?_⟩;obtain⟨s1,L1,g1,i1⟩:=H'.ln e he;refine⟨.inl s1,L1,keep _ _ (fun w=>by rw[w,sh.dc]at g1;cases g1) g1,?_⟩;rw[a54 (k:=k) (by rw[<- H'.ix];exact List.mem_map_of_mem (f:=(·.1)) he)];exact i1
  ·rw[a3v]at e e'
   split at e
   ·next c=>
    split at e'
    ·next c'=>simpa using c.trans c'.symm
    ·cases e;obtain⟨h',es',ez,H'⟩:=sh.hs k' _ e';cases ez;exact absurd rfl (nS _ H'.s _ H'.at_)
   ·split at e'
    ·cases e';obtain⟨h',es',ez,H'⟩:=sh.hs k _ e;cases ez;exact absurd rfl (nS _ H'.s _ H'.at_)
    ·exact sh.inj k k' z e e'
  ·by_cases c:b=t0
   ·rw[c];exact⟨_,a0d⟩
   ·by_cases c2:b=d
    ·rw[c2];exact⟨_,by rw[a0B hdt];exact a0d⟩
    ·rcases hb with hb | hb | hb
     ·obtain⟨o,e⟩:=sh.al b hb;exact⟨o,keep b o c2 e⟩
     ·rw[hb]at c2 ⊢;exact⟨_,keep l _ c2 gl⟩
     ·exact absurd hb c
def BadT (a:Ad) (G:Hq) (z:Z) (c:Addr):Prop:=Ex4 fun (h:Z) (nm:List Z) (x y:Z)=>Tel G z h nm x y/\((nm.all a2L=false/\c=a.x_NoName)\/(nm.all a2L=true/\strB x y=false/\c=a.x_NoStretch))
def a3x (a:Ad):PX3:=fun ws G R EE=>∃ (p:Addr) (S:Addr->Prop) (T:List Tl),Sheet a.c_Sheet G p S T/\((∃ τ:Tl,ws=[.ref p,τ.z]/\τ.Ok/\T.length≤150 /\
 ∀ (S':Addr->Prop) G',(∀ b,S b->S' b)->(∀ b,S' b->S b\/G b=none)->KN S G G'->Sheet a.c_Sheet G' p S' (T++[τ])->R (.int ((T.length:Int)+1)) G') \/
 ∃ (z:Z) (c:Addr),ws=[.ref p,z]/\BadT a G z c/\∀ G',Sm G G'->EE c G')
theorem a41 {a:Ad}{ws:List Z}{G:Hq}{R:K3}{EE:Addr->Hq->Prop}(h:a3x a ws G R EE):ws.length=2:=by obtain⟨_,_,_,_,⟨_,rfl,_⟩ | ⟨_,_,rfl,_⟩⟩:=h<;>rfl
theorem b2p {τ:Tl}:∃ ws,τ.z=.tup ws/\atI ws 1=some (.str τ.key):=by
 obtain⟨k,w,b,e⟩:=τ;cases w<;>exact⟨_,rfl,at1⟩
theorem b56 {G:Hq}{e:Option Int}:Th G (oz e):=by cases e<;>exact True.intro
theorem Tl.Ok.tel {G:Hq}{τ:Tl}(ok:τ.Ok):∃ (h:Z) (nm:List Z),Tel G τ.z h nm (.int τ.b) (oz τ.e)/\nm.all a2L=true/\strB (.int τ.b) (oz τ.e)=true:=by
 obtain⟨k,w,b,e⟩:=τ;have hk:=ok.k;have hw:=ok.w;have hs:=st_b ok.st;cases w with
 | none=>exact⟨_,[.str k],⟨rfl,.inl ⟨_,rfl⟩,fun z hz=>by rw[List.mem_singleton.mp hz];exact a6P hk,True.intro,b56⟩,by rw[List.all_cons,nm_b hk];rfl,hs⟩
 | some w=>
  have hw:=hw w rfl;refine⟨_,[.str k,.str w],⟨rfl,.inr ⟨_,_,rfl⟩,fun z hz=>?_,True.intro,b56⟩,by rw[List.all_cons,nm_b hk,List.all_cons,nm_b hw];rfl,hs⟩;simp only[List.mem_cons,List.not_mem_nil,or_false]at hz;rcases hz with rfl | rfl
  ·exact a6P hk
  ·exact a6P hw
theorem a55 (F:Fns K a) (T:Txt K mg a):FnOk P w K mg base (CXx P w) 5 a.f30 a.d30 ["self","telling"] (a4A K (a3x a)):=by
 have G_p_check_telling:=a3t (P:=P) (w:=w) (base:=base) F T;have G_p_line_behind:=a4c (P:=P) (w:=w) (base:=base) F T;have G_Sheet_keep_line:=a3w (P:=P) (w:=w) (base:=base) F T;have G_Sheet_known_line:=a04 (P:=P) (w:=w) (base:=base) F T;refine fn3x F.n30 sc_Sheet_tell (fun ws G R EE h=>(by exact a41 h)) (fun cdv A outer s H E ws G R EE hr h ux=>?_);have hu:=a02 hr;refine⟨_,(a0l (a05 (a4B (a17 Outs.of) ux.since G_p_check_telling (hr.mono (by decide)) rfl T.m11 F.n11.kp (a3m F) (a0c (a0b (pv 1)) a0i a0a) (he:=a0a) (hpl:=a0j)))
  (a0l (a0Z (i:=2) sc_Sheet_tell.nd rfl (Or.inl rfl) (q_ix x_ix (a0b (pv 1)) a0f (fun _ _=>rfl)))
  (a0l (a0Z (i:=3) sc_Sheet_tell.nd rfl (Or.inl rfl) (a0M G_p_line_behind (hr.mono (by decide)) rfl T.m12 F.n12.kp (a38 F) (a0c (a7T (a0b (pv 0)) T.cl_Sheet T.mt24 G_Sheet_known_line (hr.mono (by decide)) (a03 F) (a0c (a0b (pv 2)) (a0c (a6w T.cl_Sheet T.na_last (a0b (pv 0))) a0i a1q) a0a) (hst:=a0a) (hpl:=(a0k a1q a0j))) (a0c (a0b (pv 1)) a0i a0a) a0N) (he:=a0N) (hpl:=(a0k a0a a0j))))
  (a0l (b1w T.cl_Sheet T.na_last (a0b (pv 0)) a0f b4W)
  (a0l (a05 (a7T (a0b (pv 0)) T.cl_Sheet T.mt29 G_Sheet_keep_line (hr.mono (by decide)) (a3n F) (a0c (a0b (pv 2)) (a0c (a0b (pv 3)) a0i a0a) a0a) (hst:=a0a) (hpl:=(a0k a0a a0j))))
  (a0p (a0G (a6w T.cl_Sheet T.na_last (a0b (pv 0)))))))))),?_⟩
 obtain⟨p,S,T,⟨dx,d,kvs,sh⟩,⟨τ,rfl,ok,hT,q⟩ | ⟨z,c,rfl,⟨h,nm,x,y,tel,hb⟩,q⟩⟩:=h
 rotate_left
 ·walk_at "go";refine⟨z,h,nm,x,y,rfl,tel,fun G1 s1=>?_⟩;have q':=q G1 s1;rcases hb with ⟨e1,rfl⟩ | ⟨e1,e2,rfl⟩
  ·rw[e1];exact ifF q'
  ·rw[e1,e2];exact ifT (ifF q')
 walk_at "go";obtain⟨th,tn,tel,ta,ts⟩:=ok.tel (G:=G);refine⟨_,_,_,_,_,rfl,tel,fun G1 s1=>?_⟩;rw[ta,ts];refine ifT (ifT ?_);have sh1:=sh.keep (Sm.ks s1);obtain⟨ws,ez,ek⟩:=@b2p τ;walk_at "go";rw[ez];refine a33 ek ?_;rw[<- ez];walk_at "go";refine⟨p,dx,_,rfl,sh1.ob,a2M (by decide +kernel) (by decide +kernel),?_⟩;walk_at "go";refine⟨p,dx,_,_,rfl,sh1.ob,a23,?_⟩;walk_at "go";refine⟨p,S,T,τ.key,_,_,dx,d,kvs,rfl,sh1.v,by omega,by omega,by omega,fun t L G2 ht s2 gt il=>?_⟩;rw[show ((T.length:Int)).toNat=T.length by omega,List.take_length]at il;have sh2:=sh1.keep (Sm.ks s2);walk_at "go";have hll:=il.len;refine⟨t,L,τ,rfl,gt,il.can.rise,il.pl,by omega,ok,fun u G3 hu s3 gu=>?_⟩;have sh3:=sh2.keep (Sm.ks s3);have S13:=(s1.trans s2).trans s3;have hu0:G u=none:=(s1.trans s2).free hu;have nu:¬ S u:=fun z=>by obtain⟨o,e⟩:=sh.al u z;rw[hu0]at e;cases e
 walk_at "go";refine⟨p,dx,_,_,rfl,sh3.ob,a23,?_⟩;walk_at "go";refine⟨dx,_,sh3.ob,by show 2<1000;decide,?_⟩;rw[b3J];have hup:u≠p:=fun z=>nu (z▸sh.sp);have sh4:ShM a.c_Sheet (put G3 p (.ins a.c_Sheet dx (shF ((T.length:Int)+1) d))) p S T ((T.length:Int)+1) dx d kvs:=by
  have kp:∀ b o,b≠p->G3 b=some o->put G3 p (.ins a.c_Sheet dx (shF ((T.length:Int)+1) d)) b=some o:=fun b o nb e=>by rw[a0B nb];exact e
  refine⟨a0d,sh3.sp,sh3.sd,kp _ _ (fun z=>by have e:=sh3.dc;rw[z,sh3.ob]at e;cases e) sh3.dc,sh3.len,sh3.no,fun k z e=>?_,sh3.inj,(fun b hb=>?_),sh3.nd,sh3.sk⟩
  ·obtain⟨h,es,ez,H⟩:=sh3.hs k z e;refine⟨h,es,ez,H.s,kp _ _ (fun z=>by have e:=H.at_;rw[z,sh3.ob]at e;cases e) H.at_,H.ix,H.ne,fun e he=>?_⟩;obtain⟨s1,L1,g1,i1⟩:=H.ln e he;exact⟨s1,L1,kp _ _ (fun z=>by rw[z,sh3.ob]at g1;cases g1) g1,i1⟩
  ·by_cases c:b=p
   ·rw[c];exact⟨_,a0d⟩
   ·obtain⟨o,e⟩:=sh3.al b hb;exact⟨o,kp b o c e⟩
 have gu4:put G3 p (.ins a.c_Sheet dx (shF ((T.length:Int)+1) d)) u=some (.lst ((a5X L τ.b τ.e (optW τ.v)).map Rw.z)):=by rw[a0B hup];exact gu
 have kn4:KN S G (put G3 p (.ins a.c_Sheet dx (shF ((T.length:Int)+1) d))):=fun b o nb e=>by rw[a0B (show b≠p from fun z=>nb (by rw[z];exact sh.sp))];exact S13 _ _ e
 have nn4:∀ b,put G3 p (.ins a.c_Sheet dx (shF ((T.length:Int)+1) d)) b=none->G b=none:=fun b e=>by
  by_cases c:b=p
  ·rw[c,a0d]at e;cases e
  ·rw[a0B c]at e;exact S13.free e
 generalize put G3 p (.ins a.c_Sheet dx (shF ((T.length:Int)+1) d))=G4 at sh4 gu4 kn4 nn4 ⊢;walk_at "go";refine⟨p,dx,_,rfl,sh4.ob,a2M (by decide +kernel) (by decide +kernel),?_⟩;walk_at "go";refine⟨p,S,T,τ,u,_,dx,d,kvs,rfl,sh4,gu4,nu,il.snoc ok,by omega,fun S' G5 i1 i2 kn5 sh5=>?_⟩;have sh5':=sh5;obtain⟨dx5,d5,kvs5,m5⟩:=sh5';walk_at "go";refine⟨p,dx5,_,_,rfl,m5.ob,a23,?_⟩;have e:(((T++[τ]).length:Nat):Int)=(T.length:Int)+1:=by simp
 rw[e];refine q S' G5 i1 (fun b hb=>?_) (kn4.trans kn5) sh5;rcases i2 b hb with h | h | h
 ·exact .inl h
 ·rw[h];exact .inr hu0
 ·exact .inr (nn4 b h)
def b2q:P3:=fun ws G R=>∃ c k:Int,ws=[.int c,.int k]/\0≤k/\k≤1000/\∀ i:Int,0≤i->i<268435449->R (.int i) G
theorem b3Q {ws:List Z}{G:Hq}{R:K3}(h:b2q ws G R):ws.length=2:=by obtain⟨_,_,rfl,_⟩:=h;rfl
theorem b0z (F:Fns K a) (T:Txt K mg a):FnOk P w K mg base CX0 1 a.f14 a.d14 ["cell","k"] (lowP K b2q):=by
 refine fn3 F.n14 sc_mix (fun ws G R h=>(by exact b3Q h)) (fun cdv A outer s H E ws G R hr h=>?_);have hu:=a02 hr;refine⟨_,(a0l (a0Z (i:=2) sc_mix.nd rfl (Or.inl rfl) (q_op a3E (q_op a1Y (a0b (pv 0)) (q_op b1i a0f (q_op a1Y (a0b (pv 1)) a0f))) a0f))
  (a0l (a0Z (i:=2) sc_mix.nd rfl (Or.inl rfl) (q_op a3E (q_op b1i (a0b (pv 2)) (a0b (pv 2))) a0f))
  (a0p (a0G (q_op a9M (q_op a3E (q_op b1i (a0b (pv 2)) (q_op a1Y (q_op a1Y (a0b (pv 2)) a0f) (a0b (pv 1)))) a0f) a0f))))),?_⟩
 obtain⟨c,k,rfl,k0,k1,q⟩:=h;walk_at "go";refine i_I (.inl ⟨by decide,by decide⟩) ?_;walk_at "go";refine i_I (show (0:Int)<2147483647 by decide) ?_;walk_at "go";generalize ho:(c+104729*(k+1)) % 2147483647=o;have o0:0≤o/\o<2147483647:=by rw[<- ho];exact⟨Int.emod_nonneg _ (by decide),Int.emod_lt_of_pos _ (by decide)⟩
 refine i_I (.inl ⟨by omega,by omega⟩) ?_;walk_at "go";refine i_I (show (0:Int)<2147483629 by decide) ?_;walk_at "go";generalize ho2:o*o % 2147483629=o2;have o20:0≤o2/\o2<2147483629:=by rw[<- ho2];exact⟨Int.emod_nonneg _ (by decide),Int.emod_lt_of_pos _ (by decide)⟩
 refine i_I (.inl ⟨by omega,by omega⟩) ?_;walk_at "go";refine i_I (show (0:Int)<2147483587 by decide) ?_;walk_at "go";refine i_I ⟨by decide,by decide⟩ ?_;have e:∀ x:Int,0≤x % 2147483587/\x % 2147483587<2147483587:=fun x=>⟨Int.emod_nonneg _ (by decide),Int.emod_lt_of_pos _ (by decide)⟩
 have:=e (o2*(o2+7919+k))
 exact q _ (by omega) (by omega)
def Bnd (xs bs:List Int):Prop:=xs.length=bs.length/\∀ (i:Nat) x b,xs[i]?=some x->bs[i]?=some b->0≤x/\x<b
theorem Bnd.at {xs bs:List Int}(h:Bnd xs bs) {i:Nat}{b:Int}(e:bs[i]?=some b):∃ x,xs[i]?=some x/\0≤x/\x<b:=by
 have hi:=(List.getElem?_eq_some_iff.mp e).1;have hx:i<xs.length:=by rw[h.1];exact hi
 exact⟨xs[i],List.getElem?_eq_getElem hx,h.2 i _ b (List.getElem?_eq_getElem hx) e⟩
theorem a0L {xs:List Int}{i:Nat}{x:Int}(e:xs[i]?=some x):atI (xs.map Z.int) (i:Int)=some (.int x):=a13 (by rw[List.getElem?_map,e];rfl)
def a8f:P3:=fun ws G R=>Ex4 fun (c w:Int) (p:Addr) (bs:List Int)=>ws=[.int c,.int w,.ref p]/\G p=some (.lst (bs.map Z.int))/\bs.length≤20/\(∀ b∈bs,0<b/\b<2 ^ 60) /\
 ∀ t xs,G t=none->Bnd xs bs->R (.ref t) (put G t (.lst (xs.map Z.int)))
theorem b0A {ws:List Z}{G:Hq}{R:K3}(h:a8f ws G R):ws.length=3:=by obtain⟨_,_,_,_,rfl,_⟩:=h;rfl
theorem a8g (F:Fns K a) (T:Txt K mg a):FnOk P w K mg base CX0 2 a.f15 a.d15 ["cell","way","bounds"] (lowP K a8f):=by
 have G_mix:=b0z (P:=P) (w:=w) (base:=base) F T;refine fn3 F.n15 sc_parts (fun ws G R h=>(by exact b0A h)) (fun cdv A outer s H E ws G R hr h=>?_);have hu:=a02 hr;refine⟨_,(a0l (a0Z (i:=3) sc_parts.nd rfl (Or.inl rfl) (a2a a0i))
  (a0l (a2X (pt:=(.nm 4)) PassesOwn.never rfl (a2G rfl T.b_range (a0c (a0z b_len rfl T.b_len PySem.boot_len (a0c (a0b (pv 2)) a0i a0a) (he:=a0a) (hpl:=a0j)) a0i a0N)) (show QP _ _ (.nm 4) from (a0u (i:=4) sc_parts.nd rfl (Or.inl rfl)))
  (a0p (z_if (a0t (o_eq hu) (a0b (pv 1)) a0f (a0r _))
  (a0l (a05 (q_bm PySem.F.plainAttrs_list PySem.F.slot_list_append PySem.F.type_list_append a1p (a0b (pv 3)) (a0c (q_op a3E (a0b (pv 0)) (q_ix x_ix (a0b (pv 2)) (a0b (pv 4)) (fun _ _=>rfl))) a0i a0I)))
  (a0p (a0Z (i:=0) sc_parts.nd rfl (Or.inl rfl) (q_op a9M (a0b (pv 0)) (q_ix x_ix (a0b (pv 2)) (a0b (pv 4)) (fun _ _=>rfl))))))
  (a0p (a05 (q_bm PySem.F.plainAttrs_list PySem.F.slot_list_append PySem.F.type_list_append a1p (a0b (pv 3)) (a0c (q_op a3E (q_op b1i (a0M G_mix (hr.mono (by decide)) rfl T.m14 F.n14.kp (a7Z F) (a0c (a0b (pv 0)) (a0c (a0b (pv 4)) a0i a0a) a0a) (he:=a0a) (hpl:=(a0k a0a a0j))) a0f) (q_ix x_ix (a0b (pv 2)) (a0b (pv 4)) (fun _ _=>rfl))) a0i a0I)))))))
  (a0p (a0G (a0b (pv 3)))))),?_⟩
 obtain⟨c,w,p,bs,rfl,hp,hl,hb,q⟩:=h;walk_at "go";refine⟨lenK rfl,fun t ht=>?_⟩;walk_at "go";refine a3U (a0n hp ht) ?_;walk_at "go";rw[List.length_map];refine⟨by omega,by omega,?_⟩;rw[show ((bs.length:Int)).toNat=bs.length by omega];refine a06 (fun i σ G'=>∃ (c:Int) (xs:List Int) (v:Option Z),xs.length=i/\(∀ (j:Nat) x b,xs[j]?=some x->bs[j]?=some b->0≤x/\x<b)/\σ=[some (.int c),some (.int w),some (.ref p),some (.ref t),v]/\G'=put G t (.lst (xs.map Z.int))) ⟨c,[],_,rfl,fun j x b h=>by simp at h,rfl,rfl⟩ (fun _ _ _ _ _=>True.intro) ?_ ?_
 ·rintro i x σ G' hx ⟨c,xs,v,hxs,hall,rfl,rfl⟩;obtain⟨hi,rfl⟩:=a3B hx;rw[Int.zero_add];have hbi:bs[i]?=some bs[i]:=List.getElem?_eq_getElem hi;have hbb:=hb _ (List.getElem_mem hi);generalize bs[i]=b at hbi hbb;have hbm:=a0L hbi;have hp':=a0n (o:=.lst (xs.map Z.int)) hp ht;have fin:∀ (c' x:Int) (w':Option Z),0≤x->x<b->∃ (c:Int) (xs':List Int) (v:Option Z),xs'.length=i+1/\(∀ (j:Nat) x b,xs'[j]?=some x->bs[j]?=some b->0≤x/\x<b)/\([some (.int c'),some (.int w),some (.ref p),some (.ref t),w']:S3)=[some (.int c),some (.int w),some (.ref p),some (.ref t),v]/\put (put G t (.lst (xs.map Z.int))) t (.lst (xs.map Z.int++[.int x]))=put G t (.lst (xs'.map Z.int)):=fun c' x w' x0 x1=>by
   refine⟨c',xs++[x],w',by simp;exact hxs,fun j y b' e1 e2=>?_,rfl,by rw[a1S,List.map_append];rfl⟩
   by_cases hj:j<xs.length
   ·rw[List.getElem?_append_left hj]at e1;exact hall j y b' e1 e2
   ·have hjl:=(List.getElem?_eq_some_iff.mp e1).1
    have:j=xs.length:=by simp at hjl;omega
    subst this;rw[List.getElem?_append_right (Nat.le_refl _),Nat.sub_self]at e1;cases e1;rw[hxs,hbi]at e2;cases e2;exact⟨x0,x1⟩
  refine⟨_,rfl,?_⟩;walk_at "go";refine ifD (fun _=>?_) fun _=>?_
  ·walk_at "go";refine a3c a0d ?_;walk_at "go";refine a0D hp' hbm ?_;walk_at "go";refine i_I hbb.1 ?_;walk_at "go";refine a07 a0d (by rw[List.length_map];exact a0s (by omega)) ?_;have hne:p≠t:=a0x hp ht;walk_at "go";refine a0D (by rw[a0B hne,a0B hne];exact hp) hbm ?_;walk_at "go";refine i_I ⟨hbb.1,by omega⟩ ?_;walk_at "go";exact fin _ _ _ (Int.emod_nonneg _ (by omega)) (Int.emod_lt_of_pos _ hbb.1)
  ·walk_at "go";refine a3c a0d ?_;walk_at "go";refine⟨c,(i:Int),rfl,by omega,by omega,fun m m0 m1=>?_⟩;walk_at "go";refine i_I (.inl ⟨by omega,by omega⟩) ?_;walk_at "go";refine a0D hp' hbm ?_;walk_at "go";refine i_I hbb.1 ?_;walk_at "go";refine a07 a0d (by rw[List.length_map];exact a0s (by omega)) ?_;exact fin _ _ _ (Int.emod_nonneg _ (by omega)) (Int.emod_lt_of_pos _ hbb.1)
 ·rintro σ G' ⟨c,xs,v,hxs,hall,rfl,rfl⟩;rw[a1X]at hxs;walk_at "go";exact q t xs ht ⟨hxs,hall⟩
abbrev LET:Str:=Str.ofString "etaoinshrdlucmfwypvbgkjqxz"
theorem a4k:LET.cps.toList=[101,116,97,111,105,110,115,104,114,100,108,117,99,109,102,119,121,112,118,98,103,107,106,113,120,122]:=by decide +kernel
theorem b2r {k:Int}(h0:0≤k) (h1:k<26):∃ c,atI LET.cps.toList k=some c/\isL c:=by
 obtain⟨j,rfl⟩:=Int.eq_ofNat_of_zero_le h0;have hj:j<26:=by omega
 have:∀ j:Fin 26,∃ c,([101,116,97,111,105,110,115,104,114,100,108,117,99,109,102,119,121,112,118,98,103,107,106,113,120,122]:List Nat)[j.1]?=some c/\97≤c/\c≤122:=by decide
 obtain⟨c,e,h⟩:=this ⟨j,hj⟩;exact⟨c,a13 (by rw[a4k];exact e),h⟩
theorem a4l (a b:Str):(a++b).cps.toList=a.cps.toList++b.cps.toList:=by
 show (a.cps++b.cps).toList=_
 rw[Array.toList_append]
theorem b57 {s:Str}{p:Nat}(h:p≤s.cps.toList.length):(Txt.slice s none (some (p:Int))).cps.toList=s.cps.toList.take p:=by
 have:=eq_of_beq (PyProof.Rows.slice_closes_to (x:=s) (j:=(p:Int)) ⟨by omega,by omega⟩)
 rw[this];simp
theorem b0B {s:Str}{p:Nat}(h:p≤s.cps.toList.length):(Txt.slice s (some (p:Int)) none).cps.toList=s.cps.toList.drop p:=by
 have:=PyProof.Rows.slice_from_eq (x:=s) (i:=(p:Int)) (b:=(s.length:Int)) (by omega) (by rw[a4a];omega) rfl
 rw[this,a4a,List.take_of_length_le (by rw[List.length_drop];omega)];simp
def letN (s:Str) (n:Nat):Prop:=s.cps.toList.length=n/\∀ c∈s.cps.toList,isL c
theorem letN.nm {s:Str}{n:Nat}(h:letN s n) (h1:1≤n) (h8:n≤8):nmOk s:=⟨by rw[h.1];exact h1,by rw[h.1];exact h8,h.2⟩
theorem letN.sz {s:Str}{n:Nat}(h:letN s n) (h8:n≤100):s.length≤sizeLine:=a3o (by rw[a4a,h.1];omega)
theorem letN.one {c:Nat}(h:isL c):letN ⟨#[c]⟩ 1:=⟨rfl,fun x hx=>by
 have:x=c:=by simpa using hx
 rw[this];exact h⟩
theorem letN.add {a b:Str}{n m:Nat}(h:letN a n) (g:letN b m):letN (a++b) (n+m):=⟨by rw[a4l,List.length_append,h.1,g.1],fun c hc=>by
 rw[a4l]at hc;rcases List.mem_append.mp hc with hc | hc
 ·exact h.2 c hc
 ·exact g.2 c hc⟩
theorem letN.to {s:Str}{n p:Nat}(h:letN s n) (hp:p≤n):letN (Txt.slice s none (some (p:Int))) p:=⟨by rw[b57 (by rw[h.1];exact hp),List.length_take,h.1];omega,fun c hc=>by
 rw[b57 (by rw[h.1];exact hp)]at hc;exact h.2 c (List.mem_of_mem_take hc)⟩
theorem letN.from {s:Str}{n p:Nat}(h:letN s n) (hp:p≤n):letN (Txt.slice s (some (p:Int)) none) (n - p):=⟨by rw[b0B (by rw[h.1];exact hp),List.length_drop,h.1],fun c hc=>by
 rw[b0B (by rw[h.1];exact hp)]at hc;exact h.2 c (List.mem_of_mem_drop hc)⟩
theorem a5r:∀ (ys:List Str),(∀ s∈ys,letN s 1)->letN (Str.join (Str.ofString "") ys) ys.length
 | [],_=>⟨by decide +kernel,fun c hc=>by rw[show (Str.join (Str.ofString "") []).cps.toList=[] by decide +kernel]at hc;simp at hc⟩
 | [s],h=>h s (.head _)
 | s::t::r,h=>by
  have ih:=a5r (t::r) fun u hu=>h u (.tail _ hu);have h0:letN (Str.ofString "") 0:=⟨by decide +kernel,fun c hc=>by rw[show (Str.ofString "").cps.toList=[] by decide +kernel]at hc;simp at hc⟩
  have:=((h s (.head _)).add h0).add ih
  rw[show 1+0+(t::r).length=(s::t::r).length by simp;omega]at this;exact this
theorem b0C (ys:List Str) (h:∀ s∈ys,letN s 1):letN (Txt.join (Str.ofString "") ys) ys.length:=by
 have e:Txt.join (Str.ofString "") ys=Str.join (Str.ofString "") ys:=StrLaws.glued_eq_join _ _;rw[e];exact a5r ys h
theorem a8h:∀ (ys:List Str),(∀ s∈ys,letN s 1)->(ys.map (·.length)).sum=ys.length
 | [],_=>rfl
 | s::r,h=>by
  rw[List.map_cons,List.sum_cons,a8h r fun u hu=>h u (.tail _ hu),List.length_cons,a4a,(h s (.head _)).1];omega
theorem b58:∀ i:Nat,i<8->([8,8,26,26,26,26,26,26,26,26,26,2]:List Int)[3+i]?=some 26:=by decide
theorem a56 {α:Type}{P:α->Prop}{l:List α}{x:α}(h:∀ s∈l,P s) (hx:P x):∀ s∈l++[x],P s:=fun s hs=>by
 rcases List.mem_append.mp hs with hs | hs
 ·exact h s hs
 ·rw[List.mem_singleton.mp hs];exact hx
theorem b3R {k k':Int}{c:Nat}(h0:0≤k) (h1:k<26) (h0':0≤k') (h1':k'<26) (e:atI LET.cps.toList k=some c) (e':atI LET.cps.toList k'=some c):k=k':=by
 obtain⟨j,rfl⟩:=Int.eq_ofNat_of_zero_le h0;obtain⟨j',rfl⟩:=Int.eq_ofNat_of_zero_le h0';have at_:∀ i:Nat,i<26->atI LET.cps.toList (i:Int)=LET.cps.toList[i]?:=fun i hi=>by
  obtain⟨x,hx⟩:∃ x,LET.cps.toList[i]?=some x:=⟨_,List.getElem?_eq_getElem (by rw[a4k];exact hi)⟩;rw[hx];exact a13 hx
 rw[at_ j (by omega),a4k]at e;rw[at_ j' (by omega),a4k]at e';have key:∀ a b:Fin 26,([101,116,97,111,105,110,115,104,114,100,108,117,99,109,102,119,121,112,118,98,103,107,106,113,120,122]:List Nat)[a.1]?=([101,116,97,111,105,110,115,104,114,100,108,117,99,109,102,119,121,112,118,98,103,107,106,113,120,122]:List Nat)[b.1]?->a=b:=by decide +kernel
 have:=key ⟨j,by omega⟩ ⟨j',by omega⟩ (e.trans e'.symm)
 have:j=j':=congrArg Fin.val this
 omega
theorem b3S {ns:List Str}{s:Str}{m l:Nat}(h:ns.Nodup) (hl:∀ u∈ns,letN u m) (hs:letN s l) (ne:l≠m) (hn:ns≠[]):(ns.set (ns.length - 1) s).Nodup:=by
 obtain⟨x,hx⟩:∃ x,ns.getLast?=some x:=⟨_,List.getLast?_eq_some_getLast hn⟩;rw[a76 hx,List.nodup_append];refine⟨h.sublist (List.dropLast_sublist _),by simp,fun a ha b hb z=>ne ?_⟩;rw[List.mem_singleton.mp hb]at z
 have:=(hl a (List.dropLast_subset _ ha)).1
 rw[z,hs.1]at this;exact this
def a8i:P3:=fun ws G R=>∃ (c w n:Int),ws=[.int c,.int w,.int n]/\1≤n/\n≤22/\∀ (t:Addr) (ns:List Str) (G':Hq),G t=none->G' t=some (.lst (ns.map Z.str))->(ns.length:Int)=n->(∀ s∈ns,nmOk s)->ns.Nodup->Sm G G'->R (.ref t) G'
theorem b0D {ws:List Z}{G:Hq}{R:K3}(h:a8i ws G R):ws.length=3:=by obtain⟨_,_,_,rfl,_⟩:=h;rfl
abbrev B12:List Int:=[8,8,26,26,26,26,26,26,26,26,26,2]
theorem b1P (F:Fns K a) (T:Txt K mg a):FnOk P w K mg base CX0 3 a.f16 a.d16 ["cell","way","many"] (lowP K a8i):=by
 have G_parts:=a8g (P:=P) (w:=w) (base:=base) F T;refine fn3 F.n16 sc_names (fun ws G R h=>(by exact b0D h)) (fun cdv A outer s H E ws G R hr h=>?_);have hu:=a02 hr;refine⟨_,(a0l (a0Z (i:=3) sc_names.nd rfl (Or.inr rfl) a3Z)
  (a0l (a0Z (i:=4) sc_names.nd rfl (Or.inr rfl) (a0M G_parts (hr.mono (by decide)) rfl T.m15 F.n15.kp (a70 F) (a0c (a0b (pv 0)) (a0c (a0b (pv 1)) (a0c (q_op a1Y (q_op a1Y (a2a (a0c a0f (a0c a0f (a0c a0f a0i a0e) a0e) a0e)) (q_op b7f (a2a (a0c a0f a0i a0e)) a0f)) (a2a (a0c a0f a0i a0e))) a0i a0I) a0a) a0a) (he:=a0a) (hpl:=(a0k a0a (a0k a0I a0j)))))
  (a0l (a0Z (i:=5) sc_names.nd rfl (Or.inr rfl) (q_bm PySem.F.plainAttrs_str PySem.F.slot_str_join PySem.F.type_str_join b43 a3Z (a0c (q_lc (N₀:=["cell","way","many","letters","xs","stem","at","found"]) (so:=a0g a4E) (N':=["k","letters","xs"]) (cap:=[none,some 3,some 4]) (pt:=(.nm 0)) rfl rfl rfl (by decide +kernel) rfl (a2G rfl T.b_range (a0c (q_op a1Y a0f (q_ix x_ix (a0b (pv 4)) a0f (fun _ _=>rfl))) a0i a0I)) (fun _ _ _ _=>(show QP _ _ (.nm 0) from (a0u (i:=0) b7o rfl (Or.inl rfl)))) (fun _ _ _ _=>a5H) (fun _ _ _ _=>(q_ix x_ix (a0b (pv 1)) (q_ix x_ix (a0b (pv 2)) (q_op a1Y a0f (a0b (pv 0))) (fun _ _=>rfl)) (fun _ _=>rfl)))) a0i a1z)))
  (a0l (a0Z (i:=6) sc_names.nd rfl (Or.inr rfl) (q_op a3E (q_ix x_ix (a0b (pv 4)) a0f (fun _ _=>rfl)) (a0z b_len rfl T.b_len PySem.boot_len (a0c (a0b (pv 5)) a0i a0a) (he:=a0a) (hpl:=a0j))))
  (a0l (a9L (i:=7) sc_names.nd rfl rfl (N₀:=["cell","way","many","letters","xs","stem","at","found"]) (so:=a0g a4E) (N':=["k","stem","letters","at","xs"]) (cap:=[none,some 5,some 3,some 6,some 4]) (pt:=(.nm 0)) rfl rfl rfl (by decide +kernel) rfl (a2G rfl T.b_range (a0c (a0b (pv 2)) a0i a0a)) (fun _ _ _ _=>(show QP _ _ (.nm 0) from (a0u (i:=0) b7p rfl (Or.inl rfl)))) (fun _ _ _ _=>a5H) (fun _ _ _ _=>(q_op a1Y (q_op a1Y (a1h x_sl (a0b (pv 1)) a1o (a1w (a0b (pv 3)))) (q_ix x_ix (a0b (pv 2)) (q_op a3E (q_op a1Y (q_ix x_ix (a0b (pv 4)) a0f (fun _ _=>rfl)) (a0b (pv 0))) a0f) (fun _ _=>rfl))) (a1h x_sl (a0b (pv 1)) (a1w (q_op a1Y (a0b (pv 3)) a0f)) a1o))))
  (b1h (z_if (QW.qt (a30 (a0t (o_eq hu) (q_ix x_ix (a0b (pv 4)) a0f (fun _ _=>rfl)) a0f (a0r _)) (a3a (a0t o_lt (a0z b_len rfl T.b_len PySem.boot_len (a0c (a0b (pv 5)) a0i a0a) (he:=a0a) (hpl:=a0j)) a0f (a0r _)))))
  (a0p (a5d (q_op a1Y (q_ix x_ix (a0b (pv 7)) a0f (fun _ _=>rfl)) (q_ix x_ix (q_ix x_ix (a0b (pv 7)) a0f (fun _ _=>rfl)) a0f (fun _ _=>rfl))) (a0b (pv 7)) (q_un a2b a0f) b3a))
  (a0p (z_if (a0t (o_eq hu) (q_ix x_ix (a0b (pv 4)) a0f (fun _ _=>rfl)) a0f (a0r _))
  (a0p (a5d (a1h x_sl (q_ix x_ix (a0b (pv 7)) a0f (fun _ _=>rfl)) (a1w a0f) a1o) (a0b (pv 7)) (q_un a2b a0f) b3a))
  a0V)))
  (a0p (a0G (a0b (pv 7)))))))))),?_⟩
 obtain⟨c,w,n,rfl,n1,n2,q⟩:=h;walk_at "go";refine⟨lenK rfl,fun a1 h1=>?_⟩;walk_at "go";refine⟨lenK rfl,fun a2 h2=>?_⟩;walk_at "go";refine b7g a0d (by decide) (by decide) (lenK rfl) fun a3 h3=>?_;walk_at "go";refine b2d (a0n (a0n a0d h2) h3) a0d (lenK rfl) fun a4 h4=>?_;walk_at "go";refine⟨lenK rfl,fun a5 h5=>?_⟩;walk_at "go";refine b2d (a0n a0d h5) a0d (lenK rfl) fun a6 h6=>?_;have s6:=(((((Sm.new (o:=.lst [.int 8,.int 8,.int 26]) h1).trans (Sm.new (o:=.lst [.int 26]) h2)).trans (Sm.new (o:=.lst (List.replicate (8:Int).toNat [Z.int 26]).flatten) h3)).trans (Sm.new (o:=.lst ([.int 8,.int 8,.int 26]++(List.replicate (8:Int).toNat [Z.int 26]).flatten)) h4)).trans (Sm.new (o:=.lst [.int 2]) h5)).trans (Sm.new (o:=.lst ([.int 8,.int 8,.int 26]++(List.replicate (8:Int).toNat [Z.int 26]).flatten++[.int 2])) h6);walk_at "go";refine⟨c,w,a6,B12,rfl,a0d,by decide,by decide,fun t xs ht hB=>?_⟩;have s7:=s6.trans (Sm.new (o:=.lst (xs.map Z.int)) ht);have gx:put (put (put (put (put (put (put G a1 (.lst [.int 8,.int 8,.int 26])) a2 (.lst [.int 26])) a3 (.lst (List.replicate (8:Int).toNat [Z.int 26]).flatten)) a4 (.lst ([.int 8,.int 8,.int 26]++(List.replicate (8:Int).toNat [Z.int 26]).flatten))) a5 (.lst [.int 2])) a6 (.lst ([.int 8,.int 8,.int 26]++(List.replicate (8:Int).toNat [Z.int 26]).flatten++[.int 2]))) t (.lst (xs.map Z.int)) t=some (.lst (xs.map Z.int)):=a0d;generalize put (put (put (put (put (put (put G a1 (.lst [.int 8,.int 8,.int 26])) a2 (.lst [.int 26])) a3 (.lst (List.replicate (8:Int).toNat [Z.int 26]).flatten)) a4 (.lst ([.int 8,.int 8,.int 26]++(List.replicate (8:Int).toNat [Z.int 26]).flatten))) a5 (.lst [.int 2])) a6 (.lst ([.int 8,.int 8,.int 26]++(List.replicate (8:Int).toNat [Z.int 26]).flatten++[.int 2]))) t (.lst (xs.map Z.int))=G7 at s7 gx ⊢;clear s6 ht h6 h5 h4 h3 h2 h1;obtain⟨x0,e0,x00,x01⟩:=hB.at (i:=0) (b:=8) rfl;obtain⟨x1,e1,x10,x11⟩:=hB.at (i:=1) (b:=8) rfl;obtain⟨x2,e2,x20,x21⟩:=hB.at (i:=2) (b:=26) rfl;obtain⟨x9,e9,x90,x91⟩:=hB.at (i:=11) (b:=2) rfl;walk_at "go";refine a0D gx (a0L e0) ?_;walk_at "go";refine⟨by omega,by omega,?_⟩;intro D hD;obtain⟨m,hm⟩:∃ m:Nat,(1+x0).toNat=m:=⟨_,rfl⟩;have hm1:1≤m:=by omega
 have hm8:m≤8:=by omega
 rw[hm];refine a8C (fun i ys G'=>∃ ss:List Str,ys=ss.map Z.str/\ss.length=i/\(∀ s∈ss,letN s 1)/\G'=put G7 D (.lst (ss.map Z.str))) ⟨[],rfl,rfl,fun s h=>by simp at h,rfl⟩ (fun _ _ _ _ _=>True.intro) ?_ ?_
 ·rintro i x ys G' hx ⟨ss,rfl,hl,hall,rfl⟩;obtain⟨hi,rfl⟩:=a3B hx;obtain⟨y,ey,y0,y1⟩:=hB.at (b58 i (by omega));obtain⟨ch,ech,hch⟩:=b2r y0 y1;refine⟨_,rfl,?_⟩;walk_at "go";refine a0D (a0n gx hD) (by rw[show (3:Int)+(0+(i:Int))=((3+i:Nat):Int) by omega];exact a0L ey) ?_;walk_at "go";refine b3c (lenK rfl) ech ?_;refine⟨a0d,by rw[List.length_map];exact a0s (by omega),ss++[⟨#[ch]⟩],by rw[List.map_append];rfl,by simp;exact hl,a56 hall (letN.one hch),?_⟩;rw[a1S,List.map_append];rfl
 ·rintro ys G' ⟨ss,rfl,hl,hall,rfl⟩;rw[a1X]at hl;have hstem:=b0C ss hall;rw[hl]at hstem;walk_at "go";refine b5m a0d (by rw[a8h ss hall,hl,show (Str.ofString "").length=0 by decide +kernel];omega) ?_;have gx8:=a0n (o:=.lst (ss.map Z.str)) gx hD;have s8:=s7.trans (Sm.new (o:=.lst (ss.map Z.str)) hD);generalize put G7 D (.lst (ss.map Z.str))=G8 at gx8 s8 ⊢;generalize Txt.join (Str.ofString "") ss=stem at hstem ⊢;have hls:stem.length=m:=by rw[a4a,hstem.1]
  walk_at "go";refine a0D gx8 (a0L e1) ?_;walk_at "go";refine a7K (hstem.sz (by omega)) ?_;walk_at "go";rw[hls];refine i_I (show (0:Int)<(m:Int) by omega) ?_;walk_at "go";have hat:0≤x1 % (m:Int)/\x1 % (m:Int)<m:=⟨Int.emod_nonneg _ (by omega),Int.emod_lt_of_pos _ (by omega)⟩;obtain⟨p,hp⟩:∃ p:Nat,x1 % (m:Int)=(p:Int):=⟨(x1 % (m:Int)).toNat,by omega⟩;rw[hp]at hat ⊢;refine⟨by omega,by omega,?_⟩;intro F hF;refine a8C (fun i ys G'=>∃ ns:List Str,ys=ns.map Z.str/\ns.length=i/\(∀ s∈ns,letN s m)/\ns.Nodup/\(∀ s∈ns,∃ (j c:Nat),j<i/\atI LET.cps.toList ((x2+(0+(j:Int))) % 26)=some c/\s.cps.toList=(Txt.slice stem none (some (p:Int))).cps.toList++[c]++(Txt.slice stem (some ((p+1:Nat):Int)) none).cps.toList)/\G'=put G8 F (.lst (ns.map Z.str))) ⟨[],rfl,rfl,(fun s h=>by simp at h),.nil,(fun s h=>by simp at h),rfl⟩ (fun _ _ _ _ _=>True.intro) ?_ ?_
  ·rintro i x ys G' hx ⟨ns,rfl,hnl,hnall,hnd,hns,rfl⟩;obtain⟨hi,rfl⟩:=a3B hx;refine⟨_,rfl,?_⟩;walk_at "go";refine b3d (hstem.sz (by omega)) ?_;have l1:=hstem.to (p:=p) (by omega);walk_at "go";refine a0D (a0n gx8 hF) (a0L e2) ?_;walk_at "go";refine i_I (show (0:Int)<26 by decide) ?_;walk_at "go";obtain⟨ch,ech,hch⟩:=b2r (Int.emod_nonneg (x2+(0+(i:Int))) (by decide:(26:Int)≠0)) (Int.emod_lt_of_pos _ (by decide));refine b3c (lenK rfl) ech ?_;have l2:=l1.add (letN.one hch);refine a9X (a3o (by rw[a4a,l1.1];show p+1≤1000;omega)) ?_;walk_at "go";refine b3d (hstem.sz (by omega)) ?_;have l3:=hstem.from (p:=p+1) (by omega);have l4:=l2.add l3;rw[show p+1+(m - (p+1))=m by omega]at l4;rw[show ((p:Int)+1)=((p+1:Nat):Int) by omega];refine a9X (a3o (by rw[a4a,a4a,l2.1,l3.1];omega)) ?_;have eN:(Txt.slice stem none (some (p:Int))++(⟨#[ch]⟩:Str)++Txt.slice stem (some ((p+1:Nat):Int)) none).cps.toList=(Txt.slice stem none (some (p:Int))).cps.toList++[ch]++(Txt.slice stem (some ((p+1:Nat):Int)) none).cps.toList:=by rw[a4l,a4l]
   have hin:i<22:=by omega
   refine⟨a0d,by rw[List.length_map];exact a0s (by omega),_,by rw[List.map_append];rfl,by simp;exact hnl,a56 hnall l4,?_,?_,?_⟩
   ·rw[List.nodup_append];refine⟨hnd,by simp,fun u hu v hv z=>?_⟩;rw[List.mem_singleton.mp hv]at z;obtain⟨j,c',hj,ec',es⟩:=hns u hu;rw[z,eN]at es;have ecc:ch=c':=by simpa using es
    subst ecc
    have:=b3R (Int.emod_nonneg _ (by decide)) (Int.emod_lt_of_pos _ (by decide)) (Int.emod_nonneg _ (by decide)) (Int.emod_lt_of_pos _ (by decide)) ech ec'
    omega
   ·refine a56 (fun s hs=>?_) ⟨i,ch,by omega,ech,eN⟩;obtain⟨j,c',hj,r⟩:=hns s hs;exact⟨j,c',by omega,r⟩
   rw[a1S,List.map_append];rfl
  ·rintro ys G' ⟨ns,rfl,hnl,hnall,hnd,_,rfl⟩;rw[a1X]at hnl;have s9:=s8.trans (Sm.new (o:=.lst (ns.map Z.str)) hF);have gx9:=a0n (o:=.lst (ns.map Z.str)) gx8 hF;have gF:put G8 F (.lst (ns.map Z.str)) F=some (.lst (ns.map Z.str)):=a0d;have hFG:G F=none:=s8.free hF;generalize put G8 F (.lst (ns.map Z.str))=G9 at s9 gx9 gF ⊢;have hnn:∀ s∈ns,nmOk s:=fun s hs=>(hnall s hs).nm hm1 hm8;obtain⟨a,as,ea⟩:∃ a as,ns=a::as:=by cases ns with | nil=>simp at hnl;omega | cons a as=>exact⟨a,as,rfl⟩
   have ha:=hnall a (by rw[ea];simp);have hla:a.length=m:=by rw[a4a,ha.1]
   have at0a:atI (ns.map Z.str) 0=some (.str a):=by rw[ea];exact at0
   obtain⟨c0,cr,ec⟩:∃ c0 cr,a.cps.toList=c0::cr:=by
    have:=ha.1
    cases h:a.cps.toList with
    | nil=>rw[h]at this;simp at this;omega
    | cons c cr=>exact⟨c,cr,rfl⟩
   have hc0:isL c0:=ha.2 c0 (by rw[ec];simp);have hix:ixN (ns.map Z.str).length (-1)=some ((ns.map Z.str).length - 1):=a7j (by rw[List.length_map,ea];simp);have setok:∀ s l,letN s l->l≠m->nmOk s->∃ ns':List Str,(ns.map Z.str).set ((ns.map Z.str).length - 1) (.str s)=ns'.map Z.str/\ns'.length=ns.length/\ns'.Nodup/\∀ u∈ns',nmOk u:=fun s l hsl ne hs=>by
    refine⟨ns.set (ns.length - 1) s,by rw[List.length_map,List.map_set],by simp,b3S hnd hnall hsl ne (by rw[ea];simp),fun u hu=>?_⟩;rcases List.mem_or_eq_of_mem_set hu with hu | hu
    ·exact hnn u hu
    ·rw[hu];exact hs
   walk_at "go";refine b1n (fun σ' G'=>∃ ns':List Str,ns'.length=ns.length/\(∀ s∈ns',nmOk s)/\ns'.Nodup/\Sm G G'/\G' F=some (.lst (ns'.map Z.str))/\σ'=[some (.int c),some (.int w),some (.int n),some (.str LET),some (.ref t),some (.str stem),some (.int p),some (.ref F)]) ?_ ?_
   ·walk_at "go";refine a0D gx9 (a0L e9) ?_;walk_at "go";refine ifD (fun c1=>?_) fun c1=>?_
    ·walk_at "go";refine a7K (hstem.sz (by omega)) ?_;walk_at "go";rw[hls];refine ifD (fun c2=>?_) fun c2=>?_
     ·walk_at "go";refine a0D gF at0a ?_;walk_at "go";refine a0D gF at0a ?_;walk_at "go";refine b3c (ha.sz (by omega)) (by rw[ec];exact at0) ?_;refine a9X (a3o (by rw[hla];show m+1≤1000;omega)) ?_;walk_at "go";refine b3f gF hix ?_;obtain⟨ns',en,hl',hnd',hok'⟩:=setok _ _ (ha.add (letN.one hc0)) (by omega) ((ha.add (letN.one hc0)).nm (by omega) (by omega));exact⟨ns',hl',hok',hnd',s9.put hFG,by rw[a0d,en],rfl⟩
     ·walk_at "go";refine a0D gx9 (a0L e9) ?_;walk_at "go";refine ifD (fun _=>?_) fun z=>absurd c1 z;walk_at "go";refine a0D gF at0a ?_;walk_at "go";refine b3d (ha.sz (by omega)) ?_;walk_at "go";refine b3f gF hix ?_;obtain⟨ns',en,hl',hnd',hok'⟩:=setok _ _ (ha.from (p:=1) (by omega)) (by omega) ((ha.from (p:=1) (by omega)).nm (by omega) (by omega));exact⟨ns',hl',hok',hnd',s9.put hFG,by rw[a0d];exact congrArg _ (congrArg _ en),rfl⟩
    ·walk_at "go";refine a0D gx9 (a0L e9) ?_;walk_at "go";refine ifD (fun z=>absurd z c1) fun _=>?_;walk_at "go";exact⟨hnn,hnd,s9,gF,rfl⟩
   ·rintro σ' G' ⟨ns',hl',hok',hnd',s10,gF',rfl⟩;walk_at "go";exact q F ns' G' hFG gF' (by rw[hl',hnl];omega) hok' hnd' s10
theorem a7m:(10:Int) ^ (12:Int).toNat=1000000000000:=by decide
theorem b0E {ns:List Str}{k:Int}(h:∀ s∈ns,nmOk s) (h0:0≤k) (h1:k<(ns.length:Int)):∃ s,atI (ns.map Z.str) k=some (.str s)/\s∈ns/\nmOk s:=by
 obtain⟨j,rfl⟩:=Int.eq_ofNat_of_zero_le h0;have hj:j<ns.length:=by omega
 exact⟨ns[j],a13 (by rw[List.getElem?_map,List.getElem?_eq_getElem hj];rfl),List.getElem_mem hj,h _ (List.getElem_mem hj)⟩
theorem at_3 {a b c:Int}{k:Int}(h0:0≤k) (h1:k<3) {P:Int->Prop}(pa:P a) (pb:P b) (pc:P c):∃ n,atI [Z.int a,.int b,.int c] k=some (.int n)/\P n:=by
 have:k=0\/k=1\/k=2:=by omega
 rcases this with rfl | rfl | rfl
 ·exact⟨_,rfl,pa⟩
 ·exact⟨_,rfl,pb⟩
 ·exact⟨_,rfl,pc⟩
theorem at_4 {a b c d:Int}{k:Int}(h0:0≤k) (h1:k<4) {P:Int->Prop}(pa:P a) (pb:P b) (pc:P c) (pd:P d):∃ n,atI [Z.int a,.int b,.int c,.int d] k=some (.int n)/\P n:=by
 have:k=0\/k=1\/k=2\/k=3:=by omega
 rcases this with rfl | rfl | rfl | rfl
 ·exact⟨_,rfl,pa⟩
 ·exact⟨_,rfl,pb⟩
 ·exact⟨_,rfl,pc⟩
 ·exact⟨_,rfl,pd⟩
def a5s:P3:=fun ws G R=>Ex6 fun (c w:Int) (ks wsA:Addr) (kn wn:List Str)=>ws=[.int c,.int w,.ref ks,.ref wsA]/\G ks=some (.lst (kn.map Z.str))/\G wsA=some (.lst (wn.map Z.str))/\1≤kn.length/\kn.length≤20/\1≤wn.length/\wn.length≤20/\(∀ s∈kn,nmOk s)/\(∀ s∈wn,nmOk s) /\
 ∀ τ G',Sm G G'->Tl.Ok τ->τ.key∈kn->R τ.z G'
theorem a7n {ws:List Z}{G:Hq}{R:K3}(h:a5s ws G R):ws.length=4:=by obtain⟨_,_,_,_,_,_,rfl,_⟩:=h;rfl
theorem a8S (F:Fns K a) (T:Txt K mg a):FnOk P w K mg base CX0 3 a.f17 a.d17 ["cell","way","keys","worths"] (lowP K a5s):=by
 have G_parts:=a8g (P:=P) (w:=w) (base:=base) F T;refine fn3 F.n17 sc_telling (fun ws G R h=>(by exact a7n h)) (fun cdv A outer s H E ws G R hr h=>?_);have hu:=a02 hr;refine⟨_,(a0l (a0Z (i:=4) sc_telling.nd rfl (Or.inl rfl) (a0M G_parts (hr.mono (by decide)) rfl T.m15 F.n15.kp (a70 F) (a0c (a0b (pv 0)) (a0c (a0b (pv 1)) (a0c (a2a (a0c a0f (a0c (a0z b_len rfl T.b_len PySem.boot_len (a0c (a0b (pv 2)) a0i a0a) (he:=a0a) (hpl:=a0j)) (a0c (a0z b_len rfl T.b_len PySem.boot_len (a0c (a0b (pv 3)) a0i a0a) (he:=a0a) (hpl:=a0j)) (a0c a0f (a0c a0f (a0c a0f (a0c a0f (a0c (q_op a1Y (q_op a61 a0f a0f) a0f) (a0c (q_op a61 a0f a0f) a0i a0I) a0I) a0e) a0e) a0e) a0e) a0N) a0N) a0e)) a0i a5E) a0a) a0a) (he:=a0a) (hpl:=(a0k a0a (a0k a5E a0j)))))
  (a0l (a0Z (i:=5) sc_telling.nd rfl (Or.inl rfl) (q_ix x_ix (a2a (a0c (q_ix x_ix (a0b (pv 4)) a0f (fun _ _=>rfl)) (a0c (q_op a8D (q_op a61 a0f a0f) (q_op a3E (q_ix x_ix (a0b (pv 4)) a0f (fun _ _=>rfl)) a0f)) (a0c (q_ix x_ix (a0b (pv 4)) a0f (fun _ _=>rfl)) a0i a0h) a0I) a0h)) (a0z (b_min rfl) rfl T.b_min rfl (a0c a0f (a0c (q_ix x_ix (a0b (pv 4)) a0f (fun _ _=>rfl)) a0i a0h) a0e) (he:=a0e) (hpl:=(a0k a0h a0j))) (fun _ _=>rfl)))
  (a0l (a0Z (i:=6) sc_telling.nd rfl (Or.inl rfl) a18)
  (b1h (z_if (QW.qt (a30 (a0t o_gt (q_ix x_ix (a0b (pv 4)) a0f (fun _ _=>rfl)) a0f (a0r _)) (a3a (a0t o_lt (a0b (pv 5)) (q_op a61 a0f a0f) (a0r _)))))
  (a0p (a0Z (i:=6) sc_telling.nd rfl (Or.inl rfl) (a0z (b_min rfl) rfl T.b_min rfl (a0c (q_op a61 a0f a0f) (a0c (q_op a1Y (q_op a1Y (a0b (pv 5)) a0f) (q_ix x_ix (a2a (a0c (q_op a3E (q_ix x_ix (a0b (pv 4)) a0f (fun _ _=>rfl)) a0f) (a0c (q_ix x_ix (a0b (pv 4)) a0f (fun _ _=>rfl)) (a0c (q_ix x_ix (a0b (pv 4)) a0f (fun _ _=>rfl)) (a0c (q_ix x_ix (a0b (pv 4)) a0f (fun _ _=>rfl)) a0i a0h) a0h) a0h) a0I)) (q_op a8D (q_ix x_ix (a0b (pv 4)) a0f (fun _ _=>rfl)) a0f) (fun _ _=>rfl))) a0i a0I) a0I) (he:=a0I) (hpl:=(a0k a0I a0j)))))
  a0V)
  (a0l (z_if (a0t (o_eq hu) (q_ix x_ix (a0b (pv 4)) a0f (fun _ _=>rfl)) a0f (a0r _))
  (a0p (a0G (a4t (a0c a3Z (a0c (q_ix x_ix (a0b (pv 2)) (q_ix x_ix (a0b (pv 4)) a0f (fun _ _=>rfl)) (fun _ _=>rfl)) (a0c (a0b (pv 5)) (a0c (a0b (pv 6)) a0i a0a) a0a) a0h) a0e))))
  a0V)
  (a0p (a0G (a4t (a0c a3Z (a0c (q_ix x_ix (a0b (pv 2)) (q_ix x_ix (a0b (pv 4)) a0f (fun _ _=>rfl)) (fun _ _=>rfl)) (a0c (q_ix x_ix (a0b (pv 3)) (q_ix x_ix (a0b (pv 4)) a0f (fun _ _=>rfl)) (fun _ _=>rfl)) (a0c (a0b (pv 5)) (a0c (a0b (pv 6)) a0i a0a) a0a) a0h) a0h) a0e))))))))),?_⟩
 obtain⟨c,w,ks,wsA,kn,wn,rfl,hk,hw,kn1,kn2,wn1,wn2,hkn,hwn,q⟩:=h;walk_at "go";refine a3U hk ?_;walk_at "go";refine a3U hw ?_;walk_at "go";refine i_I ⟨by decide,by decide,by decide⟩ ?_;rw[a7m];walk_at "go";refine i_I ⟨by decide,by decide,by decide⟩ ?_;rw[a7m];walk_at "go";refine⟨lenK rfl,fun a1 h1=>?_⟩;walk_at "go";rw[List.length_map,List.length_map];refine⟨c,w,a1,[4,(kn.length:Int),(wn.length:Int),24,5,40,8,1000000000000+1,1000000000000],rfl,a0d,by show 9≤20;decide,fun b hb=>?_,fun t xs ht hB=>?_⟩
 ·simp only[List.mem_cons,List.not_mem_nil,or_false]at hb;rcases hb with rfl | rfl | rfl | rfl | rfl | rfl | rfl | rfl | rfl<;>omega
 have s2:=(Sm.new (o:=.lst [.int 4,.int (kn.length:Int),.int (wn.length:Int),.int 24,.int 5,.int 40,.int 8,.int (1000000000000+1),.int 1000000000000]) h1).trans (Sm.new (o:=.lst (xs.map Z.int)) ht);have gx:put (put G a1 (.lst [.int 4,.int (kn.length:Int),.int (wn.length:Int),.int 24,.int 5,.int 40,.int 8,.int (1000000000000+1),.int 1000000000000])) t (.lst (xs.map Z.int)) t=some (.lst (xs.map Z.int)):=a0d;generalize put (put G a1 (.lst [.int 4,.int (kn.length:Int),.int (wn.length:Int),.int 24,.int 5,.int 40,.int 8,.int (1000000000000+1),.int 1000000000000])) t (.lst (xs.map Z.int))=G2 at s2 gx ⊢;obtain⟨x0,e0,x00,x01⟩:=hB.at (i:=0) rfl;obtain⟨x1,e1,x10,x11⟩:=hB.at (i:=1) rfl;obtain⟨x2,e2,x20,x21⟩:=hB.at (i:=2) rfl;obtain⟨x3,e3,x30,x31⟩:=hB.at (i:=3) rfl;obtain⟨x4,e4,x40,x41⟩:=hB.at (i:=4) rfl;obtain⟨x5,e5,x50,x51⟩:=hB.at (i:=5) rfl;obtain⟨x6,e6,x60,x61⟩:=hB.at (i:=6) rfl;obtain⟨x7,e7,x70,x71⟩:=hB.at (i:=7) rfl;obtain⟨x8,e8,x80,x81⟩:=hB.at (i:=8) rfl;walk_at "go";refine a0D gx (a0L e7) ?_;walk_at "go";refine i_I ⟨by decide,by decide,by decide⟩ ?_;rw[a7m];walk_at "go";refine a0D gx (a0L e3) ?_;walk_at "go";refine i_I (show (0:Int)<3 by decide) ?_;walk_at "go";refine a0D gx (a0L e3) ?_;walk_at "go";refine⟨lenK rfl,fun a3 h3=>?_⟩;walk_at "go";refine a0D (a0n gx h3) (a0L e6) ?_;walk_at "go";obtain⟨b,eb,b0,b1⟩:=at_3 (a:=x7) (b:=1000000000000 - x3 % 3) (c:=x3) (k:=if x6<2 then x6 else 2) (by split<;>omega) (by split<;>omega) (P:=fun n=>0≤n/\n≤1000000000000) ⟨x70,by omega⟩ ⟨by omega,by omega⟩ ⟨x30,by omega⟩
 refine a0D a0d eb ?_;have s3:=s2.trans (Sm.new (o:=.lst [.int x7,.int (1000000000000 - x3 % 3),.int x3]) h3);have gx3:=a0n (o:=.lst [.int x7,.int (1000000000000 - x3 % 3),.int x3]) gx h3;generalize put G2 a3 (.lst [.int x7,.int (1000000000000 - x3 % 3),.int x3])=G3 at s3 gx3 ⊢;walk_at "go";refine b1n (fun σ' G'=>∃ e:Option Int,stOk b e/\Sm G3 G'/\σ'=[some (.int c),some (.int w),some (.ref ks),some (.ref wsA),some (.ref t),some (.int b),some (oz e)]) ?_ ?_
 ·walk_at "go";refine a0D gx3 (a0L e4) ?_;walk_at "go";refine ifD (fun c1=>?_) fun c1=>?_
  ·walk_at "go";refine i_I ⟨by decide,by decide,by decide⟩ ?_;rw[a7m];walk_at "go";refine ifD (fun c2=>?_) fun c2=>?_
   ·walk_at "go";refine i_I ⟨by decide,by decide,by decide⟩ ?_;rw[a7m];walk_at "go";refine a0D gx3 (a0L e5) ?_;walk_at "go";refine i_I (show (0:Int)<4 by decide) ?_;walk_at "go";refine a0D gx3 (a0L e5) ?_;walk_at "go";refine a0D gx3 (a0L e5) ?_;walk_at "go";refine a0D gx3 (a0L e8) ?_;walk_at "go";refine⟨lenK rfl,fun a4 h4=>?_⟩;walk_at "go";refine a0D (a0n gx3 h4) (a0L e4) ?_;walk_at "go";obtain⟨n,en,n0⟩:=at_4 (a:=x5 % 4) (b:=x5) (c:=x5) (d:=x8) (k:=x4 - 1) (by omega) (by omega) (P:=fun n=>0≤n) (Int.emod_nonneg _ (by decide)) x50 x50 x80;refine a0D a0d en ?_;walk_at "go";refine⟨some (if b+1+n<1000000000000 then b+1+n else 1000000000000),⟨b0,b1,fun x hx=>?_⟩,Sm.new h4,rfl⟩;cases hx;unfold T12
    split<;>omega
   ·walk_at "go";exact⟨none,⟨b0,b1,fun x hx=>nomatch hx⟩,Sm.refl _,rfl⟩
  ·walk_at "go";exact⟨none,⟨b0,b1,fun x hx=>nomatch hx⟩,Sm.refl _,rfl⟩
 ·rintro σ' G' ⟨e,hst,s4,rfl⟩;have gx4:=s4 _ _ gx3;have S4:=s3.trans s4;obtain⟨kk,ekk,mkk,hkk⟩:=b0E hkn x10 x11;obtain⟨ww,eww,_,hww⟩:=b0E hwn x20 x21;walk_at "go";refine a0D gx4 (a0L e0) ?_;walk_at "go";refine ifD (fun c1=>?_) fun c1=>?_
  ·walk_at "go";refine a0D gx4 (a0L e1) ?_;walk_at "go";refine a0D (S4 _ _ hk) ekk ?_;walk_at "go";refine⟨lenK rfl,?_⟩;exact q ⟨kk,none,b,e⟩ G' S4 ⟨hkk,(fun s h=>nomatch h),hst⟩ mkk
  ·walk_at "go";refine a0D gx4 (a0L e1) ?_;walk_at "go";refine a0D (S4 _ _ hk) ekk ?_;walk_at "go";refine a0D gx4 (a0L e2) ?_;walk_at "go";refine a0D (S4 _ _ hw) eww ?_;walk_at "go";refine⟨lenK rfl,?_⟩;exact q ⟨kk,some ww,b,e⟩ G' S4 ⟨hkk,(fun s h=>by cases h;exact hww),hst⟩ mkk
def a8j:P3:=fun ws G R=>Ex5 fun (p:Addr) (T:List Tl) (k:Str) (m q:Int)=>ws=[.ref p,.str k,.int m,.int q]/\G p=some (.lst (T.map Tl.z))/\0≤q/\q≤T.length/\T.length≤900/\∀ G',Sm G G'->R (a1e (a0P (T.take q.toNat) k) m) G'
theorem b0F {ws:List Z}{G:Hq}{R:K3}(h:a8j ws G R):ws.length=4:=by obtain⟨_,_,_,_,_,rfl,_⟩:=h;rfl
theorem a57 {α:Type}{l:List α}{n:Nat}:cutZ l none (some (n:Int))=l.take n:=by
 unfold cutZ
 have:=HT.sIx_nat l.length l.length n
 rw[this,HT.sIx_none];simp
theorem a7o {T:List Tl}{τ:Tl}{k:Str}{m:Int}:a1e (a0P (T++[τ]) k) m=if τ.key=k/\(decide (τ.b≤m)&&bef m τ.e)=true then τ.v else a1e (a0P T k) m:=by
 rw[a5o]
 by_cases c:τ.key=k
 ·rw[if_pos c,a4L];unfold Rw.has
  show (if (decide (τ.b≤m)&&bef m τ.e)=true then τ.v else _)=_
  simp only[c,true_and]
 ·rw[if_neg c,List.append_nil,if_neg fun z=>c z.1]
theorem b1Q (F:Fns K a) (T:Txt K mg a):FnOk P w K mg base CX0 1 a.f18 a.d18 ["tellings","key","moment","knowing"] (lowP K a8j):=by
 refine fn3 F.n18 sc_worth (fun ws G R h=>(by exact b0F h)) (fun cdv A outer s H E ws G R hr h=>?_);have hu:=a02 hr;refine⟨_,(a0l (a0Z (i:=4) sc_worth.nd rfl (Or.inl rfl) a18)
  (a0l (a2X (pt:=(.nm 5)) PassesOwn.never rfl (a01 (a1h x_sl (a0b (pv 0)) a1o (a1w (a0b (pv 3))))) (show QP _ _ (.nm 5) from (a0u (i:=5) sc_worth.nd rfl (Or.inl rfl)))
  (a0p (z_if (QW.qt (a30 (a0t (o_eq hu) (q_ix x_ix (a0b (pv 5)) a0f (fun _ _=>rfl)) (a0b (pv 1)) (a0r _)) (a30 (a0t o_le (q_ix x_ix (a0b (pv 5)) (q_un a2b a0f) (fun _ _=>rfl)) (a0b (pv 2)) (a0r _)) (a3a (QW.qt (q_or (a0t o_is (q_ix x_ix (a0b (pv 5)) (q_un a2b a0f) (fun _ _=>rfl)) a18 (a0r _)) (a4T (a0t o_lt (a0b (pv 2)) (q_ix x_ix (a0b (pv 5)) (q_un a2b a0f) (fun _ _=>rfl)) (a0r _)))))))))
  (a0l (a0Z (i:=4) sc_worth.nd rfl (Or.inl rfl) a18)
  (a0p (z_if (a0t (o_eq hu) (q_ix x_ix (a0b (pv 5)) a0f (fun _ _=>rfl)) a3Z (a0r _))
  (a0p (a0Z (i:=4) sc_worth.nd rfl (Or.inl rfl) (q_ix x_ix (a0b (pv 5)) a0f (fun _ _=>rfl))))
  a0V)))
  a0V)))
  (a0p (a0G (a0b (pv 4)))))),?_⟩
 obtain⟨p,T,k,m,q,rfl,hp,h0,h1,hT,fin⟩:=h;obtain⟨q,rfl⟩:=Int.eq_ofNat_of_zero_le h0;rw[show ((q:Int)).toNat=q by omega]at fin;walk_at "go";refine b3e hp fun t ht=>?_;rw[a57,<- List.map_take];generalize T.take q=T' at fin ⊢;walk_at "go";refine a2z a0d ?_;refine a06 (fun i σ G'=>∃ v:Option Z,σ=[some (.ref p),some (.str k),some (.int m),some (.int q),some (a1e (a0P (T'.take i) k) m),v]/\G'=put G t (.lst (T'.map Tl.z))) ⟨_,by simp;rfl,rfl⟩ (fun i σ G' _ ⟨_,_,e⟩=>by rw[e];exact a0d) ?_ ?_
 ·rintro i x σ G' hx ⟨v,rfl,rfl⟩;rw[List.getElem?_map]at hx;cases hx':T'[i]? with
  | none=>rw[hx']at hx;cases hx
  | some τ=>
  rw[hx']at hx;cases hx;have ht1:T'.take (i+1)=T'.take i++[τ]:=by rw[List.take_add_one,hx'];rfl
  rw[ht1,a7o];generalize a1e (a0P (T'.take i) k) m=f;obtain⟨key,w,b,e⟩:=τ;have no:∀ (o:Prop) [Decidable o],¬ o->(if o then Tl.v ⟨key,w,b,e⟩ else f)=f:=fun o _ h=>if_neg h;refine⟨_,rfl,?_⟩;cases w with
  | none=>
   unfold Tl.z;walk_at "go";refine ifD (fun c1=>?_) fun c1=>?_
   ·walk_at "go";refine ifD (fun c2=>?_) fun c2=>?_
    ·cases e with
     | none=>
      walk_at "go";refine ifD (fun z=>absurd z b3N) fun _=>?_;walk_at "go";rw[if_pos ⟨c1,by simp[bef,c2]⟩];exact⟨_,rfl,rfl⟩
     | some e=>
      walk_at "go";refine ifD (fun c3=>?_) fun c3=>?_
      ·walk_at "go";refine ifD (fun z=>absurd z b3N) fun _=>?_;walk_at "go";rw[if_pos ⟨c1,by simp[bef,c2,c3]⟩];exact⟨_,rfl,rfl⟩
      ·walk_at "go";rw[if_neg (fun z=>by have:=z.2;simp[bef,c2,c3]at this)];exact⟨_,rfl,rfl⟩
    ·walk_at "go";rw[if_neg (fun z=>by have:=z.2;simp[c2]at this)];exact⟨_,rfl,rfl⟩
   ·walk_at "go";rw[if_neg (fun z=>c1 z.1)];exact⟨_,rfl,rfl⟩
  | some w=>
   unfold Tl.z;walk_at "go";refine ifD (fun c1=>?_) fun c1=>?_
   ·walk_at "go";refine ifD (fun c2=>?_) fun c2=>?_
    ·cases e with
     | none=>
      walk_at "go";refine ifD (fun _=>?_) fun z=>absurd rfl z;walk_at "go";rw[if_pos ⟨c1,by simp[bef,c2]⟩];exact⟨_,rfl,rfl⟩
     | some e=>
      walk_at "go";refine ifD (fun c3=>?_) fun c3=>?_
      ·walk_at "go";refine ifD (fun _=>?_) fun z=>absurd rfl z;walk_at "go";rw[if_pos ⟨c1,by simp[bef,c2,c3]⟩];exact⟨_,rfl,rfl⟩
      ·walk_at "go";rw[if_neg (fun z=>by have:=z.2;simp[bef,c2,c3]at this)];exact⟨_,rfl,rfl⟩
    ·walk_at "go";rw[if_neg (fun z=>by have:=z.2;simp[c2]at this)];exact⟨_,rfl,rfl⟩
   ·walk_at "go";rw[if_neg (fun z=>c1 z.1)];exact⟨_,rfl,rfl⟩
 ·rintro σ G' ⟨v,rfl,rfl⟩;walk_at "go";rw[List.length_map,List.take_length];exact fin _ (Sm.new ht)
def a7p (kvs:List (Key×Z)) (ns:List Int):Prop:=kvs.map (·.1)=ns.map fun i=>(Sum.inl (some i):Key)
theorem b1R {kvs:List (Key×Z)}{ns:List Int}(h:a7p kvs ns) (hd:ns.Nodup) (x:Int) (v:Z):∃ ms,a7p (putZ kvs (.inl (some x)) v) ms/\ms.Nodup/\ms.length≤ns.length+1/\∀ y,y∈ms↔y∈ns\/y=x:=by
 unfold putZ;have hany:(kvs.any fun kv=>decide (kv.1=Sum.inl (some x)))=decide (x∈ns):=by
  rw[Bool.eq_iff_iff];simp only[List.any_eq_true,decide_eq_true_eq]
  constructor
  ·rintro⟨kv,h1,h2⟩
   have:kv.1∈ns.map fun i=>(Sum.inl (some i):Key):=by rw[<- h];exact List.mem_map_of_mem h1
   obtain⟨n,h3,h4⟩:=List.mem_map.mp this;rw[h2]at h4;cases h4;exact h3
  ·intro hx
   have:(Sum.inl (some x):Key)∈kvs.map (·.1):=by rw[h];exact List.mem_map_of_mem hx
   obtain⟨kv,h3,h4⟩:=List.mem_map.mp this;exact⟨kv,h3,h4⟩
 rw[hany]
 by_cases hx:x∈ns
 ·rw[decide_eq_true hx,if_pos rfl];refine⟨ns,?_,hd,by omega,fun y=>⟨.inl,fun h=>h.elim id fun e=>e▸hx⟩⟩;unfold a7p;rw[<- h,List.map_map];refine List.map_congr_left fun kv _=>?_
  show (if kv.1=Sum.inl (some x) then (kv.1,v) else kv).1=kv.1
  split<;>rfl
 ·rw[decide_eq_false hx,if_neg (by decide)];refine⟨ns++[x],?_,?_,by simp,fun y=>by simp⟩
  ·unfold a7p;rw[List.map_append,h,List.map_append];rfl
  ·rw[List.nodup_append];exact⟨hd,by simp,fun a ha b hb=>by rw[List.mem_singleton.mp hb];rintro rfl;exact hx ha⟩
theorem b1S {kvs:List (Key×Z)}{ns:List Int}(h:a7p kvs ns):kvs.length=ns.length:=by
 have:=congrArg List.length h
 simpa using this
theorem b1T {a b c d e:Z}:cutZ [a,b,c,d,e] (some (-2)) none=[d,e]:=rfl
theorem a8T {a b d e:Z}:cutZ [a,b,d,e] (some (-2)) none=[d,e]:=rfl
def inT (x:Int):Prop:=0≤x/\x≤T12
def a5t:P3:=fun ws G R=>∃ (p:Addr) (T:List Tl),ws=[.ref p]/\G p=some (.lst (T.map Tl.z))/\OkT T/\T.length≤100/\∀ (t:Addr) (ms:List Int) (G':Hq),G t=none->Sm G G'->G' t=some (.lst (ms.map Z.int))->ms≠[]->(∀ x∈ms,inT x)->ms.length≤1000->R (.ref t) G'
theorem a7q {ws:List Z}{G:Hq}{R:K3}(h:a5t ws G R):ws.length=1:=by obtain⟨_,_,rfl,_⟩:=h;rfl
def Ks (kvs:List (Key×Z)) (n:Nat):Prop:=∃ ns:List Int,a7p kvs ns/\ns.Nodup/\ns.length≤n/\ns≠[]/\∀ x∈ns,inT x
theorem Ks.put {kvs:List (Key×Z)}{n:Nat}(h:Ks kvs n) {x:Int}{v:Z}(hx:inT x):Ks (putZ kvs (.inl (some x)) v) (n+1):=by
 obtain⟨ns,h1,h2,h3,h4,h5⟩:=h;obtain⟨ms,k1,k2,k3,k4⟩:=b1R h1 h2 x v;refine⟨ms,k1,k2,by omega,fun z=>?_,fun y hy=>?_⟩
 ·have:=(k4 x).mpr (.inr rfl)
  rw[z]at this;simp at this
 ·rcases (k4 y).mp hy with h | h
  ·exact h5 y h
  ·rw[h];exact hx
theorem Ks.mono {kvs:List (Key×Z)}{n m:Nat}(h:Ks kvs n) (hm:n≤m):Ks kvs m:=let ⟨ns,h1,h2,h3,h4⟩:=h;⟨ns,h1,h2,Nat.le_trans h3 hm,h4⟩
theorem Ks.len {kvs:List (Key×Z)}{n:Nat}(h:Ks kvs n):kvs.length≤n:=by
 obtain⟨ns,h1,_,h3,_⟩:=h;rw[b1S h1];exact h3
theorem b1U:Ks (a3i [] [(.inl (some 0),.bl true),(.inl (some 1000000000000),.bl true)]) 2:=
 ⟨[0,1000000000000],by unfold a7p;decide,by decide,by decide,by decide,fun x hx=>by
  simp only[List.mem_cons,List.not_mem_nil,or_false]at hx;rcases hx with rfl | rfl<;>exact⟨by decide,by decide⟩⟩
theorem a8U (F:Fns K a) (T:Txt K mg a):FnOk P w K mg base CX0 1 a.f19 a.d19 ["tellings"] (lowP K a5t):=by
 refine fn3 F.n19 sc_moments (fun ws G R h=>(by exact a7q h)) (fun cdv A outer s H E ws G R hr h=>?_);have hu:=a02 hr;refine⟨_,(a0l (a0Z (i:=1) sc_moments.nd rfl (Or.inl rfl) (b2j (a5O a0f q_bl (a5O (q_op a61 a0f a0f) q_bl b0g))))
  (a0l (a2X (pt:=(.nm 2)) PassesOwn.never rfl (a01 (a0b (pv 0))) (show QP _ _ (.nm 2) from (a0u (i:=2) sc_moments.nd rfl (Or.inl rfl)))
  (a0p (a2X (pt:=(.nm 3)) PassesOwn.never rfl (b17 (a1h x_sl (a0b (pv 2)) (a1w (q_un a2b a0f)) a1o)) (show QP _ _ (.nm 3) from (a0u (i:=3) sc_moments.nd rfl (Or.inl rfl)))
  (a0p (z_if (a0t a5I (a0b (pv 3)) a18 (a0r _))
  (a0p (a2X (pt:=(.nm 4)) PassesOwn.never rfl (a01 (a2a (a0c (q_op a8D (a0b (pv 3)) a0f) (a0c (a0b (pv 3)) a0i a0a) a0I))) (show QP _ _ (.nm 4) from (a0u (i:=4) sc_moments.nd rfl (Or.inl rfl)))
  (a0p (z_if (a0t o_ge (a0b (pv 4)) a0f (a0r _))
  (a0p (a5d q_bl (a0b (pv 1)) (a0b (pv 4)) (a99 hu)))
  a0V))))
  a0V)))))
  (a0p (a0G (a0z (b_sorted rfl) rfl T.b_sorted rfl (a0c (a0b (pv 1)) a0i a0a) (he:=a0a) (hpl:=a0j)))))),?_⟩
 obtain⟨p,T,rfl,hp,hok,hT,q⟩:=h;walk_at "go";intro d hd;walk_at "go";refine i_I ⟨by decide,by decide,by decide⟩ ?_;rw[a7m];walk_at "go";refine⟨a0d,_,rfl,by decide,?_⟩;rw[a1S];walk_at "go";have hdp:p≠d:=a0x hp hd;refine a2z (a0n hp hd) ?_;refine a06 (fun i σ G'=>Ex4 fun (v1 v2 v3:Option Z) (kvs:List (Key×Z))=>Ks kvs (2+4*i)/\Sm G G'/\G' d=some (.dK kvs)/\σ=[some (.ref p),some (.ref d),v1,v2,v3]) ⟨_,_,_,_,b1U,Sm.new hd,a0d,rfl⟩ (fun i σ G' _ ⟨_,_,_,_,_,s,_⟩=>s _ _ hp) ?_ ?_
 ·rintro i x σ G' hx ⟨v1,v2,v3,kvs,hk,s,gd,rfl⟩;rw[List.getElem?_map]at hx;cases hx':T[i]? with
  | none=>rw[hx']at hx;cases hx
  | some τ=>
  rw[hx']at hx;cases hx;have hi:=(List.getElem?_eq_some_iff.mp hx').1;have ok:=hok τ (List.mem_of_getElem? hx');have hst:=ok.st;refine⟨_,rfl,?_⟩;obtain⟨key,w,b,e⟩:=τ;cases w with
  | none=>
   unfold Tl.z;walk_at "go";refine a9Y (show ¬ (HT.sIx 4 0 (some (-2))=0/\HT.sIx 4 4 none=4) by decide) ?_;rw[a8T];walk_at "go";refine a06 (fun j σ G2=>∃ (v2 v3:Option Z) (kvs:List (Key×Z)),Ks kvs (2+4*i+2*j)/\Sm G G2/\G2 d=some (.dK kvs)/\σ=[some (.ref p),some (.ref d),some (Z.tup [.str a8a,.str key,.int b,oz e]),v2,v3]) ⟨_,_,kvs,hk,s,gd,rfl⟩ (fun _ _ _ _ _=>True.intro) ?_ ?_
   ·rintro j y σ G2 hy ⟨v2,v3,kvs,hk,s,gd,rfl⟩;have hyy:(∃ n,y=.int n/\inT n)\/y=.non:=by
     have:=List.mem_of_getElem? hy
     simp only[List.mem_cons,List.not_mem_nil,or_false]at this;rcases this with rfl | rfl
     ·exact .inl ⟨b,rfl,hst.1,hst.2.1⟩
     ·cases e with
      | none=>exact .inr rfl
      | some x=>exact .inl ⟨x,rfl,by have h1:=hst.1;have h2:=hst.2.2 x rfl;simp only at h1 h2;exact⟨by omega,h2.2⟩⟩
    refine⟨_,rfl,?_⟩;rcases hyy with ⟨n,rfl,hn⟩ | rfl
    ·walk_at "go";refine⟨lenK rfl,fun l hl=>?_⟩;walk_at "go";refine a2z a0d ?_;have ndl:d≠l:=a0x gd hl;have hjl:j<2:=by have:=(List.getElem?_eq_some_iff.mp hy).1;simpa using this
     refine a06 (fun k σ G3=>∃ (v3:Option Z) (kvs:List (Key×Z)),Ks kvs (2+4*i+2*j+k)/\Sm G G3/\G3 d=some (.dK kvs)/\G3 l=some (.lst [.int (n - 1),.int n])/\σ=[some (.ref p),some (.ref d),some (Z.tup [.str a8a,.str key,.int b,oz e]),some (.int n),v3]) ⟨_,kvs,hk,s.trans (Sm.new hl),a0n gd hl,a0d,rfl⟩ (fun k σ G3 _ ⟨_,_,_,_,_,gl,_⟩=>gl) ?_ ?_
     ·rintro k z σ G3 hz ⟨v3,kvs,hk,s,gd,gl,rfl⟩;have hzz:∃ m,z=.int m/\(m=n - 1\/m=n):=by
       have:=List.mem_of_getElem? hz
       simp only[List.mem_cons,List.not_mem_nil,or_false]at this;rcases this with rfl | rfl
       ·exact⟨_,rfl,.inl rfl⟩
       ·exact⟨_,rfl,.inr rfl⟩
      obtain⟨m,rfl,hm⟩:=hzz;have hkl:k<2:=by have:=(List.getElem?_eq_some_iff.mp hz).1;simpa using this
      refine⟨_,rfl,?_⟩;walk_at "go";refine ifD (fun c=>?_) fun c=>?_
      ·walk_at "go";refine a7S gd rfl (a0s (by have:=hk.len;omega)) ?_;exact⟨_,_,hk.put ⟨by omega,by have:=hn.2;omega⟩,s.put hd,a0d,by rw[a0B (Ne.symm ndl)];exact gl,rfl⟩
      ·walk_at "go";exact⟨_,kvs,hk.mono (by omega),s,gd,gl,rfl⟩
     ·rintro σ G3 ⟨v3,kvs,hk,s,gd,gl,rfl⟩;exact⟨_,_,kvs,hk.mono (by simp;omega),s,gd,rfl⟩
    ·walk_at "go";exact⟨_,_,kvs,hk.mono (by omega),s,gd,rfl⟩
   ·rintro σ G2 ⟨v2,v3,kvs,hk,s,gd,rfl⟩;exact⟨_,_,_,kvs,hk.mono (by simp;omega),s,gd,rfl⟩
  | some w=>
   unfold Tl.z;walk_at "go";refine a9Y (show ¬ (HT.sIx 5 0 (some (-2))=0/\HT.sIx 5 5 none=5) by decide) ?_;rw[b1T];walk_at "go";refine a06 (fun j σ G2=>∃ (v2 v3:Option Z) (kvs:List (Key×Z)),Ks kvs (2+4*i+2*j)/\Sm G G2/\G2 d=some (.dK kvs)/\σ=[some (.ref p),some (.ref d),some (Z.tup [.str sPut,.str key,.str w,.int b,oz e]),v2,v3]) ⟨_,_,kvs,hk,s,gd,rfl⟩ (fun _ _ _ _ _=>True.intro) ?_ ?_
   ·rintro j y σ G2 hy ⟨v2,v3,kvs,hk,s,gd,rfl⟩;have hyy:(∃ n,y=.int n/\inT n)\/y=.non:=by
     have:=List.mem_of_getElem? hy
     simp only[List.mem_cons,List.not_mem_nil,or_false]at this;rcases this with rfl | rfl
     ·exact .inl ⟨b,rfl,hst.1,hst.2.1⟩
     ·cases e with
      | none=>exact .inr rfl
      | some x=>exact .inl ⟨x,rfl,by have h1:=hst.1;have h2:=hst.2.2 x rfl;simp only at h1 h2;exact⟨by omega,h2.2⟩⟩
    refine⟨_,rfl,?_⟩;rcases hyy with ⟨n,rfl,hn⟩ | rfl
    ·walk_at "go";refine⟨lenK rfl,fun l hl=>?_⟩;walk_at "go";refine a2z a0d ?_;have ndl:d≠l:=a0x gd hl;have hjl:j<2:=by have:=(List.getElem?_eq_some_iff.mp hy).1;simpa using this
     refine a06 (fun k σ G3=>∃ (v3:Option Z) (kvs:List (Key×Z)),Ks kvs (2+4*i+2*j+k)/\Sm G G3/\G3 d=some (.dK kvs)/\G3 l=some (.lst [.int (n - 1),.int n])/\σ=[some (.ref p),some (.ref d),some (Z.tup [.str sPut,.str key,.str w,.int b,oz e]),some (.int n),v3]) ⟨_,kvs,hk,s.trans (Sm.new hl),a0n gd hl,a0d,rfl⟩ (fun k σ G3 _ ⟨_,_,_,_,_,gl,_⟩=>gl) ?_ ?_
     ·rintro k z σ G3 hz ⟨v3,kvs,hk,s,gd,gl,rfl⟩;have hzz:∃ m,z=.int m/\(m=n - 1\/m=n):=by
       have:=List.mem_of_getElem? hz
       simp only[List.mem_cons,List.not_mem_nil,or_false]at this;rcases this with rfl | rfl
       ·exact⟨_,rfl,.inl rfl⟩
       ·exact⟨_,rfl,.inr rfl⟩
      obtain⟨m,rfl,hm⟩:=hzz;have hkl:k<2:=by have:=(List.getElem?_eq_some_iff.mp hz).1;simpa using this
      refine⟨_,rfl,?_⟩;walk_at "go";refine ifD (fun c=>?_) fun c=>?_
      ·walk_at "go";refine a7S gd rfl (a0s (by have:=hk.len;omega)) ?_;exact⟨_,_,hk.put ⟨by omega,by have:=hn.2;omega⟩,s.put hd,a0d,by rw[a0B (Ne.symm ndl)];exact gl,rfl⟩
      ·walk_at "go";exact⟨_,kvs,hk.mono (by omega),s,gd,gl,rfl⟩
     ·rintro σ G3 ⟨v3,kvs,hk,s,gd,gl,rfl⟩;exact⟨_,_,kvs,hk.mono (by simp;omega),s,gd,rfl⟩
    ·walk_at "go";exact⟨_,_,kvs,hk.mono (by omega),s,gd,rfl⟩
   ·rintro σ G2 ⟨v2,v3,kvs,hk,s,gd,rfl⟩;exact⟨_,_,_,kvs,hk.mono (by simp;omega),s,gd,rfl⟩
 ·rintro σ G' ⟨v1,v2,v3,kvs,hk,s,gd,rfl⟩;rw[List.length_map]at hk;obtain⟨ns,k1,k2,k3,k4,k5⟩:=hk;walk_at "go";refine b0b gd k1 (by omega) fun t ms ht hperm hpw=>?_;refine q t ms _ (s.free ht) (s.trans (Sm.new ht)) a0d (fun z=>?_) (fun x hx=>k5 x (hperm.mem_iff.mp hx)) (by rw[hperm.length_eq];omega)
  have:=hperm.length_eq
  rw[z]at this;exact k4 (List.length_eq_zero_iff.mp this.symm)
local macro_rules | `(tactic| walk_at "go1")=>`(tactic| with_reducible (first | refine b5Q ?_ | refine i_iD ?_))
theorem ShV.frz {C:Addr}{G:Hq}{p:Addr}{S:Addr->Prop}{T:List Tl}{n:Int}{dx d:Addr}{kvs:List (Key×Z)}(H:ShV C G p S T n dx d kvs):ShV C (put G d (.dF kvs)) p S T n dx d kvs:=by
 have k:∀ b o,b≠d->G b=some o->put G d (.dF kvs) b=some o:=fun b o nb e=>by rw[a0B nb];exact e
 have nl:∀ b ws,G b=some (.lst ws)->b≠d:=fun b ws e z=>by
  rw[z]at e;rcases H.dc with c | c<;>(rw[c]at e;cases e)
 refine⟨k _ _ (fun z=>?_) H.ob,H.sp,H.sd,.inr a0d,H.len,H.no,fun kk z e=>?_,fun b hb=>?_,H.nd,H.sk⟩
 ·have e:=H.ob;rw[z]at e;rcases H.dc with c | c<;>(rw[c]at e;cases e)
 ·obtain⟨h,es,ez,hh⟩:=H.hs kk z e;refine⟨h,es,ez,hh.s,k _ _ (nl _ _ hh.at_) hh.at_,hh.ix,hh.ne,fun e he=>?_⟩;obtain⟨s1,L,g1,i1⟩:=hh.ln e he;exact⟨s1,L,k _ _ (nl _ _ g1) g1,i1⟩
 ·by_cases c:b=d
  ·rw[c];exact⟨_,a0d⟩
  ·obtain⟨o,e⟩:=H.al b hb;exact⟨o,k b o c e⟩
def a11 (a:Ad):P3:=fun ws G R=>∃ (p:Addr) (S:Addr->Prop) (T:List Tl),ws=[.ref p]/\Sheet a.c_Sheet G p S T/\R (.int T.length) G
theorem a3y {a:Ad}{ws:List Z}{G:Hq}{R:K3}(h:a11 a ws G R):ws.length=1:=by obtain⟨_,_,_,rfl,_⟩:=h;rfl
theorem a3O (F:Fns K a) (T:Txt K mg a):FnOk P w K mg base CX0 1 a.f31 a.d31 ["self"] (lowP K (a11 a)):=by
 refine fn3 F.n31 a3H (fun ws G R h=>(by exact a3y h)) (fun cdv A outer s H E ws G R hr h=>?_);have hu:=a02 hr;refine⟨_,(a0p (a0G (a6w T.cl_Sheet T.na_last (a0b (pv 0))))),?_⟩;obtain⟨p,S,T',rfl,⟨dx,d,kvs,sh⟩,q⟩:=h;walk_at "go";exact⟨p,dx,_,_,rfl,sh.ob,a23,q⟩
def inR (T:List Tl) (q:Int):Prop:=0≤q/\q≤T.length
def a2o (a:Ad):PX3:=fun ws G R EE=>Ex5 fun (p:Addr) (S:Addr->Prop) (T:List Tl) (x:Z) (q:Int)=>ws=[.ref p,x,.int q]/\Sheet a.c_Sheet G p S T/\(∀ G'',Th G'' x)/\T.length≤200 /\
 ((inR T q/\∃ k,x=.str k/\nmOk k/\∀ t L G',G t=none->Sm G G'->G' t=some (.lst (L.map Rw.z))->IsLine (T.take q.toNat) k L->R (.ref t) G')\/(¬ inR T q/\∀ G',Sm G G'->EE a.x_NoKnowing G')\/(inR T q/\a2L x=false/\∀ G',Sm G G'->EE a.x_NoName G'))
theorem a3P {a:Ad}{ws:List Z}{G:Hq}{R:K3}{EE:Addr->Hq->Prop}(h:a2o a ws G R EE):ws.length=3:=by obtain⟨_,_,_,_,_,rfl,_⟩:=h;rfl
theorem a2p (F:Fns K a) (T:Txt K mg a):FnOk P w K mg base (CXx P w) 3 a.f25 a.d25 ["self","key","knowing"] (a4A K (a2o a)):=by
 have G_Sheet_check_knowing:=a1g (P:=P) (w:=w) (base:=base) F T;have G_p_check_name:=a2D (P:=P) (w:=w) (base:=base) F T;have G_Sheet_known_line:=a04 (P:=P) (w:=w) (base:=base) F T;refine fn3x F.n25 a35 (fun ws G R EE h=>(by exact a3P h)) (fun cdv A outer s H E ws G R EE hr h ux=>?_);have hu:=a02 hr;refine⟨_,(a0l (a05 (a1A (a17 Outs.of) ux.since (a0b (pv 0)) T.cl_Sheet T.mt23 G_Sheet_check_knowing (hr.mono (by decide)) (a1d F) (a0c (a0b (pv 2)) a0i a0a) (hst:=a0a) (hpl:=a0j)))
  (a0l (a05 (a4B (a17 Outs.of) ux.since G_p_check_name (hr.mono (by decide)) rfl T.m4 F.n4.kp (a2B F) (a0c (a0b (pv 1)) a0i a0a) (he:=a0a) (hpl:=a0j)))
  (a0p (a0G (a7T (a0b (pv 0)) T.cl_Sheet T.mt24 G_Sheet_known_line (hr.mono (by decide)) (a03 F) (a0c (a0b (pv 1)) (a0c (a0b (pv 2)) a0i a0a) a0a) (hst:=a0a) (hpl:=(a0k a0a a0j))))))),?_⟩
 obtain⟨p,S,T',x,q,rfl,sh,hx,hT,h⟩:=h;have sh':=sh;obtain⟨dx,d,kvs,sm⟩:=sh';walk_at "go";refine⟨p,dx,_,rfl,sm.ob,a2M (by decide +kernel) (by decide +kernel),?_⟩;walk_at "go";refine⟨p,S,T',q,rfl,sh.v,?_⟩;rcases h with ⟨hq,k,rfl,hk,fin⟩ | ⟨hq,e⟩ | ⟨hq,hn,e⟩
 ·have hq':0≤q/\q≤T'.length:=hq;rw[if_pos hq'];walk_at "go";refine⟨_,rfl,hx _,fun G1 s1=>?_⟩;rw[nm_b hk];refine ifT ?_;have sm1:=sm.keep (Sm.ks s1);walk_at "go";refine⟨p,dx,_,rfl,sm1.ob,a2M (by decide +kernel) (by decide +kernel),?_⟩;walk_at "go";exact⟨p,S,T',k,q,_,dx,d,kvs,rfl,sm1.v,hq.1,hq.2,hT,fun t L G2 ht s2 gt il=>fin t L G2 (s1.free ht) (s1.trans s2) gt il⟩
 ·rw[if_neg (show ¬ (0≤q/\q≤T'.length) from hq)];exact e G (Sm.refl _)
 ·rw[if_pos (show 0≤q/\q≤T'.length from hq)];walk_at "go";refine⟨_,rfl,hx _,fun G1 s1=>?_⟩;rw[hn];exact ifF (e G1 s1)
def NE (T:List Tl) (k:Str):Prop:=∃ L,IsLine T k L/\L≠[]
structure KeysAt (T:List Tl) (ts:List Str):Prop where
 so:PyProof.Rows.sortedS ts=true
 nd:ts.Nodup
 is:∀ s,s∈ts↔NE T s
theorem IsLine.uniq {T:List Tl}{k:Str}{L M:List Rw}(h:IsLine T k L) (g:IsLine T k M):L=M:=b2o h.can g.can fun t=>by rw[h.v,g.v]
theorem a7r {T:List Tl}{k:Str}(h:ix T k=[]) (q:Nat):a0P (T.take q) k=[]:=a6S fun i hi=>by rw[h]at hi;simp at hi
def Few (T:List Tl):Prop:=T.length≤200/\∃ kn:List Str,kn.length≤63/\∀ τ∈T,τ.key∈kn
theorem b2s:∀ {xs ys:List Str},xs.Nodup->(∀ x∈xs,x∈ys)->xs.length≤ys.length
 | [],_,_,_=>Nat.zero_le _
 | x::xs,ys,h,m=>by
  rw[List.nodup_cons]at h;have hx:=m x (.head _)
  have:=b2s (xs:=xs) (ys:=ys.erase x) h.2 fun y hy=>(List.mem_erase_of_ne (fun z=>h.1 (by rw[<- z];exact hy))).mpr (m y (.tail _ hy))
  rw[List.length_erase_of_mem hx]at this
  have:=List.length_pos_of_mem hx
  rw[List.length_cons];omega
theorem b2t:∀ {T:List Tl}{k:Str}{n:Nat},ixF k n T≠[]->∃ τ∈T,τ.key=k
 | [],_,_,h=>absurd rfl h
 | τ::T,k,n,h=>by
  by_cases c:τ.key=k
  ·exact⟨τ,.head _,c⟩
  ·unfold ixF at h;rw[if_neg c,List.nil_append]at h;obtain⟨σ,h1,h2⟩:=b2t h;exact⟨σ,.tail _ h1,h2⟩
theorem b59 {kvs:List (Key×Z)}{ks:List Str}(h:kvs.map (·.1)=ks.map Sum.inr) {s:Str}(m:s∈ks):∃ z,valZ kvs (.inr s)=some z:=by
 unfold valZ;cases e2:kvs.find? fun kv=>decide (kv.1=Sum.inr s) with
 | some q=>exact⟨_,rfl⟩
 | none=>
  have h1:(Sum.inr s:Key)∈kvs.map (·.1):=by rw[h];exact List.mem_map_of_mem m
  obtain⟨q,hq,eq⟩:=List.mem_map.mp h1
  have:=List.find?_eq_none.mp e2 q hq
  simp[eq]at this
def a2q (a:Ad):PX3:=fun ws G R EE=>Ex4 fun (p:Addr) (S:Addr->Prop) (T:List Tl) (q:Int)=>ws=[.ref p,.int q]/\Sheet a.c_Sheet G p S T/\Few T /\
 ((inR T q/\∀ t ts G',G t=none->Sm G G'->G' t=some (.lst (ts.map Z.str))->KeysAt (T.take q.toNat) ts->ts.length≤63->R (.ref t) G')\/(¬ inR T q/\∀ G',Sm G G'->EE a.x_NoKnowing G'))
theorem a3Q {a:Ad}{ws:List Z}{G:Hq}{R:K3}{EE:Addr->Hq->Prop}(h:a2q a ws G R EE):ws.length=2:=by obtain⟨_,_,_,_,rfl,_⟩:=h;rfl
theorem a6U:∀ {kvs:List (Key×Z)},(∀ q∈kvs,∃ s,q.1=Sum.inr s)->∃ ks:List Str,kvs.map (·.1)=ks.map Sum.inr/\(kvs.map fun q=>keyW q.1)=ks.map Z.str
 | [],_=>⟨[],rfl,rfl⟩
 | q::kvs,h=>by
  obtain⟨s,hs⟩:=h q (.head _);obtain⟨ks,h1,h2⟩:=a6U (kvs:=kvs) fun q hq=>h q (.tail _ hq);exact⟨s::ks,by rw[List.map_cons,List.map_cons,h1,hs],by rw[List.map_cons,List.map_cons,h2,hs];rfl⟩
theorem b3T {kvs:List (Key×Z)}{ks:List Str}{s:Str}{z:Z}(h:kvs.map (·.1)=ks.map Sum.inr) (e:valZ kvs (.inr s)=some z):s∈ks:=by
 unfold valZ at e;cases e2:kvs.find? fun kv=>decide (kv.1=Sum.inr s) with
 | none=>rw[e2]at e;cases e
 | some q=>
  have h1:=List.mem_of_find?_eq_some e2;have h2:q.1=Sum.inr s:=by have:=List.find?_some e2;simpa using this
  have:(Sum.inr s:Key)∈ks.map Sum.inr:=by rw[<- h,<- h2];exact List.mem_map_of_mem (f:=(·.1)) h1
  obtain⟨x,hx,ex⟩:=List.mem_map.mp this;cases ex;exact hx
theorem a2r (F:Fns K a) (T:Txt K mg a):FnOk P w K mg base (CXx P w) 3 a.f26 a.d26 ["self","knowing"] (a4A K (a2q a)):=by
 have G_Sheet_check_knowing:=a1g (P:=P) (w:=w) (base:=base) F T;have G_Sheet_known_line:=a04 (P:=P) (w:=w) (base:=base) F T;refine fn3x F.n26 a36 (fun ws G R EE h=>(by exact a3Q h)) (fun cdv A outer s H E ws G R EE hr h ux=>?_);have hu:=a02 hr;refine⟨_,(a0l (a05 (a1A (a17 Outs.of) ux.since (a0b (pv 0)) T.cl_Sheet T.mt23 G_Sheet_check_knowing (hr.mono (by decide)) (a1d F) (a0c (a0b (pv 1)) a0i a0a) (hst:=a0a) (hpl:=a0j)))
  (a0p (a0G (b7l (a0z a6C rfl T.b_sorted rfl (a0c (q_lc (N₀:=["self","knowing"]) (so:=a0g a1b) (N':=["key","knowing","self"]) (cap:=[none,some 1,some 0]) (pt:=(.nm 0)) rfl rfl rfl (by decide +kernel) rfl (b3s (a6w T.cl_Sheet T.na_kept (a0b (pv 0)))) (fun _ _ _ _=>(show QP _ _ (.nm 0) from (a0u (i:=0) b7r rfl (Or.inl rfl)))) (fun _ _ _ _=>(a3D (b4Q (a7T (a0b (pv 2)) T.cl_Sheet T.mt24 G_Sheet_known_line (hr.mono (by decide)) (a03 F) (a0c (a0b (pv 0)) (a0c (a0b (pv 1)) a0i a0a) a0a) (hst:=a0a) (hpl:=(a0k a0a a0j))) (fun _=>rfl)))) (fun _ _ _ _=>(a0b (pv 0)))) a0i a1z) (he:=a1z) (hpl:=a0j)))))),?_⟩
 obtain⟨p,S,T',q,rfl,sh,hT,h⟩:=h;have sh':=sh;obtain⟨dx,d,kvs,sm⟩:=sh';walk_at "go";refine⟨p,dx,_,rfl,sm.ob,a2M (by decide +kernel) (by decide +kernel),?_⟩;walk_at "go";refine⟨p,S,T',q,rfl,sh.v,?_⟩;rcases h with ⟨hq,fin⟩ | ⟨hq,e⟩
 rotate_left
 ·rw[if_neg (show ¬ (0≤q/\q≤T'.length) from hq)];exact e G (Sm.refl _)
 rw[if_pos (show 0≤q/\q≤T'.length from hq)];walk_at "go";refine b7m sm.dc ?_;walk_at "go";refine⟨p,dx,_,_,rfl,sm.ob,a7l,?_⟩;walk_at "go";refine b7j (.inl sm.dc) ?_;have smF:=sm.v.frz;obtain⟨ks,hk1,hk2⟩:=a6U sm.sk;have hnd:ks.Nodup:=by
  have:=sm.nd
  rw[hk1]at this;exact (List.pairwise_map.mp this).imp fun h z=>h (by rw[z])
 obtain⟨hT2,kn,kn1,kn2⟩:=hT;have hkl:ks.length≤63:=Nat.le_trans (b2s hnd fun s hs=>by
  obtain⟨z,ez⟩:=b59 hk1 hs;obtain⟨h,es,_,hh⟩:=sm.hs s z ez;obtain⟨τ,t1,t2⟩:=b2t (T:=T') (k:=s) (n:=0) (fun z=>hh.ne (by
   have:=hh.ix
   rw[show ix T' s=[] from z]at this;exact List.map_eq_nil_iff.mp this))
  rw[<- t2];exact kn2 τ t1) kn1
 rw[hk2];intro D hD;refine a8C (fun i ys G'=>∃ ts:List Str,ys=ts.map Z.str/\ts.Nodup/\(∀ s,s∈ts↔s∈ks.take i/\NE (T'.take q.toNat) s)/\ts.length≤i/\Sm (put G d (.dF kvs)) G'/\G' D=some (.lst ys)) ⟨[],rfl,.nil,fun s=>by simp,Nat.le_refl _,Sm.new hD,a0d⟩ (fun _ _ _ _ _=>True.intro) ?_ ?_
 ·rintro i x ys G' hx ⟨ts,rfl,hn,hm,hl,s,gD⟩;rw[List.getElem?_map]at hx;cases hx':ks[i]? with
  | none=>rw[hx']at hx;cases hx
  | some k=>
  rw[hx']at hx;cases hx;have hi:=(List.getElem?_eq_some_iff.mp hx').1;have ht1:ks.take (i+1)=ks.take i++[k]:=by rw[List.take_add_one,hx'];rfl
  have nk:k∉ks.take i:=fun z=>by
   have h1:(ks.take (i+1)).Nodup:=hnd.sublist (List.take_sublist _ _);rw[ht1,List.nodup_append]at h1;exact h1.2.2 k z k (by simp) rfl
  have smA:=smF.keep (Sm.ks s);refine⟨_,rfl,?_⟩;walk_at "go";refine⟨p,dx,_,rfl,smA.ob,a2M (by decide +kernel) (by decide +kernel),?_⟩;walk_at "go";refine⟨p,S,T',k,q,_,dx,d,kvs,rfl,smA,hq.1,hq.2,by omega,fun t L G2 ht s2 gt il=>?_⟩;refine b2c gt ?_;cases hL:L with
  | nil=>
   walk_at "go";refine⟨ts,rfl,hn,fun y=>?_,by omega,s.trans s2,s2 _ _ gD⟩;rw[hm,ht1,List.mem_append,List.mem_singleton]
   constructor
   ·exact fun ⟨a1,a2⟩=>⟨.inl a1,a2⟩
   ·rintro⟨a1 | rfl,a2⟩
    ·exact⟨a1,a2⟩
    ·obtain⟨M,m1,m2⟩:=a2;exact absurd (m1.uniq il) (by rw[hL];exact m2)
  | cons r L'=>
   walk_at "go";refine⟨_,rfl,s2 _ _ gD,by rw[List.length_map];exact a0s (by omega),ts++[k],by rw[List.map_append];rfl,?_,fun y=>?_,by rw[List.length_append];simp;omega,(s.trans s2).put hD,a0d⟩
   ·rw[List.nodup_append];exact⟨hn,by simp,fun a1 h1 b1 h2 z=>nk (by rw[<- List.mem_singleton.mp h2,<- z];exact ((hm a1).mp h1).1)⟩
   ·rw[List.mem_append,hm,ht1,List.mem_append,List.mem_singleton]
    constructor
    ·rintro (⟨a1,a2⟩ | rfl)
     ·exact⟨.inl a1,a2⟩
     ·exact⟨.inr rfl,L,il,by rw[hL];simp⟩
    ·rintro⟨a1 | rfl,a2⟩
     ·exact .inl ⟨a1,a2⟩
     ·exact .inr rfl
 ·rintro ys G' ⟨ts,rfl,hn,hm,hl,s,gD⟩;rw[List.length_map]at hm hl;rw[List.take_length]at hm;walk_at "go";refine a6D gD (by omega) fun t us ht hp hs=>?_;have gd:G' d=some (.dF kvs):=s _ _ a0d;have td:t≠d:=Ne.symm (a0x gd ht);have fr:G t=none:=by
   have h1:=s.free ht;rw[a0B td]at h1;exact h1
  have sm2:Sm G (put (put G' t (.lst (us.map Z.str))) d (.dK kvs)):=fun b o e=>by
   by_cases c:b=d
   ·rw[c,a0d,<- sm.dc,<- c];exact e
   ·rw[a0B c];exact a0n (s _ _ (by rw[a0B c];exact e)) ht
  refine⟨a0n gd ht,fin t us _ fr sm2 (by rw[a0B td];exact a0d) ⟨hs,hp.nodup_iff.mpr hn,fun y=>?_⟩ (by rw[hp.length_eq];omega)⟩;rw[hp.mem_iff,hm]
  constructor
  ·exact fun z=>z.2
  ·intro z;refine⟨?_,z⟩;cases e:valZ kvs (.inr y) with
   | some w=>exact b3T hk1 e
   | none=>
    obtain⟨L,l1,l2⟩:=z;exact absurd (l1.uniq (IsLine.nil (a7r (sm.no y e) _))) l2
def leS (a b:Str):Prop:=PySem.Spec.ltCps b.cps.toList a.cps.toList=false
theorem b0G {a b:Str}:leS a b↔¬ b.cps.toList<a.cps.toList:=by unfold leS;rw[PyProof.Rows.ltCps_eq];simp
theorem b0H {a b c:Str}(h:leS a b) (g:leS b c):leS a c:=by
 rw[b0G]at *;exact List.le_trans (α:=Nat) h g
theorem b1V {a b:Str}(h:leS a b) (g:leS b a):a=b:=by
 rw[b0G]at *;have e:a.cps.toList=b.cps.toList:=List.le_antisymm (α:=Nat) h g;cases a;cases b;simpa using e
theorem b6a:∀ {l:List Str}{p:Str},PyProof.Rows.risingS p l=true->(p::l).Pairwise leS
 | [],p,_=>List.pairwise_singleton _ _
 | x::r,p,h=>by
  unfold PyProof.Rows.risingS at h;rw[Bool.and_eq_true,Bool.not_eq_true']at h;have ih:=b6a h.2;refine List.pairwise_cons.mpr ⟨fun y hy=>?_,ih⟩;rcases List.mem_cons.mp hy with rfl | hy
  ·exact h.1
  ·exact b0H h.1 (List.rel_of_pairwise_cons ih hy)
theorem b6b:∀ {l:List Str},PyProof.Rows.sortedS l=true->l.Pairwise leS
 | [],_=>List.Pairwise.nil
 | _::_,h=>b6a h
theorem a6V:∀ {xs ys:List Str},xs.Pairwise leS->ys.Pairwise leS->xs.Perm ys->xs=ys
 | [],ys,_,_,h=>(List.nil_perm.mp h).symm
 | x::xs,[],_,_,h=>by have:=h.length_eq;simp at this
 | x::xs,y::ys,h1,h2,h=>by
  have e:x=y:=by
   have m1:=h.mem_iff.mp (List.mem_cons_self (a:=x) (l:=xs));have m2:=h.mem_iff.mpr (List.mem_cons_self (a:=y) (l:=ys));rcases List.mem_cons.mp m1 with e | m1
   ·exact e
   ·rcases List.mem_cons.mp m2 with e | m2
    ·exact e.symm
    ·exact b1V (List.rel_of_pairwise_cons h1 m2) (List.rel_of_pairwise_cons h2 m1)
  subst e;rw[a6V (List.pairwise_cons.mp h1).2 (List.pairwise_cons.mp h2).2 h.cons_inv]
theorem b1W {T:List Tl}{kn sk ts:List Str}(hk:∀ τ∈T,τ.key∈kn) (nd:kn.Nodup) (hp:sk.Perm kn) (hs:PyProof.Rows.sortedS sk=true) (ka:KeysAt T ts):ts=sk.filter fun k=>decide (k∈ts):=by
 have nd2:sk.Nodup:=hp.nodup_iff.mpr nd;refine a6V (b6b ka.so) ((b6b hs).sublist List.filter_sublist) ((List.perm_ext_iff_of_nodup ka.nd (nd2.sublist List.filter_sublist)).mpr fun s=>?_);rw[List.mem_filter,decide_eq_true_eq];refine⟨fun h=>⟨hp.mem_iff.mpr ?_,h⟩,fun h=>h.2⟩;obtain⟨L,l1,l2⟩:=(ka.is s).mp h
 by_cases c:∃ τ∈T,τ.key=s
 ·obtain⟨τ,h1,h2⟩:=c;rw[<- h2];exact hk τ h1
 ·have:a0P T s=[]:=by
   unfold a0P;rw[List.map_eq_nil_iff,List.filter_eq_nil_iff];intro τ hτ;simpa using fun z=>c ⟨τ,hτ,z⟩
  exact absurd (l1.uniq (IsLine.nil this)) l2
theorem b3U {T:List Tl}{s:Str}(ok:OkT T) (h:NE T s):nmOk s:=by
 obtain⟨L,l1,l2⟩:=h
 by_cases c:∃ τ∈T,τ.key=s
 ·obtain⟨τ,h1,h2⟩:=c;rw[<- h2];exact (ok τ h1).k
 ·have:a0P T s=[]:=by
   unfold a0P;rw[List.map_eq_nil_iff,List.filter_eq_nil_iff];intro τ hτ;simpa using fun z=>c ⟨τ,hτ,z⟩
  exact absurd (l1.uniq (IsLine.nil this)) l2
local macro_rules | `(tactic| walk_at "go1")=>`(tactic| first | refine i_I (show (0:Int)<_ by decide) ?_ | refine a0D (by assumption) (by with_unfolding_all rfl) ?_ | (refine i_I ⟨by decide,by decide,by decide⟩ ?_;rw[a7m]))
theorem a7s {r:Rw}{t:Int}:∀ {L:List Rw},Rise L->r∈L->r.has t=true->val L t=some r.w
 | s::L,h,hr,ht=>by
  rw[a0K];rcases List.mem_cons.mp hr with rfl | hr
  ·rw[if_pos ht]
  ·cases e:s.has t with
   | true=>rw[((List.pairwise_cons.mp h.2).1 r hr).has e]at ht;cases ht
   | false=>rw[if_neg (by decide)];exact a7s h.tail hr ht
theorem b6c {T:List Tl}{k:Str}(ok:OkT T) (t:Int):a1e (a0P T k) t=.non\/∃ w,a1e (a0P T k) t=.str w/\nmOk w:=by
 unfold a1e;cases e:(a0P T k).reverse.find? (·.has t) with
 | none=>exact .inl rfl
 | some r=>
  have hr:r∈a0P T k:=by have:=List.mem_of_find?_eq_some e;simpa using this
  unfold a0P at hr;obtain⟨τ,h1,rfl⟩:=List.mem_map.mp hr;have okτ:=ok τ (List.mem_filter.mp h1).1
  show τ.v=.non\/∃ w,τ.v=.str w/\nmOk w
  unfold Tl.v;cases hw:τ.w with
  | none=>exact .inl rfl
  | some w=>exact .inr ⟨w,rfl,okτ.w w hw⟩
theorem a8k {T:List Tl}{k:Str}{L:List Rw}(il:IsLine T k L) (ok:OkT T) {r:Rw}(hr:r∈L):∃ w,r.w=[.str w]/\nmOk w:=by
 have h1:=a7s il.can.rise hr (a4X (il.can.1 r hr));rw[il.v]at h1;unfold optW at h1
 split at h1
 ·cases h1
 ·next c=>
  injection h1 with h1
  rcases b6c (k:=k) ok r.b with e | ⟨w,e,hw⟩
  ·exact absurd e c
  ·exact⟨w,by rw[<- h1,e],hw⟩
def isBd (T:List Tl) (k:Str) (x:Int):Prop:=∃ τ∈T,τ.key=k/\(τ.b=x\/τ.e=some x)
theorem a6W {T:List Tl}{k:Str}{x:Int}(h:¬ isBd T k x):a1e (a0P T k) x=a1e (a0P T k) (x - 1):=by
 unfold a1e;rw[a5n fun r hr=>?_];have hr':r∈a0P T k:=by simpa using hr
 unfold a0P at hr';obtain⟨τ,h1,rfl⟩:=List.mem_map.mp hr';obtain⟨h2,h3⟩:=List.mem_filter.mp h1;have hk:τ.key=k:=by simpa using h3
 have hb:¬ τ.b=x:=fun z=>h ⟨τ,h2,hk,.inl z⟩;have he:¬ τ.e=some x:=fun z=>h ⟨τ,h2,hk,.inr z⟩;refine b1H (by omega) (fun q=>?_) fun e q1 q2=>?_
 ·have:τ.rw.b=τ.b:=rfl
  omega
 ·have:τ.e=some e:=q1
  have:e≠x:=fun z=>he (by rw[this,z])
  omega
theorem has_iff {r:Rw}{t:Int}:r.has t=true↔r.b≤t/\∀ e,r.e=some e->t<e:=by
 unfold Rw.has;cases he:r.e with
 | none=>simp[bef]
 | some e=>simp[bef]
theorem pw_or {r s:Rw}:∀ {L:List Rw},L.Pairwise Lt2->r∈L->s∈L->r=s\/Lt2 r s\/Lt2 s r
 | x::L,h,hr,hs=>by
  obtain⟨h1,h2⟩:=List.pairwise_cons.mp h;rcases List.mem_cons.mp hr with e1 | m1
  ·rcases List.mem_cons.mp hs with e2 | m2
   ·exact .inl (e1.trans e2.symm)
   ·rw[e1];exact .inr (.inl (h1 s m2))
  ·rcases List.mem_cons.mp hs with e2 | m2
   ·rw[e2];exact .inr (.inr (h1 r m1))
   ·exact pw_or h2 m1 m2
theorem b3V {T:List Tl}{k:Str}{L:List Rw}(il:IsLine T k L) {r:Rw}(hr:r∈L):isBd T k r.b/\∀ x,r.e=some x->isBd T k x:=by
 have g:=il.can.1 r hr;have hv:∀ {s:Rw}{t:Int},s∈L->s.has t=true->val L t=some s.w:=fun h1 h2=>a7s il.can.rise h1 h2
 constructor
 ·refine Classical.byContradiction fun c=>?_;have e1:=hv hr (a4X g);rw[il.v,a6W c,<- il.v]at e1;obtain⟨s,hs,h1,h2⟩:=a5V e1;obtain⟨a1,a2⟩:=has_iff.mp h1;rcases pw_or il.can.2 hr hs with z | ⟨e,b1,b2,b3⟩ | ⟨e,b1,b2,b3⟩
  ·rw[<- z]at a1;omega
  ·have:=(has_iff.mp (a4X g)).2 e b1;omega
  ·have:=a2 e b1
   exact b3 (by omega) h2
 ·intro x hx;have gx:=(has_iff.mp (a4X g)).2 x hx;refine Classical.byContradiction fun c=>?_;have e1:val L (x - 1)=some r.w:=hv hr (has_iff.mpr ⟨by omega,fun e he=>by rw[hx]at he;cases he;omega⟩);rw[il.v,<- a6W c,<- il.v]at e1;obtain⟨s,hs,h1,h2⟩:=a5V e1;obtain⟨a1,a2⟩:=has_iff.mp h1;rcases pw_or il.can.2 hr hs with z | ⟨e,b1,b2,b3⟩ | ⟨e,b1,b2,b3⟩
  ·have:=a2 x (by rw[<- z];exact hx);omega
  ·rw[hx]at b1;cases b1;exact b3 (by omega) h2.symm
  ·have:=a2 e b1;omega
def a5u:P3:=fun ws G R=>∃ (p:Addr) (L:List Rw),ws=[.ref p]/\G p=some (.lst (L.map Rw.z))/\Can L/\(∀ r∈L,∃ w,r.w=[.str w])/\L.length≤900/\R (.bl true) G
theorem a7t {ws:List Z}{G:Hq}{R:K3}(h:a5u ws G R):ws.length=1:=by obtain⟨_,_,rfl,_⟩:=h;rfl
theorem a8V (F:Fns K a) (T:Txt K mg a):FnOk P w K mg base CX0 1 a.f20 a.d20 ["line"] (lowP K a5u):=by
 refine fn3 F.n20 sc_is_line (fun ws G R h=>(by exact a7t h)) (fun cdv A outer s H E ws G R hr h=>?_);have hu:=a02 hr;refine⟨_,(a0l (z_if (a2l (a2W (a0z a5J rfl T.b_isinstance rfl (a0c (a0b (pv 0)) (a0c (q_ty (a12 (v:=.ty "list") rfl T.b_list rfl rfl)) a0i a0a) a0a) (he:=a0a) (hpl:=(a0k a0a a0j)))))
  (a0p (a0G q_bl))
  a0V)
  (a0l (a2X (pt:=(.nm 1)) PassesOwn.never rfl (a2G rfl T.b_range (a0c (a0z b_len rfl T.b_len PySem.boot_len (a0c (a0b (pv 0)) a0i a0a) (he:=a0a) (hpl:=a0j)) a0i a0N)) (show QP _ _ (.nm 1) from (a0u (i:=1) sc_is_line.nd rfl (Or.inl rfl)))
  (a0l (z_if (QW.qt (q_or (a2l (a2W (a0z a5J rfl T.b_isinstance rfl (a0c (q_ix x_ix (a0b (pv 0)) (a0b (pv 1)) (fun _ _=>rfl)) (a0c (q_ty (a12 (v:=.ty "tuple") rfl T.b_tuple rfl rfl)) a0i a0a) a0h) (he:=a0h) (hpl:=(a0k a0a a0j))))) (q_or (a0t (o_ne hu) (a0z b_len rfl T.b_len PySem.boot_len (a0c (q_ix x_ix (a0b (pv 0)) (a0b (pv 1)) (fun _ _=>rfl)) a0i a0h) (he:=a0h) (hpl:=a0j)) a0f (a0r _)) (a4T (a2l (a2W (a0z a5J rfl T.b_isinstance rfl (a0c (q_ix x_ix (q_ix x_ix (a0b (pv 0)) (a0b (pv 1)) (fun _ _=>rfl)) a0f (fun _ _=>rfl)) (a0c (q_ty (a12 (v:=.ty "str") rfl T.b_str rfl rfl)) a0i a0a) a0h) (he:=a0h) (hpl:=(a0k a0a a0j)))))))))
  (a0p (a0G q_bl))
  a0V)
  (a0l (z_if (QW.qt (q_or (QW.qt (a30 (a0t o_is (q_ix x_ix (q_ix x_ix (a0b (pv 0)) (a0b (pv 1)) (fun _ _=>rfl)) a0f (fun _ _=>rfl)) a18 (a0r _)) (a3a (a0t o_lt (q_op a1Y (a0b (pv 1)) a0f) (a0z b_len rfl T.b_len PySem.boot_len (a0c (a0b (pv 0)) a0i a0a) (he:=a0a) (hpl:=a0j)) (a0r _))))) (a4T (QW.qt (a30 (a0t a5I (q_ix x_ix (q_ix x_ix (a0b (pv 0)) (a0b (pv 1)) (fun _ _=>rfl)) a0f (fun _ _=>rfl)) a18 (a0r _)) (a3a (a0t o_le (q_ix x_ix (q_ix x_ix (a0b (pv 0)) (a0b (pv 1)) (fun _ _=>rfl)) a0f (fun _ _=>rfl)) (q_ix x_ix (q_ix x_ix (a0b (pv 0)) (a0b (pv 1)) (fun _ _=>rfl)) a0f (fun _ _=>rfl)) (a0r _))))))))
  (a0p (a0G q_bl))
  a0V)
  (a0l (z_if (QW.qt (a30 (a0t o_gt (a0b (pv 1)) a0f (a0r _)) (a3a (a0t o_lt (q_ix x_ix (q_ix x_ix (a0b (pv 0)) (a0b (pv 1)) (fun _ _=>rfl)) a0f (fun _ _=>rfl)) (q_ix x_ix (q_ix x_ix (a0b (pv 0)) (q_op a8D (a0b (pv 1)) a0f) (fun _ _=>rfl)) a0f (fun _ _=>rfl)) (a0r _)))))
  (a0p (a0G q_bl))
  a0V)
  (a0p (z_if (QW.qt (a30 (a0t o_gt (a0b (pv 1)) a0f (a0r _)) (a30 (a0t (o_eq hu) (q_ix x_ix (q_ix x_ix (a0b (pv 0)) (a0b (pv 1)) (fun _ _=>rfl)) a0f (fun _ _=>rfl)) (q_ix x_ix (q_ix x_ix (a0b (pv 0)) (q_op a8D (a0b (pv 1)) a0f) (fun _ _=>rfl)) a0f (fun _ _=>rfl)) (a0r _)) (a3a (a0t (o_eq hu) (q_ix x_ix (q_ix x_ix (a0b (pv 0)) (a0b (pv 1)) (fun _ _=>rfl)) a0f (fun _ _=>rfl)) (q_ix x_ix (q_ix x_ix (a0b (pv 0)) (q_op a8D (a0b (pv 1)) a0f) (fun _ _=>rfl)) a0f (fun _ _=>rfl)) (a0r _))))))
  (a0p (a0G q_bl))
  a0V))))))
  (a0p (a0G q_bl)))),?_⟩
 obtain⟨p,L,rfl,gp,can,hw,hl,q⟩:=h;walk_at "go";refine a8E (n:="list") (b:=true) (by simp[tyN,gp]) (by decide +kernel) ?_;walk_at "go";refine ifF ?_;walk_at "go";refine a3U gp ?_;walk_at "go";rw[List.length_map];refine⟨by omega,by omega,?_⟩;rw[show ((L.length:Int)).toNat=L.length by omega];refine a06 (fun i σ G'=>∃ v:Option Z,G'=G/\σ=[some (.ref p),v]) ⟨_,rfl,rfl⟩ (fun _ _ _ _ _=>True.intro) ?_ ?_
 ·rintro i u σ G' hu ⟨v,rfl,rfl⟩;obtain⟨hi,rfl⟩:=a3B hu;rw[Int.zero_add];have hr:L[i]?=some L[i]:=List.getElem?_eq_getElem hi;have mr:L[i]∈L:=List.getElem_mem hi;generalize hLi:L[i]=r at hr mr;have ar:atI (L.map Rw.z) (i:Int)=some r.z:=b0r hr;obtain⟨w,hrw⟩:=hw r mr;have hz:r.z=.tup [.int r.b,oz r.e,.str w]:=by unfold Rw.z;rw[hrw]
  rw[hz]at ar;refine⟨_,rfl,?_⟩;walk_at "go";refine a0D gp ar ?_;walk_at "go";refine a8E (n:="tuple") (b:=true) rfl (by decide +kernel) ?_;walk_at "go";refine ifF ?_;walk_at "go";refine a0D gp ar ?_;walk_at "go";refine ifF ?_;walk_at "go";refine a0D gp ar ?_;walk_at "go";refine a8E (n:="str") (b:=true) rfl (by decide +kernel) ?_;walk_at "go";refine ifF ?_;walk_at "go";have nx:∀ s,L[i+1]?=some s->Lt2 r s:=fun s hs=>by
   have h1:=(List.getElem?_eq_some_iff.mp hs).1
   have:=List.pairwise_iff_getElem.mp can.2 i (i+1) hi h1 (by omega)
   rw[hLi,(List.getElem?_eq_some_iff.mp hs).2]at this;exact this
  rcases hre:r.e with _ | e
  case' none=>
   have ar':=ar;rw[hre]at ar';refine a0D gp ar' ?_;walk_at "go";refine a3U gp ?_;walk_at "go";refine ifD (fun c=>?_) fun _=>?_
   ·exfalso;rw[List.length_map]at c
    obtain⟨e,h1,_⟩:=nx L[i+1] (List.getElem?_eq_getElem (by omega));rw[hre]at h1;cases h1
   walk_at "go";refine a0D gp ar' ?_;walk_at "go"
  case' some=>
   have ar':=ar;rw[hre]at ar';have lt:r.b<e:=(has_iff.mp (a4X (can.1 r mr))).2 e hre;refine a0D gp ar' ?_;walk_at "go";refine a0D gp ar' ?_;walk_at "go";refine a0D gp ar' ?_;walk_at "go";refine a0D gp ar' ?_;walk_at "go";refine ifD (fun c=>absurd c (by omega)) fun _=>?_;walk_at "go"
  all_goals
   clear nx hre;refine ifD (fun hk=>?_) fun hk=>?_
   rotate_left
   ·walk_at "go";refine ifD (fun z=>absurd z hk) fun _=>?_;walk_at "go";exact⟨_,rfl,rfl⟩
   obtain⟨j,rfl⟩:∃ j,i=j+1:=⟨i - 1,by omega⟩;have hs:L[j]?=some L[j]:=List.getElem?_eq_getElem (by omega);have ms:L[j]∈L:=List.getElem_mem _;have l2:Lt2 L[j] r:=by rw[<- hLi];exact List.pairwise_iff_getElem.mp can.2 j (j+1) (by omega) hi (by omega)
   generalize L[j]=s at hs ms l2;obtain⟨x,l2,l3,l4⟩:=l2;obtain⟨w',hsw⟩:=hw s ms;have as':atI (L.map Rw.z) (((j+1:Nat):Int) - 1)=some (.tup [.int s.b,.int x,.str w']):=by
    rw[show (((j+1:Nat):Int) - 1)=(j:Int) by omega,b0r hs];unfold Rw.z;rw[hsw,l2]
   walk_at "go";refine a0D gp ar ?_;walk_at "go";refine a0D gp as' ?_;walk_at "go";refine ifD (fun z=>absurd z (by omega)) fun _=>?_;walk_at "go";refine ifD (fun _=>?_) fun z=>absurd hk z;walk_at "go";refine a0D gp ar ?_;walk_at "go";refine a0D gp as' ?_;walk_at "go";refine ifD (fun ce=>?_) fun _=>?_
   rotate_left
   ·walk_at "go";exact⟨_,rfl,rfl⟩
   walk_at "go";refine a0D gp ar ?_;walk_at "go";refine a0D gp as' ?_;walk_at "go";refine ifD (fun cw=>absurd (by rw[hsw,hrw,cw]) (l4 ce.symm)) fun _=>?_;walk_at "go";exact⟨_,rfl,rfl⟩
 ·rintro σ G' ⟨v,rfl,rfl⟩;walk_at "go";exact q
def a8l:P3:=fun ws G R=>∃ (p:Addr) (L:List Rw) (m:Int),ws=[.ref p,.int m]/\G p=some (.lst (L.map Rw.z))/\One L/\R (wz (val L m)) G
theorem b0I {ws:List Z}{G:Hq}{R:K3}(h:a8l ws G R):ws.length=2:=by obtain⟨_,_,_,rfl,_⟩:=h;rfl
theorem b1X (F:Fns K a) (T:Txt K mg a):FnOk P w K mg base CX0 1 a.f21 a.d21 ["line","moment"] (lowP K a8l):=by
 refine fn3 F.n21 sc_shown (fun ws G R h=>(by exact b0I h)) (fun cdv A outer s H E ws G R hr h=>?_);have hu:=a02 hr;refine⟨_,(a0l (a2X (pt:=(.tp [2,3,4])) PassesOwn.never rfl (a01 (a0b (pv 0))) (show QP _ _ (.tp [2,3,4]) from (a4m rfl (a0H (a0u (i:=2) sc_shown.nd rfl (Or.inl rfl)) (a0H (a0u (i:=3) sc_shown.nd rfl (Or.inl rfl)) (a0H (a0u (i:=4) sc_shown.nd rfl (Or.inl rfl)) a2S)))))
  (a0p (z_if (QW.qt (a30 (a0t o_le (a0b (pv 2)) (a0b (pv 1)) (a0r _)) (a3a (QW.qt (q_or (a0t o_is (a0b (pv 3)) a18 (a0r _)) (a4T (a0t o_lt (a0b (pv 1)) (a0b (pv 3)) (a0r _))))))))
  (a0p (a0G (a0b (pv 4))))
  a0V)))
  (a0p (a0G a18))),?_⟩
 obtain⟨p,L,m,rfl,gp,one,q⟩:=h;walk_at "go";refine a2z gp ?_;refine a06 (fun i σ G'=>∃ v1 v2 v3:Option Z,G'=G/\val L m=val (L.drop i) m/\σ=[some (.ref p),some (.int m),v1,v2,v3]) ⟨_,_,_,rfl,rfl,rfl⟩ (by rintro i σ G' _ ⟨_,_,_,rfl,_⟩;exact gp) ?_ ?_
 ·rintro i x σ G' hx ⟨v1,v2,v3,rfl,hv,rfl⟩;rw[List.getElem?_map]at hx;cases hx':L[i]? with
  | none=>rw[hx']at hx;cases hx
  | some r=>
  rw[hx']at hx;cases hx;obtain⟨x,ex⟩:=one r (List.mem_of_getElem? hx');have hz:r.z=.tup [.int r.b,oz r.e,x]:=by unfold Rw.z;rw[ex]
  rw[drop_get hx',a0K]at hv;rw[hz];refine⟨_,rfl,?_⟩;walk_at "go";have eh:r.has m=(decide (r.b≤m)&&bef m r.e):=rfl;refine ifD (fun c1=>?_) fun c1=>?_
  ·rw[eh,decide_eq_true c1,Bool.true_and]at hv;cases he:r.e with
   | none=>
    rw[he]at hv;walk_at "go"
    have:val L m=some [x]:=by rw[hv,<- ex];rfl
    rw[this]at q;exact q
   | some e=>
    rw[he]at hv;walk_at "go";refine ifD (fun c2=>?_) fun c2=>?_
    ·walk_at "go"
     have:val L m=some [x]:=by rw[hv,<- ex];exact if_pos (decide_eq_true c2)
     rw[this]at q;exact q
    ·walk_at "go";exact⟨_,_,_,rfl,by rw[hv];exact if_neg (by rw[show bef m (some e)=decide (m<e) from rfl,decide_eq_true_eq];exact c2),rfl⟩
  ·rw[eh,decide_eq_false c1,Bool.false_and,if_neg (by decide)]at hv;walk_at "go";exact⟨_,_,_,rfl,hv,rfl⟩
 ·rintro σ G' ⟨v1,v2,v3,rfl,hv,rfl⟩;rw[List.length_map,List.drop_length,a2i]at hv;walk_at "go";rw[hv]at q;exact q
theorem at_b {τ:Tl}:∃ ws,τ.z=.tup ws/\atI ws (-2)=some (.int τ.b)/\atI ws (-1)=some (oz τ.e):=by
 obtain⟨k,w,b,e⟩:=τ;cases w<;>exact⟨_,rfl,rfl,rfl⟩
def Has (kvs:List (Key×Z)) (x:Option Int):Prop:=∃ v,valZ kvs (.inl x)=some v
theorem Has.put {kvs:List (Key×Z)}{x y:Option Int}{v:Z}(h:Has kvs x):Has (putZ kvs (.inl y) v) x:=by
 unfold Has;rw[a3v]
 split
 ·exact⟨_,rfl⟩
 ·exact h
theorem Has.new {kvs:List (Key×Z)}{x:Option Int}{v:Z}:Has (putZ kvs (.inl x) v) x:=⟨v,by rw[a3v,if_pos rfl]⟩
theorem b2u {e:Option Int}:keyZ (oz e)=some (.inl e):=by cases e<;>rfl
def ownK (T:List Tl) (k:Str):List Tl:=T.filter fun τ=>decide (τ.key=k)
theorem b1Y {T:List Tl}{k:Str}:a0P (ownK T k) k=a0P T k:=by
 unfold a0P ownK;rw[List.filter_filter];simp
def a3z:P3:=fun ws G R=>Ex6 fun (p tl:Addr) (L:List Rw) (T:List Tl) (k:Str) (q:Nat)=>ws=[.ref p,.ref tl,.str k,.int q]/\G p=some (.lst (L.map Rw.z))/\G tl=some (.lst (T.map Tl.z))/\OkT T/\T.length≤63/\q≤T.length/\IsLine (T.take q) k L/\∀ G',Sm G G'->R (.bl true) G'
theorem a42 {ws:List Z}{G:Hq}{R:K3}(h:a3z ws G R):ws.length=4:=by obtain⟨_,_,_,_,_,_,rfl,_⟩:=h;rfl
theorem a58 (F:Fns K a) (T:Txt K mg a):FnOk P w K mg base CX0 2 a.f22 a.d22 ["line","tellings","key","knowing"] (lowP K a3z):=by
 have G_moments:=a8U (P:=P) (w:=w) (base:=base) F T;have G_is_line:=a8V (P:=P) (w:=w) (base:=base) F T;have G_shown:=b1X (P:=P) (w:=w) (base:=base) F T;have G_worth:=b1Q (P:=P) (w:=w) (base:=base) F T;refine fn3 F.n22 sc_line_right (fun ws G R h=>(by exact a42 h)) (fun cdv A outer s H E ws G R hr h=>?_);have hu:=a02 hr;refine⟨_,(a0l (z_if (a2l (a2W (a0M G_is_line (hr.mono (by decide)) rfl T.m20 F.n20.kp (a8N F) (a0c (a0b (pv 0)) a0i a0a) (he:=a0a) (hpl:=a0j))))
  (a0p (a0G q_bl))
  a0V)
  (a0l (a9L (i:=4) sc_line_right.nd rfl rfl (N₀:=["line","tellings","key","knowing","own","bounds","telling","begin","end","worth","moment"]) (so:=a0g a1J) (N':=["telling","key"]) (cap:=[none,some 2]) (pt:=(.nm 0)) rfl rfl rfl (by decide +kernel) rfl (a01 (a1h x_sl (a0b (pv 1)) a1o (a1w (a0b (pv 3))))) (fun _ _ _ _=>(show QP _ _ (.nm 0) from (a0u (i:=0) b7q rfl (Or.inl rfl)))) (fun _ _ _ _=>(a3D (a0t (o_eq hu) (q_ix x_ix (a0b (pv 0)) a0f (fun _ _=>rfl)) (a0b (pv 1)) (a0r _)))) (fun _ _ _ _=>(a0b (pv 0))))
  (a0l (a0Z (i:=5) sc_line_right.nd rfl (Or.inl rfl) (b2j (a5O a18 q_bl b0g)))
  (a0l (a2X (pt:=(.nm 6)) PassesOwn.never rfl (a01 (a0b (pv 4))) (show QP _ _ (.nm 6) from (a0u (i:=6) sc_line_right.nd rfl (Or.inl rfl)))
  (a0l (a5d q_bl (a0b (pv 5)) (q_ix x_ix (a0b (pv 6)) (q_un a2b a0f) (fun _ _=>rfl)) (a99 hu))
  (a0p (a5d q_bl (a0b (pv 5)) (q_ix x_ix (a0b (pv 6)) (q_un a2b a0f) (fun _ _=>rfl)) (a99 hu)))))
  (a0l (a2X (pt:=(.tp [7,8,9])) PassesOwn.never rfl (a01 (a0b (pv 0))) (show QP _ _ (.tp [7,8,9]) from (a4m rfl (a0H (a0u (i:=7) sc_line_right.nd rfl (Or.inl rfl)) (a0H (a0u (i:=8) sc_line_right.nd rfl (Or.inl rfl)) (a0H (a0u (i:=9) sc_line_right.nd rfl (Or.inl rfl)) a2S)))))
  (a0p (z_if (QW.qt (q_or (a0t (a7V hu) (a0b (pv 7)) (a0b (pv 5)) (by with_unfolding_all rfl)) (q_or (a0t (a7V hu) (a0b (pv 8)) (a0b (pv 5)) (by with_unfolding_all rfl)) (q_or (a2W (a0z a5J rfl T.b_isinstance rfl (a0c (a0b (pv 7)) (a0c (q_ty (a12 (v:=.ty "bool") rfl T.b_bool rfl rfl)) a0i a0a) a0a) (he:=a0a) (hpl:=(a0k a0a a0j)))) (a4T (a2W (a0z a5J rfl T.b_isinstance rfl (a0c (a0b (pv 8)) (a0c (q_ty (a12 (v:=.ty "bool") rfl T.b_bool rfl rfl)) a0i a0a) a0a) (he:=a0a) (hpl:=(a0k a0a a0j)))))))))
  (a0p (a0G q_bl))
  a0V)))
  (a0l (a2X (pt:=(.nm 10)) PassesOwn.never rfl (a01 (a0M G_moments (hr.mono (by decide)) rfl T.m19 F.n19.kp (a8M F) (a0c (a0b (pv 4)) a0i a0a) (he:=a0a) (hpl:=a0j))) (show QP _ _ (.nm 10) from (a0u (i:=10) sc_line_right.nd rfl (Or.inl rfl)))
  (a0p (z_if (a0t (o_ne hu) (a0M G_shown (hr.mono (by decide)) rfl T.m21 F.n21.kp (b1D F) (a0c (a0b (pv 0)) (a0c (a0b (pv 10)) a0i a0a) a0a) (he:=a0a) (hpl:=(a0k a0a a0j))) (a0M G_worth (hr.mono (by decide)) rfl T.m18 F.n18.kp (b1C F) (a0c (a0b (pv 4)) (a0c (a0b (pv 2)) (a0c (a0b (pv 10)) (a0c (a0z b_len rfl T.b_len PySem.boot_len (a0c (a0b (pv 4)) a0i a0a) (he:=a0a) (hpl:=a0j)) a0i a0N) a0a) a0a) a0a) (he:=a0a) (hpl:=(a0k a0a (a0k a0a (a0k a0N a0j))))) (a0r _))
  (a0p (a0G q_bl))
  a0V)))
  (a0p (a0G q_bl)))))))),?_⟩
 obtain⟨p,tl,L,T',k,q,rfl,gp,gtl,ok0,hT,hq,il,fin⟩:=h;have ok:OkT (T'.take q):=fun τ h=>ok0 τ (List.mem_of_mem_take h);have hll:=il.len;have hTq:(T'.take q).length≤63:=by rw[List.length_take];omega
 walk_at "go";refine⟨p,L,rfl,gp,il.can,(fun r hr=>let ⟨w,e,_⟩:=a8k il ok hr;⟨w,e⟩),by omega,?_⟩;walk_at "go";refine ifF ?_;walk_at "go";refine b3e gtl fun a1 h1=>?_;have ga:put G a1 (.lst (cutZ (T'.map Tl.z) none (some (q:Int)))) a1=some (.lst ((T'.take q).map Tl.z)):=by rw[a0d,a57,List.map_take]
 have s1:Sm G (put G a1 (.lst (cutZ (T'.map Tl.z) none (some (q:Int))))):=Sm.new h1;generalize put G a1 (.lst (cutZ (T'.map Tl.z) none (some (q:Int))))=G1 at ga s1 ⊢;generalize T'.take q=T at ok il hTq ga hll;walk_at "go";refine a2z ga ?_;intro D hD;refine a5Y (l:=T) (g:=Tl.z) (g':=Tl.z) (fun τ=>if decide (τ.key=k)=true then some τ else none) (fun ys=>a0n ga hD) (by omega) ?_ ?_
 ·rintro τ hτ ys K1 K2 k1 k2;obtain⟨ws,ez,ek⟩:=@b2p τ;rw[ez];refine⟨_,rfl,?_⟩;walk_at "go";refine a33 ek ?_;walk_at "go";cases c:decide (τ.key=k) with
  | true=>
   rw[c]at k1;refine ifT ?_;walk_at "go"
   have:=k1 τ rfl
   rw[ez]at this;exact this
  | false=>
   rw[c]at k2;refine ifF ?_;exact k2 rfl
 ·have ef:(T.filterMap fun τ=>if decide (τ.key=k)=true then some τ else none)=ownK T k:=by
   unfold ownK;rw[<- List.filterMap_eq_filter]
   rfl
  rw[ef];have gD:put G1 D (.lst ((ownK T k).map Tl.z)) D=some (.lst ((ownK T k).map Tl.z)):=a0d;have s2:=s1.trans (Sm.new (o:=.lst ((ownK T k).map Tl.z)) hD);generalize put G1 D (.lst ((ownK T k).map Tl.z))=G2 at gD s2 ⊢;have oko:OkT (ownK T k):=fun τ h=>ok τ (List.mem_filter.mp h).1;have lo:(ownK T k).length≤63:=Nat.le_trans (List.length_filter_le _ _) hTq;have mo:∀ {τ},τ∈T->τ.key=k->τ∈ownK T k:=fun h1 h2=>List.mem_filter.mpr ⟨h1,decide_eq_true h2⟩;have po:a0P (ownK T k) k=a0P T k:=b1Y;generalize ownK T k=O at gD s2 oko lo mo po;clear s1 ga h1 hD;walk_at "go";intro d hd;walk_at "go";refine⟨a0d,_,rfl,by decide,?_⟩;rw[a1S];have gd:put G2 d (.dK (a3i [] [(.inl none,.bl true)])) d=some (.dK [(.inl none,.bl true)]):=a0d;have s3:=s2.trans (Sm.new (o:=.dK (a3i [] [(.inl none,.bl true)])) hd);have gD3:=a0n (o:=.dK (a3i [] [(.inl none,.bl true)])) gD hd;have nDd:D≠d:=a0x gD hd;have hdG:G d=none:=s2.free hd;generalize put G2 d (.dK (a3i [] [(.inl none,.bl true)]))=G3 at gd s3 gD3 ⊢;walk_at "go";refine a2z gD3 ?_;refine a06 (fun i σ G'=>∃ (v1:Option Z) (kvs:List (Key×Z)),kvs.length≤1+2*i/\Has kvs none/\(∀ τ∈O.take i,Has kvs (some τ.b)/\Has kvs τ.e)/\Sm G G'/\G' D=some (.lst (O.map Tl.z))/\G' d=some (.dK kvs)/\σ=[some (.ref p),some (.ref tl),some (.str k),some (.int q),some (.ref D),some (.ref d),v1,none,none,none,none]) ⟨_,_,by decide,⟨_,rfl⟩,(fun τ h=>by simp at h),s3,gD3,gd,rfl⟩ (by rintro i σ G' _ ⟨_,_,_,_,_,_,g,_⟩;exact g) ?_ ?_
  ·rintro i x σ G' hx ⟨v1,kvs,hl,hn,hb,s,gD',gd',rfl⟩;rw[List.getElem?_map]at hx;cases hx':O[i]? with
   | none=>rw[hx']at hx;cases hx
   | some τ=>
   rw[hx']at hx;cases hx;have hi:=(List.getElem?_eq_some_iff.mp hx').1;obtain⟨ws,ez,e1,e2⟩:=@at_b τ;rw[ez];refine⟨_,rfl,?_⟩;walk_at "go";refine a33 e1 ?_;walk_at "go";refine a7S gd' rfl (a0s (by omega)) ?_;have gd2:put G' d (.dK (putZ kvs (.inl (some τ.b)) (.bl true))) d=some (.dK (putZ kvs (.inl (some τ.b)) (.bl true))):=a0d;have s4:Sm G (put G' d (.dK (putZ kvs (.inl (some τ.b)) (.bl true)))):=s.put hdG;have gD4:put G' d (.dK (putZ kvs (.inl (some τ.b)) (.bl true))) D=some (.lst (O.map Tl.z)):=by rw[a0B nDd];exact gD'
   generalize put G' d (.dK (putZ kvs (.inl (some τ.b)) (.bl true)))=G4 at gd2 s4 gD4 ⊢;have l1:=a53 (kvs:=kvs) (k:=.inl (some τ.b)) (v:=.bl true);have l2:=a53 (kvs:=putZ kvs (.inl (some τ.b)) (.bl true)) (k:=.inl τ.e) (v:=.bl true);walk_at "go";refine a33 e2 ?_;walk_at "go";refine a7S gd2 b2u (a0s (by omega)) ?_;refine⟨_,_,by omega,hn.put.put,fun σ hσ=>?_,s4.put hdG,by rw[a0B nDd];exact gD4,a0d,rfl⟩;rw[take_snoc hx']at hσ;rcases List.mem_append.mp hσ with hσ | hσ
   ·exact⟨(hb σ hσ).1.put.put,(hb σ hσ).2.put.put⟩
   ·rw[List.mem_singleton.mp hσ];exact⟨Has.new.put,Has.new⟩
  ·rintro σ G4 ⟨v1,kvs,hl,hn,hb,s4,gD4,gd4,rfl⟩;rw[List.length_map,List.take_length]at hb;have hbd:∀ {x},isBd T k x->Has kvs (some x):=fun {x} ⟨τ,h1,h2,h3⟩=>by
    rcases h3 with h3 | h3
    ·rw[<- h3];exact (hb τ (mo h1 h2)).1
    ·have:=(hb τ (mo h1 h2)).2
     rw[h3]at this;exact this
   walk_at "go";refine a2z (s4 _ _ gp) ?_;refine a06 (fun i σ G'=>Ex4 fun (v1 v2 v3 v4:Option Z)=>G'=G4/\σ=[some (.ref p),some (.ref tl),some (.str k),some (.int q),some (.ref D),some (.ref d),v1,v2,v3,v4,none]) ⟨_,_,_,_,rfl,rfl⟩ (by rintro i σ G' _ ⟨_,_,_,_,rfl,_⟩;exact s4 _ _ gp) ?_ ?_
   ·rintro i x σ G' hx ⟨v1,v2,v3,v4,rfl,rfl⟩;rw[List.getElem?_map]at hx;cases hx':L[i]? with
    | none=>rw[hx']at hx;cases hx
    | some r=>
    rw[hx']at hx;cases hx;have mr:=List.mem_of_getElem? hx';obtain⟨w,hrw,_⟩:=a8k il ok mr;obtain⟨b1,b2⟩:=b3V il mr;have hz:r.z=.tup [.int r.b,oz r.e,.str w]:=by unfold Rw.z;rw[hrw]
    obtain⟨x1,hx1⟩:=hbd b1;obtain⟨x2,hx2⟩:Has kvs r.e:=by
     cases he:r.e with
     | none=>exact hn
     | some e=>exact hbd (b2 e he)
    rw[hz];refine⟨_,rfl,?_⟩;walk_at "go";refine⟨kvs,_,gd4,rfl,?_⟩;rw[hx1];refine⟨_,rfl,ifF ?_⟩;walk_at "go";refine⟨kvs,_,gd4,b2u,?_⟩;rw[hx2];refine⟨_,rfl,ifF ?_⟩;walk_at "go";refine a8E (n:="int") (b:=false) rfl (by decide +kernel) ?_;walk_at "go";obtain⟨n,en,kb⟩:∃ n,tyN G' (oz r.e)=some n/\kit0 n "bool"=some false:=by
     cases r.e<;>exact⟨_,rfl,by decide +kernel⟩
    refine a8E en kb ?_;walk_at "go";exact⟨_,_,_,_,rfl,rfl⟩
   ·rintro σ G' ⟨v1,v2,v3,v4,rfl,rfl⟩;walk_at "go";refine⟨D,O,rfl,gD4,oko,by omega,fun t ms G5 ht s5 gt _ _ hml=>?_⟩;walk_at "go";refine a2z gt ?_;refine a06 (fun i σ G'=>∃ v5:Option Z,Sm G5 G'/\σ=[some (.ref p),some (.ref tl),some (.str k),some (.int q),some (.ref D),some (.ref d),v1,v2,v3,v4,v5]) ⟨_,Sm.refl _,rfl⟩ (by rintro i σ G' _ ⟨_,s,_⟩;exact s _ _ gt) ?_ ?_
    ·rintro i x σ G6 hx ⟨v5,s6,rfl⟩;rw[List.getElem?_map]at hx;cases hx':ms[i]? with
     | none=>rw[hx']at hx;cases hx
     | some m=>
     rw[hx']at hx;cases hx;have s46:=s5.trans s6;refine⟨_,rfl,?_⟩;walk_at "go";refine⟨p,L,m,rfl,s46 _ _ (s4 _ _ gp),il.pl.one,?_⟩;walk_at "go";refine a3U (s46 _ _ gD4) ?_;rw[List.length_map];walk_at "go";refine⟨D,O,k,m,O.length,rfl,s46 _ _ gD4,by omega,Int.le_refl _,by omega,fun G7 s7=>?_⟩;rw[il.v,b3G,show ((O.length:Int)).toNat=O.length by omega,List.take_length,po];walk_at "go";refine b3H (a1Z (by decide) (a3W (a5p ok) _)) (a1Z (by decide) (a3W (a5p ok) _)) ?_;walk_at "go";refine ifN (fun z=>absurd rfl z) fun _=>?_;walk_at "go";exact⟨_,s6.trans s7,rfl⟩
    ·rintro σ G6 ⟨v5,s6,rfl⟩;walk_at "go";exact fin _ (s4.trans (s5.trans s6))
theorem Kq.ks {S:Addr->Prop}{r:Addr}{G G':Hq}(k:Kq r G G') (n:¬ S r):KS S G G':=fun b o hb e=>k b o e fun z=>n (z▸hb)
theorem Kq.sm {r:Addr}{G G1 G2:Hq}(k:Kq r G G1) (s:Sm G1 G2):Kq r G G2:=fun b o e nb=>s b o (k b o e nb)
abbrev He:=Addr×Addr×List Z
def Hz (e:He):Z:=.tup [.ref e.1,.ref e.2.1]
structure HOk (G:Hq) (hl:Addr) (e:He):Prop where
 a:G e.1=some (.lst e.2.2)
 b:G e.2.1=some (.lst e.2.2)
 f:e.2.2.all (flat 8)=true
 na:e.1≠hl
 nb:e.2.1≠hl
theorem HOk.keep {G G':Hq}{hl:Addr}{e:He}(h:HOk G hl e) (k:Kq hl G G'):HOk G' hl e:=⟨k _ _ h.a h.na,k _ _ h.b h.nb,h.f,h.na,h.nb⟩
structure AIn (a:Ad) (G:Hq) (p:Addr) (S:Addr->Prop) (T:List Tl) (tl ks hl:Addr) (kn:List Str) (hs:List He):Prop where
 sh:Sheet a.c_Sheet G p S T
 ok:OkT T
 len:T.length≤63
 gt:G tl=some (.lst (T.map Tl.z))
 gk:G ks=some (.lst (kn.map Z.str))
 k1:1≤kn.length
 k2:kn.length≤20
 hk:∀ s∈kn,nmOk s
 nd:kn.Nodup
 km:∀ τ∈T,τ.key∈kn
 gh:G hl=some (.lst (hs.map Hz))
 hh:hs.length≤500
 nh:¬ S hl
 nt:tl≠hl
 nk:ks≠hl
def a8m (a:Ad):P3:=fun ws G R=>Ex9 fun (p:Addr) (S:Addr->Prop) (T:List Tl) (tl ks hl:Addr) (kn:List Str) (c:Int) (hs:List He)=>ws=[.ref p,.ref tl,.ref ks,.int c,.ref hl]/\AIn a G p S T tl ks hl kn hs /\
 ∀ es G',Kq hl G G'->(∀ e∈es,HOk G' hl e)->es.length=2->G' hl=some (.lst ((hs++es).map Hz))->R (.bl true) G'
theorem b0J {a:Ad}{ws:List Z}{G:Hq}{R:K3}(h:a8m a ws G R):ws.length=5:=by obtain⟨_,_,_,_,_,_,_,_,_,rfl,_⟩:=h;rfl
theorem b0K {ts:List Str}(h:∀ s∈ts,nmOk s):(ts.map Z.str).all (flat 8)=true:=by
 rw[List.all_eq_true];intro z hz;obtain⟨y,hy,rfl⟩:=List.mem_map.mp hz;exact b0v (h y hy)
theorem b1Z (F:Fns K a) (T:Txt K mg a):FnOk P w K mg base CX0 4 a.f27 a.d27 ["sheet","tellings","keys","cell","held"] (lowP K (a8m a)):=by
 have G_Sheet_line_at:=a2p (P:=P) (w:=w) (base:=base) F T;have G_Sheet_keys_at:=a2r (P:=P) (w:=w) (base:=base) F T;have G_mix:=b0z (P:=P) (w:=w) (base:=base) F T;have G_line_right:=a58 (P:=P) (w:=w) (base:=base) F T;refine fn3 F.n27 sc_asked (fun ws G R h=>(by exact b0J h)) (fun cdv A outer s H E ws G R hr h=>?_);have hu:=a02 hr;refine⟨_,(a0l (a0Z (i:=5) sc_asked.nd rfl (Or.inr rfl) (q_op a3E (a0M G_mix (hr.mono (by decide)) rfl T.m14 F.n14.kp (a7Z F) (a0c (a0b (pv 3)) (a0c a0f a0i a0e) a0a) (he:=a0a) (hpl:=(a0k a0e a0j))) (q_op a1Y (a0z b_len rfl T.b_len PySem.boot_len (a0c (a0b (pv 1)) a0i a0a) (he:=a0a) (hpl:=a0j)) a0f)))
  (a0l (a0Z (i:=6) sc_asked.nd rfl (Or.inl rfl) (q_ix x_ix (a0b (pv 2)) (q_op a3E (a0M G_mix (hr.mono (by decide)) rfl T.m14 F.n14.kp (a7Z F) (a0c (a0b (pv 3)) (a0c a0f a0i a0e) a0a) (he:=a0a) (hpl:=(a0k a0e a0j))) (a0z b_len rfl T.b_len PySem.boot_len (a0c (a0b (pv 2)) a0i a0a) (he:=a0a) (hpl:=a0j))) (fun _ _=>rfl)))
  (a0l (a0Z (i:=7) sc_asked.nd rfl (Or.inl rfl) (a1A a09 up0 (a0b (pv 0)) T.cl_Sheet T.mt25 G_Sheet_line_at (hr.mono (by decide)) (a0Q F) (a0c (a0b (pv 6)) (a0c (a0b (pv 5)) a0i a0a) a0a) (hst:=a0a) (hpl:=(a0k a0a a0j))))
  (a0l (z_if (a2l (a2W (a0M G_line_right (hr.mono (by decide)) rfl T.m22 F.n22.kp (a5S F) (a0c (a0b (pv 7)) (a0c (a0b (pv 1)) (a0c (a0b (pv 6)) (a0c (a0b (pv 5)) a0i a0a) a0a) a0a) a0a) (he:=a0a) (hpl:=(a0k a0a (a0k a0a (a0k a0a a0j)))))))
  (a0p (a0G q_bl))
  a0V)
  (a0l (a0Z (i:=8) sc_asked.nd rfl (Or.inl rfl) (a1A a09 up0 (a0b (pv 0)) T.cl_Sheet T.mt26 G_Sheet_keys_at (hr.mono (by decide)) (a1v F) (a0c (a0b (pv 5)) a0i a0a) (hst:=a0a) (hpl:=a0j)))
  (a0l (z_if (a2l (a2W (a0z a5J rfl T.b_isinstance rfl (a0c (a0b (pv 8)) (a0c (q_ty (a12 (v:=.ty "list") rfl T.b_list rfl rfl)) a0i a0a) a0a) (he:=a0a) (hpl:=(a0k a0a a0j)))))
  (a0p (a0G q_bl))
  a0V)
  (a0l (z_if (a0t (o_ne hu) (a0b (pv 8)) (q_lc (N₀:=["sheet","tellings","keys","cell","held","knowing","key","line","found"]) (so:=a0g a5P) (N':=["one","knowing","sheet"]) (cap:=[none,some 5,some 0]) (pt:=(.nm 0)) rfl rfl rfl (by decide +kernel) rfl (a01 (a0z a6C rfl T.b_sorted rfl (a0c (a0b (pv 2)) a0i a0a) (he:=a0a) (hpl:=a0j))) (fun _ _ _ _=>(show QP _ _ (.nm 0) from (a0u (i:=0) b7s rfl (Or.inl rfl)))) (fun _ _ _ _=>(a3D (a0t (o_ne hu) (a1A a09 up0 (a0b (pv 2)) T.cl_Sheet T.mt25 G_Sheet_line_at (hr.mono (by decide)) (a0Q F) (a0c (a0b (pv 0)) (a0c (a0b (pv 1)) a0i a0a) a0a) (hst:=a0a) (hpl:=(a0k a0a a0j))) (a2a a0i) (a0r _)))) (fun _ _ _ _=>(a0b (pv 0)))) (a0r _))
  (a0p (a0G q_bl))
  a0V)
  (a0l (a05 (q_bm PySem.F.plainAttrs_list PySem.F.slot_list_append PySem.F.type_list_append a1p (a0b (pv 4)) (a0c (a4t (a0c (a0b (pv 7)) (a0c (a5F b_list rfl T.b_list rfl (a0c (a0b (pv 7)) a0i a0a) (he:=a0a) (hpl:=a0j)) a0i a0N) a0a)) a0i a3b)))
  (a0l (a05 (q_bm PySem.F.plainAttrs_list PySem.F.slot_list_append PySem.F.type_list_append a1p (a0b (pv 4)) (a0c (a4t (a0c (a0b (pv 8)) (a0c (a5F b_list rfl T.b_list rfl (a0c (a0b (pv 8)) a0i a0a) (he:=a0a) (hpl:=a0j)) a0i a0N) a0a)) a0i a3b)))
  (a0l (a05 (q_bm PySem.F.plainAttrs_list PySem.F.slot_list_append PySem.F.type_list_append a1p (a1A a09 up0 (a0b (pv 0)) T.cl_Sheet T.mt25 G_Sheet_line_at (hr.mono (by decide)) (a0Q F) (a0c (a0b (pv 6)) (a0c (a0b (pv 5)) a0i a0a) a0a) (hst:=a0a) (hpl:=(a0k a0a a0j))) (a0c (a4t (a0c (q_op a61 a0f a0f) (a0c a18 (a0c (a0b (pv 6)) a0i a0a) a0e) a0I)) a0i a3b)))
  (a0l (a05 (q_bm PySem.F.plainAttrs_list PySem.F.slot_list_append PySem.F.type_list_append a1p (a1A a09 up0 (a0b (pv 0)) T.cl_Sheet T.mt26 G_Sheet_keys_at (hr.mono (by decide)) (a1v F) (a0c (a0b (pv 5)) a0i a0a) (hst:=a0a) (hpl:=a0j)) (a0c a3Z a0i a0e)))
  (a0p (a0G (a9A (o_eq hu) (a1A a09 up0 (a0b (pv 0)) T.cl_Sheet T.mt25 G_Sheet_line_at (hr.mono (by decide)) (a0Q F) (a0c (a0b (pv 6)) (a0c (a0b (pv 5)) a0i a0a) a0a) (hst:=a0a) (hpl:=(a0k a0a a0j))) (q_ix x_ix (q_ix x_ix (a0b (pv 4)) (q_un a2b a0f) (fun _ _=>rfl)) a0f (fun _ _=>rfl)) (a0r _))))))))))))))),?_⟩
 obtain⟨p,S,T',tl,ks,hl,kn,c,hs,rfl,I,fin⟩:=h;have few:Few T':=⟨by have:=I.len;omega,kn,by have:=I.k2;omega,I.km⟩;have k1:=I.k1;have k2:=I.k2;have lT:=I.len;walk_at "go";refine⟨c,30,rfl,by decide,by decide,fun i i0 i1=>?_⟩;walk_at "go";refine a3U I.gt ?_;rw[List.length_map];walk_at "go";refine i_I (show (0:Int)<(T'.length:Int)+1 by omega) ?_;walk_at "go";obtain⟨q,hq⟩:∃ q:Nat,i % ((T'.length:Int)+1)=(q:Int):=⟨(i % ((T'.length:Int)+1)).toNat,by have:=Int.emod_nonneg i (show ((T'.length:Int)+1)≠0 by omega);omega⟩;have hqT:q≤T'.length:=by have:=Int.emod_lt_of_pos i (show (0:Int)<(T'.length:Int)+1 by omega);omega
 rw[hq];have inq:inR T' (q:Int):=⟨by omega,by omega⟩;refine⟨c,31,rfl,by decide,by decide,fun j j0 j1=>?_⟩;walk_at "go";refine a3U I.gk ?_;rw[List.length_map];walk_at "go";refine i_I (show (0:Int)<(kn.length:Int) by omega) ?_;walk_at "go";obtain⟨k,ek,mk,hk⟩:=b0E I.hk (Int.emod_nonneg j (show (kn.length:Int)≠0 by omega)) (Int.emod_lt_of_pos j (by omega));refine a0D I.gk ek ?_;walk_at "go";have obj:∀ {G'},Sheet a.c_Sheet G' p S T'->∃ dx n d,G' p=some (.ins a.c_Sheet dx (shF n d)):=fun ⟨dx,d,kvs,m⟩=>⟨dx,_,d,m.ob⟩;obtain⟨dx1,n1,d1,ob1⟩:=obj I.sh;refine⟨p,dx1,_,rfl,ob1,a2M (by decide +kernel) (by decide +kernel),?_⟩;walk_at "go";refine⟨p,S,T',.str k,(q:Int),rfl,I.sh,(fun _=>a6P hk),few.1,.inl ⟨inq,k,rfl,hk,fun l L G1 hl1 s1 gl il=>?_⟩⟩;rw[Int.toNat_natCast]at il;have llen:=il.len;rw[List.length_take]at llen;walk_at "go";refine⟨l,tl,L,T',k,q,rfl,gl,s1 _ _ I.gt,I.ok,lT,hqT,il,fun G2 s2=>?_⟩;walk_at "go";refine ifF ?_;have s02:=s1.trans s2;have sh2:=I.sh.keep (Sm.ks s02);obtain⟨dx2,n2,d2,ob2⟩:=obj sh2;walk_at "go";refine⟨p,dx2,_,rfl,ob2,a2M (by decide +kernel) (by decide +kernel),?_⟩;walk_at "go";refine⟨p,S,T',(q:Int),rfl,sh2,few,.inl ⟨inq,fun f ts G3 hf s3 gf ka tl3=>?_⟩⟩;rw[Int.toNat_natCast]at ka;have s03:=s02.trans s3;have okq:OkT (T'.take q):=fun τ h=>I.ok τ (List.mem_of_mem_take h);walk_at "go";refine a8E (n:="list") (b:=true) (by simp[tyN,gf]) (by decide +kernel) ?_;walk_at "go";refine ifF ?_;walk_at "go";refine a6D (s03 _ _ I.gk) (by omega) fun Q sk hQ hperm hsort=>?_;have hsl:=hperm.length_eq;have gQ:put G3 Q (.lst (sk.map Z.str)) Q=some (.lst (sk.map Z.str)):=a0d;have s34:Sm G3 (put G3 Q (.lst (sk.map Z.str))):=Sm.new hQ;generalize put G3 Q (.lst (sk.map Z.str))=G4 at gQ s34 ⊢;walk_at "go";refine a2z gQ ?_;intro D hD;refine a8C (fun j ys G'=>ys=((sk.take j).filter fun k=>decide (k∈ts)).map Z.str/\Sm G4 G'/\G' D=some (.lst ys)) ⟨by simp,Sm.new hD,a0d⟩ (by rintro j ys G' _ ⟨_,s,_⟩;exact s _ _ gQ) ?_ ?_
 ·rintro j x ys G' hx ⟨rfl,s,gD⟩;rw[List.getElem?_map]at hx;cases hx':sk[j]? with
  | none=>rw[hx']at hx;cases hx
  | some y=>
  rw[hx']at hx;cases hx;have hj:=(List.getElem?_eq_some_iff.mp hx').1;have hy:nmOk y:=I.hk y (hperm.mem_iff.mp (List.mem_of_getElem? hx'));have sh4:=I.sh.keep (Sm.ks ((s03.trans s34).trans s));obtain⟨dx4,n4,d4,ob4⟩:=obj sh4;have lf:((sk.take j).filter fun k=>decide (k∈ts)).length≤20:=Nat.le_trans (List.length_filter_le _ _) (by rw[List.length_take];omega);refine⟨_,rfl,?_⟩;walk_at "go";refine⟨p,dx4,_,rfl,ob4,a2M (by decide +kernel) (by decide +kernel),?_⟩;walk_at "go";refine⟨p,S,T',.str y,(q:Int),rfl,sh4,(fun _=>a6P hy),few.1,.inl ⟨inq,y,rfl,hy,fun l' L' G5 hl5 s5 gl5 il5=>?_⟩⟩;rw[Int.toNat_natCast]at il5;walk_at "go";refine⟨lenK rfl,fun u hu=>?_⟩;have su:Sm G5 (put G5 u (.lst [])):=Sm.new hu;refine a64 (su _ _ gl5) a0d (a4M il5.pl.okR) rfl ?_;have tk:(sk.take (j+1)).filter (fun k=>decide (k∈ts))=(sk.take j).filter (fun k=>decide (k∈ts))++[y].filter (fun k=>decide (k∈ts)):=by rw[take_snoc hx',List.filter_append]
  by_cases hm:y∈ts
  ·obtain⟨M,m1,m2⟩:=(ka.is y).mp hm;have hne:L'≠[]:=by rw[<- m1.uniq il5];exact m2
   refine⟨_,rfl,ifN (fun _=>?_) fun z=>absurd z (by simpa using hne)⟩;walk_at "go";refine⟨su _ _ (s5 _ _ gD),by rw[List.length_map];exact a0s (by omega),?_,((s.trans s5).trans su).put hD,a0d⟩;rw[tk];simp[hm]
  ·have hne:L'=[]:=Classical.byContradiction fun z=>hm ((ka.is y).mpr ⟨L',il5,z⟩);refine⟨_,rfl,ifN (fun z=>absurd (by rw[hne];rfl) z) fun _=>⟨?_,(s.trans s5).trans su,su _ _ (s5 _ _ gD)⟩⟩;rw[tk];simp[hm]
 ·rintro ys G5 ⟨rfl,s45,gD⟩;rw[List.length_map,List.take_length,<- b1W (fun τ h=>I.km τ (List.mem_of_mem_take h)) I.nd hperm hsort ka]at gD;have s35:=s34.trans s45;have s05:=s03.trans s35;have fts:(ts.map Z.str).all (flat 8)=true:=b0K fun s hs'=>b3U okq ((ka.is s).mp hs');have gf5:=s35 _ _ gf;have gl5:=s35 _ _ (s3 _ _ (s2 _ _ gl));have nlh:l≠hl:=fun z=>by rw[z]at hl1;rw[I.gh]at hl1;cases hl1
  have nfh:f≠hl:=fun z=>by rw[z]at hf;rw[s02 _ _ I.gh]at hf;cases hf
  walk_at "go";refine a64 gf5 gD fts fts ?_;walk_at "go";refine ifN (fun z=>absurd rfl z) fun _=>?_;clear gD s34 s45 gQ hQ;have gh5:=s05 _ _ I.gh;walk_at "go";refine a3c gh5 ?_;walk_at "go";refine a9Z gl5 fun l2 hl2=>?_;have nl2:l2≠hl:=Ne.symm (a0x gh5 hl2);have g2:put G5 l2 (.lst (L.map Rw.z)) l2=some (.lst (L.map Rw.z)):=a0d;have s56:Sm G5 (put G5 l2 (.lst (L.map Rw.z))):=Sm.new hl2;generalize put G5 l2 (.lst (L.map Rw.z))=G6 at g2 s56 ⊢;walk_at "go";refine⟨lenK rfl,?_⟩;walk_at "go";refine a07 (s56 _ _ gh5) (by rw[List.length_map];exact a0s (by have:=I.hh;omega)) ?_;have kq7:Kq hl G (put G6 hl (.lst (hs.map Hz++[.tup [.ref l,.ref l2]]))):=fun b o e nb=>by rw[a0B nb];exact s56 _ _ (s05 _ _ e)
  have k67:Kq hl G6 (put G6 hl (.lst (hs.map Hz++[.tup [.ref l,.ref l2]]))):=fun b o e nb=>by rw[a0B nb];exact e
  have gh7:put G6 hl (.lst (hs.map Hz++[.tup [.ref l,.ref l2]])) hl=some (.lst ((hs++[(l,l2,L.map Rw.z)]).map Hz)):=by rw[a0d,List.map_append];rfl
  generalize put G6 hl (.lst (hs.map Hz++[.tup [.ref l,.ref l2]]))=G7 at kq7 k67 gh7 ⊢;have h1:HOk G7 hl (l,l2,L.map Rw.z):=⟨k67 _ _ (s56 _ _ gl5) nlh,k67 _ _ g2 nl2,a4M il.pl.okR,nlh,nl2⟩;have gf7:=k67 _ _ (s56 _ _ gf5) nfh;clear k67 g2 s56 gh5 gl5 gf5 hl2;walk_at "go";refine a3c gh7 ?_;walk_at "go";refine a9Z gf7 fun f2 hf2=>?_;have nf2:f2≠hl:=Ne.symm (a0x gh7 hf2);have g2:put G7 f2 (.lst (ts.map Z.str)) f2=some (.lst (ts.map Z.str)):=a0d;have s78:Sm G7 (put G7 f2 (.lst (ts.map Z.str))):=Sm.new hf2;generalize put G7 f2 (.lst (ts.map Z.str))=G8 at g2 s78 ⊢;walk_at "go";refine⟨lenK rfl,?_⟩;walk_at "go";refine a07 (s78 _ _ gh7) (by rw[List.length_map,List.length_append];exact a0s (by have:=I.hh;simp;omega)) ?_;have k89:Kq hl G8 (put G8 hl (.lst ((hs++[(l,l2,L.map Rw.z)]).map Hz++[.tup [.ref f,.ref f2]]))):=fun b o e nb=>by rw[a0B nb];exact e
  have gh9:put G8 hl (.lst ((hs++[(l,l2,L.map Rw.z)]).map Hz++[.tup [.ref f,.ref f2]])) hl=some (.lst ((hs++[(l,l2,L.map Rw.z),(f,f2,ts.map Z.str)]).map Hz)):=by rw[a0d];simp[Hz]
  generalize put G8 hl (.lst ((hs++[(l,l2,L.map Rw.z)]).map Hz++[.tup [.ref f,.ref f2]]))=G9 at k89 gh9 ⊢;have k79:Kq hl G7 G9:=fun b o e nb=>k89 b o (s78 _ _ e) nb;have h1:=h1.keep k79;have h2:HOk G9 hl (f,f2,ts.map Z.str):=⟨k79 _ _ gf7 nfh,k89 _ _ g2 nf2,fts,nfh,nf2⟩;have kq9:Kq hl G G9:=fun b o e nb=>k79 b o (kq7 b o e nb) nb;clear k79 k89 g2 s78 gh7 gf7 hf2 kq7;have sh9:=I.sh.keep (Kq.ks kq9 I.nh);obtain⟨dx9,n9,d9,ob9⟩:=obj sh9;walk_at "go";refine⟨p,dx9,_,rfl,ob9,a2M (by decide +kernel) (by decide +kernel),?_⟩;walk_at "go";refine⟨p,S,T',.str k,(q:Int),rfl,sh9,(fun _=>a6P hk),few.1,.inl ⟨inq,k,rfl,hk,fun l3 L3 G10 hl3 s10 gl3 il3=>?_⟩⟩;rw[Int.toNat_natCast]at il3;have hL3:=il3.len;rw[List.length_take]at hL3;walk_at "go";refine a3c gl3 ?_;walk_at "go";refine⟨lenK rfl,?_⟩;walk_at "go";refine a07 gl3 (by rw[List.length_map];exact a0s (by omega)) ?_;have s11:Sm G9 (put G10 l3 (.lst (L3.map Rw.z++[.tup [.int 1000000000000,.non,.str k]]))):=s10.put hl3;generalize put G10 l3 (.lst (L3.map Rw.z++[.tup [.int 1000000000000,.non,.str k]]))=G11 at s11 ⊢;clear s10 gl3 hl3;have sh11:=sh9.keep (Sm.ks s11);obtain⟨dx11,n11,d11,ob11⟩:=obj sh11;walk_at "go";refine⟨p,dx11,_,rfl,ob11,a2M (by decide +kernel) (by decide +kernel),?_⟩;walk_at "go";refine⟨p,S,T',(q:Int),rfl,sh11,few,.inl ⟨inq,fun f3 ts3 G12 hf3 s12 gf3 ka3 tl3'=>?_⟩⟩;walk_at "go";refine a3c gf3 ?_;walk_at "go";refine a07 gf3 (by rw[List.length_map];exact a0s (by omega)) ?_;have s13:Sm G9 (put G12 f3 (.lst (ts3.map Z.str++[.str (Str.ofString "z")]))):=s11.trans (s12.put hf3);generalize put G12 f3 (.lst (ts3.map Z.str++[.str (Str.ofString "z")]))=G13 at s13 ⊢;clear s11 s12 gf3 hf3;have sh13:=sh9.keep (Sm.ks s13);obtain⟨dx13,n13,d13,ob13⟩:=obj sh13;walk_at "go";refine⟨p,dx13,_,rfl,ob13,a2M (by decide +kernel) (by decide +kernel),?_⟩;walk_at "go";refine⟨p,S,T',.str k,(q:Int),rfl,sh13,(fun _=>a6P hk),few.1,.inl ⟨inq,k,rfl,hk,fun l4 L4 G14 hl4 s14 gl4 il4=>?_⟩⟩;rw[Int.toNat_natCast]at il4;have s914:=s13.trans s14;have a2:atI ((hs++[(l,l2,L.map Rw.z),(f,f2,ts.map Z.str)]).map Hz) (-2)=some (.tup [.ref l,.ref l2]):=by
   rw[List.map_append];have e:∀ (xs:List Z) (u v:Z),atI (xs++[u,v]) (-2)=some u:=fun xs u v=>by
    have h:ixN (xs++[u,v]).length (-2)=some xs.length:=by
     have e2:(xs++[u,v]).length=xs.length+2:=by simp
     unfold ixN;rw[e2,if_neg (by decide),if_pos (by omega)]
     congr 1
     omega
    unfold atI;rw[h]
    show (xs++[u,v])[xs.length]?=some u
    simp
   exact e _ _ _
  walk_at "go";refine a0D (s914 _ _ gh9) a2 ?_;walk_at "go";refine a64 gl4 (s914 _ _ h1.b) (a4M il4.pl.okR) h1.f ?_;rw[il4.uniq il,decide_eq_true rfl];exact fin [(l,l2,L.map Rw.z),(f,f2,ts.map Z.str)] G14 (Kq.sm kq9 s914) (fun e he=>by
   have kk:Kq hl G9 G14:=Sm.kq s914;simp only[List.mem_cons,List.not_mem_nil,or_false]at he;rcases he with rfl | rfl
   ·exact h1.keep kk
   ·exact h2.keep kk) rfl (s914 _ _ gh9)
theorem b3W {ws:List Z}{G:Hq}{R:K3}(h:a5l ws G R):ws.length=1:=by obtain⟨_,_,rfl,_⟩:=h;rfl
theorem b6d (F:Fns K a) (T:Txt K mg a):FnOk P w K mg base CX0 6 a.f32 a.d32 ["script"] (lowP K a5l):=by
 have G_names:=b1P (P:=P) (w:=w) (base:=base) F T;have G_Sheet___init__:=a3N (P:=P) (w:=w) (base:=base) F T;have G_cell_at:=a8O (P:=P) (w:=w) (base:=base) F T;have G_Sheet_tell:=a55 (P:=P) (w:=w) (base:=base) F T;have G_telling:=a8S (P:=P) (w:=w) (base:=base) F T;have G_asked:=b1Z (P:=P) (w:=w) (base:=base) F T;have G_Sheet_line_at:=a2p (P:=P) (w:=w) (base:=base) F T;have G_Sheet_keys_at:=a2r (P:=P) (w:=w) (base:=base) F T;have G_Sheet_knowings:=a3O (P:=P) (w:=w) (base:=base) F T;have G_mix:=b0z (P:=P) (w:=w) (base:=base) F T;refine fn3 F.n32 sc_law (fun ws G R h=>(by exact b3W h)) (fun cdv A outer s H E ws G R hr h=>?_);have hu:=a02 hr;refine⟨_,(a0l (a0Z (i:=1) sc_law.nd rfl (Or.inl rfl) (q_op a3E (a0M G_cell_at (hr.mono (by decide)) rfl T.m13 F.n13.kp (a2K F) (a0c (a0b (pv 0)) (a0c a0f a0i a0e) a0a) (he:=a0a) (hpl:=(a0k a0e a0j))) a0f))
  (a0l (a0Z (i:=2) sc_law.nd rfl (Or.inl rfl) (q_ix x_ix (a2a (a0c a0f (a0c a0f a0i a0e) a0e)) (a5F b5P rfl T.b_int rfl (a0c (a9A (o_eq hu) (q_op a3E (a0M G_mix (hr.mono (by decide)) rfl T.m14 F.n14.kp (a7Z F) (a0c (a0M G_cell_at (hr.mono (by decide)) rfl T.m13 F.n13.kp (a2K F) (a0c (a0b (pv 0)) (a0c a0f a0i a0e) a0a) (he:=a0a) (hpl:=(a0k a0e a0j))) (a0c a0f a0i a0e) a0N) (he:=a0N) (hpl:=(a0k a0e a0j))) a0f) a0f (a0r _)) a0i a5b) (he:=a5b) (hpl:=a0j)) (fun _ _=>rfl)))
  (a0l (a0Z (i:=3) sc_law.nd rfl (Or.inl rfl) (a0M G_names (hr.mono (by decide)) rfl T.m16 F.n16.kp (a71 F) (a0c (q_op a9M (a0M G_cell_at (hr.mono (by decide)) rfl T.m13 F.n13.kp (a2K F) (a0c (a0b (pv 0)) (a0c a0f a0i a0e) a0a) (he:=a0a) (hpl:=(a0k a0e a0j))) a0f) (a0c (a0b (pv 1)) (a0c (q_op a1Y (a0b (pv 2)) a0f) a0i a0I) a0a) a0I) (he:=a0I) (hpl:=(a0k a0a (a0k a0I a0j)))))
  (a0l (a0Z (i:=4) sc_law.nd rfl (Or.inl rfl) (a1h x_sl (a0b (pv 3)) a1o (a1w (a0b (pv 2)))))
  (a0l (a0Z (i:=5) sc_law.nd rfl (Or.inl rfl) (a0M G_names (hr.mono (by decide)) rfl T.m16 F.n16.kp (a71 F) (a0c (a0M G_cell_at (hr.mono (by decide)) rfl T.m13 F.n13.kp (a2K F) (a0c (a0b (pv 0)) (a0c a0f a0i a0e) a0a) (he:=a0a) (hpl:=(a0k a0e a0j))) (a0c (a0b (pv 1)) (a0c a0f a0i a0e) a0a) a0N) (he:=a0N) (hpl:=(a0k a0a (a0k a0e a0j)))))
  (a0l (a0Z (i:=6) sc_law.nd rfl (Or.inl rfl) (b3k T.mk_Sheet G_Sheet___init__ (hr.mono (by decide)) rfl T.mg_Sheet (a3I F)))
  (a0l (a0Z (i:=7) sc_law.nd rfl (Or.inl rfl) (a2a a0i))
  (a0l (a2X (pt:=(.nm 8)) PassesOwn.never rfl (a01 (a1h x_sl (a0b (pv 0)) (a1w a0f) (a1w a0f))) (show QP _ _ (.nm 8) from (a0u (i:=8) sc_law.nd rfl (Or.inl rfl)))
  (a0l (a05 (q_bm PySem.F.plainAttrs_list PySem.F.slot_list_append PySem.F.type_list_append a1p (a0b (pv 7)) (a0c (a0M G_telling (hr.mono (by decide)) rfl T.m17 F.n17.kp (a8L F) (a0c (a0b (pv 8)) (a0c (a0b (pv 1)) (a0c (a0b (pv 4)) (a0c (a0b (pv 5)) a0i a0a) a0a) a0a) a0a) (he:=a0a) (hpl:=(a0k a0a (a0k a0a (a0k a0a a0j))))) a0i a0N)))
  (a0p (a05 (a1A a09 up0 (a0b (pv 6)) T.cl_Sheet T.mt30 G_Sheet_tell (hr.mono (by decide)) (a5T F) (a0c (q_ix x_ix (a0b (pv 7)) (q_un a2b a0f) (fun _ _=>rfl)) a0i a0h) (hst:=a0h) (hpl:=a0j))))))
  (a0l (a0Z (i:=9) sc_law.nd rfl (Or.inl rfl) (a2a a0i))
  (a0l (a2X (pt:=(.nm 8)) PassesOwn.never rfl (a01 (a1h x_sl (a0b (pv 0)) (a1w a0f) (a1w a0f))) (show QP _ _ (.nm 8) from (a0u (i:=8) sc_law.nd rfl (Or.inl rfl)))
  (a0p (z_if (a2l (a2W (a0M G_asked (hr.mono (by decide)) rfl T.m27 F.n27.kp (b1E F) (a0c (a0b (pv 6)) (a0c (a0b (pv 7)) (a0c (a0b (pv 4)) (a0c (a0b (pv 8)) (a0c (a0b (pv 9)) a0i a0a) a0a) a0a) a0a) a0a) (he:=a0a) (hpl:=(a0k a0a (a0k a0a (a0k a0a (a0k a0a a0j))))))))
  (a0p (a0G q_bl))
  a0V)))
  (a0l (z_if (a0t (o_ne hu) (q_lc (N₀:=["script","way","many","names","keys","worths","sheet","tellings","cell","held"]) (so:=a0g a4V) (N':=["told","kept"]) (cap:=[none,none]) (pt:=(.tp [0,1])) rfl rfl rfl (by decide +kernel) rfl (a01 (a0b (pv 9))) (fun _ _ _ _=>(show QP _ _ (.tp [0,1]) from (a4m rfl (a0H (a0u (i:=0) b5R rfl (Or.inl rfl)) (a0H (a0u (i:=1) b5R rfl (Or.inl rfl)) a2S))))) (fun _ _ _ _=>(a3D (a0t (o_ne hu) (a0b (pv 0)) (a0b (pv 1)) (a0r _)))) (fun _ _ _ _=>(a0b (pv 0)))) (a2a a0i) (a0r _))
  (a0p (a0G q_bl))
  a0V)
  (a0p (a0G (b14 (a9A (o_eq hu) (a1A a09 up0 (a0b (pv 6)) T.cl_Sheet T.mt25 G_Sheet_line_at (hr.mono (by decide)) (a0Q F) (a0c (q_ix x_ix (a0b (pv 3)) (a0b (pv 2)) (fun _ _=>rfl)) (a0c (b3j (a0b (pv 6)) T.cl_Sheet T.mt31 G_Sheet_knowings (hr.mono (by decide)) (a3J F)) a0i a0N) a0h) (hst:=a0h) (hpl:=(a0k a0N a0j))) (a2a a0i) (a0r _)) (b4P (a9A (o_eq hu) (a1A a09 up0 (a0b (pv 6)) T.cl_Sheet T.mt26 G_Sheet_keys_at (hr.mono (by decide)) (a1v F) (a0c a0f a0i a0e) (hst:=a0e) (hpl:=a0j)) (a2a a0i) (a0r _))))))))))))))))),?_⟩
 obtain⟨sa,ns,rfl,hl,q⟩:=h;walk_at "go";refine⟨sa,ns,0,rfl,by decide,fun c0=>?_⟩;walk_at "go";generalize c0 % 2=way;refine⟨lenK rfl,fun A hA=>?_⟩;walk_at "go";refine⟨sa,ns,0,rfl,by decide,fun c1=>?_⟩;walk_at "go";refine⟨_,95,rfl,by decide,by decide,fun mx mx0 mx1=>?_⟩;walk_at "go";obtain⟨many,em,hm1,hm2⟩:∃ many:Int,atI [Z.int 4,.int 20] (if decide (mx % 8=0)=true then 1 else 0)=some (.int many)/\4≤many/\many≤20:=by
  split
  ·exact⟨20,rfl,by decide,by decide⟩
  ·exact⟨4,rfl,by decide,by decide⟩
 refine a0D a0d em ?_;have sA:Sm G (put G A (.lst [.int 4,.int 20])):=Sm.new hA;generalize put G A (.lst [.int 4,.int 20])=G0 at sA ⊢;clear sA hA em;walk_at "go";refine⟨sa,ns,0,rfl,by decide,fun c2=>?_⟩;walk_at "go";refine i_I ⟨by decide,by decide⟩ ?_;walk_at "go";refine⟨_,_,many+1,rfl,by omega,by omega,fun nsA nn G1 hns gns hnl hno hnd s1=>?_⟩;walk_at "go";refine b3e gns fun ks hks=>?_;obtain⟨mn,rfl⟩:=Int.eq_ofNat_of_zero_le (show 0≤many by omega);have hnl':nn.length=mn+1:=by omega
 have gks:put G1 ks (.lst (cutZ (nn.map Z.str) none (some (mn:Int)))) ks=some (.lst ((nn.take mn).map Z.str)):=by rw[a0d,a57,List.map_take]
 have gns1:=a0n (o:=.lst (cutZ (nn.map Z.str) none (some (mn:Int)))) gns hks;generalize put G1 ks (.lst (cutZ (nn.map Z.str) none (some (mn:Int))))=G2 at gks gns1 ⊢;have kl:(nn.take mn).length=mn:=by rw[List.length_take];omega
 have kno:∀ s∈nn.take mn,nmOk s:=fun s h=>hno s (List.mem_of_mem_take h);have knd:(nn.take mn).Nodup:=hnd.sublist (List.take_sublist _ _);obtain⟨xk,exk,hxk,nxk⟩:∃ x,atI (nn.map Z.str) (mn:Int)=some (.str x)/\nmOk x/\x∉nn.take mn:=by
  have h1:nn[mn]?=some nn[mn]:=List.getElem?_eq_getElem (by omega);refine⟨nn[mn],a13 (by rw[List.getElem?_map,h1];rfl),hno _ (List.getElem_mem _),fun z=>?_⟩;have h2:(nn.take (mn+1)).Nodup:=hnd.sublist (List.take_sublist _ _);rw[take_snoc h1,List.nodup_append]at h2;exact h2.2.2 _ z _ (by simp) rfl
 generalize nn.take mn=kn at gks kl kno knd nxk;walk_at "go";refine⟨sa,ns,1,rfl,by decide,fun c3=>?_⟩;walk_at "go";refine⟨_,_,3,rfl,by decide,by decide,fun wsA wn G3 hws gws hwn hwno _ s3=>?_⟩;have gks3:=s3 _ _ gks;have gns3:=s3 _ _ gns1;clear gks gns1 gns s1 hns hks s3 hws;walk_at "go";intro p dx hp;refine⟨p,dx,rfl,a0d,fun d G4 hd k4 sh4=>⟨rfl,?_⟩⟩;have fr:∀ x,(x=p\/x=d)->G3 x=none:=fun x hx=>by
  rcases hx with rfl | rfl
  ·exact hp
  ·exact (Sm.new hp).free hd
 have kp4:∀ x o,G3 x=some o->G4 x=some o:=fun x o e=>k4 x o (a0n e hp) (a0x e hp);have out:∀ x o,G3 x=some o->¬ (x=p\/x=d):=fun x o e z=>by rw[fr x z]at e;cases e
 have nK:=out _ _ gks3;have nN:=out _ _ gns3;have nW:=out _ _ gws;have gk4:=kp4 _ _ gks3;have gn4:=kp4 _ _ gns3;have gw4:=kp4 _ _ gws;have nS4:∀ x,G4 x=none->¬ (x=p\/x=d):=fun x e z=>by
  obtain⟨_,_,_,m⟩:=sh4;obtain⟨o,e'⟩:=m.al x z;rw[e]at e';cases e'
 clear k4 kp4 out fr;walk_at "go";refine⟨lenK rfl,fun tl htl=>?_⟩;have gt5:put G4 tl (.lst []) tl=some (.lst (([]:List Tl).map Tl.z)):=a0d;have s45:Sm G4 (put G4 tl (.lst [])):=Sm.new htl;have nTp:=nS4 tl htl;have nkt:ks≠tl:=a0x gk4 htl;have nnt:nsA≠tl:=a0x gn4 htl;have nwt:wsA≠tl:=a0x gw4 htl;generalize put G4 tl (.lst [])=G5 at gt5 s45 ⊢;walk_at "go";refine b5i fun c hc=>?_;have hcl:(cutZ ns (some 2) (some 65)).length≤63:=Nat.le_trans (a62 ..) hl;generalize hcs:cutZ ns (some 2) (some 65)=cs at hcl ⊢;have gc6:put G5 c (.lst (cs.map Z.int)) c=some (.lst (cs.map Z.int)):=a0d;have s46:=s45.trans (Sm.new (o:=.lst (cs.map Z.int)) hc);have gt6:=a0n (o:=.lst (cs.map Z.int)) gt5 hc;have nCp:=nS4 c (s45.free hc);have nct:c≠tl:=Ne.symm (a0x gt5 hc);generalize put G5 c (.lst (cs.map Z.int))=G6 at gc6 s46 gt6 ⊢;have sh6:=sh4.keep (Sm.ks s46);have gk6:=s46 _ _ gk4;have gn6:=s46 _ _ gn4;have gw6:=s46 _ _ gw4;clear gt5 s45 gk4 gn4 gw4 sh4 htl hc nS4;walk_at "go";refine a2z gc6 ?_;refine a06 (fun i σ G'=>∃ (S:Addr->Prop) (T:List Tl) (v:Option Z),T.length=i/\OkT T/\(∀ τ∈T,τ.key∈kn)/\Sheet a.c_Sheet G' p S T/\(∀ b,S b->(b=p\/b=d)\/G6 b=none)/\(∀ b o,G6 b=some o->¬ (b=p\/b=d)->b≠tl->G' b=some o)/\G' tl=some (.lst (T.map Tl.z))/\σ=[some (.scr sa ns),some (.int way),some (.int mn),some (.ref nsA),some (.ref ks),some (.ref wsA),some (.ref p),some (.ref tl),v,none])
  ⟨_,[],_,rfl,(fun τ h=>by simp at h),(fun τ h=>by simp at h),sh6,fun b hb=>.inl hb,fun b o e _ _=>e,gt6,rfl⟩ (by rintro i σ G' _ ⟨_,_,_,_,_,_,_,_,k,_⟩;exact k _ _ gc6 nCp nct) ?_ ?_
 ·rintro i x σ G' hx ⟨S,T1,v,hTl,ok,km,sh,hS,kp,gt,rfl⟩;rw[List.getElem?_map]at hx;cases hx':cs[i]? with
  | none=>rw[hx']at hx;cases hx
  | some cl=>
  rw[hx']at hx;cases hx;have hi:=(List.getElem?_eq_some_iff.mp hx').1;have nT:¬ S tl:=fun z=>by
   rcases hS _ z with w | w
   ·exact nTp w
   ·rw[w]at gt6;cases gt6
  refine⟨_,rfl,?_⟩;walk_at "go";refine a3c gt ?_;walk_at "go";refine⟨_,_,ks,wsA,kn,wn,rfl,kp _ _ gk6 nK nkt,kp _ _ gw6 nW nwt,by omega,by omega,by omega,by omega,kno,hwno,fun τ Ga sA okτ mk=>?_⟩;walk_at "go";refine a07 (sA _ _ gt) (by rw[List.length_map];exact a0s (by omega)) ?_;have gt7:put Ga tl (.lst (T1.map Tl.z++[τ.z])) tl=some (.lst ((T1++[τ]).map Tl.z)):=by rw[a0d,List.map_append];rfl
  have k7:Kq tl G' (put Ga tl (.lst (T1.map Tl.z++[τ.z]))):=fun b o e nb=>by rw[a0B nb];exact sA _ _ e
  generalize put Ga tl (.lst (T1.map Tl.z++[τ.z]))=G7 at gt7 k7 ⊢;have sh7:=sh.keep (Kq.ks k7 nT);have sh7':=sh7;obtain⟨dx7,d7,kvs7,m7⟩:=sh7';walk_at "go";refine⟨p,dx7,_,rfl,m7.ob,a2M (by decide +kernel) (by decide +kernel),?_⟩;walk_at "go";refine a0D gt7 (a51 (x:=τ.z) (by rw[List.getLast?_map];simp)) ?_;walk_at "go";refine⟨p,S,T1,sh7,.inl ⟨τ,rfl,okτ,by omega,fun S' Gb i1 i2 knb shB=>?_⟩⟩;walk_at "go";refine⟨S',T1++[τ],_,by rw[List.length_append,hTl];rfl,fun u hu=>?_,fun u hu=>?_,shB,fun x hx=>?_,fun x o e n nt=>knb _ _ (fun z=>?_) (k7 _ _ (kp x o e n nt) nt),knb _ _ nT gt7,rfl⟩
  ·rcases List.mem_append.mp hu with hu | hu
   ·exact ok u hu
   ·rw[List.mem_singleton.mp hu];exact okτ
  ·rcases List.mem_append.mp hu with hu | hu
   ·exact km u hu
   ·rw[List.mem_singleton.mp hu];exact mk
  ·rcases i2 x hx with w | w
   ·exact hS x w
   ·by_cases n:x=p\/x=d
    ·exact .inl n
    ·by_cases nt:x=tl
     ·rw[nt,gt7]at w;cases w
     ·right
      cases e:G6 x with
      | none=>rfl
      | some o=>rw[k7 _ _ (kp x o e n nt) nt]at w;cases w
  ·rcases hS x z with w | w
   ·exact n w
   ·rw[w]at e;cases e
 ·rintro σ G7 ⟨S,T',v,hTl,ok,km,sh,hS,kp,gt,rfl⟩;rw[List.length_map]at hTl;have hT:T'.length≤63:=by omega
  have nS:∀ x o,G6 x=some o->¬ (x=p\/x=d)->¬ S x:=fun x o e n z=>by
   rcases hS x z with w | w
   ·exact n w
   ·rw[w]at e;cases e
  have gk7:=kp _ _ gk6 nK nkt;have gn7:=kp _ _ gn6 nN nnt;have few:Few T':=⟨by omega,kn,by omega,km⟩;have obj:∀ {G'},Sheet a.c_Sheet G' p S T'->∃ dx n d,G' p=some (.ins a.c_Sheet dx (shF n d)):=fun ⟨dx,d,kvs,m⟩=>⟨dx,_,d,m.ob⟩;have al:∀ {G' x},Sheet a.c_Sheet G' p S T'->G' x=none->¬ S x:=fun {G' x} ⟨_,_,_,m⟩ e z=>by
   obtain⟨o,e'⟩:=m.al x z;rw[e]at e';cases e'
  clear kp hS sh6 gk6 gn6 gw6 gt6 gc6;walk_at "go";refine⟨lenK rfl,fun hd' hhd=>?_⟩;have gh8:put G7 hd' (.lst []) hd'=some (.lst (([]:List He).map Hz)):=a0d;have s78:Sm G7 (put G7 hd' (.lst [])):=Sm.new hhd;have nH:=al sh hhd;have nth:tl≠hd':=a0x gt hhd;have nkh:ks≠hd':=a0x gk7 hhd;have nnh:nsA≠hd':=a0x gn7 hhd;generalize put G7 hd' (.lst [])=G8 at gh8 s78 ⊢;walk_at "go";refine b5i fun c2 hc2=>?_;rw[hcs];have gc9:put G8 c2 (.lst (cs.map Z.int)) c2=some (.lst (cs.map Z.int)):=a0d;have s89:Sm G8 (put G8 c2 (.lst (cs.map Z.int))):=Sm.new hc2;have nch:c2≠hd':=Ne.symm (a0x gh8 hc2);generalize put G8 c2 (.lst (cs.map Z.int))=G9 at gc9 s89 ⊢;have s79:=s78.trans s89;have gh9:=s89 _ _ gh8;walk_at "go";refine a2z gc9 ?_;refine a06 (fun i σ G'=>∃ (hs:List He) (v:Option Z),hs.length≤2*i/\(∀ e∈hs,HOk G' hd' e)/\Kq hd' G9 G'/\G' hd'=some (.lst (hs.map Hz))/\σ=[some (.scr sa ns),some (.int way),some (.int mn),some (.ref nsA),some (.ref ks),some (.ref wsA),some (.ref p),some (.ref tl),v,some (.ref hd')])
   ⟨[],_,by simp,(fun e h=>by simp at h),fun _ _ e _=>e,gh9,rfl⟩ (by rintro i σ G' _ ⟨_,_,_,_,k,_⟩;exact k _ _ gc9 nch) ?_ ?_
  ·rintro i x σ G' hx ⟨hs,v,hhl,hho,kq,gh,rfl⟩;rw[List.getElem?_map]at hx;cases hx':cs[i]? with
   | none=>rw[hx']at hx;cases hx
   | some cl=>
   rw[hx']at hx;cases hx;have hi:=(List.getElem?_eq_some_iff.mp hx').1;refine⟨_,rfl,?_⟩;walk_at "go";refine⟨p,S,T',tl,ks,hd',kn,cl,hs,rfl,⟨(sh.keep (Sm.ks s79)).keep (Kq.ks kq nH),ok,hT,kq _ _ (s79 _ _ gt) nth,kq _ _ (s79 _ _ gk7) nkh,by omega,by omega,kno,knd,km,gh,by omega,nH,nth,nkh⟩,fun es Ga kqa hes hel gha=>?_⟩;walk_at "go";refine ifF ?_;walk_at "go";refine⟨hs++es,_,by rw[List.length_append];omega,fun e he=>?_,fun b o e nb=>kqa b o (kq b o e nb) nb,gha,rfl⟩;rcases List.mem_append.mp he with he | he
   ·exact (hho e he).keep kqa
   ·exact hes e he
  ·rintro σ G10 ⟨hs,v,hhl,hho,kq,gh,rfl⟩;rw[List.length_map]at hhl;walk_at "go";refine a2z gh ?_;intro D hD;refine a8C (fun j ys G'=>ys=[]/\G'=put G10 D (.lst [])) ⟨rfl,rfl⟩ (by rintro _ _ _ _ ⟨_,rfl⟩;exact a0n gh hD) ?_ ?_
   ·rintro j x ys G' hx ⟨rfl,rfl⟩;rw[List.getElem?_map]at hx;cases hx':hs[j]? with
    | none=>rw[hx']at hx;cases hx
    | some e=>
    rw[hx']at hx;cases hx;have ho:=hho e (List.mem_of_getElem? hx');unfold Hz;refine⟨_,rfl,?_⟩;walk_at "go";refine a64 (a0n ho.a hD) (a0n ho.b hD) ho.f ho.f ?_;exact⟨_,rfl,ifN (fun z=>absurd rfl z) fun _=>⟨rfl,rfl⟩⟩
   ·rintro ys G11 ⟨rfl,rfl⟩;walk_at "go";refine⟨lenK rfl,fun E hE=>?_⟩;refine a64 (a0n a0d hE) a0d rfl rfl ?_;have s1012:=(Sm.new (o:=.lst []) hD).trans (Sm.new (o:=.lst []) hE);generalize put (put G10 D (.lst [])) E (.lst [])=G12 at s1012 ⊢;have k12:Kq hd' G9 G12:=Kq.sm kq s1012;have sh12:=(sh.keep (Sm.ks s79)).keep (Kq.ks k12 nH);obtain⟨dx12,n12,d12,ob12⟩:=obj sh12;have inl:inR T' (T'.length:Int):=⟨by omega,Int.le_refl _⟩;have gn12:=k12 _ _ (s79 _ _ gn7) nnh;walk_at "go";refine ifN (fun z=>absurd rfl z) fun _=>?_;walk_at "go";refine⟨p,dx12,_,rfl,ob12,a2M (by decide +kernel) (by decide +kernel),?_⟩;walk_at "go";refine a0D gn12 exk ?_;walk_at "go";refine⟨p,dx12,_,rfl,ob12,a2M (by decide +kernel) (by decide +kernel),?_⟩;walk_at "go";refine⟨p,S,T',rfl,sh12,?_⟩;walk_at "go";refine⟨p,S,T',.str xk,_,rfl,sh12,(fun _=>a6P hxk),few.1,.inl ⟨inl,xk,rfl,hxk,fun l L G13 hl' s13 gl il=>?_⟩⟩;have none_of:∀ {q:Nat}{k:Str}{L:List Rw},IsLine (T'.take q) k L->(∀ τ∈T'.take q,τ.key≠k)->L=[]:=fun {q k L} il h=>by
     have:a0P (T'.take q) k=[]:=by
      unfold a0P;rw[List.map_eq_nil_iff,List.filter_eq_nil_iff];intro τ hτ;simpa using h τ hτ
     exact il.uniq (IsLine.nil this)
    have eL:L=[]:=none_of il fun τ h z=>nxk (by rw[<- z];exact km τ (List.mem_of_mem_take h));subst eL;walk_at "go";refine⟨lenK rfl,fun u hu=>?_⟩;refine a64 (a0n gl hu) a0d rfl rfl ?_;walk_at "go";refine ifT ?_;have s14:=s13.trans (Sm.new (o:=.lst []) hu);generalize put G13 u (.lst [])=G14 at s14 ⊢;have sh14:=sh12.keep (Sm.ks s14);obtain⟨dx14,n14,d14,ob14⟩:=obj sh14;walk_at "go";refine⟨p,dx14,_,rfl,ob14,a2M (by decide +kernel) (by decide +kernel),?_⟩;walk_at "go";refine⟨p,S,T',0,rfl,sh14,few,.inl ⟨⟨by decide,by omega⟩,fun f ts G15 hf s15 gf ka _=>?_⟩⟩;have ets:ts=[]:=by
     cases ts with
     | nil=>rfl
     | cons s ts=>
      obtain⟨L,l1,l2⟩:=(ka.is s).mp (by simp);exact absurd (none_of (q:=0) l1 (fun τ h=>by simp at h)) l2
    subst ets;walk_at "go";refine⟨lenK rfl,fun u2 hu2=>?_⟩;refine a64 (a0n gf hu2) a0d rfl rfl ?_;exact q _
theorem all_mk {l:PySem.W.OpenLaw}{w:World}{K:Fg}{h:Heap}{mg:Str->Option Value}{fa:Addr}(X:K.In h) (G:h.Ns mainGlobals mg) (hfa:mg "law"=some (.ref fa))
  {aR aJ aF az aG av ar aL ah aS a1 aw aA a4 bU bs bt a5 bu a6 a7 bv aM ab ad an ao bw aj af aB ak bV:Addr}
  {cs bZ:Option Addr}{ct:Array (Option Value)}{cu b0 b1 b2 bI b3:Value}
  {aX:Tok}
  {a3:Tok}
  {aa:Addr}
  (ca:PySem.W.nsIn K mainGlobals "Sheet"=some (some (.ref aa))) (cb:PySem.W.plainGet K aa Str.empty=true) (cc:PySem.W.hasDictIn K aa=true) (cd:PySem.W.plainOver K aa=true) (ce:PySem.W.findIn K (.ref aa) "__setattr__"=some (some (.builtin "object.__setattr__")))
  (cf:PySem.W.makesIn K aa=true) (cg:PySem.W.keepIn K (.ref aa)=true)
  (cj:PySem.W.findIn K (.ref aa) "last"=some none)
  (ck:PySem.W.findIn K (.ref aa) "kept"=some none)
  {bj:Addr}
  {aT:Addr}
  {aU:Addr}
  (b4:PySem.W.nsIn K mainGlobals "NoName"=some (some (.ref bj)))
  (bJ:PySem.W.nsIn K mainGlobals "NoStretch"=some (some (.ref aT)))
  (bK:PySem.W.nsIn K mainGlobals "NoKnowing"=some (some (.ref aU)))
  (b5:PySem.W.excIn K bj veM "ValueError.__new__"=true)
  (bL:PySem.W.excIn K aT veM "ValueError.__new__"=true)
  (bM:PySem.W.excIn K aU veM "ValueError.__new__"=true)
  (bS:PySem.W.nsIn K mainGlobals "is_name"=some (some (.ref aR))) (aV:FE K "is_name" "is_name" a2f aR)
  (bG:PySem.W.nsIn K mainGlobals "is_moment"=some (some (.ref aJ))) (aK:FE K "is_moment" "is_moment" a2g aJ)
  (bx:PySem.W.nsIn K mainGlobals "is_stretch"=some (some (.ref aF))) (aH:FE K "is_stretch" "is_stretch" a1U aF)
  (bm:PySem.W.nsIn K mainGlobals "earlier_end"=some (some (.ref az))) (aC:FE K "earlier_end" "earlier_end" a1B az)
  (bz:PySem.W.nsIn K mainGlobals "check_name"=some (some (.ref aG))) (aI:FE K "check_name" "check_name" a1V aG)
  (bf:PySem.W.nsIn K mainGlobals "check_stretch"=some (some (.ref av))) (ax:FE K "check_stretch" "check_stretch" a1k av)
  (a8:PySem.W.nsIn K mainGlobals "check_in_reach"=some (some (.ref ar))) (au:FE K "check_in_reach" "check_in_reach" a1a ar)
  (bN:PySem.W.nsIn K mainGlobals "ahead_of"=some (some (.ref aL))) (aN:FE K "ahead_of" "ahead_of" a1I aL)
  (aY:PySem.W.nsIn K mainGlobals "with_alike_joined"=some (some (.ref ah))) (ai:FE K "with_alike_joined" "with_alike_joined" a0X ah)
  (bT:PySem.W.nsIn K mainGlobals "from_on"=some (some (.ref aS))) (aW:FE K "from_on" "from_on" a2h aS)
  (bW:PySem.W.nsIn K mainGlobals "put_on"=some (some (.ref a1))) (a2:FE K "put_on" "put_on" a3F a1)
  (bg:PySem.W.nsIn K mainGlobals "check_telling"=some (some (.ref aw))) (ay:FE K "check_telling" "check_telling" a1l aw)
  (bn:PySem.W.nsIn K mainGlobals "line_behind"=some (some (.ref aA))) (aD:FE K "line_behind" "line_behind" a1C aA)
  (b6:PySem.W.nsIn K mainGlobals "_law_cell_at"=some (some (.ref a4))) (a9:FE K "_law_cell_at" "_law_cell_at" a4D a4)
  (cx:PySem.W.nsIn K mainGlobals "_law_mix"=some (some (.ref bU))) (bX:FE K "_law_mix" "_law_mix" b3v bU)
  (cl:PySem.W.nsIn K mainGlobals "_law_parts"=some (some (.ref bs))) (bA:FE K "_law_parts" "_law_parts" a7e bs)
  (cm:PySem.W.nsIn K mainGlobals "_law_names"=some (some (.ref bt))) (bB:FE K "_law_names" "_law_names" a4E bt)
  (b7:PySem.W.nsIn K mainGlobals "_law_telling"=some (some (.ref a5))) (ba:FE K "_law_telling" "_law_telling" a4F a5)
  (cn:PySem.W.nsIn K mainGlobals "_law_worth"=some (some (.ref bu))) (bC:FE K "_law_worth" "_law_worth" a7f bu)
  (b8:PySem.W.nsIn K mainGlobals "_law_moments"=some (some (.ref a6))) (bb:FE K "_law_moments" "_law_moments" a4G a6)
  (b9:PySem.W.nsIn K mainGlobals "_law_is_line"=some (some (.ref a7))) (bc:FE K "_law_is_line" "_law_is_line" a4H a7)
  (co:PySem.W.nsIn K mainGlobals "_law_shown"=some (some (.ref bv))) (bD:FE K "_law_shown" "_law_shown" a7g bv)
  (bO:PySem.W.nsIn K mainGlobals "_law_line_right"=some (some (.ref aM))) (aO:FE K "_law_line_right" "_law_line_right" a1J aM)
  (aZ:PySem.W.findIn K (.ref aa) "check_knowing"=some (some (.ref ab))) (a0:PySem.W.isFn K (.ref ab)=true) (ac:FE K "check_knowing" "Sheet.check_knowing" a0Y ab)
  (bd:PySem.W.findIn K (.ref aa) "known_line"=some (some (.ref ad))) (be:PySem.W.isFn K (.ref ad)=true) (ae:FE K "known_line" "Sheet.known_line" a0S ad)
  (bo:PySem.W.findIn K (.ref aa) "line_at"=some (some (.ref an))) (bp:PySem.W.isFn K (.ref an)=true) (ap:FE K "line_at" "Sheet.line_at" a1D an)
  (bq:PySem.W.findIn K (.ref aa) "keys_at"=some (some (.ref ao))) (br:PySem.W.isFn K (.ref ao)=true) (aq:FE K "keys_at" "Sheet.keys_at" a1b ao)
  (cp:PySem.W.nsIn K mainGlobals "_law_asked"=some (some (.ref bw))) (bE:FE K "_law_asked" "_law_asked" a5P bw)
  (aP:PySem.W.findIn K (.ref aa) "__init__"=some (some (.ref aj))) (aQ:PySem.W.isFn K (.ref aj)=true) (al:FE K "__init__" "Sheet.__init__" a1t aj)
  (bh:PySem.W.findIn K (.ref aa) "keep_line"=some (some (.ref af))) (bi:PySem.W.isFn K (.ref af)=true) (ag:FE K "keep_line" "Sheet.keep_line" a1m af)
  (bP:PySem.W.findIn K (.ref aa) "tell"=some (some (.ref aB))) (bQ:PySem.W.isFn K (.ref aB)=true) (aE:FE K "tell" "Sheet.tell" a2A aB)
  (bk:PySem.W.findIn K (.ref aa) "knowings"=some (some (.ref ak))) (bl:PySem.W.isFn K (.ref ak)=true) (am:FE K "knowings" "Sheet.knowings" a1u ak)
  (ci:PySem.W.nsIn K mainGlobals "law"=some (some (.ref bV))) (cy:K.lookup bV=some ⟨cu,cs,.func (PySem.W.fnOf "law" "law" (a2T a4V) (a1O a4V) (a0g a4V) .none b0 b1 b2 bZ bI b3),ct⟩) (cz:PySem.W.codeIn K bI "law"=true) (cA:PySem.W.keepIn K (.ref bV)=true)
  (cB:PySem.W.nsIn K mainGlobals "all"=some none)
  (bR:PySem.W.nsIn K mainGlobals "isinstance"=some none)
  (cC:PySem.W.nsIn K mainGlobals "str"=some none)
  (cD:PySem.W.nsIn K mainGlobals "len"=some none)
  (cv:PySem.W.nsIn K mainGlobals "bool"=some none)
  (cE:PySem.W.nsIn K mainGlobals "int"=some none)
  (cF:PySem.W.nsIn K mainGlobals "min"=some none)
  (cG:PySem.W.nsIn K mainGlobals "max"=some none)
  (cq:PySem.W.nsIn K mainGlobals "range"=some none)
  (ch:PySem.W.nsIn K mainGlobals "sorted"=some none)
  (cw:PySem.W.nsIn K mainGlobals "list"=some none)
  (cr:PySem.W.nsIn K mainGlobals "tuple"=some none)
  (bY:PySem.W.nsIn K mainGlobals "reversed"=some none)
  (bF:PySem.W.nsIn K mainGlobals "LONGEST_NAME"=some (some (.int 8 aX)))
  (bH:PySem.W.nsIn K mainGlobals "LAST_MOMENT"=some (some (.int 1000000000000 a3))) :
  ∃ fd:FuncData,(∀ (s:Shared) (v:Value),BindsTo s fd ⟨[v],[]⟩ [("script",v)])/\∀ base:Heap,K.In base->base.Ns mainGlobals mg->FnOk l.prog w K mg base CX0 6 fa fd ["script"] (lowP K a5l):=by
 have e:=hfa.symm.trans (PySem.W.mg_of X G ci);cases e;obtain⟨d_p_is_name,aV⟩:=aV;obtain⟨d_p_is_moment,aK⟩:=aK;obtain⟨d_p_is_stretch,aH⟩:=aH;obtain⟨d_p_earlier_end,aC⟩:=aC;obtain⟨d_p_check_name,aI⟩:=aI;obtain⟨d_p_check_stretch,ax⟩:=ax;obtain⟨d_p_check_in_reach,au⟩:=au;obtain⟨d_p_ahead_of,aN⟩:=aN;obtain⟨d_p_with_alike_joined,ai⟩:=ai;obtain⟨d_p_from_on,aW⟩:=aW;obtain⟨d_p_put_on,a2⟩:=a2;obtain⟨d_p_check_telling,ay⟩:=ay;obtain⟨d_p_line_behind,aD⟩:=aD;obtain⟨d_cell_at,a9⟩:=a9;obtain⟨d_mix,bX⟩:=bX;obtain⟨d_parts,bA⟩:=bA;obtain⟨d_names,bB⟩:=bB;obtain⟨d_telling,ba⟩:=ba;obtain⟨d_worth,bC⟩:=bC;obtain⟨d_moments,bb⟩:=bb;obtain⟨d_is_line,bc⟩:=bc;obtain⟨d_shown,bD⟩:=bD;obtain⟨d_line_right,aO⟩:=aO;obtain⟨d_Sheet_check_knowing,ac⟩:=ac;obtain⟨d_Sheet_known_line,ae⟩:=ae;obtain⟨d_Sheet_line_at,ap⟩:=ap;obtain⟨d_Sheet_keys_at,aq⟩:=aq;obtain⟨d_asked,bE⟩:=bE;obtain⟨d_Sheet___init__,al⟩:=al;obtain⟨d_Sheet_keep_line,ag⟩:=ag;obtain⟨d_Sheet_tell,aE⟩:=aE;obtain⟨d_Sheet_knowings,am⟩:=am
 let a:Ad:=⟨aR,d_p_is_name,aJ,d_p_is_moment,aF,d_p_is_stretch,az,d_p_earlier_end,aG,d_p_check_name,av,d_p_check_stretch,ar,d_p_check_in_reach,aL,d_p_ahead_of,ah,d_p_with_alike_joined,aS,d_p_from_on,a1,d_p_put_on,aw,d_p_check_telling,aA,d_p_line_behind,a4,d_cell_at,bU,d_mix,bs,d_parts,bt,d_names,a5,d_telling,bu,d_worth,a6,d_moments,a7,d_is_line,bv,d_shown,aM,d_line_right,ab,d_Sheet_check_knowing,ad,d_Sheet_known_line,an,d_Sheet_line_at,ao,d_Sheet_keys_at,bw,d_asked,aj,d_Sheet___init__,af,d_Sheet_keep_line,aB,d_Sheet_tell,ak,d_Sheet_knowings,fa,(PySem.W.fnOf "law" "law" (a2T a4V) (a1O a4V) (a0g a4V) .none b0 b1 b2 bZ bI b3),aa,bj,aT,aU⟩
 have F:Fns K a:=⟨aV,aK,aH,aC,aI,ax,au,aN,ai,aW,a2,ay,aD,a9,bX,bA,bB,ba,bC,bb,bc,bD,aO,ac,ae,ap,aq,bE,al,ag,aE,am,b11 (st:=a4V) cy cz cA⟩;have T:Txt K mg a:=⟨PySem.W.mg_of X G bS,PySem.W.mg_of X G bG,PySem.W.mg_of X G bx,PySem.W.mg_of X G bm,PySem.W.mg_of X G bz,PySem.W.mg_of X G bf,PySem.W.mg_of X G a8,PySem.W.mg_of X G bN,PySem.W.mg_of X G aY,PySem.W.mg_of X G bT,PySem.W.mg_of X G bW,PySem.W.mg_of X G bg,PySem.W.mg_of X G bn,PySem.W.mg_of X G b6,PySem.W.mg_of X G cx,PySem.W.mg_of X G cl,PySem.W.mg_of X G cm,PySem.W.mg_of X G b7,PySem.W.mg_of X G cn,PySem.W.mg_of X G b8,PySem.W.mg_of X G b9,PySem.W.mg_of X G co,PySem.W.mg_of X G bO,⟨aZ,a0,ac.kp⟩,⟨bd,be,ae.kp⟩,⟨bo,bp,ap.kp⟩,⟨bq,br,aq.kp⟩,PySem.W.mg_of X G cp,⟨aP,aQ,al.kp⟩,⟨bh,bi,ag.kp⟩,⟨bP,bQ,aE.kp⟩,⟨bk,bl,am.kp⟩,PySem.W.mg_of X G ci,PySem.W.mg_none_of X G cB,PySem.W.mg_none_of X G bR,PySem.W.mg_none_of X G cC,PySem.W.mg_none_of X G cD,PySem.W.mg_none_of X G cv,PySem.W.mg_none_of X G cE,PySem.W.mg_none_of X G cF,PySem.W.mg_none_of X G cG,PySem.W.mg_none_of X G cq,PySem.W.mg_none_of X G ch,PySem.W.mg_none_of X G cw,PySem.W.mg_none_of X G cr,PySem.W.mg_none_of X G bY,⟨cb,cc,cd,ce⟩,PySem.W.mg_of X G ca,⟨cf,aP,aQ,cg⟩,cj,ck,PySem.W.mg_of X G b4,PySem.W.mg_of X G bJ,PySem.W.mg_of X G bK,b5,bL,bM,⟨aX,PySem.W.mg_of X G bF⟩,⟨a3,PySem.W.mg_of X G bH⟩⟩;exact⟨a.d32,fun s v=>.of_eq rfl,fun base _ _=>b6d F T⟩
theorem walk {l:PySem.W.OpenLaw}{q:Program}{loose:List Str}{XP:(Str->Option Value)->Heap->Prop}{YP:World->Heap->Prop}{d:DefRec}{K:Params->Fg}(hn:l.most=some 63) (hdf:d.params.defaults=[])
  (hY:∀ (w:World) (h:Heap),YP w h->(K w.params).In h)
  (F:∀ (w:World) (mg:Str->Option Value) (fa:Addr) (h:Heap),(K w.params).In h->h.Ns mainGlobals mg->mg d.name=some (.ref fa) ->
   ∃ fd:FuncData,(∀ (s:Shared) (u:Value),BindsTo s fd ⟨[u],[]⟩ [("script",u)])/\∀ base:Heap,(K w.params).In base->base.Ns mainGlobals mg->FnOk l.prog w (K w.params) mg base CX0 6 fa fd ["script"] (lowP (K w.params) a5l)) :
  PySem.W.WalkO q loose XP YP l.row.toRowW d [] (fun f vs=>PySem.call f vs):=
 L2.walk_of (n:=63) (k:=6) (x:="script") (CX:=fun _=>CX0) (sp:=fun w=>lowP (K w.params) a5l) hn (by decide) hdf ⟨rfl,by decide,by decide⟩ hY F (fun _ _ a ns hl hO hS=>b0k a ns hl (Fz.of hO hS)) fun _ _ _ _ _ z=>z
end Lw
open PySem PySem.W PyProof.Rows
set_option maxRecDepth 100000 in
set_option maxHeartbeats 0 in
theorem PySem.Challenge.cw_twotimes_k13_lines_and_keys_holds : PySem.Challenge.rw_twotimes_k13_lines_and_keys.Holds := by
 w_on;o_law;k_head;(case hw=>w_witness2)
 k_fill
 refine Lw.walk (l:=PySem.Challenge.rw_twotimes_k13_lines_and_keys) rfl rfl (fun w h Y=>PySem.W.kIn_of Y) ?F
 case F=>
  intro w mg fa h KX G hmg;refine' Lw.all_mk KX G hmg ?aa ?ab ?ac ?ad ?ae ?af ?ag ?ah ?ai ?aj ?ak ?al ?am ?an ?ao ?ap (Lw.fe_mk ?aq ?ar ?au) ?av (Lw.fe_mk ?aw ?ax ?ay) ?az (Lw.fe_mk ?aA ?aB ?aC) ?aD (Lw.fe_mk ?aE ?aF ?aG) ?aH (Lw.fe_mk ?aI ?aJ ?aK) ?aL (Lw.fe_mk ?aM ?aN ?aO) ?aP (Lw.fe_mk ?aQ ?aR ?aS) ?aT (Lw.fe_mk ?aU ?aV ?aW) ?aX (Lw.fe_mk ?aY ?aZ ?a0) ?a1 (Lw.fe_mk ?a2 ?a3 ?a4) ?a5 (Lw.fe_mk ?a6 ?a7 ?a8) ?a9 (Lw.fe_mk ?ba ?bb ?bc) ?bd (Lw.fe_mk ?be ?bf ?bg) ?bh (Lw.fe_mk ?bi ?bj ?bk) ?bl (Lw.fe_mk ?bm ?bn ?bo) ?bp (Lw.fe_mk ?bq ?br ?bs) ?bt (Lw.fe_mk ?bu ?bv ?bw) ?bx (Lw.fe_mk ?bz ?bA ?bB) ?bC (Lw.fe_mk ?bD ?bE ?bF) ?bG (Lw.fe_mk ?bH ?bI ?bJ) ?bK (Lw.fe_mk ?bL ?bM ?bN) ?bO (Lw.fe_mk ?bP ?bQ ?bR) ?bS (Lw.fe_mk ?bT ?bU ?bV) ?bW ?bX (Lw.fe_mk ?bY ?bZ ?b0) ?b1 ?b2 (Lw.fe_mk ?b3 ?b4 ?b5) ?b6 ?b7 (Lw.fe_mk ?b8 ?b9 ?ca) ?cb ?cc (Lw.fe_mk ?cd ?ce ?cf) ?cg (Lw.fe_mk ?ch ?ci ?cj) ?ck ?cl (Lw.fe_mk ?cm ?cn ?co) ?cp ?cq (Lw.fe_mk ?cr ?cs ?ct) ?cu ?cv (Lw.fe_mk ?cw ?cx ?cy) ?cz ?cA (Lw.fe_mk ?cB ?cC ?cD) ?cE ?cF ?cG ?cH ?cI ?cJ ?cK ?cL ?cM ?cN ?cO ?cP ?cQ ?cR ?cS ?cT ?cU ?cV ?cW
  all_goals try k_is
  (case am=>k_exc)
  (case an=>k_exc)
  (case ao=>k_exc)
  all_goals try k_is
