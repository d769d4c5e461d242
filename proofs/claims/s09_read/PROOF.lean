import PyProof.Rows.All
import Wide.All
import OpenK.AllK
import Wide.FinOn
import PyProof.EqAt
import PyProof.EqKinds
import PyProof.TupleCall
import KE.BitLaws
import Open.SpecLaws
import KE.OsHead
import KE.OsGo
import PyProof.InstStoreFacts
import PyProof.ExcInit
import PyProof.StationsW
import PyProof.PassesOwn
import PyProof.Rows.CatchOwn
import PyProof.ExcBaseAll.ValueError
import PyProof.ExcAttrAll.ValueError
import PySem.Challenge.RW_rootrows_s09_read
section
set_option linter.all false
set_option maxRecDepth 100000
set_option maxHeartbeats 0
open PySem PySem.W PyProof.Rows
namespace Rr
theorem map_both {σ α β:Type}{o:Option σ}{f:σ→α}{g:σ→β}{a:α}{b:β} (h:o.map f=some a) (k:o.map g=some b):o.map (fun s=>(f s,g s))=some (a,b):=by
  cases o with
  | none=>cases h
  | some s =>
    cases h
    cases k
    rfl
def keepB:List Bool→List Stmt→List Stmt
  | true::m,s::r=>s::keepB m r
  | false::m,_::r=>keepB m r
  | _,_=>[]
noncomputable def view:Program:={ PySem.Challenge.pw_rootrows_s09_read with main:={ PySem.Challenge.pw_rootrows_s09_read.main with body:=keepB [false,true,true,true,true,true,true,true,true,false,true,true,true,true,true,true,true,true,true,true,true,true,true,false,true,true,true,true,true,true,true,true,true,true,true,true,true,true,true,true,true,true,true,true,true,true,false,true,true,true,true,true,true,true,true,true,true,true,false,true,true] PySem.Challenge.pw_rootrows_s09_read.main.body } }
noncomputable abbrev Xt (s:Shared):Bool:=xlAt view [] s && recOk [] s
noncomputable def lk (w:World):=(openEnds treeTable PySem.Challenge.pw_rootrows_s09_read w 4018).map (openSeen view [] (importedModules PySem.Challenge.pw_rootrows_s09_read.main.body) Xt true)
noncomputable def gd:=openGood view []
noncomputable def ob (as:List Addr) (w:World):=(openEnds treeTable PySem.Challenge.pw_rootrows_s09_read w 4018).map fun s=>as.map s.heap.get?
theorem lk_is:lk=lk:=rfl
theorem gd_is:gd=gd:=rfl
theorem ob_is:ob=ob:=rfl
end Rr
lay_quick Rr.lk
lay_quick Rr.gd
lay_quick Rr.ob
name_quick rrLk for Rr.lk by Rr.lk_is
name_quick rrGd for Rr.gd by Rr.gd_is
name_quick rrOb for Rr.ob by Rr.ob_is
theorem Rr.looks1:∀ w,PySem.W.Fast.rrLk w=some PySem.W.Fast.rrGd:=fun w=>by kernel_rfl
theorem Rr.looks (w:World):Rr.lk w=some Rr.gd:=by rw[PySem.W.Fast.rrLk_eq,PySem.W.Fast.rrGd_eq];exact Rr.looks1 w

end
section
set_option Elab.async false
set_option linter.all false
set_option maxRecDepth 100000
namespace L2
open PySem PySem.Spec PyProof.Rows

abbrev Key:=Sum Int Str
def keyIs:Key→Value→Bool
  | .inl k,v=>Value.isInt k v
  | .inr x,v=>Value.isStrOf x v
def keyH (w:World):Key→Int
  | .inl k=>hashInt k
  | .inr x=>hashStr w x
theorem keyIs_shape:∀ {k:Key}{v:Value},keyIs k v=true→(∃ i t,k=Sum.inl i∧v=Value.int i t)∨(∃ x t,k=Sum.inr x∧v=Value.str x t)
  | .inl i,v,h=>by
    obtain⟨t,e⟩:=Value.isInt_shape (k:=i) (v:=v) h
    exact .inl ⟨i,t,rfl,e⟩
  | .inr x,v,h=>by
    obtain⟨t,e⟩:=Value.isStrOf_shape (x:=x) (v:=v) h
    exact .inr ⟨x,t,rfl,e⟩
theorem key_ll (a b:Int):decide ((Sum.inl a:Key)=Sum.inl b)=(a == b):=by
  by_cases e:a=b
  · subst e;simp
  · have h:¬ (Sum.inl a:Key)=Sum.inl b:=fun q=>e (Sum.inl.inj q)
    rw[decide_eq_false h]
    exact (beq_eq_false_iff_ne.mpr e).symm
theorem key_rr (a b:Str):decide ((Sum.inr a:Key)=Sum.inr b)=decide (a=b):=by
  by_cases e:a=b
  · subst e;simp
  · have h:¬ (Sum.inr a:Key)=Sum.inr b:=fun q=>e (Sum.inr.inj q)
    rw[decide_eq_false h,decide_eq_false e]
theorem key_lr (a:Int) (b:Str):decide ((Sum.inl a:Key)=Sum.inr b)=false:=decide_eq_false (fun q=>nomatch q)
theorem key_rl (a:Str) (b:Int):decide ((Sum.inr a:Key)=Sum.inl b)=false:=decide_eq_false (fun q=>nomatch q)

def mixKind (prog:Program) (w:World):PySem.KeyKind prog w Key where
  is:=keyIs
  hash:=keyH w
  inj:=fun v a b ha hb=>by
    rcases keyIs_shape ha with⟨i,t,rfl,rfl⟩ | ⟨x,t,rfl,rfl⟩
    · rcases keyIs_shape hb with⟨j,u,rfl,e⟩ | ⟨y,u,rfl,e⟩
      · injection e with e1 _;rw[e1]
      · exact nomatch e
    · rcases keyIs_shape hb with⟨j,u,rfl,e⟩ | ⟨y,u,rfl,e⟩
      · exact nomatch e
      · injection e with e1 _;rw[e1]
  byValue:=fun k v h=>by
    rcases keyIs_shape h with⟨i,t,rfl,rfl⟩ | ⟨x,t,rfl,rfl⟩ <;> rfl
  pyHash:=fun hv h=>by
    rcases keyIs_shape hv with⟨i,t,rfl,rfl⟩ | ⟨x,t,rfl,rfl⟩
    · exact wpAny_pyHash_int h
    · exact wpAny_pyHash_str h
  eqBool:=fun hu hv h=>by
    rcases keyIs_shape hu with⟨i,t,rfl,rfl⟩ | ⟨x,t,rfl,rfl⟩
    · rcases keyIs_shape hv with⟨j,u,rfl,rfl⟩ | ⟨y,u,rfl,rfl⟩
      · rw[key_ll] at h;exact wpAny_eqBool_int h
      · rw[key_lr] at h;exact SeqAt.EqAt.int_str i t y u _ _ _ _ h
    · rcases keyIs_shape hv with⟨j,u,rfl,rfl⟩ | ⟨y,u,rfl,rfl⟩
      · rw[key_rl] at h;exact SeqAt.EqAt.str_int x t j u _ _ _ _ h
      · rw[key_rr] at h;exact wpAny_eqBool_str h
  «strs»:=fun k x t v h=>by
    rcases keyIs_shape h with⟨i,u,rfl,e⟩ | ⟨y,u,rfl,e⟩
    · exact nomatch e
    · injection e with e1 _
      subst e1
      cases v <;> rfl

end L2

namespace L2
open PySem PySem.Spec PyProof.Rows

inductive V where
  | non | bl (b:Bool) | int (i:Int) | str (x:Str) | byt (b:Array UInt8) | flt (b:UInt64) | ref (a:Addr) | ty (n:String)
  deriving DecidableEq

def RelV:V→Value→Prop
  | .non,u=>u=Value.none
  | .bl b,u=>u=Value.bool b
  | .int i,u=>∃ t,u=Value.int i t
  | .str x,u=>∃ t,u=Value.str x t
  | .byt b,u=>∃ t,u=Value.bytes b t
  | .flt b,u=>∃ t,u=Value.float b t
  | .ref a,u=>u=Value.ref a
  | .ty n,u=>u=Value.type n

abbrev Vals:List V→List Value→Prop:=Paired RelV
theorem Vals.length {xs:List V}{us:List Value} (r:Vals xs us):xs.length=us.length:=Paired.length r
theorem Vals.get:∀ {xs:List V}{us:List Value}{i:Nat}{x:V},Vals xs us→xs[i]?=some x→∃ u,us[i]?=some u∧RelV x u
  | _,_,_,_,.nil,e=>by simp at e
  | _,_,0,_,.cons r _,e=>by simp at e;subst e;exact⟨_,rfl,r⟩
  | _,_,i+1,x,.cons _ t,e=>by
    obtain⟨u,h1,h2⟩:=Vals.get (i:=i) (x:=x) t (by simpa using e)
    exact⟨u,by simpa using h1,h2⟩
theorem Vals.set {x:V}{u:Value} (r:RelV x u):∀ {xs:List V}{us:List Value} (i:Nat),Vals xs us→Vals (xs.set i x) (us.set i u)
  | _,_,_,.nil=>.nil
  | _,_,0,.cons _ t=>.cons r t
  | _,_,i+1,.cons q t=>.cons q (Vals.set r i t)
theorem Vals.append:∀ {xs ys:List V}{us ws:List Value},Vals xs us→Vals ys ws→Vals (xs++ys) (us++ws)
  | _,_,_,_,.nil,s=>s
  | _,_,_,_,.cons r t,s=>.cons r (Vals.append t s)
theorem Vals.take:∀ {xs:List V}{us:List Value} (n:Nat),Vals xs us→Vals (xs.take n) (us.take n)
  | _,_,0,_=>.nil
  | _,_,_+1,.nil=>.nil
  | _,_,n+1,.cons r t=>.cons r (Vals.take n t)
theorem Vals.drop:∀ {xs:List V}{us:List Value} (n:Nat),Vals xs us→Vals (xs.drop n) (us.drop n)
  | _,_,0,r=>r
  | _,_,_+1,.nil=>.nil
  | _,_,n+1,.cons _ t=>Vals.drop n t

def RelO:Option V→Option Value→Prop
  | some v,some u=>RelV v u
  | none,none=>True
  | _,_=>False
def KV {κ:Type}:List (κ×V)→List (κ×Value)→Prop:=Paired fun (p:κ×V) (q:κ×Value)=>p.1=q.1∧RelV p.2 q.2

def kV:Key→V
  | .inl i=>.int i
  | .inr x=>.str x

inductive HO where
    | lst (xs:List V)
    | tup (xs:List V)
    | dK (kvs:List (Key×V)) | dT (kvs:List (List Key×V))
    | set (S:Int→Bool) (n:Nat)
    | ins (C dx:Addr) (fs:List (Str×V))
    | own (x:Addr)
    | xd (fs:List (Str×V))
    | met (f x:Addr)
    | rng (lo hi:Int)
    | frz (o:Obj) (u:HO)
    | tbl (ps:Array Value)
    | ext (φ:Heap→Prop)

abbrev Hp:=Addr→Option HO
def upd (H:Hp) (a:Addr) (o:HO):Hp:=fun b=>if b=a then some o else H b
theorem upd_same {H:Hp}{a:Addr}{o:HO}:upd H a o a=some o:=by unfold upd;rw[if_pos rfl]
theorem upd_ne {H:Hp}{a b:Addr}{o:HO} (h:b≠a):upd H a o b=H b:=by unfold upd;rw[if_neg h]
theorem upd_upd {H:Hp}{a:Addr}{o u:HO}:upd (upd H a o) a u=upd H a u:=by
  funext b;unfold upd;split <;> rfl
theorem ne_of {H:Hp}{a b:Addr}{o u:HO} (h:H a=some o) (h':H b=some u) (d:o≠u):a≠b:=by
  intro e;subst e;rw[h] at h';exact d (Option.some.inj h')
theorem ne_of_none {H:Hp}{a b:Addr}{o:HO} (h:H a=some o) (h':H b=none):a≠b:=by
  intro e;subst e;rw[h] at h';cases h'

section
variable (P:Program) (w:World)
def ObjOk (H:Hp) (h:Heap) (a:Addr):HO→Prop
  | .lst xs=>xs.length≤sizeLine∧∃ (its:List Value) (n:Nat),Vals xs its∧h.get? a=some { cls:=.type "list",data:=.seq its.toArray n }
  | .tup xs=>xs.length≤sizeLine∧∃ its:List Value,Vals xs its∧IsTup h a its.toArray
  | .dK kvs=>kvs.length≤sizeLine∧(a == sysModules)=false∧∃ vs,KV kvs vs∧h.DictOf (mixKind P w) a vs
  | .dT kvs=>kvs.length≤sizeLine∧(a == sysModules)=false∧∃ xs:List (List Key×Addr×Value),
      Paired (fun (p:List Key×V) (q:List Key×Addr×Value)=>p.1=q.1∧H q.2.1=some (.tup (p.1.map kV))∧RelV p.2 q.2.2) kvs xs ∧
      ∃ o es ep,h.get? a=some o∧o.ExactDict∧o.data=.dict es ep∧es.toList=xs.map (entryOfKey (tupleKind (mixKind P w)))∧(xs.map (·.1)).Nodup
  | .set S n=>h.SetOf (intKind P w) a S n
  | .ins C dx fs=>H dx=some (.own a)∧fs.length≤1000∧dx≠a∧h.get? a=some (PySem.W.instObj C dx) ∧
      ∃ mA,h.Ns1 dx mA∧(∀ f,RelO (fs.lookup f) (mA f))∧PySem.Within mA (fs.map (·.1))
  | .own _=>∃ o,h.get? a=some o
  | .xd fs=>∃ mA,h.Ns1 a mA∧∀ f,RelO (fs.lookup f) (mA f)
  | .rng lo hi=>∃ t u v,h.get? a=some { cls:=.type "range",data:=.fields #[.int lo t,.int hi u,.int 1 v] }
  | .frz o u=>h.get? a=some o∧ObjOk H h a u
  | .tbl ps=>h.get? a=some { cls:=.none,data:=.fields ps }
  | .met f x=>h.get? a=some (PySem.W.methodObj (.ref f) (.ref x))
  | .ext φ=>φ h∧(∃ o,h.get? a=some o)∧∀ h1 h2:Heap,φ h1→(∀ o,h1.get? a=some o→h2.get? a=some o)→φ h2
def HOk (H:Hp) (h:Heap):Prop:=∀ a o,H a=some o→ObjOk P w H h a o
end

section
variable {P:Program}{w:World}{H H':Hp}{h h':Heap}{a:Addr}{o:HO}
theorem ObjOk.lt (x:ObjOk P w H h a o):a<h.objs.size:=by
  cases o with
  | lst xs=>obtain⟨_,_,_,_,e⟩:=x;exact Heap.lt_size e
  | tup xs=>obtain⟨_,_,_,p⟩:=x;exact p.lt
  | dK kvs=>obtain⟨_,_,_,_,o,_,_,e,_⟩:=x;exact Heap.lt_size e
  | dT kvs=>obtain⟨_,_,_,_,o,_,_,e,_⟩:=x;exact Heap.lt_size e
  | set S n=>obtain⟨o,_,_,_,e,_⟩:=x;exact Heap.lt_size e
  | ins C dx fs=>obtain⟨_,_,_,e,_⟩:=x;exact Heap.lt_size e
  | own y=>obtain⟨_,e⟩:=x;exact Heap.lt_size e
  | xd fs=>obtain⟨_,⟨_,_,_,e,_⟩,_⟩:=x;exact Heap.lt_size e
  | rng lo hi=>obtain⟨_,_,_,e⟩:=x;exact Heap.lt_size e
  | frz ob u=>obtain⟨e,_⟩:=x;exact Heap.lt_size e
  | tbl ps=>exact Heap.lt_size (show h.get? a=some _ from x)
  | met f y=>exact Heap.lt_size (show h.get? a=some _ from x)
  | ext φ=>obtain⟨_,⟨_,e⟩,_⟩:=x;exact Heap.lt_size e
theorem Paired.mapP {α β:Type}{F G:α→β→Prop}:∀ {l₁:List α}{l₂:List β},Paired F l₁ l₂→(∀ a b,F a b→G a b)→Paired G l₁ l₂
  | _,_,.nil,_=>.nil
  | _,_,.cons r t,f=>.cons (f _ _ r) (Paired.mapP t f)
theorem ObjOk.stay (x:ObjOk P w H h a o) (k:∀ b u,(b=a∨H b=some (.own a))→h.get? b=some u→h'.get? b=some u)
    (ho:∀ b,H b=some (.own a)→H' b=some (.own a)) (ht:∀ b xs,H b=some (.tup xs)→H' b=some (.tup xs)):ObjOk P w H' h' a o:=by
  induction o with
  | lst xs=>obtain⟨z,its,n,r,e⟩:=x;exact⟨z,its,n,r,k _ _ (.inl rfl) e⟩
  | tup xs=>obtain⟨z,its,r,ob,e,c⟩:=x;exact⟨z,its,r,ob,k _ _ (.inl rfl) e,c⟩
  | dK kvs=>obtain⟨z,y,vs,r,ob,es,ep,e,c⟩:=x;exact⟨z,y,vs,r,ob,es,ep,k _ _ (.inl rfl) e,c⟩
  | dT kvs =>
    obtain⟨z,y,xs,r,ob,es,ep,e,c⟩:=x
    exact⟨z,y,xs,Paired.mapP r fun p q z=>⟨z.1,ht _ _ z.2.1,z.2.2⟩,ob,es,ep,k _ _ (.inl rfl) e,c⟩
  | set S n=>obtain⟨ob,es,ep,t,e,c⟩:=x;exact⟨ob,es,ep,t,k _ _ (.inl rfl) e,c⟩
  | ins C dx fs =>
    obtain⟨d,z,ne,e,mA,⟨od,es,ep,e2,c⟩,r⟩:=x
    exact⟨ho _ d,z,ne,k _ _ (.inl rfl) e,mA,⟨od,es,ep,k _ _ (.inr d) e2,c⟩,r⟩
  | own y=>obtain⟨ob,e⟩:=x;exact⟨ob,k _ _ (.inl rfl) e⟩
  | xd fs=>obtain⟨mA,⟨od,es,ep,e,c⟩,r⟩:=x;exact⟨mA,⟨od,es,ep,k _ _ (.inl rfl) e,c⟩,r⟩
  | rng lo hi=>obtain⟨t,u,v,e⟩:=x;exact⟨t,u,v,k _ _ (.inl rfl) e⟩
  | frz ob u ih=>obtain⟨e,q⟩:=x;exact⟨k _ _ (.inl rfl) e,ih q⟩
  | tbl ps =>
    have e:h.get? a=some { cls:=.none,data:=.fields ps }:=x
    show h'.get? a=some { cls:=.none,data:=.fields ps }
    exact k a _ (.inl rfl) e
  | met f y =>
    have e:h.get? a=some (PySem.W.methodObj (.ref f) (.ref y)):=x
    show h'.get? a=some (PySem.W.methodObj (.ref f) (.ref y))
    exact k a _ (.inl rfl) e
  | ext φ=>obtain⟨p,⟨o,e⟩,st⟩:=x;exact⟨st _ _ p fun o q=>k _ _ (.inl rfl) q,⟨o,k _ _ (.inl rfl) e⟩,st⟩
theorem HOk.lt (x:HOk P w H h) (e:H a=some o):a<h.objs.size:=(x a o e).lt
theorem HOk.fresh (x:HOk P w H h) (e:h.objs.size≤a):H a=none:=by
  cases q:H a with
  | none=>rfl
  | some u=>exact absurd (Nat.lt_of_lt_of_le (x.lt q) e) (Nat.lt_irrefl _)
theorem HOk.kept (x:HOk P w H h) (k:∀ b u,h.get? b=some u→h'.get? b=some u):HOk P w H h':=fun a o e =>
  (x a o e).stay (fun b u _ q=>k b u q) (fun _ q=>q) fun _ _ q=>q
theorem HOk.laid (x:HOk P w H h) (k:∀ b u,h.get? b=some u→h'.get? b=some u) (hp:h.objs.size≤a) (new:ObjOk P w (upd H a o) h' a o):HOk P w (upd H a o) h':=fun b u e=>by
  have hn:=x.fresh hp
  by_cases hb:b=a
  · subst hb;rw[upd_same] at e;cases e;exact new
  · rw[upd_ne hb] at e
    exact (x b u e).stay (fun c v _ q=>k c v q) (fun c q=>by rw[upd_ne (ne_of_none q hn)];exact q) fun c xs q=>by rw[upd_ne (ne_of_none q hn)];exact q
end

def Rd (H:Hp) (a:Addr) (u:HO):Prop:=H a=some u∨∃ o,H a=some (.frz o u)
theorem Rd.ok {P:Program}{w:World}{H:Hp}{h:Heap}{a:Addr}{u:HO} (r:Rd H a u) (x:HOk P w H h):ObjOk P w H h a u:=by
  rcases r with r | ⟨o,r⟩
  · exact x a u r
  · obtain⟨_,q⟩:=x a _ r
    exact q
def Mut:Option HO→Prop
  | some (.lst _)=>True
  | some (.dK _)=>True
  | some (.dT _)=>True
  | some (.set _ _)=>True
  | some (.ins _ _ _)=>True
  | some (.ext _)=>True
  | _=>False
section
variable {P:Program}{w:World}{H:Hp}{h h':Heap}{x e:Addr}{o':HO}
theorem HOk.write (ok:HOk P w H h) (mu:Mut (H x)) (he:e=x∨H e=some (.own x)) (k:∀ b u,b≠e→h.get? b=some u→h'.get? b=some u) (heo:∃ u,h'.get? e=some u)
    (new:ObjOk P w (upd H x o') h' x o'):HOk P w (upd H x o') h':=fun b u q=>by
  have nown:∀ c y,H c=some (.own y)→c≠x:=fun c y r z=>by subst z;rw[r] at mu;exact mu
  have ntup:∀ c xs,H c=some (.tup xs)→c≠x:=fun c xs r z=>by subst z;rw[r] at mu;exact mu
  by_cases hb:b=x
  · subst hb;rw[upd_same] at q;cases q;exact new
  · rw[upd_ne hb] at q
    by_cases hbe:b=e
    · have q':H b=some (.own x):=by
        rcases he with z | z
        · exact absurd (hbe.trans z) hb
        · rw[hbe];exact z
      rw[q] at q';cases q'
      obtain⟨v,hv⟩:=heo
      exact⟨v,by rw[hbe];exact hv⟩
    · refine (ok b u q).stay (fun c v hc r=>k c v ?_ r) (fun c r=>by rw[upd_ne (nown c b r)];exact r) fun c xs r=>by rw[upd_ne (ntup c xs r)];exact r
      rcases hc with rfl | hc
      · exact hbe
      · rintro rfl
        rcases he with z | z
        · exact nown c b hc z
        · rw[hc] at z;cases z;exact hb rfl
end

structure Un (fs ex:List Addr) (H H':Hp) (h h':Heap):Prop where
  keep:∀ b o,h.get? b=some o→H b=none→b ∉ fs→b ∉ ex→h'.get? b=some o
  slot:∀ b o,h.get? b=some o→H b=none→b∈fs→b ∉ ex→∃ sl,h'.get? b=some { o with slots:=sl }
  free:∀ b o,h.get? b=some o→H b=none→b ∉ ex→H' b=none
  there:∀ b o,h.get? b=some o→b ∉ ex→∃ o',h'.get? b=some o'
  tups:∀ b xs,H b=some (.tup xs)→H' b=some (.tup xs)
  frzs:∀ b o u,H b=some (.frz o u)→H' b=some (.frz o u)
  tbls:∀ b ps,H b=some (.tbl ps)→∃ more,H' b=some (.tbl (ps++more))
section
variable {fs fs' ex ex':List Addr}{H H1 H2:Hp}{h h1 h2 h':Heap}{a x e:Addr}{o:HO}
theorem Un.any (u:Un fs ex H H1 h h1) {b:Addr}{ob:Obj} (q:h.get? b=some ob) (n:H b=none) (hx:b ∉ ex):∃ sl,h1.get? b=some { ob with slots:=sl }:=by
  by_cases hb:b∈fs
  · exact u.slot b ob q n hb hx
  · exact⟨ob.slots,u.keep b ob q n hb hx⟩
theorem Un.kept (k:∀ b u,h.get? b=some u→h'.get? b=some u):Un fs ex H H h h' :=
  ⟨fun b ob q _ _ _=>k b ob q,fun b ob q _ _ _=>⟨ob.slots,k b ob q⟩,fun _ _ _ n _=>n,fun b ob q _=>⟨ob,k b ob q⟩,fun _ _ q=>q,fun _ _ _ q=>q,fun _ ps q=>⟨#[],by rw[q];simp⟩⟩
theorem Un.refl:Un fs ex H H h h:=Un.kept fun _ _ q=>q
theorem Un.laid (k:∀ b u,h.get? b=some u→h'.get? b=some u) (hp:h.objs.size≤a) (hn:H a=none):Un fs ex H (upd H a o) h h' where
  keep:=fun b u q _ _ _=>k b u q
  slot:=fun b u q _ _ _=>⟨u.slots,k b u q⟩
  free:=fun b u q n _=>by rw[upd_ne (Nat.ne_of_lt (Nat.lt_of_lt_of_le (Heap.lt_size q) hp))];exact n
  there:=fun b u q _=>⟨u,k b u q⟩
  tups:=fun b xs q=>by rw[upd_ne (ne_of_none q hn)];exact q
  frzs:=fun b u xs q=>by rw[upd_ne (ne_of_none q hn)];exact q
  tbls:=fun b ps q=>⟨#[],by rw[upd_ne (ne_of_none q hn),q];simp⟩
theorem Un.write (mu:Mut (H x)) (he:e=x∨H e=some (.own x)) (k:∀ b u,b≠e→h.get? b=some u→h'.get? b=some u) (heo:∃ u,h'.get? e=some u):Un fs ex H (upd H x o) h h':=by
  have hx:∀ b,H b=none→b≠x:=fun b n z=>by subst z;rw[n] at mu;exact mu
  have hb:∀ b,H b=none→b≠e:=fun b n z=>by
    subst z
    rcases he with r | r
    · exact hx b n r
    · rw[n] at r;cases r
  have hm:∀ b u,H b=some u→¬ Mut (some u)→b≠x:=fun b u q nm z=>by subst z;rw[q] at mu;exact nm mu
  refine⟨fun b u q n _ _=>k b u (hb b n) q,fun b u q n _ _=>⟨u.slots,k b u (hb b n) q⟩,fun b u q n _=>by rw[upd_ne (hx b n)];exact n,fun b u q _=>?_,
    fun b xs q=>by rw[upd_ne (hm b _ q fun z=>z)];exact q,fun b u xs q=>by rw[upd_ne (hm b _ q fun z=>z)];exact q,fun b ps q=>⟨#[],by rw[upd_ne (hm b _ q fun z=>z),q];simp⟩⟩
  by_cases hbe:b=e
  · subst hbe;exact heo
  · exact⟨u,k b u hbe q⟩
end

def trk (h:Heap) (H:Hp):List Addr:=(List.range h.objs.size).filter fun a=>(H a).isSome
def hidT (h:Heap) (H:Hp):Heap:=PySem.W.hideAll h (trk h H)
theorem hidT_size (h:Heap) (H:Hp):(hidT h H).objs.size=h.objs.size:=PySem.W.hideAll_size _ _
theorem hidT_get {h:Heap}{H:Hp}{b:Addr}{o:Obj} (e:h.get? b=some o) (n:H b=none):(hidT h H).get? b=some o :=
  PySem.W.hideAll_get _ e fun hm=>by
    have q:(H b).isSome=true:=(List.mem_filter.mp hm).2
    rw[n] at q;simp at q
theorem of_hidT {h:Heap}{H:Hp}{b:Addr}{o:Obj} (e:(hidT h H).get? b=some o):h.get? b=some o∧H b=none:=by
  have e':h.get? b=some o:=PySem.W.of_hideAll (trk h H) e
  refine⟨e',?_⟩
  cases q:H b with
  | none=>rfl
  | some x =>
    have hm:b∈trk h H:=List.mem_filter.mpr ⟨List.mem_range.mpr (Heap.lt_size e'),by simp[q]⟩
    have z:(hidT h H).get? b=none:=PySem.W.hideAll_none (trk h H) hm
    rw[z] at e;cases e

end L2

namespace L2
open PySem PySem.Spec PyProof.Rows

structure Mod (K:PySem.W.Frag) (mg:Str→Option Value) (base:Heap):Prop where
  kin:K.In base
  glob:base.Ns mainGlobals mg
  blt:∃ mb,base.Ns builtinsNs mb∧∀ x:Str,x≠"__name__"→mb x=bootBuiltins x
  nolimit:base.NoLimit

structure Cx where
  prog:Program
  w:World
  K:PySem.W.Frag
  mg:Str→Option Value
  base:Heap
  A:Around
  N:List Str
  s_0:Shared
  H_0:Hp
  env:Env
  outer:List Env
  stack:List Env
  ex:List Addr
  fn:Str→Bool
  calm:Bool
  pn:List (Addr×Obj)
  xe:Value→Shared→Prop
def frs (l:List Env):List Addr:=l.filterMap (·.frame)
abbrev Cx.fs (X:Cx):List Addr:=frs X.outer

def Vis (sc:Scope) (x:Str):Prop:=sc.names.lookup x=some .local∨sc.names.lookup x=some .cell∨sc.names.lookup x=some .free
def Loc (sc:Scope) (x:Str):Prop:=sc.names.lookup x=some .local∨sc.names.lookup x=some .cell
def Look (env:Env) (h:Heap) (m:Str→Option Value) (x:Str) (u:Value):Prop :=
  (env.kindOf x=some .local∧m x=some u)∨((env.kindOf x=some .cell∨env.kindOf x=some .free)∧∃ c,env.cells.lookup x=some c∧h.IsCell c (some u))

structure Cx.Ok (X:Cx):Prop where
  mod:Mod X.K X.mg X.base
  kind:X.env.scope.kind=.function
  glob:X.env.globals=mainGlobals
  blt:X.env.builtins=builtinsNs
  above:X.s_0.heap.objs.size≤X.env.locals
  inj:∀ x y c,X.env.cells.lookup x=some c→X.env.cells.lookup y=some c→x=y
  has:∀ x,(X.env.kindOf x=some .cell∨X.env.kindOf x=some .free)→∃ c,X.env.cells.lookup x=some c
  cab:∀ x c,X.fn x=true→X.env.cells.lookup x=some c→X.s_0.heap.objs.size≤c
  hd:X.calm=true→X.A.handled=none
  frames:X.A.frames=some X.stack
  stk:X.stack=X.outer∨(X.stack=X.env::X.outer∧X.env.frame=some X.env.locals)
  exf:∀ b∈X.ex,b≠X.env.locals∧∀ x c,X.env.cells.lookup x=some c→c≠b
  bs:∀ b o,X.base.get? b=some o→X.s_0.heap.get? b=some o∧X.H_0 b=none
  bsz:X.base.objs.size≤X.s_0.heap.objs.size
  noex:∀ b o,X.base.get? b=some o→b ∉ X.ex
  exfs:∀ b∈X.ex,b ∉ X.fs
  funs:X.s_0.heap.FunFrames X.base X.outer
  frf:∀ b∈X.fs,X.H_0 b=none

structure Inv (X:Cx) (pins:List (Addr×Obj)) (σ:List (Option V)) (H:Hp) (s:Shared):Prop where
  ok:X.Ok
  os:s.os=X.s_0.os
  bare:AllBare s.gens
  base:Un X.fs X.ex X.H_0 H X.s_0.heap s.heap
  loc:∃ m,s.heap.Ns X.env.locals m∧∀ (i:Nat) (x:Str) (v:V),X.N[i]?=some x→σ[i]?=some (some v)→Vis X.env.scope x→∃ u,RelV v u∧Look X.env s.heap m x u
  cell:∀ x c,X.env.cells.lookup x=some c→∃ v,s.heap.IsCell c v
  free:H X.env.locals=none
  freeC:∀ x c,X.env.cells.lookup x=some c→H c=none
  pin:∀ p∈X.pn++pins,s.heap.get? p.1=some p.2∧H p.1=none∧p.1≠X.env.locals∧p.1 ∉ X.fs∧∀ v,p.2.data≠.cell v
  hok:HOk X.prog X.w H s.heap
  len:σ.length=X.N.length

section
variable {X:Cx}{pins:List (Addr×Obj)}{σ:List (Option V)}{H H':Hp}{s:Shared}{h':Heap}

theorem Cx.Ok.nofr (ok:X.Ok) {b:Addr}{o:Obj} (e:X.base.get? b=some o):b ∉ X.fs:=fun hb=>by
  have:=(ok.funs.mem hb).1
  rw[e] at this;cases this
theorem Inv.bs (I:Inv X pins σ H s):∀ b o,X.base.get? b=some o→s.heap.get? b=some o∧H b=none:=fun b o e =>
  ⟨I.base.keep b o (I.ok.bs b o e).1 (I.ok.bs b o e).2 (I.ok.nofr e) (I.ok.noex b o e),I.base.free b o (I.ok.bs b o e).1 (I.ok.bs b o e).2 (I.ok.noex b o e)⟩
theorem Inv.bk (I:Inv X pins σ H s):∀ b o,X.base.get? b=some o→s.heap.get? b=some o:=fun b o e=>(I.bs b o e).1
theorem Inv.mod (I:Inv X pins σ H s):Mod X.K X.mg X.base:=I.ok.mod
theorem Inv.kIn (I:Inv X pins σ H s):X.K.In s.heap:=I.ok.mod.kin.keeps I.bk
theorem Inv.nolimit (I:Inv X pins σ H s):s.heap.NoLimit:=I.ok.mod.nolimit.keeps I.bk
theorem Inv.fr (I:Inv X pins σ H s):∃ m,Fr X.base X.env.locals s.heap m :=
  let ⟨m,hn,_⟩:=I.loc
  ⟨m,hn,I.bk,Nat.le_trans I.ok.bsz I.ok.above⟩
theorem Inv.lt (I:Inv X pins σ H s):X.env.locals<s.heap.objs.size:=let ⟨_,hn,_⟩:=I.loc;hn.lt
theorem Inv.sz (I:Inv X pins σ H s):X.s_0.heap.objs.size≤s.heap.objs.size:=Nat.le_trans I.ok.above (Nat.le_of_lt I.lt)
theorem Inv.nofs (I:Inv X pins σ H s) {a:Addr} (h:s.heap.objs.size≤a):a ∉ X.fs:=fun hb=>by
  obtain⟨_,o,ho,_⟩:=I.ok.funs.mem hb
  exact absurd (Nat.lt_of_lt_of_le (Heap.lt_size ho) (Nat.le_trans I.sz h)) (Nat.lt_irrefl _)
theorem Inv.cne (I:Inv X pins σ H s):∀ x c,X.env.cells.lookup x=some c→c≠X.env.locals:=fun x c e z=>by
  obtain⟨v,o,ho,hd⟩:=I.cell x c e
  obtain⟨m,⟨o',es,ep,ho',hd',_⟩,_⟩:=I.loc
  rw[z,ho'] at ho;cases ho;rw[hd'] at hd;cases hd
theorem Inv.funs (I:Inv X pins σ H s):s.heap.FunFrames X.base X.outer:=by
  have all:∀ (l:List Env),(∀ b∈frs l,b∈X.fs)→X.s_0.heap.FunFrames X.base l→s.heap.FunFrames X.base l:=by
    intro l
    induction l with
    | nil=>intro _ _;trivial
    | cons env r ih =>
      intro hs hl
      obtain⟨hk,⟨L,o,hf,hn,ho,hd⟩,hr⟩:=hl
      have hL:L∈X.fs:=hs L (by unfold frs;rw[List.filterMap_cons,hf];exact List.mem_cons_self)
      obtain⟨sl,e⟩:=I.base.slot L o ho (I.ok.frf L hL) hL fun z=>I.ok.exfs L z hL
      exact⟨hk,⟨L,_,hf,hn,e,hd⟩,ih (fun b hb=>hs b (by unfold frs;rw[List.filterMap_cons,hf];exact List.mem_cons_of_mem _ hb)) hr⟩
  exact all X.outer (fun _ hb=>hb) I.ok.funs

theorem Inv.stack (I:Inv X pins σ H s):s.heap.FunFrames X.base X.stack:=by
  rcases I.ok.stk with e | ⟨e,hf⟩
  · rw[e];exact I.funs
  · rw[e]
    obtain⟨m,hn,_⟩:=I.loc
    refine .cons (by rw[I.ok.kind];decide) hf hn ?_ I.funs
    exact Heap.get?_none_of_le (Nat.le_trans I.ok.bsz I.ok.above)
theorem Inv.stkSub (I:Inv X pins σ H s):∀ b∈frs X.stack,b∈X.env.locals::X.fs:=fun b hb=>by
  rcases I.ok.stk with e | ⟨e,hf⟩
  · rw[e] at hb;exact List.mem_cons_of_mem _ hb
  · rw[e] at hb
    unfold frs at hb
    rw[List.filterMap_cons,hf] at hb
    exact hb
theorem Inv.stkFree (I:Inv X pins σ H s):∀ b∈frs X.stack,H b=none:=fun b hb=>by
  rcases List.mem_cons.mp (I.stkSub b hb) with e | hb
  · rw[e];exact I.free
  · obtain⟨_,o,ho,_⟩:=I.ok.funs.mem hb
    exact I.base.free b o ho (I.ok.frf b hb) fun z=>I.ok.exfs b z hb

theorem Inv.step {g':Array GenState}{t':Nat}{d':Drawn}{ch:List Addr} (I:Inv X pins σ H s)
    (hch:∀ b∈ch,(b∈X.ex∨X.s_0.heap.objs.size≤b)∧b≠X.env.locals∧(∀ x c,X.env.cells.lookup x=some c→c≠b)∧∀ p∈X.pn++pins,p.1≠b)
    (keep:∀ b o,b≠X.env.locals→b ∉ X.fs→b ∉ ch→s.heap.get? b=some o→H b=none→h'.get? b=some o)
    (slot:∀ b o,b≠X.env.locals→b∈X.fs→b ∉ ch→s.heap.get? b=some o→H b=none→∃ sl,h'.get? b=some { o with slots:=sl }) (free:∀ b o,b ∉ ch→s.heap.get? b=some o→H b=none→H' b=none)
    (there:∀ b o,b ∉ ch→s.heap.get? b=some o→∃ o',h'.get? b=some o')
    (tups:∀ b xs,H b=some (.tup xs)→H' b=some (.tup xs)) (frzs:∀ b o u,H b=some (.frz o u)→H' b=some (.frz o u)) (tbls:∀ b ps,H b=some (.tbl ps)→∃ more,H' b=some (.tbl (ps++more)))
    (ns:∀ m,s.heap.Ns X.env.locals m→h'.Ns X.env.locals m) (hok:HOk X.prog X.w H' h') (hg:AllBare g') :
    Inv X pins σ H' { s with heap:=h',gens:=g',drawn:=d',toks:=t' }:=by
  have neL:∀ b o,X.s_0.heap.get? b=some o→b≠X.env.locals:=fun b o e=>Nat.ne_of_lt (Nat.lt_of_lt_of_le (Heap.lt_size e) I.ok.above)
  have neC:∀ b o,X.s_0.heap.get? b=some o→b ∉ X.ex→b ∉ ch:=fun b o e hx hb=>by
    rcases (hch b hb).1 with z | z
    · exact hx z
    · exact absurd (Nat.lt_of_lt_of_le (Heap.lt_size e) z) (Nat.lt_irrefl _)
  have cellK:∀ x c,X.env.cells.lookup x=some c→∀ v,s.heap.IsCell c v→h'.IsCell c v:=fun x c e v ⟨o,ho,hd⟩=>by
    have nch:c ∉ ch:=fun z=>(hch c z).2.2.1 x c e rfl
    by_cases hc:c∈X.fs
    · obtain⟨sl,q⟩:=slot c o (I.cne x c e) hc nch ho (I.freeC x c e)
      exact⟨_,q,hd⟩
    · exact⟨o,keep c o (I.cne x c e) hc nch ho (I.freeC x c e),hd⟩
  refine⟨I.ok,I.os,hg,⟨fun b o e n hb hx=>?_,fun b o e n hb hx=>?_,fun b o e n hx=>?_,fun b o e hx=>?_,fun b xs e=>tups b xs (I.base.tups b xs e),fun b o xs e=>frzs b o xs (I.base.frzs b o xs e),fun b ps e=>?_⟩,?_,fun x c e=>?_,?_,fun x c e=>?_,fun p hp=>?_,hok,I.len⟩
  · exact keep b o (neL b o e) hb (neC b o e hx) (I.base.keep b o e n hb hx) (I.base.free b o e n hx)
  · obtain⟨sl,e1⟩:=I.base.slot b o e n hb hx
    obtain⟨sl',e2⟩:=slot b _ (neL b o e) hb (neC b o e hx) e1 (I.base.free b o e n hx)
    exact⟨sl',e2⟩
  · obtain⟨o',e1⟩:=I.base.there b o e hx
    exact free b o' (neC b o e hx) e1 (I.base.free b o e n hx)
  · obtain⟨o',e1⟩:=I.base.there b o e hx
    exact there b o' (neC b o e hx) e1
  · obtain⟨m1,e1⟩:=I.base.tbls b ps e
    obtain⟨m2,e2⟩:=tbls b _ e1
    exact⟨m1++m2,by rw[e2,Array.append_assoc]⟩
  · obtain⟨m,hn,hl⟩:=I.loc
    refine⟨m,ns m hn,fun i x v e1 e2 e3=>?_⟩
    obtain⟨u,r,l⟩:=hl i x v e1 e2 e3
    refine⟨u,r,?_⟩
    rcases l with l | ⟨k,c,e,z⟩
    · exact .inl l
    · exact .inr ⟨k,c,e,cellK x c e _ z⟩
  · obtain⟨v,z⟩:=I.cell x c e
    exact⟨v,cellK x c e v z⟩
  · obtain⟨m,⟨o,_,_,ho,_⟩,_⟩:=I.loc
    exact free _ o (fun z=>(hch _ z).2.1 rfl) ho I.free
  · obtain⟨v,o,ho,hd⟩:=I.cell x c e
    exact free c o (fun z=>(hch c z).2.2.1 x c e rfl) ho (I.freeC x c e)
  · obtain⟨e,n,ne,nf,d⟩:=I.pin p hp
    have nch:p.1 ∉ ch:=fun z=>(hch p.1 z).2.2.2 p hp rfl
    exact⟨keep p.1 p.2 ne nf nch e n,free p.1 p.2 nch e n,ne,nf,d⟩
theorem Inv.un {t':Nat} (I:Inv X pins σ H s) (u:Un X.fs [] H H' s.heap h') (hok:HOk X.prog X.w H' h'):Inv X pins σ H' { s with heap:=h',toks:=t' }:=by
  obtain⟨m,⟨o,es,ep,ho,r⟩,_⟩:=id I.loc
  obtain⟨sl,hL⟩:=u.any ho I.free (by simp)
  exact I.step (g':=s.gens) (d':=s.drawn) (ch:=[]) (fun _ z=>nomatch z) (fun b o _ hb _ e n=>u.keep b o e n hb (by simp)) (fun b o _ hb _ e n=>u.slot b o e n hb (by simp)) (fun b o _ e n=>u.free b o e n (by simp)) (fun b o _ e=>u.there b o e (by simp)) u.tups u.frzs u.tbls (fun m' hm=>by
    obtain⟨o',es',ep',ho',r'⟩:=hm
    rw[ho] at ho';cases ho'
    exact⟨_,es',ep',hL,r'⟩) hok I.bare
theorem Inv.call {g':Array GenState}{t':Nat}{d':Drawn}{ch:List Addr} (I:Inv X pins σ H s) (u:Un (frs X.stack) ch H H' s.heap h') (hok:HOk X.prog X.w H' h') (hg:AllBare g')
    (hch:∀ b∈ch,(b∈X.ex∨X.s_0.heap.objs.size≤b)∧b≠X.env.locals∧(∀ x c,X.env.cells.lookup x=some c→c≠b)∧∀ p∈X.pn++pins,p.1≠b) :
    Inv X pins σ H' { s with heap:=h',gens:=g',drawn:=d',toks:=t' }:=by
  obtain⟨m,⟨o,es,ep,ho,r⟩,_⟩:=id I.loc
  obtain⟨sl,hL⟩:=u.any ho I.free fun z=>(hch _ z).2.1 rfl
  exact I.step (ch:=ch) hch (fun b o hL hb hc e n=>u.keep b o e n (fun z=>(List.mem_cons.mp (I.stkSub b z)).elim hL hb) hc) (fun b o _ _ hc e n=>u.any e n hc) (fun b o hc e n=>u.free b o e n hc) (fun b o hc e=>u.there b o e hc) u.tups u.frzs u.tbls (fun m' hm=>by
    obtain⟨o',es',ep',ho',r'⟩:=hm
    rw[ho] at ho';cases ho'
    exact⟨_,es',ep',hL,r'⟩) hok hg
theorem Inv.turned {t':Nat}{it:Addr} (I:Inv X pins σ H s) (k:∀ b o,b≠it→s.heap.get? b=some o→h'.get? b=some o) (hn:H it=none) (hL:it≠X.env.locals)
    (h1:it∈X.ex∨X.s_0.heap.objs.size≤it) (h2:∀ x c,X.env.cells.lookup x=some c→c≠it) (h3:∀ p∈X.pn++pins,p.1≠it):Inv X pins σ H { s with heap:=h',toks:=t' }:=by
  have nit:∀ b u,H b=some u→b≠it:=fun b u e z=>by rw[z,hn] at e;cases e
  refine I.step (g':=s.gens) (d':=s.drawn) (ch:=[it]) (fun b hb=>?_) (fun b o _ _ hc e _=>k b o (fun z=>hc (by simp[z])) e) (fun b o _ _ hc e _=>⟨o.slots,k b o (fun z=>hc (by simp[z])) e⟩) (fun _ _ _ _ n=>n)
    (fun b o hc e=>⟨o,k b o (fun z=>hc (by simp[z])) e⟩) (fun _ _ e=>e) (fun _ _ _ e=>e) (fun b ps e=>⟨#[],by rw[e];simp⟩) (fun m hm=>?_) (fun b u e=>?_) I.bare
  · have e:b=it:=by simpa using hb
    subst e
    exact⟨h1,hL,h2,h3⟩
  · obtain⟨o,es,ep,ho,r⟩:=hm
    exact⟨o,es,ep,k _ o (Ne.symm hL) ho,r⟩
  · refine (I.hok b u e).stay (fun c v hc q=>k c v ?_ q) (fun _ q=>q) fun _ _ q=>q
    rcases hc with z | z
    · rw[z];exact nit b u e
    · exact nit c _ z
theorem Inv.tok (I:Inv X pins σ H s) (t:Nat):Inv X pins σ H { s with toks:=t }:=I.un (h':=s.heap) (t':=t) Un.refl I.hok
theorem Inv.kept {t':Nat} (I:Inv X pins σ H s) (k:∀ b u,s.heap.get? b=some u→h'.get? b=some u):Inv X pins σ H { s with heap:=h',toks:=t' }:=I.un (Un.kept k) (I.hok.kept k)
theorem Inv.laid {a:Addr}{o:HO}{t':Nat} (I:Inv X pins σ H s) (k:∀ b u,s.heap.get? b=some u→h'.get? b=some u) (hp:s.heap.objs.size≤a) (new:ObjOk X.prog X.w (upd H a o) h' a o) :
    Inv X pins σ (upd H a o) { s with heap:=h',toks:=t' }:=I.un (Un.laid k hp (I.hok.fresh hp)) (I.hok.laid k hp new)
theorem Inv.write {x e:Addr}{o:HO}{t':Nat} (I:Inv X pins σ H s) (mu:Mut (H x)) (he:e=x∨H e=some (.own x)) (k:∀ b u,b≠e→s.heap.get? b=some u→h'.get? b=some u) (heo:∃ u,h'.get? e=some u)
    (new:ObjOk X.prog X.w (upd H x o) h' x o):Inv X pins σ (upd H x o) { s with heap:=h',toks:=t' }:=I.un (Un.write mu he k heo) (I.hok.write mu he k heo new)
theorem Inv.weak {σ':List (Option V)} (I:Inv X pins σ H s) (hl:σ'.length=σ.length) (w:∀ (i:Nat) v,σ'[i]?=some (some v)→σ[i]?=some (some v)):Inv X pins σ' H s :=
  ⟨I.ok,I.os,I.bare,I.base,let ⟨m,hn,hl'⟩:=I.loc;⟨m,hn,fun i x v e1 e2 e3=>hl' i x v e1 (w i v e2) e3⟩,I.cell,I.free,I.freeC,I.pin,I.hok,hl.trans I.len⟩
theorem Inv.pins_of {pins':List (Addr×Obj)} (I:Inv X pins σ H s) (h:∀ p∈pins',s.heap.get? p.1=some p.2∧H p.1=none∧p.1≠X.env.locals∧p.1 ∉ X.fs∧∀ v,p.2.data≠.cell v):Inv X pins' σ H s :=
  ⟨I.ok,I.os,I.bare,I.base,I.loc,I.cell,I.free,I.freeC,fun p hp=>(List.mem_append.mp hp).elim (fun z=>I.pin p (List.mem_append_left _ z)) (h p),I.hok,I.len⟩

theorem nodup_ix {N:List Str} (hN:N.Nodup) {i j:Nat}{x:Str} (a:N[i]?=some x) (b:N[j]?=some x):i=j:=by
  obtain⟨h1,e1⟩:=List.getElem?_eq_some_iff.mp a
  obtain⟨h2,e2⟩:=List.getElem?_eq_some_iff.mp b
  exact (List.getElem_inj hN).mp (e1.trans e2.symm)

theorem store_ok2 {M:Model}{A:Around}{E:Value→Shared→Prop}{i:Nat}{x:Str}{v:V}{u:Value}{Q:Unit→Shared→Prop} (I:Inv X pins σ H s) (hN:X.N.Nodup) (hi:X.N[i]?=some x) (hx:Loc X.env.scope x) (r:RelV v u)
    (h:∀ s',Inv X pins (σ.set i (some v)) H s'→(∃ a,Heap.SameBut a s.heap s'.heap∧(a=X.env.locals∨X.env.cells.lookup x=some a))→Q () s') (hf:X.fn x=true∨X.env.scope.names.lookup x=some .local:=by first | exact .inl rfl | exact .inr rfl | assumption):wpAny M A (storeName X.env x u) Q E s:=by
  obtain⟨m,hn,hl⟩:=id I.loc
  have hcls:(X.env.scope.kind == .class || (X.env.scope.kind == .module && X.env.locals != X.env.globals))=false:=by rw[I.ok.kind];rfl
  have hiσ:i<σ.length:=by rw[I.len];exact (List.getElem?_eq_some_iff.mp hi).1
  have cne:=I.cne
  have tracked:∀ {a:Addr}{h':Heap},(∃ o,s.heap.get? a=some o∧H a=none)→Heap.SameBut a s.heap h'→HOk X.prog X.w H h':=fun {a h'} ha hs b ob e=>by
    obtain⟨_,_,hfree⟩:=ha
    refine (I.hok b ob e).stay (fun c w' hc q=>(hs.2 c ?_).trans q) (fun _ q=>q) fun _ _ q=>q
    rintro rfl
    rcases hc with rfl | hc
    · rw[hfree] at e;cases e
    · rw[hfree] at hc;cases hc
  rcases hx with hk | hk
  · refine wpAny_storeName_local hk hn (fun h' hn' hs=>?_) hcls
    obtain⟨oL,_,_,hoL,_⟩:=id hn
    refine h _ ⟨I.ok,I.os,I.bare,⟨fun b o e n hb hx=>?_,fun b o e n hb hx=>?_,I.base.free,fun b o e hx=>?_,I.base.tups,I.base.frzs,I.base.tbls⟩,⟨_,hn',fun j y v' e1 e2 e3=>?_⟩,fun y c e=>?_,I.free,I.freeC,fun p hp=>?_,tracked ⟨oL,hoL,I.free⟩ hs,by simpa using I.len⟩ ⟨_,hs,.inl rfl⟩
    · exact (hs.2 b (Nat.ne_of_lt (Nat.lt_of_lt_of_le (Heap.lt_size e) I.ok.above))).trans (I.base.keep b o e n hb hx)
    · obtain⟨sl,e1⟩:=I.base.slot b o e n hb hx
      exact⟨sl,(hs.2 b (Nat.ne_of_lt (Nat.lt_of_lt_of_le (Heap.lt_size e) I.ok.above))).trans e1⟩
    · obtain⟨o',e1⟩:=I.base.there b o e hx
      exact⟨o',(hs.2 b (Nat.ne_of_lt (Nat.lt_of_lt_of_le (Heap.lt_size e) I.ok.above))).trans e1⟩
    · by_cases hj:j=i
      · subst hj
        rw[hi] at e1;cases e1
        rw[List.getElem?_set_self hiσ] at e2
        cases e2
        exact⟨u,r,.inl ⟨hk,by simp⟩⟩
      · rw[List.getElem?_set_ne (Ne.symm hj)] at e2
        obtain⟨u',r',q⟩:=hl j y v' e1 e2 e3
        refine⟨u',r',?_⟩
        rcases q with⟨k,e⟩ | ⟨k,c,e,z⟩
        · refine .inl ⟨k,?_⟩
          have:y≠x:=fun e=>hj (nodup_ix hN e1 (e ▸ hi))
          simp[this,e]
        · exact .inr ⟨k,c,e,z.sameBut hs (cne y c e)⟩
    · obtain⟨w',z⟩:=I.cell y c e
      exact⟨w',z.sameBut hs (cne y c e)⟩
    · obtain⟨e,n,ne,nf,d⟩:=I.pin p hp
      exact⟨(hs.2 p.1 ne).trans e,n,ne,nf,d⟩
  · have hfn:X.fn x=true:=by
      rcases hf with z | z
      · exact z
      · rw[z] at hk;cases hk
    obtain⟨c,hc⟩:=I.ok.has x (.inl hk)
    obtain⟨w',z⟩:=I.cell x c hc
    refine wpAny_storeName_cell I.ok.kind hk hc z (fun h' hc' hs=>?_)
    obtain⟨oc,hoc,hocd⟩:=id z
    refine h { s with heap:=h' } ⟨I.ok,I.os,I.bare,⟨fun b o e n hb hx=>?_,fun b o e n hb hx=>?_,I.base.free,fun b o e hx=>?_,I.base.tups,I.base.frzs,I.base.tbls⟩,⟨m,hn.sameBut hs (Ne.symm (cne x c hc)),fun j y v' e1 e2 e3=>?_⟩,fun y c' e=>?_,I.free,I.freeC,fun p hp=>?_,tracked ⟨oc,hoc,I.freeC x c hc⟩ hs,by simpa using I.len⟩ ⟨c,hs,.inr hc⟩
    · exact (hs.2 b (Nat.ne_of_lt (Nat.lt_of_lt_of_le (Heap.lt_size e) (I.ok.cab x c hfn hc)))).trans (I.base.keep b o e n hb hx)
    · obtain⟨sl,e1⟩:=I.base.slot b o e n hb hx
      exact⟨sl,(hs.2 b (Nat.ne_of_lt (Nat.lt_of_lt_of_le (Heap.lt_size e) (I.ok.cab x c hfn hc)))).trans e1⟩
    · obtain⟨o',e1⟩:=I.base.there b o e hx
      exact⟨o',(hs.2 b (Nat.ne_of_lt (Nat.lt_of_lt_of_le (Heap.lt_size e) (I.ok.cab x c hfn hc)))).trans e1⟩
    · by_cases hj:j=i
      · subst hj
        rw[hi] at e1;cases e1
        rw[List.getElem?_set_self hiσ] at e2
        cases e2
        exact⟨u,r,.inr ⟨.inl hk,c,hc,hc'⟩⟩
      · rw[List.getElem?_set_ne (Ne.symm hj)] at e2
        obtain⟨u',r',q⟩:=hl j y v' e1 e2 e3
        refine⟨u',r',?_⟩
        rcases q with q | ⟨k,c',e,z'⟩
        · exact .inl q
        · refine .inr ⟨k,c',e,z'.sameBut hs ?_⟩
          rintro rfl
          exact hj (nodup_ix hN e1 (I.ok.inj _ _ _ e hc ▸ hi))
    · by_cases hcc:c'=c
      · subst hcc;exact⟨_,hc'⟩
      · obtain⟨w2,z2⟩:=I.cell y c' e
        exact⟨w2,z2.sameBut hs hcc⟩
    · obtain⟨e,n,ne,nf,d⟩:=I.pin p hp
      refine⟨(hs.2 p.1 ?_).trans e,n,ne,nf,d⟩
      intro q
      rw[q,hoc] at e
      have q':oc=p.2:=Option.some.inj e
      exact d w' (by rw[←q'];exact hocd)
theorem store_ok {M:Model}{A:Around}{E:Value→Shared→Prop}{i:Nat}{x:Str}{v:V}{u:Value}{Q:Unit→Shared→Prop} (I:Inv X pins σ H s) (hN:X.N.Nodup) (hi:X.N[i]?=some x) (hx:Loc X.env.scope x) (r:RelV v u)
    (h:∀ s',Inv X pins (σ.set i (some v)) H s'→Q () s') (hf:X.fn x=true∨X.env.scope.names.lookup x=some .local:=by first | exact .inl rfl | exact .inr rfl | assumption):wpAny M A (storeName X.env x u) Q E s :=
  store_ok2 I hN hi hx r (fun s' I' _=>h s' I') hf
theorem Inv.call' {s':Shared}{ch:List Addr} (I:Inv X pins σ H s) (ho:s'.os=s.os) (u:Un (frs X.stack) ch H H' s.heap s'.heap) (hok:HOk X.prog X.w H' s'.heap) (hg:AllBare s'.gens)
    (hch:∀ b∈ch,(b∈X.ex∨X.s_0.heap.objs.size≤b)∧b≠X.env.locals∧(∀ x c,X.env.cells.lookup x=some c→c≠b)∧∀ p∈X.pn++pins,p.1≠b):Inv X pins σ H' s':=by
  obtain⟨h',g',d',t',o'⟩:=s'
  have e:o'=s.os:=ho
  subst e
  exact I.call (g':=g') (t':=t') (d':=d') u hok hg hch
end

abbrev XK:=Value→Option Addr→Hp→Prop
abbrev St:=List (Option V)
abbrev VK:=V→Hp→Prop
abbrev TE:=St→Hp→VK→Prop
abbrev TT:=St→Hp→(Bool→Hp→Prop)→Prop
abbrev TA:=St→Hp→(List V→Hp→Prop)→Prop
structure Ends where
  nx:St→Hp→Prop
  rt:VK
  bk:St→Hp→Prop:=fun _ _=>False
  ct:St→Hp→Prop:=fun _ _=>False
abbrev TS:=Ends→St→Hp→Prop

def EP (X:Cx) (pins:List (Addr×Obj)) (σ:St) (Q:VK) (u:Value) (s':Shared):Prop:=∃ v H',Inv X pins σ H' s'∧RelV v u∧Q v H'
def TP (X:Cx) (pins:List (Addr×Obj)) (σ:St) (Q:Bool→Hp→Prop) (b:Bool) (s':Shared):Prop:=∃ H',Inv X pins σ H' s'∧Q b H'
def AP (X:Cx) (pins:List (Addr×Obj)) (σ:St) (Q:List V→Hp→Prop) (us:List Value) (s':Shared):Prop:=∃ vs H',Inv X pins σ H' s'∧Vals vs us∧Q vs H'
def SP (X:Cx) (pins:List (Addr×Obj)) (D:Ends) (f:Flow) (s':Shared):Prop :=
  match f with
  | .next=>∃ σ' H',Inv X pins σ' H' s'∧D.nx σ' H'
  | .brk=>∃ σ' H',Inv X pins σ' H' s'∧D.bk σ' H'
  | .cont=>∃ σ' H',Inv X pins σ' H' s'∧D.ct σ' H'
  | .ret u=>∃ v σ' H',Inv X pins σ' H' s'∧RelV v u∧D.rt v H'

def PE (X:Cx) (e:Expr) (t:TE):Prop :=
  ∀ (pins:List (Addr×Obj)) (s:Shared) (σ:St) (H:Hp) (Q:VK),Inv X pins σ H s→t σ H Q→wpAny (model X.prog X.w) X.A (eval e X.env) (EP X pins σ Q) X.xe s
def PT (X:Cx) (e:Expr) (t:TT):Prop :=
  ∀ (pins:List (Addr×Obj)) (s:Shared) (σ:St) (H:Hp) (Q:Bool→Hp→Prop),Inv X pins σ H s→t σ H Q→wpAny (model X.prog X.w) X.A (isTrue e X.env (eval e X.env)) (TP X pins σ Q) X.xe s
def PW (X:Cx) (e:Expr) (t:TT):Prop :=
  ∀ (whole:Sem Value) (pins:List (Addr×Obj)) (s:Shared) (σ:St) (H:Hp) (Q:Bool→Hp→Prop),Inv X pins σ H s→t σ H Q→wpAny (model X.prog X.w) X.A (isTrue e X.env whole) (TP X pins σ Q) X.xe s
theorem PW.pt {X:Cx}{e:Expr}{t:TT} (h:PW X e t):PT X e t:=h _
def PA (X:Cx) (es:List Expr) (t:TA):Prop :=
  ∀ (pos:Pos) (pins:List (Addr×Obj)) (s:Shared) (σ:St) (H:Hp) (Q:List V→Hp→Prop),Inv X pins σ H s→t σ H Q→wpAny (model X.prog X.w) X.A (spliced (backTo pos (starEach es X.env))) (AP X pins σ Q) X.xe s
def PS (X:Cx) (st:Stmt) (t:TS):Prop :=
  ∀ (pins:List (Addr×Obj)) (s:Shared) (σ:St) (H:Hp) (D:Ends),Inv X pins σ H s→t D σ H→wpAny (model X.prog X.w) X.A (exec st X.env) (SP X pins D) X.xe s
def PSs (X:Cx) (st:List Stmt) (t:TS):Prop :=
  ∀ (pins:List (Addr×Obj)) (s:Shared) (σ:St) (H:Hp) (D:Ends),Inv X pins σ H s→t D σ H→wpAny (model X.prog X.w) X.A (execs st X.env) (SP X pins D) X.xe s
theorem thn {α:Type}{t:Sem α}{Q Q':α→Shared→Prop}{M:Model}{A:Around}{E:Value→Shared→Prop}{s:Shared} (h:wpAny M A t Q E s) (hQ:∀ a s,Q a s→Q' a s):wpAny M A t Q' E s:=wpAny_mono h hQ fun _ _ x=>x
end L2

namespace L2
open PySem PySem.Spec PyProof.Rows
section
variable {X:Cx}

theorem bin {a b:Expr}{ta tb:TE} (ha:PE X a ta) (hb:PE X b tb) {pins:List (Addr×Obj)}{s:Shared}{σ:St}{H:Hp}{R:V→V→Hp→Prop} (I:Inv X pins σ H s) (h:ta σ H fun x H1=>tb σ H1 fun y H2=>R x y H2)
    {α:Type}{Q:α→Shared→Prop}{f:Value→Value→Sem α}
    (hf:∀ v u s2 x y H2,Inv X pins σ H2 s2→RelV x v→RelV y u→R x y H2→wpAny (model X.prog X.w) X.A (f v u) Q X.xe s2) :
    wpAny (model X.prog X.w) X.A (eval a X.env) (fun v s₁=>wpAny (model X.prog X.w) X.A (eval b X.env) (fun u s₂=>wpAny (model X.prog X.w) X.A (f v u) Q X.xe s₂) X.xe s₁) X.xe s:=by
  refine thn (ha pins s σ H _ I h) fun v s1 ⟨x,H1,I1,r1,q1⟩=>?_
  refine thn (hb pins s1 σ H1 _ I1 q1) fun u s2 ⟨y,H2,I2,r2,q2⟩=>?_
  exact hf v u s2 x y H2 I2 r1 r2 q2

def tVar (i:Nat):TE:=fun σ H Q=>∃ v,σ[i]?=some (some v)∧Q v H
def tC (v:V):TE:=fun _ H Q=>Q v H
theorem pe_var {i:Nat}{x:Str}{pos:Pos} (hN:X.N[i]?=some x) (hv:Vis X.env.scope x) (hd:(x == ("__debug__":Str))=false:=by decide) (hcd:(x == ("__classdict__":Str))=false:=by decide):PE X (.Name x pos) (tVar i):=by
  intro pins s σ H Q I h
  obtain⟨v,e,h⟩:=h
  obtain⟨m,hn,hl⟩:=I.loc
  obtain⟨u,r,l⟩:=hl i x v hN e hv
  have fin:EP X pins σ Q u s:=⟨v,H,I,r,h⟩
  rcases l with⟨hk,hm⟩ | ⟨hk,c,hc,hcell⟩
  · exact wpAny_Name (wpAny_loadName_local I.ok.kind hk hn hm fin) hd
  · rcases hk with hk | hk
    · exact wpAny_Name (wpAny_loadName_cell I.ok.kind hk hc hcell fin) hd
    · exact wpAny_Name (wpAny_loadName_free I.ok.kind hk hc hcell fin hcd) hd
theorem pe_int {i j pos}:PE X (.Constant (.int i) j pos) (tC (.int i)):=fun _ _ _ H _ I h=>wpAny_Constant_int ⟨.int i,H,I.tok _,⟨_,rfl⟩,h⟩
theorem pe_bl {b j pos}:PE X (.Constant (.bool b) j pos) (tC (.bl b)):=fun _ _ _ H _ I h=>Constant_bool ⟨.bl b,H,I,rfl,h⟩
theorem pe_non {j pos}:PE X (.Constant .none j pos) (tC .non):=fun _ _ _ H _ I h=>Constant_none ⟨.non,H,I,rfl,h⟩
theorem pe_str {x j pos}:PE X (.Constant (.str x) j pos) (tC (.str x)):=fun _ _ _ H _ I h=>Calls.Constant_str ⟨.str x,H,I.tok _,⟨_,rfl⟩,h⟩

def Gl (X:Cx) (x:Str):Prop:=X.env.kindOf x=some .globalImplicit
theorem ld_glob {E:Value→Shared→Prop}{pins:List (Addr×Obj)}{s:Shared}{σ:St}{H:Hp}{x:Str}{u:Value}{pos:Pos}{Q:Value→Shared→Prop} (I:Inv X pins σ H s) (hg:Gl X x) (hm:X.mg x=some u) (h:Q u s)
    (hd:(x == ("__debug__":Str))=false:=by decide):wpAny (model X.prog X.w) X.A (eval (.Name x pos) X.env) Q E s :=
  Calls.Name_function_global I.ok.kind hg (Calls.loadGlobal_global (by rw[I.ok.glob];exact I.mod.glob.keeps I.bk) hm h) hd
theorem ld_blt {E:Value→Shared→Prop}{pins:List (Addr×Obj)}{s:Shared}{σ:St}{H:Hp}{x:Str}{u:Value}{pos:Pos}{Q:Value→Shared→Prop} (I:Inv X pins σ H s) (hg:Gl X x) (hm:X.mg x=none) (hv:bootBuiltins x=some u) (h:Q u s)
    (hn:x≠"__name__":=by decide) (hd:(x == ("__debug__":Str))=false:=by decide):wpAny (model X.prog X.w) X.A (eval (.Name x pos) X.env) Q E s:=by
  obtain⟨mb,h1,h2⟩:=I.mod.blt
  exact Calls.Name_function_global I.ok.kind hg (Calls.loadGlobal_builtin (by rw[I.ok.glob];exact I.mod.glob.keeps I.bk) hm (by rw[I.ok.blt];exact h1.keeps I.bk) ((h2 x hn).trans hv) h) hd
theorem pe_glob {x:Str}{v:V}{u:Value}{pos:Pos} (hg:Gl X x) (hm:X.mg x=some u) (r:RelV v u) (hd:(x == ("__debug__":Str))=false:=by decide):PE X (.Name x pos) (tC v) :=
  fun _ _ _ H _ I h=>ld_glob I hg hm ⟨v,H,I,r,h⟩ hd

variable {a b:Expr}{ta tb:TE}{pos:Pos}

def PC (X:Cx) (op:CmpOp) (a b:Expr) (t:TE):Prop :=
  ∀ (pins:List (Addr×Obj)) (s:Shared) (σ:St) (H:Hp) (Q:VK),Inv X pins σ H s→t σ H Q →
    wpAny (model X.prog X.w) X.A (eval a X.env) (fun v s₁=>wpAny (model X.prog X.w) X.A (eval b X.env) (fun u s₂=>wpAny (model X.prog X.w) X.A (compareOp op v u) (EP X pins σ Q) X.xe s₂) X.xe s₁) X.xe s
theorem nobehind (b:Expr) {op:CmpOp} (h:op≠.In) (h2:op≠.NotIn):behindInMarks op b=false:=by
  have e1:(op == CmpOp.In)=false:=by cases op <;> first | rfl | exact absurd rfl h
  have e2:(op == CmpOp.NotIn)=false:=by cases op <;> first | rfl | exact absurd rfl h2
  cases b <;> simp[behindInMarks,e1,e2]
def tIsN (ta:TE):TE:=fun σ H Q=>ta σ H fun x H1=>Q (.bl (decide (x=.non))) H1
theorem RelV.none_iff {x:V}{v:Value} (r:RelV x v):(v == Value.none)=decide (x=.non):=by
  cases x with
  | non=>cases r;rfl
  | bl _=>cases r;rfl
  | int _=>obtain⟨t,rfl⟩:=r;rfl
  | str _=>obtain⟨t,rfl⟩:=r;rfl
  | byt _=>obtain⟨t,rfl⟩:=r;rfl
  | flt _=>obtain⟨t,rfl⟩:=r;rfl
  | ref _=>cases r;rfl
  | ty _=>cases r;rfl
theorem pc_isN {j pos'} (ha:PE X a ta):PC X .Is a (.Constant .none j pos') (tIsN ta):=by
  intro pins s σ H Q I h
  refine thn (ha pins s σ H _ I h) fun v s1 ⟨x,H1,I1,r1,q1⟩=>?_
  exact Constant_none (is_none_gen ⟨.bl _,H1,I1,by rw[r1.none_iff];rfl,q1⟩)
def tB (t:TE):TT:=fun σ H Q=>t σ H fun x H1=>∃ c,x=.bl c∧Q c H1
theorem pt_cmp {op:CmpOp}{t:TE} (h:PC X op a b t) (h1:behindInMarks op b=false:=by first | exact nobehind _ (by decide) (by decide) | rfl):PT X (.Compare a [op] [b] pos) (tB t):=by
  intro pins s σ H Q I hw
  refine wpAny_isTrue_Compare1 (thn (h pins s σ H _ I hw) fun v s1 h1=>thn h1 fun u s2 h2=>thn h2 fun c s3 ⟨x,H1,I1,r1,q1⟩=>?_) h1
  obtain⟨d,rfl,q⟩:=q1
  cases r1
  exact wpAny_truthy_bool ⟨H1,I1,q⟩
theorem pt_val {e:Expr}{t:TE} (h:PE X e t) (he:∀ whole,isTrue e X.env whole=(do let v ←whole;standAt e.pos;holding [v] (truthy v)):=by intro _;rfl):PT X e (tB t):=by
  intro pins s σ H Q I hw
  refine isTrue_plain (thn (h pins s σ H _ I hw) fun v s1 ⟨x,H1,I1,r1,q1⟩=>?_) (he _)
  obtain⟨d,rfl,q⟩:=q1
  cases r1
  exact wpAny_truthy_bool ⟨H1,I1,q⟩

variable {tA tB':TT}{rest:List Expr}
def tAnd (t u:TT):TT:=fun σ H Q=>t σ H fun c H1=>if c=true then u σ H1 Q else Q false H1
def tOr (t u:TT):TT:=fun σ H Q=>t σ H fun c H1=>if c=true then Q true H1 else u σ H1 Q
def tNot (t:TT):TT:=fun σ H Q=>t σ H fun c H1=>Q (!c) H1
theorem pw_and1 (ha:PT X a tA):PW X (.BoolOp .And [a] pos) tA:=by
  intro wh pins s σ H Q I h
  refine isTrue_and (thn (ha pins s σ H Q I h) fun c s1 e=>?_)
  cases c with
  | true=>exact isTrue_and_nil e
  | false=>exact e
theorem pw_or1 (ha:PT X a tA):PW X (.BoolOp .Or [a] pos) tA:=by
  intro wh pins s σ H Q I h
  refine isTrue_or (thn (ha pins s σ H Q I h) fun c s1 e=>?_)
  cases c with
  | false=>exact isTrue_or_nil e
  | true=>exact e
theorem pw_and (ha:PT X a tA) (hb:PW X (.BoolOp .And (b::rest) pos) tB'):PW X (.BoolOp .And (a::b::rest) pos) (tAnd tA tB'):=by
  intro wh pins s σ H Q I h
  refine isTrue_and (thn (ha pins s σ H _ I h) fun c s1 ⟨H1,I1,q1⟩=>?_)
  cases c with
  | true=>exact hb wh pins s1 σ H1 Q I1 q1
  | false=>exact⟨H1,I1,q1⟩
theorem pw_or (ha:PT X a tA) (hb:PW X (.BoolOp .Or (b::rest) pos) tB'):PW X (.BoolOp .Or (a::b::rest) pos) (tOr tA tB'):=by
  intro wh pins s σ H Q I h
  refine isTrue_or (thn (ha pins s σ H _ I h) fun c s1 ⟨H1,I1,q1⟩=>?_)
  cases c with
  | true=>exact⟨H1,I1,q1⟩
  | false=>exact hb wh pins s1 σ H1 Q I1 q1
theorem pt_not (ha:PT X a tA):PT X (.UnaryOp .Not a pos) (tNot tA):=by
  intro pins s σ H Q I h
  exact isTrue_not (ha pins s σ H (fun c H1=>Q (!c) H1) I h)
def tAndV (ta tb:TE):TE:=fun σ H Q=>ta σ H fun x H1=>∃ c,x=.bl c∧if c=true then tb σ H1 Q else Q (.bl false) H1
def tNotV (ta:TE):TE:=fun σ H Q=>ta σ H fun x H1=>∃ c,x=.bl c∧Q (.bl (!c)) H1
theorem pe_one {op}{t:TE} (h:PE X a t):PE X (.BoolOp op [a] pos) t:=fun pins s σ H Q I hw=>BoolOp_one (h pins s σ H Q I hw)
theorem pe_and (ha:PE X a ta) (hb:PE X (.BoolOp .And (b::rest) pos) tb):PE X (.BoolOp .And (a::b::rest) pos) (tAndV ta tb):=by
  intro pins s σ H Q I h
  refine BoolOp_and (thn (ha pins s σ H _ I h) fun v s1 ⟨x,H1,I1,r1,q1⟩=>?_)
  obtain⟨c,rfl,q1⟩:=q1
  cases r1
  refine wpAny_truthy_bool ?_
  cases c with
  | true=>exact hb pins s1 σ H1 Q I1 q1
  | false=>exact⟨.bl false,H1,I1,rfl,q1⟩
theorem pe_not (ha:PE X a ta):PE X (.UnaryOp .Not a pos) (tNotV ta):=by
  intro pins s σ H Q I h
  refine UnaryOp_ (thn (ha pins s σ H _ I h) fun v s1 ⟨x,H1,I1,r1,q1⟩=>?_)
  obtain⟨c,rfl,q1⟩:=q1
  cases r1
  exact not_of (wpAny_truthy_bool ⟨.bl (!c),H1,I1,rfl,q1⟩)
def tIf (t:TT) (ta tb:TE):TE:=fun σ H Q=>t σ H fun c H1=>if c=true then ta σ H1 Q else tb σ H1 Q
theorem pe_ifExp {c:Expr} (hc:PT X c tA) (ha:PE X a ta) (hb:PE X b tb):PE X (.IfExp c a b pos) (tIf tA ta tb):=by
  intro pins s σ H Q I h
  refine wpAny_IfExp (thn (hc pins s σ H _ I h) fun d s1 ⟨H1,I1,q1⟩=>?_)
  cases d with
  | true=>exact ha pins s1 σ H1 Q I1 q1
  | false=>exact hb pins s1 σ H1 Q I1 q1
end
end L2

namespace L2
open PySem PySem.Spec PyProof.Rows

def SqL (K:PySem.W.Frag) (H:Hp) (a:Addr) (xs:List V):Prop :=
  Rd H a (.lst xs) ∨
    ∃ (o:Obj) (its:Array Value) (n:Nat),K.lookup a=some o∧o.cls=.type "list"∧o.dict=none∧o.data=.seq its n∧its.size≤sizeLine∧Vals xs its.toList
def SqT (K:PySem.W.Frag) (H:Hp) (a:Addr) (xs:List V):Prop :=
  Rd H a (.tup xs) ∨
    ∃ (o:Obj) (its:Array Value) (n:Nat),K.lookup a=some o∧o.cls=.type "tuple"∧o.data=.seq its n∧its.size≤sizeLine∧Vals xs its.toList
def absV:Value→Option V
  | .none=>some .non
  | .bool b=>some (.bl b)
  | .int i _=>some (.int i)
  | .str x _=>some (.str x)
  | .bytes b _=>some (.byt b)
  | .float b _=>some (.flt b)
  | .ref a=>some (.ref a)
  | .type n=>some (.ty n)
  | _=>none
theorem RelV.abs {x:V}{u:Value} (r:RelV x u):absV u=some x:=by
  cases x with
  | non=>cases r;rfl
  | bl _=>cases r;rfl
  | int _=>obtain⟨t,rfl⟩:=r;rfl
  | str _=>obtain⟨t,rfl⟩:=r;rfl
  | byt _=>obtain⟨t,rfl⟩:=r;rfl
  | flt _=>obtain⟨t,rfl⟩:=r;rfl
  | ref _=>cases r;rfl
  | ty _=>cases r;rfl
theorem RelV.inj {x y:V}{u:Value} (r:RelV x u) (q:RelV y u):x=y:=Option.some.inj (r.abs.symm.trans q.abs)
theorem Vals.inj:∀ {xs ys:List V}{us:List Value},Vals xs us→Vals ys us→xs=ys
  | _,_,_,.nil,.nil=>rfl
  | _,_,_,.cons r t,.cons r' t'=>by rw[r.inj r',Vals.inj t t']
section
variable {X:Cx}{pins:List (Addr×Obj)}{σ:St}{H:Hp}{s:Shared}{a:Addr}{xs ys:List V}
theorem SqL.of {K:PySem.W.Frag} (h:H a=some (.lst xs)):SqL K H a xs:=.inl (.inl h)
theorem SqT.of {K:PySem.W.Frag} (h:H a=some (.tup xs)):SqT K H a xs:=.inl (.inl h)
theorem Inv.list (I:Inv X pins σ H s) (h:SqL X.K H a xs):∃ its:List Value,Vals xs its∧PlainL s.heap a its.toArray∧xs.length≤sizeLine:=by
  rcases h with h | ⟨o,its,n,hk,hc,hd,hs,hz,r⟩
  · obtain⟨z,its,n,r,e⟩:=h.ok I.hok
    exact⟨its,r,⟨_,n,e,rfl,rfl,rfl⟩,z⟩
  · refine⟨its.toList,r,⟨o,n,I.kIn a o hk,hc,hd,by simpa using hs⟩,?_⟩
    have e:=r.length
    simp only[Array.length_toList] at e
    lia
theorem Inv.tuple (I:Inv X pins σ H s) (h:SqT X.K H a xs):∃ its:List Value,Vals xs its∧IsTup s.heap a its.toArray∧xs.length≤sizeLine:=by
  rcases h with h | ⟨o,its,n,hk,hc,hs,hz,r⟩
  · obtain⟨z,its,r,p⟩:=h.ok I.hok
    exact⟨its,r,p,z⟩
  · refine⟨its.toList,r,⟨o,I.kIn a o hk,hc,n,by simpa using hs⟩,?_⟩
    have e:=r.length
    simp only[Array.length_toList] at e
    lia
theorem Inv.list_inj (I:Inv X pins σ H s) (h:SqL X.K H a xs) (h':SqL X.K H a ys):xs=ys:=by
  obtain⟨its,r,⟨o,n,e,_,_,d⟩,_⟩:=I.list h
  obtain⟨its',r',⟨o',n',e',_,_,d'⟩,_⟩:=I.list h'
  rw[e] at e';cases e'
  rw[d] at d'
  injection d' with d1 _
  have:its=its':=by simpa using congrArg Array.toList d1
  subst this
  exact r.inj r'
end

abbrev Cx.wish (X:Cx) (E:Value→Shared→Prop):Cx:={ X with xe:=E }
abbrev Cx.nox (X:Cx):Cx:=X.wish fun _ _=>False
theorem Cx.Ok.wish {X:Cx} (ok:X.Ok) (E:Value→Shared→Prop):(X.wish E).Ok :=
  ⟨ok.mod,ok.kind,ok.glob,ok.blt,ok.above,ok.inj,ok.has,ok.cab,ok.hd,ok.frames,ok.stk,ok.exf,ok.bs,ok.bsz,ok.noex,ok.exfs,ok.funs,ok.frf⟩
theorem Cx.Ok.unwish {X:Cx}{E:Value→Shared→Prop} (ok:(X.wish E).Ok):X.Ok :=
  ⟨ok.mod,ok.kind,ok.glob,ok.blt,ok.above,ok.inj,ok.has,ok.cab,ok.hd,ok.frames,ok.stk,ok.exf,ok.bs,ok.bsz,ok.noex,ok.exfs,ok.funs,ok.frf⟩
section
variable {X:Cx}{pins:List (Addr×Obj)}{σ:St}{H:Hp}{s:Shared}{E:Value→Shared→Prop}
theorem Inv.wish (I:Inv X pins σ H s) (E:Value→Shared→Prop):Inv (X.wish E) pins σ H s:=⟨I.ok.wish E,I.os,I.bare,I.base,I.loc,I.cell,I.free,I.freeC,I.pin,I.hok,I.len⟩
theorem Inv.unwish (I:Inv (X.wish E) pins σ H s):Inv X pins σ H s:=⟨I.ok.unwish,I.os,I.bare,I.base,I.loc,I.cell,I.free,I.freeC,I.pin,I.hok,I.len⟩
theorem SP.unwish {D:Ends}{f:Flow}{s':Shared} (h:SP (X.wish E) pins D f s'):SP X pins D f s':=by
  cases f with
  | next=>obtain⟨σ',H',I,q⟩:=h;exact⟨σ',H',I.unwish,q⟩
  | brk=>obtain⟨σ',H',I,q⟩:=h;exact⟨σ',H',I.unwish,q⟩
  | cont=>obtain⟨σ',H',I,q⟩:=h;exact⟨σ',H',I.unwish,q⟩
  | ret u=>obtain⟨v,σ',H',I,r,q⟩:=h;exact⟨v,σ',H',I.unwish,r,q⟩
theorem PSs.nox {st:List Stmt}{t:TS} (h:PSs X.nox st t):PSs X st t:=fun pins s σ H D I hw =>
  wpAny_mono (h pins s σ H D (I.wish _) hw) (fun _ _ q=>q.unwish) fun _ _ z=>False.elim z
end

section
variable {X:Cx}{st:Stmt}{rest:List Stmt}{t u:TS}{e:Expr}{te:TE}{pos:Pos}
def tNext:TS:=fun D σ H=>D.nx σ H
def tSeq (t u:TS):TS:=fun D σ H=>t { D with nx:=u D } σ H
theorem pss_nil:PSs X [] tNext:=fun _ _ σ H _ I h=>wpAny_execs_nil ⟨σ,H,I,h⟩
theorem pss_cons (h1:PS X st t) (h2:PSs X rest u):PSs X (st::rest) (tSeq t u):=by
  intro pins s σ H D I h
  refine wpAny_execs_cons (thn (h1 pins s σ H { D with nx:=u D } I h) fun f s1 q=>?_)
  cases f with
  | next =>
    obtain⟨σ',H',I',q⟩:=q
    exact h2 pins s1 σ' H' D I' q
  | ret v=>exact q
  | brk=>exact q
  | cont=>exact q
theorem pss_one (h1:PS X st t):PSs X [st] t:=by
  intro pins s σ H D I h
  refine wpAny_execs_cons (thn (h1 pins s σ H D I h) fun f s1 q=>?_)
  cases f with
  | next=>exact wpAny_execs_nil q
  | ret v=>exact q
  | brk=>exact q
  | cont=>exact q
def tCont:TS:=fun D σ H=>D.ct σ H
theorem ps_continue:PS X (.Continue pos) tCont:=fun _ _ σ H _ I h=>wpAny_Continue ⟨σ,H,I,h⟩
theorem Inv.quiet {pins:List (Addr×Obj)}{σ:St}{H:Hp}{s:Shared} (I:Inv X pins σ H s):interactive X.env=false:=by simp[interactive,I.ok.kind]
def tDrop (te:TE):TS:=fun D σ H=>te σ H fun _ H1=>D.nx σ H1
theorem ps_expr (he:PE X e te) (hs:swapsWith e none pos.line X.env=pure false:=by rfl):PS X (.Expr e pos) (tDrop te):=by
  intro pins s σ H D I h
  exact wpAny_Expr_any (thn (he pins s σ H _ I h) fun v s1 ⟨x,H1,I1,r1,q1⟩=>⟨σ,H1,I1,q1⟩) I.quiet hs
def tRet (te:TE):TS:=fun D σ H=>te σ H D.rt
theorem ps_ret (he:PE X e te):PS X (.Return (some e) pos) (tRet te):=by
  intro pins s σ H D I h
  exact wpAny_Return_some (thn (he pins s σ H _ I h) fun v s1 ⟨x,H1,I1,r1,q1⟩=>⟨x,σ,H1,I1,r1,q1⟩)
def tIfS (c:TT) (t u:TS):TS:=fun D σ H=>c σ H fun b H1=>if b=true then t D σ H1 else u D σ H1
theorem ps_if {c:Expr}{a b:List Stmt}{tc:TT} (hc:PT X c tc) (ha:PSs X a t) (hb:PSs X b u):PS X (.If c a b pos) (tIfS tc t u):=by
  intro pins s σ H D I h
  refine wpAny_If (thn (hc pins s σ H _ I h) fun d s1 ⟨H1,I1,q1⟩=>?_)
  cases d with
  | true=>exact ha pins s1 σ H1 D I1 q1
  | false=>exact hb pins s1 σ H1 D I1 q1
end

abbrev TG:=V→St→Hp→(St→Hp→Prop)→Prop
abbrev TGs:=List V→St→Hp→(St→Hp→Prop)→Prop
def PG (X:Cx) (target:Expr) (t:TG):Prop :=
  ∀ (pins:List (Addr×Obj)) (s:Shared) (σ:St) (H:Hp) (v:V) (u:Value) (Q:St→Hp→Prop),Inv X pins σ H s→RelV v u→t v σ H Q →
    wpAny (model X.prog X.w) X.A (assign target X.env u) (fun _ s'=>∃ σ' H',Inv X pins σ' H' s'∧Q σ' H') X.xe s
def PGs (X:Cx) (ts:List Expr) (t:TGs):Prop :=
  ∀ (pins:List (Addr×Obj)) (s:Shared) (σ:St) (H:Hp) (vs:List V) (us:List Value) (Q:St→Hp→Prop),Inv X pins σ H s→Vals vs us→t vs σ H Q →
    wpAny (model X.prog X.w) X.A (assignInOrder ((assignEach ts X.env).map (·.2)) us) (fun _ s'=>∃ σ' H',Inv X pins σ' H' s'∧Q σ' H') X.xe s
abbrev TSet:=V→V→V→Hp→(Hp→Prop)→Prop
def PSet (X:Cx) (t:TSet):Prop :=
  ∀ (pins:List (Addr×Obj)) (s:Shared) (σ:St) (H:Hp) (o i v:V) (ov iv u:Value) (Q:Hp→Prop),Inv X pins σ H s→RelV o ov→RelV i iv→RelV v u→t o i v H Q →
    wpAny (model X.prog X.w) X.A (setItem ov iv u) (fun _ s'=>∃ H',Inv X pins σ H' s'∧Q H') X.xe s
abbrev TIp:=V→V→Hp→VK→Prop
def PIp (X:Cx) (op:Operator) (t:TIp):Prop :=
  ∀ (pins:List (Addr×Obj)) (s:Shared) (σ:St) (H:Hp) (x y:V) (v u:Value) (Q:VK),Inv X pins σ H s→RelV x v→RelV y u→t x y H Q →
    wpAny (model X.prog X.w) X.A (inplaceOp op v u) (EP X pins σ Q) X.xe s
section
variable {X:Cx}{pos:Pos}
def gName (i:Nat):TG:=fun v σ H Q=>Q (σ.set i (some v)) H
theorem pg_name {i:Nat}{x:Str} (hN:X.N.Nodup) (hi:X.N[i]?=some x) (hx:Loc X.env.scope x) (hf:X.fn x=true∨X.env.scope.names.lookup x=some .local:=by first | exact .inl rfl | exact .inr rfl | assumption):PG X (.Name x pos) (gName i):=by
  intro pins s σ H v u Q I r h
  exact wpAny_assign_Name (store_ok I hN hi hx r (fun s' I'=>⟨_,H,I',h⟩) hf)
def gNil:TGs:=fun vs σ H Q=>vs=[]∧Q σ H
def gCons (t:TG) (u:TGs):TGs:=fun vs σ H Q=>∃ v r,vs=v::r∧t v σ H fun σ' H'=>u r σ' H' Q
theorem pgs_nil:PGs X [] gNil:=by
  intro pins s σ H vs us Q I r h
  obtain⟨e,h⟩:=h
  subst e
  cases r
  exact assignInOrder_nil ⟨σ,H,I,h⟩
theorem pgs_cons {e:Expr}{es:List Expr}{t:TG}{u:TGs} (h1:PG X e t) (h2:PGs X es u)
    (hs:(assignEach (e::es) X.env).map (·.2)=assign e X.env::(assignEach es X.env).map (·.2):=by rfl):PGs X (e::es) (gCons t u):=by
  intro pins s σ H vs us Q I r h
  obtain⟨v,vr,e1,h⟩:=h
  subst e1
  cases r with
  | cons r rr =>
    rw[hs]
    refine assignInOrder_cons (thn (h1 pins s σ H _ _ _ I r h) fun _ s1 ⟨σ1,H1,I1,q1⟩=>?_)
    exact h2 pins s1 σ1 H1 _ _ Q I1 rr q1
def gTup (K:PySem.W.Frag) (n:Nat) (t:TGs):TG:=fun v σ H Q=>∃ a xs,v=.ref a∧SqT K H a xs∧xs.length=n∧t xs σ H Q
theorem pg_tup {es:List Expr}{k:Nat}{t:TGs}{n:Nat} (hc:X.calm=true) (h:PGs X es t)
    (hn:(assignEach es X.env).length=n:=by rfl) (hst:(assignEach es X.env).findIdx? (·.1)=none:=by rfl):PG X (.Tuple es k pos) (gTup X.K n t):=by
  intro pins s σ H v u Q I r hw
  obtain⟨a,xs,e1,hq,hl,hw⟩:=hw
  subst e1
  cases r
  obtain⟨its,rv,ht,hz⟩:=I.tuple hq
  refine assign_Tuple_tuple (I.ok.hd hc) ht (by simp[hn,←hl,rv.length]) hst fun h' hx=>?_
  have I1:Inv X pins σ H { s with heap:=h' }:=I.kept (t':=s.toks) fun b o e=>hx b o (Nat.ne_of_lt (Heap.lt_size e)) e
  exact h pins _ σ H xs _ Q I1 (by simpa using rv) hw
def tAsg (te:TE) (g:TG):TS:=fun D σ H=>te σ H fun x H1=>g x σ H1 D.nx
theorem ps_set {i:Nat}{x:Str}{e:Expr}{te:TE}{pos':Pos} (hN:X.N.Nodup) (hi:X.N[i]?=some x) (hx:Loc X.env.scope x) (he:PE X e te) (hs:swapsWith e (some (.Name x pos')) pos.line X.env=pure false:=by rfl) (hf:X.fn x=true∨X.env.scope.names.lookup x=some .local:=by first | exact .inl rfl | exact .inr rfl | assumption) :
    PS X (.Assign [.Name x pos'] e pos) (tAsg te (gName i)):=by
  intro pins s σ H D I h
  refine wpAny_Assign_Name (thn (he pins s σ H _ I h) fun v s1 ⟨y,H1,I1,r1,q1⟩=>?_) hs
  exact store_ok I1 hN hi hx r1 (fun s2 I2=>⟨_,H1,I2,q1⟩) hf
def tAug (i:Nat) (te:TE) (ti:TIp):TS:=fun D σ H=>∃ x,σ[i]?=some (some x)∧te σ H fun y H1=>ti x y H1 fun z H2=>D.nx (σ.set i (some z)) H2
theorem ps_aug {i:Nat}{x:Str}{e:Expr}{te:TE}{op:Operator}{ti:TIp}{pos':Pos} (hN:X.N.Nodup) (hi:X.N[i]?=some x) (hx:Loc X.env.scope x) (he:PE X e te) (ho:PIp X op ti) (hf:X.fn x=true∨X.env.scope.names.lookup x=some .local:=by first | exact .inl rfl | exact .inr rfl | assumption) :
    PS X (.AugAssign (.Name x pos') op e pos) (tAug i te ti):=by
  intro pins s σ H D I h
  obtain⟨v,e1,h⟩:=h
  obtain⟨m,hn,hl⟩:=I.loc
  have vis:Vis X.env.scope x:=by rcases hx with k | k;exact .inl k;exact .inr (.inl k)
  obtain⟨u,r,l⟩:=hl i x v hi e1 vis
  refine wpAny_AugAssign_Name ?_
  have go:wpAny (model X.prog X.w) X.A (eval e X.env) (fun w s₂=>wpAny (model X.prog X.w) X.A (inplaceOp op u w) (fun r s₃=>wpAny (model X.prog X.w) X.A (storeName X.env x r) (fun _=>SP X pins D .next) X.xe s₃) X.xe s₂) X.xe s:=by
    refine thn (he pins s σ H _ I h) fun w s1 ⟨y,H1,I1,r1,q1⟩=>?_
    refine thn (ho pins s1 σ H1 v y u w _ I1 r r1 q1) fun z s2 ⟨zv,H2,I2,r2,q2⟩=>?_
    exact store_ok I2 hN hi hx r2 (fun s3 I3=>⟨_,H2,I3,q2⟩) hf
  rcases l with⟨hk,hm⟩ | ⟨hk,c,hc,hcell⟩
  · exact wpAny_loadName_local I.ok.kind hk hn hm go
  · rcases hk with hk | hk
    · exact wpAny_loadName_cell I.ok.kind hk hc hcell go
    · rcases hx with k | k
      · have:X.env.scope.names.lookup x=some .free:=hk
        rw[k] at this;cases this
      · have:X.env.scope.names.lookup x=some .free:=hk
        rw[k] at this;cases this
def tAugS (to ti te:TE) (tget:V→V→Hp→VK→Prop) (tip:TIp) (tset:TSet):TS:=fun D σ H=>to σ H fun o H1=>ti σ H1 fun i H2=>tget o i H2 fun x H3=>te σ H3 fun y H4=>tip x y H4 fun z H5=>tset o i z H5 fun H6=>D.nx σ H6
def PGet (X:Cx) (t:V→V→Hp→VK→Prop):Prop :=
  ∀ (pins:List (Addr×Obj)) (s:Shared) (σ:St) (H:Hp) (o i:V) (ov iv:Value) (Q:VK),Inv X pins σ H s→RelV o ov→RelV i iv→t o i H Q →
    wpAny (model X.prog X.w) X.A (getItem ov iv) (EP X pins σ Q) X.xe s
theorem ps_augS {o i e:Expr}{to ti te:TE}{tget:V→V→Hp→VK→Prop}{tip:TIp}{tset:TSet}{op:Operator}{tpos:Pos} (ho:PE X o to) (hi:PE X i ti) (hg:PGet X tget) (he:PE X e te) (hp:PIp X op tip) (hs:PSet X tset)
    (ha:∀ ov iv new,augStore i ov iv new=(do holding [new,ov,iv] (setItem ov iv new);release [new,ov,iv] [];pure .next):=by intros;rfl):PS X (.AugAssign (.Subscript o i tpos) op e pos) (tAugS to ti te tget tip tset):=by
  intro pins s σ H D I h
  refine wpAny_AugAssign_SubscriptAny (thn (ho pins s σ H _ I h) fun ov s1 ⟨x1,H1,I1,r1,q1⟩=>?_) ha
  refine thn (hi pins s1 σ H1 _ I1 q1) fun iv s2 ⟨x2,H2,I2,r2,q2⟩=>?_
  refine thn (hg pins s2 σ H2 x1 x2 ov iv _ I2 r1 r2 q2) fun old s3 ⟨x3,H3,I3,r3,q3⟩=>?_
  refine thn (he pins s3 σ H3 _ I3 q3) fun v s4 ⟨x4,H4,I4,r4,q4⟩=>?_
  refine thn (hp pins s4 σ H4 x3 x4 old v _ I4 r3 r4 q4) fun new s5 ⟨x5,H5,I5,r5,q5⟩=>?_
  exact thn (hs pins s5 σ H5 x1 x2 x5 ov iv new _ I5 r1 r2 r5 q5) fun _ s6 ⟨H6,I6,q6⟩=>⟨σ,H6,I6,q6⟩
def ipI (f:Int→Int→Int):TIp:=fun x y H Q=>∃ i j,x=.int i∧y=.int j∧Q (.int (f i j)) H
theorem ip_add:PIp X .Add (ipI fun i j=>i+j):=by
  intro pins s σ H x y v u Q I r1 r2 h
  obtain⟨i,j,e1,e2,q⟩:=h
  subst e1;subst e2
  obtain⟨t,rfl⟩:=r1
  obtain⟨t',rfl⟩:=r2
  exact iadd_int ⟨.int _,H,I.tok _,⟨_,rfl⟩,q⟩
theorem ip_sub:PIp X .Sub (ipI fun i j=>i-j):=by
  intro pins s σ H x y v u Q I r1 r2 h
  obtain⟨i,j,e1,e2,q⟩:=h
  subst e1;subst e2
  obtain⟨t,rfl⟩:=r1
  obtain⟨t',rfl⟩:=r2
  exact isub_int ⟨.int _,H,I.tok _,⟨_,rfl⟩,q⟩
end

section
variable {X:Cx}{pos:Pos}
def tWhile (c:TT) (tb:TS):TS:=fun D σ H=>∃ W:Nat→St→Hp→Prop,(∃ m,W m σ H)∧∀ m σ H,W m σ H →
  c σ H fun b H1=>if b=true then ∃ N:St→Hp→Prop,(∀ σ' H',N σ' H'→∃ m',m'<m∧W m' σ' H')∧tb { D with nx:=N,ct:=N,bk:=D.nx } σ H1 else D.nx σ H1
theorem ps_while {c:Expr}{body:List Stmt}{tc:TT}{tb:TS} (hp:PassesOwn (model X.prog X.w) X.A X.env X.xe) (hc:PT X c tc) (hb:PSs X body tb):PS X (.While c body [] pos) (tWhile tc tb):=by
  intro pins s σ H D I h
  obtain⟨W,⟨m0,w0⟩,turn⟩:=h
  refine wpAny_While (codeAny_whileLoop (fun n s'=>∃ σ' H',Inv X pins σ' H' s'∧W n σ' H') ?_ m0 ⟨σ,H,I,w0⟩)
  rintro n s1 ⟨σ1,H1,I1,w1⟩
  refine wpAny_passesOwn hp (thn (hc pins s1 σ1 H1 _ I1 (turn n σ1 H1 w1)) fun b s2 ⟨H2,I2,q2⟩=>?_)
  cases b with
  | true =>
    obtain⟨N,hN,q2⟩:=q2
    rw[if_pos rfl]
    refine wpAny_passesOwn hp (thn (hb pins s2 σ1 H2 _ I2 q2) fun f s3 q3=>?_)
    cases f with
    | next =>
      obtain⟨σ3,H3,I3,n3⟩:=q3
      obtain⟨m',hm,w3⟩:=hN σ3 H3 n3
      exact⟨m',hm,σ3,H3,I3,w3⟩
    | cont =>
      obtain⟨σ3,H3,I3,n3⟩:=q3
      obtain⟨m',hm,w3⟩:=hN σ3 H3 n3
      exact⟨m',hm,σ3,H3,I3,w3⟩
    | brk=>exact q3
    | ret v=>exact q3
  | false =>
    rw[if_neg Bool.false_ne_true]
    exact wpAny_execs_nil ⟨σ1,H2,I2,q2⟩
end

structure It where
  go:Nat→Hp→Prop
  yld:Nat→Hp→V→Hp→Prop
  stop:Nat→Hp→Prop
def FpOk (X:Cx) (pins:List (Addr×Obj)) (H:Hp) (b:Addr):Prop :=
  H b=none∧b≠X.env.locals∧b ∉ X.fs∧(b∈X.ex∨X.s_0.heap.objs.size≤b)∧(∀ x c,X.env.cells.lookup x=some c→c≠b)∧∀ p∈X.pn++pins,p.1≠b
theorem Inv.fpOk {X:Cx}{pins:List (Addr×Obj)}{σ:St}{H H':Hp}{s:Shared}{b:Addr} (I:Inv X pins σ H s) (hb:s.heap.objs.size≤b) (hn:H' b=none):FpOk X pins H' b:=by
  refine⟨hn,Nat.ne_of_gt (Nat.lt_of_lt_of_le I.lt hb),I.nofs hb,.inr (Nat.le_trans I.sz hb),fun x c e z=>?_,fun p hp z=>?_⟩
  · obtain⟨v,q⟩:=I.cell x c e
    exact absurd (Nat.lt_of_lt_of_le q.lt (by rw[z];exact hb)) (Nat.lt_irrefl _)
  · exact absurd (Nat.lt_of_lt_of_le (Heap.lt_size (I.pin p hp).1) (by rw[z];exact hb)) (Nat.lt_irrefl _)
structure Turn (P:Program) (w:World) (K:PySem.W.Frag) (tg:Expr) (J:It) (fp:List Addr) (it:Addr) (tn:Nat→Heap→Prop):Prop where
  mem:it∈fp
  obj:∀ i h,tn i h→∀ b∈fp,∃ o,h.get? b=some o∧∀ v,o.data≠.cell v
  keep:∀ i h h',tn i h→(∀ b∈fp,∀ o,h.get? b=some o→h'.get? b=some o)→tn i h'
  item:∀ (X:Cx),X.prog=P→X.w=w→X.K=K→X.calm=true→∀ (i:Nat) (pins:List (Addr×Obj)) (s:Shared) (σ:St) (H:Hp) (E:Value→Shared→Prop),Inv X pins σ H s→(∀ b∈fp,FpOk X pins H b)→tn i s.heap→J.go i H →
    wpAny (model P w) X.A (pyNext (.ref it)) (fun r s1=>∃ u,r=some u ∧
      wpAny (model P w) X.A (letOwnedTupleGo tg (.ref it) u) (fun _ s2=>∃ x H',Inv X pins σ H' s2∧RelV x u∧J.yld i H x H'∧tn (i+1) s2.heap∧∀ b∈fp,H' b=none) E s1) E s
  done:∀ (X:Cx),X.prog=P→X.w=w→X.K=K→X.calm=true→∀ (i:Nat) (pins:List (Addr×Obj)) (s:Shared) (σ:St) (H:Hp) (E:Value→Shared→Prop),Inv X pins σ H s→(∀ b∈fp,FpOk X pins H b)→tn i s.heap→J.stop i H →
    wpAny (model P w) X.A (pyNext (.ref it)) (fun r s1=>r=none∧Inv X pins σ H s1) E s
  self:∀ (A:Around) (i:Nat) (s:Shared) (Q:Value→Shared→Prop) (E:Value→Shared→Prop),tn i s.heap→Q (.ref it) s→wpAny (model P w) A (pyIter (.ref it)) Q E s
abbrev TI:=St→Hp→(It→Hp→Prop)→Prop
def PIE (X:Cx) (pins:List (Addr×Obj)) (σ:St) (tg:Expr) (R:It→Hp→Prop) (itv:Value) (s2:Shared):Prop :=
  ∃ (it:Addr) (fp:List Addr) (tn:Nat→Heap→Prop) (J:It) (H':Hp),itv=.ref it∧Inv X pins σ H' s2∧Turn X.prog X.w X.K tg J fp it tn∧tn 0 s2.heap∧(∀ b∈fp,FpOk X pins H' b)∧R J H'
def PI (X:Cx) (tg iter:Expr) (wi:TI):Prop :=
  ∀ (pins:List (Addr×Obj)) (s:Shared) (σ:St) (H:Hp) (R:It→Hp→Prop),Inv X pins σ H s→wi σ H R →
    wpAny (model X.prog X.w) X.A (eval iter X.env) (fun v s1=>wpAny (model X.prog X.w) X.A (pyIter v) (PIE X pins σ tg R) X.xe s1) X.xe s

theorem go_of {M:Model}{A:Around}{E:Value→Shared→Prop}{s:Shared}{tg:Expr}{it:Addr}{u:Value}{o:Obj}{n:String}{vs:Array Value}{Q:Unit→Shared→Prop} (ho:s.heap.get? it=some o) (hc:o.cls=.type n) (hd:o.data=.fields vs)
    (hn:["enumerate","zip","dict_itemiterator","dict_reverseitemiterator","odict_iterator","itertools.zip_longest","itertools.pairwise"].contains n=false) (hQ:Q () s):wpAny M A (letOwnedTupleGo tg (.ref it) u) Q E s:=by
  unfold letOwnedTupleGo
  cases tg <;> first
    | exact wpAny_pure hQ
    | (cases u <;> first
        | exact wpAny_pure hQ
        | (refine wpAny_bind (wpAny_load ho ?_)
           rw[hc,hd]
           show wpAny M A (if (["enumerate","zip","dict_itemiterator","dict_reverseitemiterator","odict_iterator","itertools.zip_longest","itertools.pairwise"].contains n && vs[0]? == some (rawInt _))=true then _ else _) Q E s
           rw[if_neg (by intro h;rw[hn,Bool.false_and] at h;cases h)]
           exact wpAny_pure hQ))

def Itl (K:PySem.W.Frag) (a:Addr):It :=
  ⟨fun i H=>∃ xs x,SqL K H a xs∧xs[i]?=some x,fun i H x H'=>H'=H∧∀ xs,SqL K H a xs→xs[i]?=some x,fun i H=>∃ xs,SqL K H a xs∧xs.length≤i⟩
def Itr (lo:Int) (n:Nat):It:=⟨fun i _=>i<n,fun i H x H'=>H'=H∧x=.int (lo+i),fun i _=>n≤i⟩
theorem turn_list {P:Program}{w:World}{K:PySem.W.Frag}{tg:Expr} (a it:Addr):Turn P w K tg (Itl K a) [it] it (fun i h=>h.IsListIter it a i) where
  mem:=by simp
  obj:=fun i h st b hb=>by
    have e:b=it:=by simpa using hb
    subst e
    obtain⟨o,e,c,d⟩:=st
    exact⟨o,e,fun v z=>by rw[d] at z;cases z⟩
  keep:=fun i h h' st k=>st.at fun o e=>k it (by simp) o e
  item:=by
    intro X hP hw hK hc i pins s σ H E I hf st hg
    subst hP hw hK
    obtain⟨xs,x,hq,hx⟩:=hg
    obtain⟨its,rv,p,hz⟩:=I.list hq
    obtain⟨u,hu,ru⟩:=rv.get hx
    obtain⟨f0,f1,f2,f3,f4,f5⟩:=hf it (by simp)
    refine wpAny_pyNext_list_item st p.isList (x:=u) (by simpa using hu) fun h' st' sb=>?_
    have I1:Inv X pins σ H { s with heap:=h' }:=I.turned (t':=s.toks) (fun b o hb e=>(sb.2 b hb).trans e) f0 f1 f3 f4 f5
    obtain⟨o,e,c,d⟩:=id st'
    exact⟨u,rfl,go_of (s:={ s with heap:=h' }) e c d (by decide) ⟨x,H,I1,ru,⟨rfl,fun ys hy=>by rw[I.list_inj hy hq];exact hx⟩,st',fun b hb=>(hf b hb).1⟩⟩
  done:=by
    intro X hP hw hK hc i pins s σ H E I hf st hg
    subst hP hw hK
    obtain⟨xs,hq,hx⟩:=hg
    obtain⟨its,rv,p,hz⟩:=I.list hq
    obtain⟨f0,f1,f2,f3,f4,f5⟩:=hf it (by simp)
    have hl:=rv.length
    exact wpAny_pyNext_list_end (I.ok.hd hc) st p.isList (by simp;lia) fun h' eb=>⟨rfl,I.turned (t':=s.toks) (fun b o hb e=>eb b o hb e) f0 f1 f3 f4 f5⟩
  self:=fun _ _ _ _ _ st h=>wpAny_pyIter_listiter st h
theorem turn_range {P:Program}{w:World}{K:PySem.W.Frag}{tg:Expr} (it:Addr) (lo:Int) (n:Nat):Turn P w K tg (Itr lo n) [it] it (fun i h=>IsRangeIter h it (lo+(i:Nat)*1) ((n:Int)-(i:Nat)) 1) where
  mem:=by simp
  obj:=fun i h st b hb=>by
    have e:b=it:=by simpa using hb
    subst e
    exact⟨_,st,fun v z=>by
      have z':Data.fields _=Data.cell v:=z
      cases z'⟩
  keep:=fun i h h' st k=>k it (by simp) _ st
  item:=by
    intro X hP hw hK hc i pins s σ H E I hf st hg
    subst hP hw hK
    obtain⟨f0,f1,f2,f3,f4,f5⟩:=hf it (by simp)
    have W:=Walks.range (prog:=X.prog) (w:=X.w) (I.ok.hd hc) it lo 1 n
    refine W.item i s _ _ hg st fun v h' tk hv st' kk=>?_
    obtain⟨t,rfl⟩:=hv
    have I1:Inv X pins σ H { s with heap:=h',toks:=tk }:=I.turned (fun b o hb e=>kk b o (by simpa using hb) e) f0 f1 f3 f4 f5
    refine⟨_,rfl,go_of (s:={ s with heap:=h',toks:=tk }) (n:="range_iterator") st' rfl rfl (by decide) ⟨.int (lo+i),H,I1,⟨t,?_⟩,⟨rfl,rfl⟩,st',fun b hb=>(hf b hb).1⟩⟩
    rw[Int.mul_one]
  done:=by
    intro X hP hw hK hc i pins s σ H E I hf st hg
    subst hP hw hK
    obtain⟨f0,f1,f2,f3,f4,f5⟩:=hf it (by simp)
    exact wpAny_pyNext_range_end (I.ok.hd hc) st (by have:n≤i:=hg;lia) fun h' eb=>⟨rfl,I.turned (t':=s.toks) (fun b o hb e=>eb b o hb e) f0 f1 f3 f4 f5⟩
  self:=fun _ _ _ _ _ st h=>wpAny_pyIter_rangeiter st h
end L2

namespace L2
open PySem PySem.Spec PyProof.Rows
section
variable {X:Cx}{tg:Expr}
def iList (K:PySem.W.Frag) (tl:TE):TI:=fun σ H R=>tl σ H fun x H1=>∃ a,x=.ref a∧(∃ xs,SqL K H1 a xs)∧R (Itl K a) H1
theorem pi_list {l:Expr}{tl:TE} (hl:PE X l tl):PI X tg l (iList X.K tl):=by
  intro pins s σ H R I h
  refine thn (hl pins s σ H _ I h) fun v s1 ⟨x,H1,I1,r1,q1⟩=>?_
  obtain⟨a,e,⟨xs,hq⟩,q⟩:=q1
  subst e
  cases r1
  obtain⟨its,rv,p,hz⟩:=I1.list hq
  refine wpAny_pyIter_list p.isList ?_
  refine⟨s1.heap.objs.size,[s1.heap.objs.size],_,_,H1,rfl,I1.kept (t':=s1.toks) fun b o e=>Heap.get?_push_of_some _ e,turn_list a _,⟨_,Heap.get?_push_size _ rfl,rfl,rfl⟩,fun b hb=>?_,q⟩
  have e:b=s1.heap.objs.size:=by simpa using hb
  subst e
  exact I1.fpOk (Nat.le_refl _) (I1.hok.fresh (Nat.le_refl _))
theorem range_it {pins:List (Addr×Obj)}{σ:St}{H:Hp}{s:Shared}{R:It→Hp→Prop}{E:Value→Shared→Prop}{lo hi:Int}{t u v:Tok}{tk:Nat} (I:Inv X pins σ H s) (h1:-(2^62)≤lo) (h2:lo<2^62) (h3:-(2^62)≤hi) (h4:hi<2^62)
    (q:R (Itr lo (hi-lo).toNat) H):wpAny (model X.prog X.w) X.A (pyIter (.ref s.heap.objs.size)) (PIE X pins σ tg R) E { s with heap:=s.heap.push { cls:=.type "range",data:=.fields #[.int lo t,.int hi u,.int 1 v] },toks:=tk }:=by
  refine wpAny_pyIter_range (IsRange.new ..) (small_one h1 h2 h3 h4) ?_
  have I1:Inv X pins σ H { s with heap:=s.heap.push { cls:=.type "range",data:=.fields #[.int lo t,.int hi u,.int 1 v] },toks:=tk }:=I.kept fun b o e=>Heap.get?_push_of_some _ e
  refine⟨(s.heap.push { cls:=.type "range",data:=.fields #[.int lo t,.int hi u,.int 1 v] }).objs.size,[(s.heap.push { cls:=.type "range",data:=.fields #[.int lo t,.int hi u,.int 1 v] }).objs.size],_,_,H,rfl,
    I1.kept (t':=tk) fun b o e=>Heap.get?_push_of_some _ e,turn_range _ lo (hi-lo).toNat,?_,fun b hb=>?_,q⟩
  · have e1:lo+((0:Nat):Int)*1=lo:=by simp
    have e2:(((hi-lo).toNat:Nat):Int)-((0:Nat):Int)=Builtin.Range.rangeSize lo hi 1:=by rw[rangeSize_one];split <;> lia
    show IsRangeIter _ _ (lo+((0:Nat):Int)*1) ((((hi-lo).toNat:Nat):Int)-((0:Nat):Int)) 1
    rw[e1,e2]
    exact Heap.get?_push_size _ rfl
  · have e:b=(s.heap.push { cls:=.type "range",data:=.fields #[.int lo t,.int hi u,.int 1 v] }).objs.size:=by simpa using hb
    subst e
    exact I1.fpOk (Nat.le_refl _) (I1.hok.fresh (Nat.le_refl _))
def iRng1 (ta:TA):TI:=fun σ H R=>ta σ H fun vs H1=>∃ j:Int,vs=[.int j]∧-(2^62)≤j∧j<2^62∧R (Itr 0 j.toNat) H1
def iRng2 (ta:TA):TI:=fun σ H R=>ta σ H fun vs H1=>∃ i j:Int,vs=[.int i,.int j]∧(-(2^62)≤i∧i<2^62∧-(2^62)≤j∧j<2^62)∧R (Itr i (j-i).toNat) H1
theorem pi_range1 {a:Expr}{ta:TA}{p pos:Pos} (hg:Gl X "range") (hm:X.mg "range"=none) (ha:PA X [a] ta) (hs:starEach [a] X.env=[(false,eval a X.env)]:=by rfl):PI X tg (.Call (.Name "range" p) [a] [] pos) (iRng1 ta):=by
  intro pins s σ H R I h
  refine Call_ (ld_blt I hg hm boot_range (PyProof.Rows.callWith_type1 (thn (ha pos pins s σ H _ I h) fun us s1 ⟨vs,H1,I1,r1,q1⟩=>?_) hs rfl))
  obtain⟨j,e,q1,q2,q⟩:=q1
  subst e
  cases r1 with
  | cons r rr =>
    cases rr
    obtain⟨t,rfl⟩:=r
    exact call_range_1 (range_it I1 (by lia) (by lia) q1 q2 (by simpa using q))
theorem pi_range2 {a b:Expr}{ta:TA}{p pos:Pos} (hg:Gl X "range") (hm:X.mg "range"=none) (ha:PA X [a,b] ta) (hs:starEach [a,b] X.env=[(false,eval a X.env),(false,eval b X.env)]:=by rfl) (hs2:starEach [b] X.env=[(false,eval b X.env)]:=by rfl) :
    PI X tg (.Call (.Name "range" p) [a,b] [] pos) (iRng2 ta):=by
  intro pins s σ H R I h
  refine Call_ (ld_blt I hg hm boot_range (PyProof.Rows.callWith_type1 (thn (ha pos pins s σ H _ I h) fun us s1 ⟨vs,H1,I1,r1,q1⟩=>?_) (by rw[hs,hs2]) (by rw[hs2];rfl)))
  obtain⟨i,j,e,⟨q1,q2,q3,q4⟩,q⟩:=q1
  subst e
  cases r1 with
  | cons r rr =>
    cases rr with
    | cons r' rr =>
      cases rr
      obtain⟨t,rfl⟩:=r
      obtain⟨t',rfl⟩:=r'
      exact call_range_2 (range_it I1 q1 q2 q3 q4 q)

def tFor (wi:TI) (g:TG) (tb:TS):TS:=fun D σ H=>wi σ H fun J H1=>∃ W:Nat→Nat→St→Hp→Prop,(∃ m,W 0 m σ H1)∧∀ i m σ H,W i m σ H →
  (J.stop i H∧D.nx σ H)∨(J.go i H∧∃ N:St→Hp→Prop,(∀ σ' H',N σ' H'→∃ m',m'<m∧W (i+1) m' σ' H')∧∀ x H',J.yld i H x H'→g x σ H' fun σ2 H2=>tb { D with nx:=N,ct:=N,bk:=D.nx } σ2 H2)
def pinsAt (fp:List Addr) (h:Heap):List (Addr×Obj):=fp.filterMap fun b=>(h.get? b).map fun o=>(b,o)
theorem mem_pinsAt {fp:List Addr}{h:Heap}{b:Addr}{o:Obj} (hb:b∈fp) (e:h.get? b=some o):(b,o)∈pinsAt fp h:=List.mem_filterMap.mpr ⟨b,hb,by rw[e];rfl⟩
theorem of_pinsAt {fp:List Addr}{h:Heap}{p:Addr×Obj} (hp:p∈pinsAt fp h):p.1∈fp∧h.get? p.1=some p.2:=by
  obtain⟨b,hb,e⟩:=List.mem_filterMap.mp hp
  cases q:h.get? b with
  | none=>rw[q] at e;cases e
  | some o =>
    rw[q] at e
    have e':(b,o)=p:=Option.some.inj e
    subst e'
    exact⟨hb,q⟩
theorem Inv.pinned {pins:List (Addr×Obj)}{σ:St}{H:Hp}{s:Shared}{fp:List Addr} (I:Inv X pins σ H s) (hf:∀ b∈fp,FpOk X pins H b) (ho:∀ b∈fp,∃ o,s.heap.get? b=some o∧∀ v,o.data≠.cell v):Inv X (pins++pinsAt fp s.heap) σ H s :=
  I.pins_of fun p hp=>(List.mem_append.mp hp).elim (fun z=>I.pin p (List.mem_append_right _ z)) fun z=>by
    obtain⟨hb,e⟩:=of_pinsAt z
    obtain⟨f0,f1,f2,_⟩:=hf p.1 hb
    obtain⟨o,e',d⟩:=ho p.1 hb
    rw[e] at e';cases e'
    exact⟨e,f0,f1,f2,d⟩
theorem Inv.unpinned {pins pl:List (Addr×Obj)}{σ:St}{H:Hp}{s:Shared} (I:Inv X (pins++pl) σ H s):Inv X pins σ H s:=I.pins_of fun p hp=>I.pin p (List.mem_append_right _ (List.mem_append_left _ hp))
theorem ps_for {iter:Expr}{body:List Stmt}{wi:TI}{g:TG}{tb:TS}{pos:Pos} (hp:PassesOwn (model X.prog X.w) X.A X.env X.xe) (hc:X.calm=true) (hi:PI X tg iter wi) (hg:PG X tg g) (hb:PSs X body tb)
    (hs:∀ x,foldedSetIterable iter X.env x=pure x:=by intro _;rfl):PS X (.For tg iter body [] pos) (tFor wi g tb):=by
  intro pins s σ H D I h
  refine wpAny_For (thn (hi pins s σ H _ I h) fun v s1 h1=>thn h1 fun itv s2 h2=>?_) hs
  obtain⟨it,fp,tn,J,H2,e,I2,T,st2,f2,W,⟨m0,w0⟩,turn⟩:=h2
  subst e
  have stat:∀ {H':Hp},(∀ b∈fp,H' b=none)→∀ b∈fp,FpOk X pins H' b:=fun hn b hb=>⟨hn b hb,(f2 b hb).2⟩
  refine codeAny_forLoop_any (fun n s'=>∃ i σ' H',Inv X pins σ' H' s'∧tn i s'.heap∧(∀ b∈fp,H' b=none)∧W i n σ' H') ?_ m0 ⟨0,σ,H2,I2,st2,fun b hb=>(f2 b hb).1,w0⟩
  rintro n s3 ⟨i,σ3,H3,I3,st3,fr3,w3⟩
  rcases turn i n σ3 H3 w3 with⟨stop,qn⟩ | ⟨go,N,hN,step⟩
  · refine wpAny_passesOwn hp (thn (T.done X rfl rfl rfl hc i pins s3 σ3 H3 X.xe I3 (stat fr3) st3 stop) fun r s4 ⟨hr,I4⟩=>?_)
    subst hr
    exact wpAny_execs_nil ⟨σ3,H3,I4,qn⟩
  · refine wpAny_passesOwn hp (thn (T.item X rfl rfl rfl hc i pins s3 σ3 H3 X.xe I3 (stat fr3) st3 go) fun r s4 ⟨u,hr,h4⟩=>?_)
    subst hr
    refine wpAny_passesOwn hp (thn h4 fun _ s5 ⟨x,H5,I5,r5,y5,st5,fr5⟩=>?_)
    have I5':=I5.pinned (stat fr5) (T.obj _ _ st5)
    refine wpAny_passesOwn hp (thn (hg _ s5 σ3 H5 x u _ I5' r5 (step x H5 y5)) fun _ s6 ⟨σ6,H6,I6,q6⟩=>?_)
    refine wpAny_passesOwn hp (thn (hb _ s6 σ6 H6 _ I6 q6) fun f s7 q7=>?_)
    have again:∀ {σ7:St}{H7:Hp},Inv X (pins++pinsAt fp s5.heap) σ7 H7 s7→N σ7 H7→∃ m,m<n∧∃ i σ' H',Inv X pins σ' H' s7∧tn i s7.heap∧(∀ b∈fp,H' b=none)∧W i m σ' H':=fun {σ7 H7} I7 n7=>by
      obtain⟨m',hm,w7⟩:=hN σ7 H7 n7
      refine⟨m',hm,i+1,σ7,H7,I7.unpinned,T.keep _ _ _ st5 fun b hb o e=>(I7.pin (b,o) (List.mem_append_right _ (List.mem_append_right _ (mem_pinsAt hb e)))).1,fun b hb=>?_,w7⟩
      obtain⟨o,e,d⟩:=T.obj _ _ st5 b hb
      exact (I7.pin (b,o) (List.mem_append_right _ (List.mem_append_right _ (mem_pinsAt hb e)))).2.1
    cases f with
    | next=>obtain⟨σ7,H7,I7,n7⟩:=q7;exact again I7 n7
    | cont=>obtain⟨σ7,H7,I7,n7⟩:=q7;exact again I7 n7
    | brk=>obtain⟨σ7,H7,I7,q7⟩:=q7;exact⟨σ7,H7,I7.unpinned,q7⟩
    | ret v=>obtain⟨x7,σ7,H7,I7,r7,q7⟩:=q7;exact⟨x7,σ7,H7,I7.unpinned,r7,q7⟩
end

theorem for_list {K:PySem.W.Frag}{a:Addr}{xs:List V}{g:TG}{tb:TS}{D:Ends}{σ:St}{H:Hp} (Pv:Nat→St→Hp→Prop) (h0:Pv 0 σ H) (hl:∀ i σ H,i≤xs.length→Pv i σ H→SqL K H a xs)
    (hs:∀ i x σ H,xs[i]?=some x→Pv i σ H→g x σ H fun σ2 H2=>tb { D with nx:=Pv (i+1),ct:=Pv (i+1),bk:=D.nx } σ2 H2) (hd:∀ σ H,Pv xs.length σ H→D.nx σ H) :
    ∃ W:Nat→Nat→St→Hp→Prop,(∃ m,W 0 m σ H)∧∀ i m σ H,W i m σ H →
      ((Itl K a).stop i H∧D.nx σ H)∨((Itl K a).go i H∧∃ N:St→Hp→Prop,(∀ σ' H',N σ' H'→∃ m',m'<m∧W (i+1) m' σ' H')∧∀ x H',(Itl K a).yld i H x H'→g x σ H' fun σ2 H2=>tb { D with nx:=N,ct:=N,bk:=D.nx } σ2 H2):=by
  refine⟨fun i m σ H=>m=xs.length-i∧i≤xs.length∧Pv i σ H,⟨xs.length,by simp,Nat.zero_le _,h0⟩,?_⟩
  rintro i m σ H ⟨rfl,hi,p⟩
  have q:=hl i σ H hi p
  by_cases hlt:i<xs.length
  · refine .inr ⟨⟨xs,xs[i],q,by simp[hlt]⟩,Pv (i+1),fun σ' H' p'=>⟨xs.length-(i+1),by lia,rfl,hlt,p'⟩,fun x H' y=>?_⟩
    obtain⟨e,y⟩:=y
    subst e
    exact hs i x σ _ (y xs q) p
  · have e:i=xs.length:=by lia
    subst e
    exact .inl ⟨⟨xs,q,Nat.le_refl _⟩,hd σ H p⟩
theorem for_range {lo:Int}{n:Nat}{g:TG}{tb:TS}{D:Ends}{σ:St}{H:Hp} (Pv:Nat→St→Hp→Prop) (h0:Pv 0 σ H)
    (hs:∀ i σ H,i<n→Pv i σ H→g (.int (lo+i)) σ H fun σ2 H2=>tb { D with nx:=Pv (i+1),ct:=Pv (i+1),bk:=D.nx } σ2 H2) (hd:∀ σ H,Pv n σ H→D.nx σ H) :
    ∃ W:Nat→Nat→St→Hp→Prop,(∃ m,W 0 m σ H)∧∀ i m σ H,W i m σ H →
      ((Itr lo n).stop i H∧D.nx σ H)∨((Itr lo n).go i H∧∃ N:St→Hp→Prop,(∀ σ' H',N σ' H'→∃ m',m'<m∧W (i+1) m' σ' H')∧∀ x H',(Itr lo n).yld i H x H'→g x σ H' fun σ2 H2=>tb { D with nx:=N,ct:=N,bk:=D.nx } σ2 H2):=by
  refine⟨fun i m σ H=>m=n-i∧i≤n∧Pv i σ H,⟨n,by simp,Nat.zero_le _,h0⟩,?_⟩
  rintro i m σ H ⟨rfl,hi,p⟩
  by_cases hlt:i<n
  · refine .inr ⟨hlt,Pv (i+1),fun σ' H' p'=>⟨n-(i+1),by lia,rfl,hlt,p'⟩,fun x H' y=>?_⟩
    obtain⟨e,y⟩:=y
    subst e y
    exact hs i σ _ hlt p
  · have e:i=n:=by lia
    subst e
    exact .inl ⟨Nat.le_refl _,hd σ H p⟩
theorem while_by {c:TT}{tb:TS}{D:Ends}{σ:St}{H:Hp} (Pv:St→Hp→Prop) (μ:St→Hp→Nat) (h0:Pv σ H)
    (hs:∀ σ H,Pv σ H→c σ H fun b H1=>if b=true then tb { D with nx:=fun σ' H'=>Pv σ' H'∧μ σ' H'<μ σ H,ct:=fun σ' H'=>Pv σ' H'∧μ σ' H'<μ σ H,bk:=D.nx } σ H1 else D.nx σ H1)
    (mono:∀ σ H Q Q',(∀ b H1,Q b H1→Q' b H1)→c σ H Q→c σ H Q'):tWhile c tb D σ H:=by
  refine⟨fun m σ H=>m=μ σ H∧Pv σ H,⟨_,rfl,h0⟩,?_⟩
  rintro m σ H ⟨rfl,p⟩
  refine mono σ H _ _ (fun b H1 q=>?_) (hs σ H p)
  cases b with
  | true=>exact⟨_,fun σ' H' ⟨p',l⟩=>⟨_,l,rfl,p'⟩,q⟩
  | false=>exact q
end L2

namespace L2
open PySem PySem.Spec PyProof.Rows

abbrev R2:=V→V→Hp→VK→Prop
def OpR (X:Cx) (f:Value→Value→Sem Value) (r:R2):Prop :=
  ∀ (pins:List (Addr×Obj)) (s:Shared) (σ:St) (H:Hp) (x y:V) (v u:Value) (Q:VK),Inv X pins σ H s→RelV x v→RelV y u→r x y H Q →
    wpAny (model X.prog X.w) X.A (f v u) (EP X pins σ Q) X.xe s
def UnR (X:Cx) (f:Value→Sem Value) (r:V→Hp→VK→Prop):Prop :=
  ∀ (pins:List (Addr×Obj)) (s:Shared) (σ:St) (H:Hp) (x:V) (v:Value) (Q:VK),Inv X pins σ H s→RelV x v→r x H Q →
    wpAny (model X.prog X.w) X.A (f v) (EP X pins σ Q) X.xe s
def CallR (X:Cx) (f:Value) (r:List V→Hp→VK→Prop):Prop :=
  ∀ (pins:List (Addr×Obj)) (s:Shared) (σ:St) (H:Hp) (xs:List V) (us:List Value) (Q:VK),Inv X pins σ H s→Vals xs us→r xs H Q →
    wpAny (model X.prog X.w) X.A (call f us) (EP X pins σ Q) X.xe s

def tOp (r:R2) (ta tb:TE):TE:=fun σ H Q=>ta σ H fun x H1=>tb σ H1 fun y H2=>r x y H2 Q
def tUn (r:V→Hp→VK→Prop) (ta:TE):TE:=fun σ H Q=>ta σ H fun x H1=>r x H1 Q
def rI (C:Int→Int→Prop) (g:Int→Int→V):R2:=fun x y H Q=>∃ i j,x=.int i∧y=.int j∧C i j∧Q (g i j) H
def rI0 (g:Int→Int→V):R2:=fun x y H Q=>∃ i j,x=.int i∧y=.int j∧Q (g i j) H
def rU (g:Int→V):V→Hp→VK→Prop:=fun x H Q=>∃ i,x=.int i∧Q (g i) H

section
variable {X:Cx}{a b c:Expr}{ta tb tc:TE}{pos:Pos}

theorem binT (ha:PE X a ta) (hb:PE X b tb) {pins:List (Addr×Obj)}{s:Shared}{σ:St}{H:Hp}{R:V→V→Hp→Prop} (I:Inv X pins σ H s)
    (h:ta σ H fun x H1=>tb σ H1 fun y H2=>R x y H2) {Q:Value→Shared→Prop}{f:Value→Value→Sem Value}
    (hf:∀ v u s2 x y H2,Inv X pins σ H2 s2→RelV x v→RelV y u→R x y H2→wpAny (model X.prog X.w) X.A (f v u) Q X.xe s2) :
    wpAny (model X.prog X.w) X.A (eval a X.env) (fun v s₁=>wpAny (model X.prog X.w) X.A (eval b X.env) (fun u s₂=>wpAny (model X.prog X.w) X.A (f v u) Q X.xe s₂) X.xe s₁) X.xe s:=by
  refine thn (ha pins s σ H _ I h) fun v s1 ⟨x,H1,I1,r1,q1⟩=>?_
  refine thn (hb pins s1 σ H1 _ I1 q1) fun u s2 ⟨y,H2,I2,r2,q2⟩=>?_
  exact hf v u s2 x y H2 I2 r1 r2 q2

theorem pe_op {op:Operator}{r:R2} (ho:OpR X (binaryOp op) r) (ha:PE X a ta) (hb:PE X b tb):PE X (.BinOp a op b pos) (tOp r ta tb):=by
  intro pins s σ H Q I h
  exact wpAny_BinOp (binT ha hb I h fun v u s2 x y H2 I2 rx ry q=>ho pins s2 σ H2 x y v u Q I2 rx ry q)
theorem pe_un {op:UnaryOp}{r:V→Hp→VK→Prop} (ho:UnR X (unaryOp op) r) (ha:PE X a ta):PE X (.UnaryOp op a pos) (tUn r ta):=by
  intro pins s σ H Q I h
  exact UnaryOp_ (thn (ha pins s σ H _ I h) fun v s1 ⟨x,H1,I1,r1,q1⟩=>ho pins s1 σ H1 x v Q I1 r1 q1)

theorem opI {f:Value→Value→Sem Value}{C:Int→Int→Prop}{g:Int→Int→Int}
    (rule:∀ (i j:Int) (t u:Tok) (s:Shared) (Q:Value→Shared→Prop) (E:Value→Shared→Prop),C i j→Q (.int (g i j) s.toks) { s with toks:=s.toks+1 }→wpAny (model X.prog X.w) X.A (f (.int i t) (.int j u)) Q E s) :
    OpR X f (rI C fun i j=>.int (g i j)):=by
  intro pins s σ H x y v u Q I rx ry h
  obtain⟨i,j,rfl,rfl,hc,q⟩:=h
  obtain⟨t,rfl⟩:=rx
  obtain⟨t',rfl⟩:=ry
  exact rule i j t t' s _ _ hc ⟨.int (g i j),H,I.tok _,⟨_,rfl⟩,q⟩
theorem opI0 {f:Value→Value→Sem Value}{g:Int→Int→Int}
    (rule:∀ (i j:Int) (t u:Tok) (s:Shared) (Q:Value→Shared→Prop) (E:Value→Shared→Prop),Q (.int (g i j) s.toks) { s with toks:=s.toks+1 }→wpAny (model X.prog X.w) X.A (f (.int i t) (.int j u)) Q E s) :
    OpR X f (rI0 fun i j=>.int (g i j)):=by
  intro pins s σ H x y v u Q I rx ry h
  obtain⟨i,j,rfl,rfl,q⟩:=h
  obtain⟨t,rfl⟩:=rx
  obtain⟨t',rfl⟩:=ry
  exact rule i j t t' s _ _ ⟨.int (g i j),H,I.tok _,⟨_,rfl⟩,q⟩
theorem opB0 {f:Value→Value→Sem Value}{g:Int→Int→Bool}
    (rule:∀ (i j:Int) (t u:Tok) (s:Shared) (Q:Value→Shared→Prop) (E:Value→Shared→Prop),Q (.bool (g i j)) s→wpAny (model X.prog X.w) X.A (f (.int i t) (.int j u)) Q E s) :
    OpR X f (rI0 fun i j=>.bl (g i j)):=by
  intro pins s σ H x y v u Q I rx ry h
  obtain⟨i,j,rfl,rfl,q⟩:=h
  obtain⟨t,rfl⟩:=rx
  obtain⟨t',rfl⟩:=ry
  exact rule i j t t' s _ _ ⟨.bl (g i j),H,I,rfl,q⟩

def CDiv (i j:Int):Prop:=0<j∧j<1073741824
def CMul (i j:Int):Prop:=(-(2^64)<i∧i<2^64)∨(-(2^64)<j∧j<2^64)
theorem CMul.ok {i j:Int} (h:CMul i j):IntMulOk i j:=by
  rcases h with⟨h1,h2⟩ | ⟨h1,h2⟩
  · exact .of_left (intBits_le_64 h1 h2)
  · exact .of_right (intBits_le_64 h1 h2)
theorem two_pow_nn (k:Nat):(0:Int)≤2^k:=by
  rw[two_pow_cast]
  exact Int.natCast_nonneg _

theorem op_add:OpR X (binaryOp .Add) (rI0 fun i j=>.int (i+j)):=opI0 fun _ _ _ _ _ _ _ q=>add_int q
theorem op_sub:OpR X (binaryOp .Sub) (rI0 fun i j=>.int (i-j)):=opI0 fun _ _ _ _ _ _ _ q=>sub_int q
theorem op_mul:OpR X (binaryOp .Mult) (rI CMul fun i j=>.int (i*j)):=opI fun _ _ _ _ _ _ _ hc q=>mul_int q hc.ok
theorem op_fdiv:OpR X (binaryOp .FloorDiv) (rI CDiv fun i j=>.int (i / j)):=opI fun i j _ _ _ _ _ hc q=>by
  have h1:(0:Int)<j:=hc.1
  have h2:j<1073741824:=hc.2
  exact floordiv_int (by lia) (by rw[Int.fdiv_eq_ediv_of_nonneg i (by lia)];exact q) (.inl (PyProof.noPylong_small (by lia)))
theorem op_mod:OpR X (binaryOp .Mod) (rI (fun _ j=>0<j) fun i j=>.int (i % j)):=opI fun i j _ _ _ _ _ hc q=>by
  have h1:(0:Int)<j:=hc
  exact mod_int' (by lia) (by rw[Int.fmod_eq_emod_of_nonneg i (by lia)];exact q)
theorem op_shr:OpR X (binaryOp .RShift) (rI (fun _ j=>0≤j) fun i j=>.int (i / 2^j.toNat)):=opI fun i j _ _ _ _ _ hc q =>
  rshift_int hc (by rw[Int.fdiv_eq_ediv_of_nonneg i (two_pow_nn _)];exact q)
theorem op_and:OpR X (binaryOp .BitAnd) (rI0 fun i j=>.int (Builtin.bitAnd i j)):=opI0 fun _ _ _ _ _ _ _ q=>and_int q


theorem unI {f:Value→Sem Value}{g:Int→Int}
    (rule:∀ (i:Int) (t:Tok) (s:Shared) (Q:Value→Shared→Prop) (E:Value→Shared→Prop),Q (.int (g i) s.toks) { s with toks:=s.toks+1 }→wpAny (model X.prog X.w) X.A (f (.int i t)) Q E s) :
    UnR X f (rU fun i=>.int (g i)):=by
  intro pins s σ H x v Q I rx h
  obtain⟨i,rfl,q⟩:=h
  obtain⟨t,rfl⟩:=rx
  exact rule i t s _ _ ⟨.int (g i),H,I.tok _,⟨_,rfl⟩,q⟩
theorem un_neg:UnR X (unaryOp .USub) (rU fun i=>.int (-i)):=unI fun _ _ _ _ _ q=>neg_int q

end

def scal:V→V→Bool
  | .non,.non=>true | .non,.int _=>true | .int _,.non=>true | .non,.bl _=>true | .bl _,.non=>true | .non,.str _=>true | .str _,.non=>true
  | .int _,.int _=>true | .bl _,.bl _=>true | .str _,.str _=>true | .byt _,.byt _=>true
  | .int _,.str _=>true | .str _,.int _=>true | .bl _,.str _=>true | .str _,.bl _=>true
  | _,_=>false
def rEq:R2:=fun x y H Q=>scal x y=true∧Q (.bl (decide (x=y))) H
def rNe:R2:=fun x y H Q=>scal x y=true∧Q (.bl (!decide (x=y))) H

theorem dec_int {i j:Int}:decide (V.int i=V.int j)=(i == j):=by
  rw[Bool.eq_iff_iff]
  simp
theorem dec_bl {i j:Bool}:decide (V.bl i=V.bl j)=(i == j):=by
  rw[Bool.eq_iff_iff]
  simp
theorem dec_str {i j:Str}:decide (V.str i=V.str j)=(i == j):=by
  rw[Bool.eq_iff_iff]
  simp
theorem dec_byt {i j:Array UInt8}:decide (V.byt i=V.byt j)=(i.toList == j.toList):=by
  rw[Bool.eq_iff_iff]
  cases i
  cases j
  simp

section
variable {X:Cx}{a b c:Expr}{ta tb tc:TE}{pos:Pos}
theorem fin_bl {pins:List (Addr×Obj)}{σ:St}{H:Hp}{s:Shared}{Q:VK}{k k':Bool} (I:Inv X pins σ H s) (q:Q (.bl k) H) (e:k=k'):EP X pins σ Q (.bool k') s:=by
  subst e
  exact⟨.bl k,H,I,rfl,q⟩
theorem op_eq:OpR X (compareOp .Eq) rEq:=by
  intro pins s σ H x y v u Q I rx ry h
  obtain⟨hs,q⟩:=h
  cases x with
  | non =>
    cases rx
    cases y with
    | non=>cases ry;exact PySem.EqNone.eq_none_none (fin_bl I q (by simp))
    | bl j=>cases ry;exact PySem.EqNone.eq_none_bool (fin_bl I q (by simp))
    | int j=>obtain⟨t',rfl⟩:=ry;exact PySem.EqNone.eq_none_int (fin_bl I q (by simp))
    | str j=>obtain⟨t',rfl⟩:=ry;exact PySem.EqNone.eq_none_str (fin_bl I q (by simp))
    | _=>exact absurd (show false=true from hs) Bool.false_ne_true
  | bl i =>
    cases rx
    cases y with
    | non=>cases ry;exact PySem.EqNone.eq_bool_none (fin_bl I q (by simp))
    | bl j=>cases ry;exact eq_bool (fin_bl I q dec_bl)
    | str j=>obtain⟨t',rfl⟩:=ry;exact PySem.EqMixed.eq_bool_str (fin_bl I q (by simp))
    | _=>exact absurd (show false=true from hs) Bool.false_ne_true
  | int i =>
    obtain⟨t,rfl⟩:=rx
    cases y with
    | non=>cases ry;exact PySem.EqNone.eq_int_none (fin_bl I q (by simp))
    | int j=>obtain⟨t',rfl⟩:=ry;exact eq_int (fin_bl I q dec_int)
    | str j=>obtain⟨t',rfl⟩:=ry;exact PySem.EqMixed.eq_int_str (fin_bl I q (by simp))
    | _=>exact absurd (show false=true from hs) Bool.false_ne_true
  | str i =>
    obtain⟨t,rfl⟩:=rx
    cases y with
    | non=>cases ry;exact PySem.EqNone.eq_str_none (fin_bl I q (by simp))
    | bl j=>cases ry;exact PySem.EqMixed.eq_str_bool (fin_bl I q (by simp))
    | int j=>obtain⟨t',rfl⟩:=ry;exact PySem.EqMixed.eq_str_int (fin_bl I q (by simp))
    | str j=>obtain⟨t',rfl⟩:=ry;exact eq_str (fin_bl I q dec_str)
    | _=>exact absurd (show false=true from hs) Bool.false_ne_true
  | byt i =>
    obtain⟨t,rfl⟩:=rx
    cases y with
    | byt j=>obtain⟨t',rfl⟩:=ry;exact PySem.W.eq_bytes (fin_bl I q dec_byt)
    | _=>exact absurd (show false=true from hs) Bool.false_ne_true
  | _=>cases y <;> exact absurd (show false=true from hs) Bool.false_ne_true
theorem op_ne:OpR X (compareOp .NotEq) rNe:=by
  intro pins s σ H x y v u Q I rx ry h
  obtain⟨hs,q⟩:=h
  cases x with
  | non =>
    cases rx
    cases y with
    | non=>cases ry;exact PySem.EqNone.ne_none_none (fin_bl I q (by simp))
    | bl j=>cases ry;exact PySem.EqNone.ne_none_bool (fin_bl I q (by simp))
    | int j=>obtain⟨t',rfl⟩:=ry;exact PySem.EqNone.ne_none_int (fin_bl I q (by simp))
    | str j=>obtain⟨t',rfl⟩:=ry;exact PySem.EqNone.ne_none_str (fin_bl I q (by simp))
    | _=>exact absurd (show false=true from hs) Bool.false_ne_true
  | bl i =>
    cases rx
    cases y with
    | non=>cases ry;exact PySem.EqNone.ne_bool_none (fin_bl I q (by simp))
    | bl j=>cases ry;exact ne_bool (fin_bl I q (congrArg not dec_bl))
    | str j=>obtain⟨t',rfl⟩:=ry;exact PySem.EqMixed.ne_bool_str (fin_bl I q (by simp))
    | _=>exact absurd (show false=true from hs) Bool.false_ne_true
  | int i =>
    obtain⟨t,rfl⟩:=rx
    cases y with
    | non=>cases ry;exact PySem.EqNone.ne_int_none (fin_bl I q (by simp))
    | int j=>obtain⟨t',rfl⟩:=ry;exact ne_int (fin_bl I q (congrArg not dec_int))
    | str j=>obtain⟨t',rfl⟩:=ry;exact PySem.EqMixed.ne_int_str (fin_bl I q (by simp))
    | _=>exact absurd (show false=true from hs) Bool.false_ne_true
  | str i =>
    obtain⟨t,rfl⟩:=rx
    cases y with
    | non=>cases ry;exact PySem.EqNone.ne_str_none (fin_bl I q (by simp))
    | bl j=>cases ry;exact PySem.EqMixed.ne_str_bool (fin_bl I q (by simp))
    | int j=>obtain⟨t',rfl⟩:=ry;exact PySem.EqMixed.ne_str_int (fin_bl I q (by simp))
    | str j=>obtain⟨t',rfl⟩:=ry;exact ne_str (fin_bl I q (congrArg not dec_str))
    | _=>exact absurd (show false=true from hs) Bool.false_ne_true
  | byt i =>
    obtain⟨t,rfl⟩:=rx
    cases y with
    | byt j=>obtain⟨t',rfl⟩:=ry;exact PySem.W.ne_bytes (fin_bl I q (congrArg not dec_byt))
    | _=>exact absurd (show false=true from hs) Bool.false_ne_true
  | _=>cases y <;> exact absurd (show false=true from hs) Bool.false_ne_true

theorem op_lt:OpR X (compareOp .Lt) (rI0 fun i j=>.bl (decide (i<j))):=opB0 fun _ _ _ _ _ _ _ q=>lt_int q
theorem op_le:OpR X (compareOp .LtE) (rI0 fun i j=>.bl (decide (i≤j))):=opB0 fun _ _ _ _ _ _ _ q=>le_int q
theorem op_gt:OpR X (compareOp .Gt) (rI0 fun i j=>.bl (decide (j<i))):=opB0 fun _ _ _ _ _ _ _ q=>gt_int q




theorem nomark (b:Expr) {op:CmpOp} (h:op≠.In:=by decide) (h2:op≠.NotIn:=by decide):behindInMarks op b=false:=by
  have e1:(op == CmpOp.In)=false:=by cases op <;> first | rfl | exact absurd rfl h
  have e2:(op == CmpOp.NotIn)=false:=by cases op <;> first | rfl | exact absurd rfl h2
  cases b <;> simp[behindInMarks,e1,e2]
theorem pe_cmpR {op:CmpOp}{r:R2} (ho:OpR X (compareOp op) r) (ha:PE X a ta) (hb:PE X b tb) (hm:behindInMarks op b=false):PE X (.Compare a [op] [b] pos) (tOp r ta tb):=by
  intro pins s σ H Q I h
  exact wpAny_Compare1 (binT ha hb I h fun v u s2 x y H2 I2 rx ry q=>ho pins s2 σ H2 x y v u Q I2 rx ry q) hm
def tTest (t:TE):TT:=fun σ H Q=>t σ H fun x H'=>∃ k,x=.bl k∧Q k H'
theorem pt_cmpR {op:CmpOp}{r:R2} (ho:OpR X (compareOp op) r) (ha:PE X a ta) (hb:PE X b tb) (hm:behindInMarks op b=false):PT X (.Compare a [op] [b] pos) (tTest (tOp r ta tb)):=by
  intro pins s σ H Q I h
  refine wpAny_isTrue_Compare1 (thn (ha pins s σ H _ I h) fun v s1 ⟨x,H1,I1,r1,q1⟩=>thn (hb pins s1 σ H1 _ I1 q1) fun u s2 ⟨y,H2,I2,r2,q2⟩ =>
    thn (ho pins s2 σ H2 x y v u _ I2 r1 r2 q2) fun c s3 ⟨z,H3,I3,r3,k,e,q3⟩=>?_) hm
  subst e
  cases r3
  exact wpAny_truthy_bool ⟨H3,I3,q3⟩
def tChain (r r':R2) (ta tb tc:TE):TE:=fun σ H Q=>ta σ H fun x H1=>tb σ H1 fun y H2=>r x y H2 fun z H3=>∃ k,z=.bl k ∧
  (if k=true then tc σ H3 fun w' H4=>r' y w' H4 Q else Q (.bl false) H3)
theorem pe_chain {op op':CmpOp}{r r':R2} (ho:OpR X (compareOp op) r) (ho':OpR X (compareOp op') r') (ha:PE X a ta) (hb:PE X b tb) (hc:PE X c tc)
    (hm:lastMarks [op,op'] [b,c]=false:=by with_unfolding_all rfl):PE X (.Compare a [op,op'] [b,c] pos) (tChain r r' ta tb tc):=by
  intro pins s σ H Q I h
  refine Compare_chain (thn (ha pins s σ H _ I h) fun v s1 ⟨x,H1,I1,r1,q1⟩=>chain_link (thn (hb pins s1 σ H1 _ I1 q1) fun u s2 ⟨y,H2,I2,r2,q2⟩ =>
    thn (ho pins s2 σ H2 x y v u _ I2 r1 r2 q2) fun d s3 ⟨z,H3,I3,r3,k,e,q3⟩=>?_)) hm
  subst e
  cases r3
  refine wpAny_truthy_bool ?_
  cases k with
  | false=>exact ite_ff ⟨.bl false,H3,I3,rfl,q3⟩
  | true=>exact ite_tt (chain_last (thn (hc pins s3 σ H3 _ I3 q3) fun w' s4 ⟨z',H4,I4,r4,q4⟩=>ho' pins s4 σ H4 y z' u w' Q I4 r2 r4 q4))

theorem line63:(sizeLine:Nat)<2^63:=by rw[sizeLine_eq];decide



theorem vals1 {x:V}{us:List Value} (r:Vals [x] us):∃ u,us=[u]∧RelV x u:=by
  cases r with
  | cons r1 r2=>cases r2;exact⟨_,rfl,r1⟩
theorem vals2 {x y:V}{us:List Value} (r:Vals [x,y] us):∃ u w',us=[u,w']∧RelV x u∧RelV y w':=by
  cases r with
  | cons r1 r2 =>
    cases r2 with
    | cons r3 r4=>cases r4;exact⟨_,_,rfl,r1,r3⟩
theorem call_abs:CallR X (.builtin "abs") (fun xs H Q=>∃ i,xs=[.int i]∧Q (.int (if i<0 then -i else i)) H):=by
  intro pins s σ H xs us Q I r h
  obtain⟨i,rfl,q⟩:=h
  obtain⟨u,rfl,t,rfl⟩:=vals1 r
  exact call_abs_int fun u tk=>⟨.int (if i<0 then -i else i),H,I.tok _,⟨_,rfl⟩,q⟩
theorem call_max2 (hc:X.calm=true):CallR X (.builtin "max") (fun xs H Q=>∃ i j,xs=[.int i,.int j]∧Q (.int (if j > i then j else i)) H):=by
  intro pins s σ H xs us Q I r h
  obtain⟨i,j,rfl,q⟩:=h
  obtain⟨u,w',rfl,⟨t,rfl⟩,⟨t',rfl⟩⟩:=vals2 r
  refine max_two_ints (I.ok.hd hc) fun h' tk k=>⟨_,H,I.kept k,?_,q⟩
  by_cases hj:j > i
  · rw[if_pos hj,if_pos hj];exact⟨_,rfl⟩
  · rw[if_neg hj,if_neg hj];exact⟨_,rfl⟩
theorem call_min2 (hc:X.calm=true):CallR X (.builtin "min") (fun xs H Q=>∃ i j,xs=[.int i,.int j]∧Q (.int (if j<i then j else i)) H):=by
  intro pins s σ H xs us Q I r h
  obtain⟨i,j,rfl,q⟩:=h
  obtain⟨u,w',rfl,⟨t,rfl⟩,⟨t',rfl⟩⟩:=vals2 r
  refine min_two_ints (I.ok.hd hc) fun h' tk k=>⟨_,H,I.kept k,?_,q⟩
  by_cases hj:j<i
  · rw[if_pos hj,if_pos hj];exact⟨_,rfl⟩
  · rw[if_neg hj,if_neg hj];exact⟨_,rfl⟩
end
end L2

namespace L2
open PySem PySem.Spec PyProof.Rows

structure ObjM (h:Heap) (x dx C:Addr) (mA:Str→Option Value):Prop where
  obj:h.get? x=some (PySem.W.instObj C dx)
  ns:h.Ns1 dx mA
  ne:dx≠x

theorem lookIn_ns {h:Heap}{dx:Addr}{mA:Str→Option Value} (n:h.Ns1 dx mA):∃ od,h.get? dx=some od∧∀ name,PySem.W.lookIn name od=some (mA name):=by
  obtain⟨o,es,ep,ho,hd,hk,_,hm⟩:=n
  refine⟨o,ho,fun name=>?_⟩
  have e:=hm name
  unfold nsFind findBy at e
  rw[←Array.find?_toList] at e
  unfold PySem.W.lookIn
  rw[hd]
  dsimp only
  split
  · rename_i y q
    rw[q] at e
    exact congrArg some e
  · rename_i q
    rw[q] at e
    have a:es.toList.any (·.refKey)=false:=by
      rw[List.any_eq_false]
      intro y hy
      obtain⟨z,t,hkey⟩:=hk y (Array.mem_toList_iff.mp hy)
      simp[DictEntry.refKey,hkey]
    have a':¬ es.toList.any (·.refKey)=true:=by rw[a];exact Bool.false_ne_true
    rw[if_neg a']
    exact congrArg some e

theorem ObjM.look {h:Heap}{x dx C:Addr}{mA:Str→Option Value} (I:ObjM h x dx C mA):∃ od,PySem.W.InstAt h x (PySem.W.instObj C dx) C (some od)∧∀ name,PySem.W.lookIn name od=some (mA name) :=
  let ⟨od,ho,hl⟩:=lookIn_ns I.ns
  ⟨od,⟨I.obj,rfl,rfl,ho⟩,hl⟩

section
variable {prog:Program}{w:World}{A:Around}{E:Value→Shared→Prop}{s:Shared}{K:PySem.W.Frag}{x dx C f:Addr}{mA:Str→Option Value}{name:Str}{v:Value}

theorem get_map {expr:Bool}{Q:Value→Shared→Prop} (X:K.In s.heap) (I:ObjM s.heap x dx C mA) (hg:PySem.W.plainGet K C name=true) (hh:PySem.W.hasDictIn K C=true)
    (ha:PySem.W.findIn K (.ref C) name=some none) (hv:mA name=some v) (hv':PySem.W.handedIn v=true) (h:Q v { s with toks:=s.toks+1 }) :
    wpAny (model prog w) A (getAttr (.ref x) name expr) Q E s:=by
  obtain⟨od,J,hl⟩:=I.look
  exact PySem.W.get_value X J (PySem.W.plainGet_of hg).1 (PySem.W.findObj_own hh ha rfl (by rw[hl,hv])) hv' h


theorem get_meth {pl:Sem Bool}{Q:Value×List Value→Shared→Prop} (X:K.In s.heap) (I:ObjM s.heap x dx C mA) (hg:PySem.W.plainGet K C name=true)
    (hf:PySem.W.findIn K (.ref C) name=some (some (.ref f))) (ht:PySem.W.isFn K (.ref f)=true) (hv:mA name=none) (h:Q (.ref f,[.ref x]) s) :
    wpAny (model prog w) A (getMethod (.ref x) name pl) Q E s:=by
  obtain⟨od,J,hl⟩:=I.look
  exact PySem.W.method_fn X J (PySem.W.plainGet_of hg).1 (PySem.W.plainGet_of hg).2 hf (beq_iff_eq.mp ht) (by show (PySem.W.lookIn name od).map (·.isSome)=some false;rw[hl,hv];rfl) h

theorem set_map {ns:List Str}{Q:Unit→Shared→Prop} (X:K.In s.heap) (I:ObjM s.heap x dx C mA)
    (hs:PySem.W.findIn K (.ref C) "__setattr__"=some (some (.builtin "object.__setattr__"))) (hp:PySem.W.plainOver K C=true) (ht:PySem.W.takerIn K C name=some none) (hh:PySem.W.hasDictIn K C=true)
    (hw:PySem.Within mA ns) (hsz:ns.length≤sizeLine)
    (h:∀ h',ObjM h' x dx C (fun y=>if y=name then some v else mA y)→Heap.SameBut dx s.heap h'→Q () { s with heap:=h',toks:=s.toks+2 }) :
    wpAny (model prog w) A (setAttr (.ref x) name v) Q E s:=by
  obtain⟨od,J,hl⟩:=I.look
  refine PySem.W.set_plain X J hs (PySem.W.osa_open (s:={ s with toks:=s.toks+1 }) (r:=none) X J hp ht fun b=>?_)
  obtain⟨cd,hc,hd'⟩:=PySem.W.any_some hh
  have hx:s.heap.get? x=some ⟨.ref C,some dx,.plain,#[]⟩:=I.obj
  refine wpAny_bind (wpAny_pure (wpAny_bind (wpAny_bind (wpAny_loadPart hx (wpAny_bind (PySem.W.Looks.here (s:={ s with toks:=s.toks+1 }) (PySem.W.looks_clsIn X hc) ?_))))))
  rw[hd']
  refine wpAny_pure (a:=some dx) (wpAny_bind (wpAny_pure (wpAny_bind ?_)))
  refine wpAny_nsSet1 (s:={ s with toks:=s.toks+1 }) I.ns fun h' hn2 hs2=>?_
  obtain⟨oD,esD,epD,hoD,hdD,hcD⟩:=hn2.count (PySem.Within.cons name v hw)
  refine wpAny_bind (wpAny_lookBehind hoD (by rw[hdD];exact pastItsLine_dict (Nat.le_trans hcD (by rw[List.length_cons];lia))) ?_)
  exact wpAny_pure (h _ ⟨(hs2.2 _ (Ne.symm I.ne)).trans I.obj,hn2,I.ne⟩ hs2)

theorem make_map {R:Result→Shared→Prop}{vs:List Value}{kw:List (Str×Value)} (X:K.In s.heap) (hm:PySem.W.makesIn K C=true)
    (hi:PySem.W.findIn K (.ref C) "__init__"=some (some (.ref f))) (hf:PySem.W.typeIn K (.ref f)=some (.type "function"))
    (h:codeAny (model prog w) (A.under (.builtin "type.__call__" ⟨.ref C::vs,kw⟩)) (.call (.ref f) ⟨.ref (s.heap.objs.size+1)::vs,kw⟩) (PySem.W.InitBack (s.heap.objs.size+1) R)
      { s with heap:=(s.heap.push PySem.W.emptyDict).push (PySem.W.instObj C s.heap.objs.size) }) :
    codeAny (model prog w) A (.call (.ref C) ⟨vs,kw⟩) R s:=by
  obtain⟨hh,g,d,t,os⟩:=s
  exact PySem.W.make_core (PySem.W.makes_of X hm) (PySem.W.looks_findIn X hi) (fun self=>PySem.W.bind_fn X self hf) (.inl rfl) h
end

def putF (f:Str) (v:V):List (Str×V)→List (Str×V)
  | []=>[(f,v)]
  | (g,x)::r=>if g=f then (g,v)::r else (g,x)::putF f v r
theorem lookup_putF (f g:Str) (v:V):∀ fs:List (Str×V),(putF f v fs).lookup g=if g=f then some v else fs.lookup g
  | []=>by
    show List.lookup g [(f,v)]=_
    by_cases h:g=f
    · have hb:(g == f)=true:=beq_iff_eq.mpr h
      simp only[List.lookup,hb,if_pos h]
    · have hb:(g == f)=false:=beq_eq_false_iff_ne.mpr h
      simp only[List.lookup,hb,if_neg h]
  | (k,x)::r=>by
    have ih:=lookup_putF f g v r
    rw[show putF f v ((k,x)::r)=(if k=f then (k,v)::r else (k,x)::putF f v r) from rfl]
    by_cases hk:k=f
    · rw[if_pos hk]
      by_cases h:g=k
      · have hb:(g == k)=true:=beq_iff_eq.mpr h
        simp only[List.lookup,hb,if_pos (h.trans hk)]
      · have hb:(g == k)=false:=beq_eq_false_iff_ne.mpr h
        simp only[List.lookup,hb,if_neg (fun e:g=f=>h (e.trans hk.symm))]
    · rw[if_neg hk]
      by_cases h:g=k
      · have hb:(g == k)=true:=beq_iff_eq.mpr h
        simp only[List.lookup,hb,if_neg (fun e:g=f=>hk (h.symm.trans e))]
      · have hb:(g == k)=false:=beq_eq_false_iff_ne.mpr h
        simp only[List.lookup,hb]
        exact ih
theorem keys_putF (f:Str) (v:V):∀ fs:List (Str×V),f∈(putF f v fs).map (·.1)∧∀ g,g∈fs.map (·.1)→g∈(putF f v fs).map (·.1)
  | []=>⟨by simp[putF],fun g h=>by simp at h⟩
  | (k,x)::r=>by
    obtain⟨i1,i2⟩:=keys_putF f v r
    rw[show putF f v ((k,x)::r)=(if k=f then (k,v)::r else (k,x)::putF f v r) from rfl]
    by_cases hk:k=f
    · rw[if_pos hk]
      subst hk
      exact⟨by simp,fun g h=>by simpa using h⟩
    · rw[if_neg hk]
      refine⟨?_,fun g h=>?_⟩
      · rw[List.map_cons]
        exact List.mem_cons_of_mem _ i1
      · rw[List.map_cons] at h ⊢
        rcases List.mem_cons.mp h with e | e
        · exact List.mem_cons.mpr (.inl e)
        · exact List.mem_cons_of_mem _ (i2 g e)
theorem length_putF (f:Str) (v:V):∀ fs:List (Str×V),(putF f v fs).length≤fs.length+1
  | []=>by simp[putF]
  | (k,x)::r=>by
    have ih:=length_putF f v r
    rw[show putF f v ((k,x)::r)=(if k=f then (k,v)::r else (k,x)::putF f v r) from rfl]
    by_cases hk:k=f
    · rw[if_pos hk,List.length_cons,List.length_cons];lia
    · rw[if_neg hk,List.length_cons,List.length_cons];lia

theorem RelO.some_of {v:V}{o:Option Value} (r:RelO (some v) o):∃ u,o=some u∧RelV v u:=by
  cases o with
  | none=>exact (show False from r).elim
  | some u=>exact⟨u,rfl,r⟩
theorem RelO.none_of {o:Option Value} (r:RelO none o):o=none:=by
  cases o with
  | none=>rfl
  | some u=>exact (show False from r).elim
theorem handed_of {v:V}{u:Value} (r:RelV v u):PySem.W.handedIn u=true:=by
  cases v with
  | non=>cases (show u=Value.none from r);rfl
  | bl b=>cases (show u=Value.bool b from r);rfl
  | int i=>obtain⟨t,e⟩:=(show ∃ t,u=Value.int i t from r);cases e;rfl
  | str x=>obtain⟨t,e⟩:=(show ∃ t,u=Value.str x t from r);cases e;rfl
  | byt b=>obtain⟨t,e⟩:=(show ∃ t,u=Value.bytes b t from r);cases e;rfl
  | flt b=>obtain⟨t,e⟩:=(show ∃ t,u=Value.float b t from r);cases e;rfl
  | ref a=>cases (show u=Value.ref a from r);rfl
  | ty n=>cases (show u=Value.type n from r);rfl

section
variable {P:Program}{w:World}{H H':Hp}{h h':Heap}{a C dx:Addr}{fs fs':List (Str×V)}
theorem ins_get (hok:HOk P w H h) (e:H a=some (.ins C dx fs)):∃ mA,ObjM h a dx C mA∧(∀ f,RelO (fs.lookup f) (mA f))∧PySem.Within mA (fs.map (·.1))∧fs.length≤1000∧H dx=some (.own a):=by
  obtain⟨d,z,ne,ob,mA,n,r,q⟩:=(show ObjOk P w H h a (.ins C dx fs) from hok a _ e)
  exact⟨mA,⟨ob,n,ne⟩,r,q,z,d⟩
end

structure Cls (K:PySem.W.Frag) (C:Addr):Prop where
  pg:PySem.W.plainGet K C Str.empty=true
  hd:PySem.W.hasDictIn K C=true
  po:PySem.W.plainOver K C=true
  sa:PySem.W.findIn K (.ref C) "__setattr__"=some (some (.builtin "object.__setattr__"))
theorem Cls.get {K:PySem.W.Frag}{C:Addr} (c:Cls K C) (f:Str):PySem.W.plainGet K C f=true:=c.pg
def NoAttr (K:PySem.W.Frag) (C:Addr) (f:Str):Prop:=PySem.W.findIn K (.ref C) f=some none
theorem NoAttr.taker {K:PySem.W.Frag}{C:Addr}{f:Str} (n:NoAttr K C f):PySem.W.takerIn K C f=some none:=by
  unfold PySem.W.takerIn
  rw[show PySem.W.findIn K (.ref C) f=some none from n]
  rfl
structure Meth (K:PySem.W.Frag) (C:Addr) (m:Str) (f:Addr):Prop where
  at_:PySem.W.findIn K (.ref C) m=some (some (.ref f))
  fn:PySem.W.isFn K (.ref f)=true
  kp:PySem.W.keepIn K (.ref f)=true

section
variable {X:Cx}{pins:List (Addr×Obj)}{σ:St}{H:Hp}{s:Shared}{a C dx:Addr}{fs:List (Str×V)}{f:Str}{v:V}{A:Around}{E:Value→Shared→Prop}

theorem getattr_ok {b:Bool}{Q:Value→Shared→Prop} (I:Inv X pins σ H s) (e:H a=some (.ins C dx fs)) (c:Cls X.K C) (n:NoAttr X.K C f) (l:fs.lookup f=some v)
    (h:∀ u s',Inv X pins σ H s'→RelV v u→Q u s'):wpAny (model X.prog X.w) A (getAttr (.ref a) f b) Q E s:=by
  obtain⟨mA,O,r,_,_,_⟩:=ins_get I.hok e
  obtain⟨u,hu,ru⟩:=RelO.some_of (v:=v) (o:=mA f) (by rw[←l];exact r f)
  exact get_map I.kIn O (c.get f) c.hd n hu (handed_of ru) (h u _ (I.tok _) ru)


theorem getmeth_ok {m:Str}{g:Addr}{pl:Sem Bool}{Q:Value×List Value→Shared→Prop} (I:Inv X pins σ H s) (e:H a=some (.ins C dx fs)) (c:Cls X.K C) (k:Meth X.K C m g) (l:fs.lookup m=none)
    (h:Q (.ref g,[.ref a]) s):wpAny (model X.prog X.w) A (getMethod (.ref a) m pl) Q E s:=by
  obtain⟨mA,O,r,_,_,_⟩:=ins_get I.hok e
  have hn:mA m=none:=RelO.none_of (by rw[←l];exact r m)
  exact get_meth I.kIn O (c.get m) k.at_ k.fn hn h

theorem setattr_ok {y:V}{u:Value}{Q:Unit→Shared→Prop} (I:Inv X pins σ H s) (e:H a=some (.ins C dx fs)) (c:Cls X.K C) (n:NoAttr X.K C f) (hl:fs.length<1000) (ry:RelV y u)
    (h:∀ s',Inv X pins σ (upd H a (.ins C dx (putF f y fs))) s'→Q () s'):wpAny (model X.prog X.w) A (setAttr (.ref a) f u) Q E s:=by
  obtain⟨mA,O,r,wi,_,ho⟩:=ins_get I.hok e
  have hz:(fs.map (·.1)).length≤sizeLine:=by rw[List.length_map,sizeLine_eq];lia
  refine set_map I.kIn O c.sa c.po n.taker c.hd wi hz fun h' O' sb=>h _ ?_
  have hd:∃ o,h'.get? dx=some o:=let ⟨o,_,_,e',_⟩:=O'.ns;⟨o,e'⟩
  refine I.write (x:=a) (e:=dx) (by rw[e];exact True.intro) (.inr ho) (fun b q hb z=>(sb.2 b hb).trans z) hd ?_
  refine⟨by rw[upd_ne O.ne];exact ho,?_,O.ne,O'.obj,_,O'.ns,fun g=>?_,fun g hg=>?_⟩
  · have:=length_putF f y fs;lia
  · show RelO ((putF f y fs).lookup g) (if g=f then some u else mA g)
    rw[lookup_putF]
    by_cases q:g=f
    · rw[if_pos q,if_pos q];exact ry
    · rw[if_neg q,if_neg q];exact r g
  · by_cases q:g=f
    · rw[q];exact (keys_putF f y fs).1
    · refine (keys_putF f y fs).2 g (wi g fun z=>hg ?_)
      show (if g=f then some u else mA g)=none
      rw[if_neg q];exact z

theorem Inv.made (I:Inv X pins σ H s):Inv X pins σ (upd (upd H s.heap.objs.size (.own (s.heap.objs.size+1))) (s.heap.objs.size+1) (.ins C s.heap.objs.size []))
    { s with heap:=(s.heap.push PySem.W.emptyDict).push (PySem.W.instObj C s.heap.objs.size) }:=by
  have e1:(s.heap.push PySem.W.emptyDict).get? s.heap.objs.size=some PySem.W.emptyDict:=Heap.get?_push_size s.heap rfl
  have e2:((s.heap.push PySem.W.emptyDict).push (PySem.W.instObj C s.heap.objs.size)).get? (s.heap.objs.size+1)=some (PySem.W.instObj C s.heap.objs.size):=by
    have:=Heap.get?_push_size (s.heap.push PySem.W.emptyDict) (o:=PySem.W.instObj C s.heap.objs.size) rfl
    rwa [Heap.size_push] at this
  have e3:(s.heap.push PySem.W.emptyDict).Ns s.heap.objs.size (fun _=>none):=⟨PySem.W.emptyDict,#[],_,e1,rfl,(fun e he=>absurd he (by simp)),fun _=>rfl⟩
  have I1:=I.laid (a:=s.heap.objs.size) (o:=.own (s.heap.objs.size+1)) (h':=s.heap.push PySem.W.emptyDict) (t':=s.toks) (fun b u q=>Heap.get?_push_of_some _ q) (Nat.le_refl _) ⟨_,e1⟩
  refine I1.laid (a:=s.heap.objs.size+1) (o:=.ins C s.heap.objs.size []) (t':=s.toks) (fun b u q=>Heap.get?_push_of_some _ q) (Nat.le_of_eq (Heap.size_push _ _)) ?_
  have ne:s.heap.objs.size≠s.heap.objs.size+1:=Nat.ne_of_lt (Nat.lt_succ_self _)
  refine⟨by rw[upd_ne ne,upd_same],Nat.zero_le _,ne,e2,fun _=>none,(Heap.Ns1.of_empty e3).at fun o q=>Heap.get?_push_of_some _ q,fun _=>True.intro,fun y hy=>absurd rfl hy⟩

theorem attr_of {prog:Program}{w:World}{env:Env}{e:Expr}{f:Str}{pos:Pos}{s:Shared}{Q:Value→Shared→Prop} (hb:attributeBase e f env (eval e env)=eval e env)
    (h:wpAny (model prog w) A (eval e env) (fun o s₁=>wpAny (model prog w) A (getAttr o f true) Q E s₁) E s):wpAny (model prog w) A (eval (.Attribute e f pos) env) Q E s :=
  Attribute_any_ h (by rw[arm_eval_Attribute,hb])
end

def tFld (K:PySem.W.Frag) (ta:TE) (f:Str):TE:=fun σ H Q=>ta σ H fun x H1=>∃ a C dx fs v,x=.ref a∧H1 a=some (.ins C dx fs)∧Cls K C∧NoAttr K C f∧fs.lookup f=some v∧Q v H1
def sFld (K:PySem.W.Frag) (ta tv:TE) (f:Str):TS:=fun D σ H=>tv σ H fun y H1=>ta σ H1 fun x H2=>∃ a C dx fs,x=.ref a∧H2 a=some (.ins C dx fs)∧Cls K C∧NoAttr K C f∧fs.length<1000 ∧
  D.nx σ (upd H2 a (.ins C dx (putF f y fs)))
def InOp (X:Cx) (op:Operator) (rd:V→V→Hp→VK→Prop):Prop :=
  ∀ (pins:List (Addr×Obj)) (s:Shared) (σ:St) (H:Hp) (x y:V) (u v:Value) (Q:VK),Inv X pins σ H s→RelV x u→RelV y v→rd x y H Q→wpAny (model X.prog X.w) X.A (inplaceOp op u v) (EP X pins σ Q) X.xe s
def sFldAug (K:PySem.W.Frag) (ta tv:TE) (rd:V→V→Hp→VK→Prop) (f:Str):TS:=fun D σ H=>ta σ H fun x H1=>∃ a C dx fs v,x=.ref a∧H1 a=some (.ins C dx fs)∧Cls K C∧NoAttr K C f∧fs.lookup f=some v ∧
  tv σ H1 fun y H2=>rd v y H2 fun z H3=>∃ dx' fs',H3 a=some (.ins C dx' fs')∧fs'.length<1000∧D.nx σ (upd H3 a (.ins C dx' (putF f z fs')))

section
variable {X:Cx}{o e value:Expr}{f:Str}{pos pos' tpos:Pos}{ta tv:TE}
theorem pe_fld (he:PE X e ta) (hb:attributeBase e f X.env (eval e X.env)=eval e X.env):PE X (.Attribute e f pos) (tFld X.K ta f):=by
  intro pins s σ H Q I h
  refine attr_of hb (thn (he pins s σ H _ I h) fun u s1 ⟨x,H1,I1,rx,a,C,dx,fs,v,ex,ea,c,n,l,q⟩=>?_)
  subst ex
  obtain rfl:u=Value.ref a:=rx
  exact getattr_ok I1 ea c n l fun u' s2 I2 ru=>⟨v,H1,I2,ru,q⟩
theorem ps_fld (ha:PE X o ta) (hv:PE X value tv) (hs:swapsWith value (some (.Attribute o f pos')) pos.line X.env=pure false):PS X (.Assign [.Attribute o f pos'] value pos) (sFld X.K ta tv f):=by
  intro pins s σ H D I h
  refine plainObj_wpAny_Assign_Attribute (thn (hv pins s σ H _ I h) fun u s1 ⟨y,H1,I1,ry,q⟩=>thn (ha pins s1 σ H1 _ I1 q) fun ov s2 ⟨x,H2,I2,rx,a,C,dx,fs,ex,ea,c,n,l,q2⟩=>?_) hs
  subst ex
  obtain rfl:ov=Value.ref a:=rx
  exact setattr_ok I2 ea c n l ry fun s3 I3=>⟨σ,_,I3,q2⟩
theorem ps_fldaug {op:Operator}{rd:V→V→Hp→VK→Prop} (ha:PE X o ta) (hv:PE X value tv) (hop:InOp X op rd):PS X (.AugAssign (.Attribute o f tpos) op value pos) (sFldAug X.K ta tv rd f):=by
  intro pins s σ H D I h
  refine wpAny_AugAssign_AttributeAny (thn (ha pins s σ H _ I h) fun ov s1 ⟨x,H1,I1,rx,a,C,dx,fs,v,ex,ea,c,n,l,q⟩=>?_)
  subst ex
  obtain rfl:ov=Value.ref a:=rx
  refine getattr_ok I1 ea c n l fun u s2 I2 ru=>thn (hv pins s2 σ H1 _ I2 q) fun w3 s3 ⟨y,H2,I3,ry,q3⟩=>thn (hop pins s3 σ H2 v y u w3 _ I3 ru ry q3) fun w4 s4 ⟨z,H3,I4,rz,dx',fs',ea',l',q4⟩=>?_
  exact setattr_ok I4 ea' c n l' rz fun s5 I5=>⟨σ,_,I5,q4⟩
def rAdd:V→V→Hp→VK→Prop:=fun x y H Q=>∃ i j,x=.int i∧y=.int j∧Q (.int (i+j)) H
def rSub:V→V→Hp→VK→Prop:=fun x y H Q=>∃ i j,x=.int i∧y=.int j∧Q (.int (i-j)) H
theorem in_add:InOp X .Add rAdd:=by
  rintro pins s σ H x y u v Q I rx ry ⟨i,j,rfl,rfl,q⟩
  obtain⟨t,rfl⟩:=(show ∃ t,u=Value.int i t from rx)
  obtain⟨t',rfl⟩:=(show ∃ t',v=Value.int j t' from ry)
  exact PyProof.Rows.iadd_int ⟨.int (i+j),H,I.tok _,⟨_,rfl⟩,q⟩
theorem in_sub:InOp X .Sub rSub:=by
  rintro pins s σ H x y u v Q I rx ry ⟨i,j,rfl,rfl,q⟩
  obtain⟨t,rfl⟩:=(show ∃ t,u=Value.int i t from rx)
  obtain⟨t',rfl⟩:=(show ∃ t',v=Value.int j t' from ry)
  exact PyProof.Rows.isub_int ⟨.int (i-j),H,I.tok _,⟨_,rfl⟩,q⟩

theorem methcall_of {pl:Sem Bool}{m:Str}{apos:Pos}{args:List Expr}{pins:List (Addr×Obj)}{s:Shared}{σ:St}{H:Hp}{Q:Value→Shared→Prop}{te:TE} (he:PE X e te) (I:Inv X pins σ H s)
    (h:te σ H fun x H1=>∃ a C dx fs g,x=.ref a∧H1 a=some (.ins C dx fs)∧Cls X.K C∧Meth X.K C m g∧fs.lookup m=none ∧
      ∀ s1,Inv X pins σ H1 s1→wpAny (model X.prog X.w) X.A (callWith pos (.ref g) [.ref a] (backTo pos (starEach args X.env)) (backToKw pos (keywordEach [] X.env))) Q X.xe s1)
    (ht:eval (.Call (.Attribute e m apos) args [] pos) X.env=(do
      let ov ←eval e X.env
      standAt apos.atName
      let (f,first) ←holding [ov] (getMethod ov m pl)
      callWith pos f first (backTo pos (starEach args X.env)) (backToKw pos (keywordEach [] X.env)))) :
    wpAny (model X.prog X.w) X.A (eval (.Call (.Attribute e m apos) args [] pos) X.env) Q X.xe s:=by
  refine PySem.W.methodCall_KW (pl:=pl) (thn (he pins s σ H _ I h) fun u s1 ⟨x,H1,I1,rx,a,C,dx,fs,g,ex,ea,c,k,l,q⟩=>?_) ht
  subst ex
  obtain rfl:u=Value.ref a:=rx
  exact getmeth_ok I1 ea c k l (q s1 I1)
end

section
variable {X:Cx}{pins:List (Addr×Obj)}{σ:St}{H:Hp}{s:Shared}{A:Around}{E:Value→Shared→Prop}{Q:Value→Shared→Prop}{c:Value}{b:Bool}
end
end L2

namespace L2
open PySem PySem.Spec PyProof.Rows

structure Room (k:Nat) (A:Around):Prop where
  hd:A.handled=none
  dp:A.depth+3*k+5<recursionLimit
  un:A.units+16*k+200<cLine
theorem Room.mono {j k:Nat}{A:Around} (r:Room k A) (h:j≤k):Room j A:=⟨r.hd,by have:=r.dp;lia,by have:=r.un;lia⟩
theorem Room.deeper {k:Nat}{A:Around} (r:Room (k+1) A) (env:Env):Room k (A.deeper env) :=
  ⟨r.hd,by have:=r.dp;show A.depth+1+3*k+5<_;lia,by have:=r.un;show A.units+3+16*k+200<_;lia⟩
theorem make_depth {A:Around}{C:Addr}{us:List Value}{kw:List (Str×Value)}:(A.under (.builtin "type.__call__" ⟨.ref C::us,kw⟩)).depth=A.depth+1:=by
  first | rfl | simp[Around.under,Code.weight,Code.isCreation,Code.isGuard,Code.isCaller,Code.frames,Code.isFrame,guardIds]
theorem make_units {A:Around}{C:Addr}{us:List Value}{kw:List (Str×Value)}:(A.under (.builtin "type.__call__" ⟨.ref C::us,kw⟩)).units=A.units+1:=by
  first | rfl | simp[Around.under,Code.cUnits,Code.frames,Code.isFrame]
theorem Room.make {k:Nat}{A:Around} (r:Room (k+1) A) (C:Addr) (us:List Value) (kw:List (Str×Value)):Room k (A.under (.builtin "type.__call__" ⟨.ref C::us,kw⟩)) :=
  ⟨r.hd,by have:=r.dp;rw[make_depth];lia,by have:=r.un;rw[make_units];lia⟩
theorem Room.depth {k:Nat}{A:Around} (r:Room k A):A.depth<recursionLimit:=by have:=r.dp;lia

def tNil:TA:=fun _ H Q=>Q [] H
def tCons (ta:TE) (tr:TA):TA:=fun σ H Q=>ta σ H fun x H1=>tr σ H1 fun xs H2=>Q (x::xs) H2
section
variable {X:Cx}{e:Expr}{es:List Expr}{te:TE}{t:TA}{pos:Pos}
theorem pa_nil:PA X [] tNil:=fun _ _ _ _ H Q I h=>Calls.spliced_nil ⟨[],H,I,.nil,h⟩
theorem pa_cons (ha:PE X e te) (hr:PA X es t) (hs:starEach (e::es) X.env=(false,eval e X.env)::starEach es X.env:=by rfl):PA X (e::es) (tCons te t):=by
  intro pos pins s σ H Q I h
  rw[hs]
  show wpAny _ _ (spliced ((false,eval e X.env)::backTo pos (starEach es X.env))) _ _ s
  refine Calls.spliced_cons (thn (ha pins s σ H _ I h) fun u s1 ⟨x,H1,I1,r1,q1⟩=>?_)
  exact thn (hr pos pins s1 σ H1 _ I1 q1) fun us s2 ⟨xs,H2,I2,r2,q2⟩=>⟨x::xs,H2,I2,.cons r1 r2,q2⟩

def tTup (t:TA):TE:=fun σ H Q=>t σ H fun xs H1=>xs.length≤sizeLine∧∀ p,H1 p=none→Q (.ref p) (upd H1 p (.tup xs))
def tLst (t:TA):TE:=fun σ H Q=>t σ H fun xs H1=>xs.length≤sizeLine∧∀ p,H1 p=none→Q (.ref p) (upd H1 p (.lst xs))
theorem pe_tup {x1} (h:PA X es t):PE X (.Tuple es x1 pos) (tTup t):=by
  intro pins s σ H Q I hq
  refine wpAny_Tuple_spliced (thn (h pos pins s σ H _ I hq) fun us s1 ⟨xs,H1,I1,r,z,q⟩=>⟨by rw[←r.length];exact z,?_⟩)
  have hf:H1 s1.heap.objs.size=none:=I1.hok.fresh (Nat.le_refl _)
  refine⟨.ref s1.heap.objs.size,upd H1 s1.heap.objs.size (.tup xs),I1.laid (t':=s1.toks) (fun b u e=>Heap.get?_push_of_some _ e) (Nat.le_refl _) ?_,rfl,q _ hf⟩
  exact⟨z,us,r,⟨_,Heap.get?_push_size _ rfl,rfl,_,rfl⟩⟩
theorem pe_lst (h:PA X es t):PE X (.List es pos) (tLst t):=by
  intro pins s σ H Q I hq
  refine wpAny_List_spliced (thn (h pos pins s σ H _ I hq) fun us s1 ⟨xs,H1,I1,r,z,q⟩=>⟨by rw[←r.length];exact z,?_⟩)
  have hf:H1 s1.heap.objs.size=none:=I1.hok.fresh (Nat.le_refl _)
  refine⟨.ref s1.heap.objs.size,upd H1 s1.heap.objs.size (.lst xs),I1.laid (t':=s1.toks) (fun b u e=>Heap.get?_push_of_some _ e) (Nat.le_refl _) ?_,rfl,q _ hf⟩
  exact⟨z,us,0,r,Heap.get?_push_size _ rfl⟩
end

abbrev Sp:=List V→Hp→VK→XK→Prop
abbrev CXT:=List Env→Hp→Shared→XK→Value→Shared→Prop

structure Env0 (P:Program) (w:World) (K:PySem.W.Frag) (mg:Str→Option Value) (base:Heap) (A:Around) (outer:List Env) (s:Shared) (H:Hp):Prop where
  frames:A.frames=some outer
  mod:Mod K mg base
  bs:∀ b o,base.get? b=some o→s.heap.get? b=some o∧H b=none
  bsz:base.objs.size≤s.heap.objs.size
  funs:s.heap.FunFrames base outer
  frf:∀ b∈frs outer,H b=none
  hok:HOk P w H s.heap
  bare:AllBare s.gens
def CE (outer:List Env) (P:Program) (w:World) (H:Hp) (s:Shared) (Q:VK) (u:Value) (s':Shared):Prop :=
  ∃ v H',s'.os=s.os∧AllBare s'.gens∧Un (frs outer) [] H H' s.heap s'.heap∧HOk P w H' s'.heap∧RelV v u∧Q v H'
def CR (CX:CXT) (outer:List Env) (P:Program) (w:World) (H:Hp) (s:Shared) (Q:VK) (E:XK) (r:Result) (s':Shared):Prop :=
  match r with
  | .ok (.ret u)=>CE outer P w H s Q u s'
  | .ok _=>False
  | .error e=>CX outer H s E e s'
structure FnOk (P:Program) (w:World) (K:PySem.W.Frag) (mg:Str→Option Value) (base:Heap) (CX:CXT) (k:Nat) (f:Addr) (fd:FuncData) (ps:List Str) (sp:Sp):Prop where
  len:∀ vs H Q E,sp vs H Q E→vs.length=ps.length
  run:∀ (A:Around) (outer:List Env) (s:Shared) (H:Hp) (args:Args) (us:List Value) (vs:List V) (Q:VK) (E:XK),Room k A→Env0 P w K mg base A outer s H→BindsTo s fd args (ps.zip us)→Vals vs us→sp vs H Q E →
    codeAny (model P w) A (.call (.ref f) args) (CR CX outer P w H s Q E) s

theorem Env0.make {P:Program}{w:World}{K:PySem.W.Frag}{mg:Str→Option Value}{base:Heap}{A:Around}{outer:List Env}{s:Shared}{H:Hp} (e:Env0 P w K mg base A outer s H) (C:Addr) (us:List Value) (kw:List (Str×Value)) :
    Env0 P w K mg base (A.under (.builtin "type.__call__" ⟨.ref C::us,kw⟩)) outer s H:=⟨by first | exact e.frames | (simpa [Around.under,Code.envs,Code.isFrame,pushEnvs] using e.frames),e.mod,e.bs,e.bsz,e.funs,e.frf,e.hok,e.bare⟩

section
variable {X:Cx}{pins:List (Addr×Obj)}{σ:St}{H:Hp}{s s':Shared}
theorem Inv.env0 (I:Inv X pins σ H s):Env0 X.prog X.w X.K X.mg X.base X.A X.stack s H :=
  ⟨I.ok.frames,I.ok.mod,I.bs,Nat.le_trans I.ok.bsz I.sz,I.stack,I.stkFree,I.hok,I.bare⟩
theorem Inv.after {Q:VK}{u:Value} (I:Inv X pins σ H s) (h:CE X.stack X.prog X.w H s Q u s'):EP X pins σ Q u s':=by
  obtain⟨v,H',os,bare,un,hok,r,q⟩:=h
  obtain⟨hh,g,d,t,os'⟩:=s'
  obtain rfl:os'=s.os:=os
  exact⟨v,H',I.call (h':=hh) (g':=g) (d':=d) (t':=t) (ch:=[]) un hok bare (fun b z=>absurd z (by simp)),r,q⟩
end

def tCall (sp:Sp) (dvs:List V) (E:XK) (t:TA):TE:=fun σ H Q=>t σ H fun vs H1=>sp (vs++dvs) H1 Q E
def tMeth (C:Addr) (m:Str) (sp:Sp) (dvs:List V) (E:XK) (ta:TE) (t:TA):TE:=fun σ H Q=>ta σ H fun x H1=>∃ a dx fs,x=.ref a∧H1 a=some (.ins C dx fs)∧fs.lookup m=none ∧
  t σ H1 fun vs H2=>sp (x::(vs++dvs)) H2 Q E
def tMake (C:Addr) (sp:Sp) (dvs:List V) (E:XK) (t:TA):TE:=fun σ H Q=>t σ H fun vs H1=>∀ x dx,H1 x=none→H1 dx=none→dx≠x →
  sp (.ref x::(vs++dvs)) (upd (upd H1 dx (.own x)) x (.ins C dx [])) (fun v H2=>v=.non∧Q (.ref x) H2) E

def Binds (K:PySem.W.Frag) (fd:FuncData) (ps:List Str) (ds:List Value):Prop :=
  ∀ (s:Shared) (us:List Value),K.In s.heap→(us++ds).length=ps.length→BindsTo s fd ⟨us,[]⟩ (ps.zip (us++ds))
theorem Binds.all {K:PySem.W.Frag}{fd:FuncData}{ps:List Str} (h:∀ us:List Value,us.length=ps.length→bindArgs fd ⟨us,[]⟩=pure (ps.zip us)):Binds K fd ps []:=fun s us _ hl=>by
  rw[List.append_nil] at hl ⊢
  exact .of_eq (h us hl)

def Passes (CX:CXT) (X:Cx) (E:XK):Prop:=∀ (pins:List (Addr×Obj)) (σ:St) (H:Hp) (s:Shared) (e:Value) (s':Shared),Inv X pins σ H s→CX X.stack H s E e s'→X.xe e s'

section
variable {X:Cx}{CX:CXT}{k:Nat}{f C:Addr}{fd:FuncData}{ps:List Str}{sp:Sp}{dvs:List V}{ds:List Value}{E:XK}{x m:Str}{p pos apos:Pos}{e o:Expr}{es:List Expr}{ta:TE}{t:TA}

theorem run_fn {pins:List (Addr×Obj)}{σ:St}{H:Hp}{s:Shared}{Q:VK}{us:List Value}{vs:List V} (F:FnOk X.prog X.w X.K X.mg X.base CX k f fd ps sp) (hr:Room k X.A) (hb:Binds X.K fd ps ds) (hd:Vals dvs ds) (hx:Passes CX X E)
    (I:Inv X pins σ H s) (r:Vals vs us) (h:sp (vs++dvs) H Q E):wpAny (model X.prog X.w) X.A (call (.ref f) us) (EP X pins σ Q) X.xe s:=by
  have r2:Vals (vs++dvs) (us++ds):=r.append hd
  have hl:(us++ds).length=ps.length:=by rw[←r2.length];exact F.len _ _ _ _ h
  refine wpAny_call (codeAny_mono (F.run X.A X.stack s H ⟨us,[]⟩ (us++ds) (vs++dvs) Q E hr I.env0 (hb s us I.kIn hl) r2 h) fun r s' hq=>?_)
  cases r with
  | error e=>exact hx pins σ H s e s' I hq
  | ok fl =>
    cases fl with
    | ret u=>exact I.after hq
    | next=>exact False.elim hq
    | brk=>exact False.elim hq
    | cont=>exact False.elim hq

theorem pe_call (F:FnOk X.prog X.w X.K X.mg X.base CX k f fd ps sp) (hr:Room k X.A) (hg:Gl X x) (hm:X.mg x=some (.ref f)) (hk:PySem.W.keepIn X.K (.ref f)=true) (hb:Binds X.K fd ps ds) (hd:Vals dvs ds) (hx:Passes CX X E)
    (ha:PA X (e::es) t) (hdb:(x == ("__debug__":Str))=false:=by decide) (he:starEach (e::es) X.env=(false,eval e X.env)::starEach es X.env:=by rfl) (hpl:(backTo pos (starEach es X.env)).any (·.1)=false:=by rfl) :
    PE X (.Call (.Name x p) (e::es) [] pos) (tCall sp dvs E t):=by
  intro pins s σ H Q I h
  refine wpAny_Call_Name_kw (ld_glob I hg hm ?_ hdb)
  refine PySem.W.callWith_K (h₀:=X.base) I.ok.mod.kin hk (thn (ha pos pins s σ H _ I h) fun us s1 ⟨vs,H1,I1,r,q⟩=>⟨I1.kIn,?_⟩) he hpl
  exact run_fn F hr hb hd hx I1 r q

theorem pe_meth {pl:Sem Bool} (he:PE X o ta) (c:Cls X.K C) (hm:Meth X.K C m f) (F:FnOk X.prog X.w X.K X.mg X.base CX k f fd ps sp) (hr:Room k X.A) (hb:Binds X.K fd ps ds) (hd:Vals dvs ds) (hx:Passes CX X E) (ha:PA X (e::es) t)
    (hst:starEach (e::es) X.env=(false,eval e X.env)::starEach es X.env:=by rfl) (hpl:(backTo pos (starEach es X.env)).any (·.1)=false:=by rfl)
    (ht:eval (.Call (.Attribute o m apos) (e::es) [] pos) X.env=(do
      let ov ←eval o X.env
      standAt apos.atName
      let (f,first) ←holding [ov] (getMethod ov m pl)
      callWith pos f first (backTo pos (starEach (e::es) X.env)) (backToKw pos (keywordEach [] X.env))):=by rfl) :
    PE X (.Call (.Attribute o m apos) (e::es) [] pos) (tMeth C m sp dvs E ta t):=by
  intro pins s σ H Q I h
  refine PySem.W.methodCall_KW (pl:=pl) (thn (he pins s σ H _ I h) fun u s1 ⟨x,H1,I1,rx,a,dx,fs,ex,ea,l,q⟩=>?_) ht
  subst ex
  obtain rfl:u=Value.ref a:=rx
  refine getmeth_ok I1 ea c hm l ?_
  refine PySem.W.callWith_K (first:=[.ref a]) (h₀:=X.base) I.ok.mod.kin hm.kp (thn (ha pos pins s1 σ H1 _ I1 q) fun us s2 ⟨vs,H2,I2,r,q2⟩=>⟨I2.kIn,?_⟩) hst hpl
  exact run_fn (us:=.ref a::us) (vs:=.ref a::vs) F hr hb hd hx I2 (.cons rfl r) q2
theorem pe_meth0 {pl:Sem Bool} (he:PE X o ta) (c:Cls X.K C) (hm:Meth X.K C m f) (F:FnOk X.prog X.w X.K X.mg X.base CX k f fd ps sp) (hr:Room k X.A) (hb:Binds X.K fd ps ds) (hd:Vals dvs ds) (hx:Passes CX X E)
    (ht:eval (.Call (.Attribute o m apos) [] [] pos) X.env=(do
      let ov ←eval o X.env
      standAt apos.atName
      let (f,first) ←holding [ov] (getMethod ov m pl)
      callWith pos f first (backTo pos (starEach [] X.env)) (backToKw pos (keywordEach [] X.env))):=by rfl) :
    PE X (.Call (.Attribute o m apos) [] [] pos) (tMeth C m sp dvs E ta tNil):=by
  intro pins s σ H Q I h
  refine PySem.W.methodCall_KW (pl:=pl) (thn (he pins s σ H _ I h) fun u s1 ⟨x,H1,I1,rx,a,dx,fs,ex,ea,l,q⟩=>?_) ht
  subst ex
  obtain rfl:u=Value.ref a:=rx
  refine getmeth_ok I1 ea c hm l ?_
  exact PySem.W.callWith_K0 (first:=[.ref a]) I1.kIn hm.kp (run_fn (us:=[.ref a]) (vs:=[.ref a]) F hr hb hd hx I1 (.cons rfl .nil) q)

structure Mk (K:PySem.W.Frag) (C f:Addr):Prop where
  makes:PySem.W.makesIn K C=true
  init:PySem.W.findIn K (.ref C) "__init__"=some (some (.ref f))
  fn:PySem.W.isFn K (.ref f)=true
  kp:PySem.W.keepIn K (.ref C)=true

theorem run_make {pins:List (Addr×Obj)}{σ:St}{H:Hp}{s:Shared}{Q:VK}{us:List Value}{vs:List V} (M:Mk X.K C f) (F:FnOk X.prog X.w X.K X.mg X.base CX k f fd ps sp) (hr:Room (k+1) X.A) (hb:Binds X.K fd ps ds) (hd:Vals dvs ds)
    (hx:Passes CX X E) (I:Inv X pins σ H s) (r:Vals vs us)
    (h:∀ x dx,H x=none→H dx=none→dx≠x→sp (.ref x::(vs++dvs)) (upd (upd H dx (.own x)) x (.ins C dx [])) (fun v H2=>v=.non∧Q (.ref x) H2) E) :
    wpAny (model X.prog X.w) X.A (call (.ref C) us) (EP X pins σ Q) X.xe s:=by
  have hq:=h (s.heap.objs.size+1) s.heap.objs.size (I.hok.fresh (Nat.le_succ _)) (I.hok.fresh (Nat.le_refl _)) (Nat.ne_of_lt (Nat.lt_succ_self _))
  have I2:=Inv.made (C:=C) I
  have r2:Vals (V.ref (s.heap.objs.size+1)::(vs++dvs)) (Value.ref (s.heap.objs.size+1)::(us++ds)):=.cons rfl (r.append hd)
  have hl:(Value.ref (s.heap.objs.size+1)::us++ds).length=ps.length:=by
    have e:=r2.length
    rw[F.len _ _ _ _ hq] at e
    exact e.symm
  refine wpAny_call (make_map (f:=f) I.kIn M.makes M.init (beq_iff_eq.mp M.fn) (codeAny_mono (F.run _ X.stack _ _ ⟨Value.ref (s.heap.objs.size+1)::us,[]⟩ (Value.ref (s.heap.objs.size+1)::(us++ds)) _ _ E (hr.make C us [])
    (I2.env0.make C us []) (hb _ (Value.ref (s.heap.objs.size+1)::us) I2.kIn hl) r2 hq) fun r s' hq'=>?_))
  cases r with
  | error e=>exact hx pins σ _ _ e s' I2 hq'
  | ok fl =>
    cases fl with
    | ret u =>
      obtain⟨v,H',I3,rv,ev,q3⟩:=I2.after hq'
      subst ev
      exact⟨rv,⟨V.ref (s.heap.objs.size+1),H',I3,rfl,q3⟩⟩
    | next=>exact False.elim hq'
    | brk=>exact False.elim hq'
    | cont=>exact False.elim hq'
theorem pe_make (M:Mk X.K C f) (F:FnOk X.prog X.w X.K X.mg X.base CX k f fd ps sp) (hr:Room (k+1) X.A) (hg:Gl X x) (hm:X.mg x=some (.ref C)) (hb:Binds X.K fd ps ds) (hd:Vals dvs ds) (hx:Passes CX X E)
    (ha:PA X (e::es) t) (hdb:(x == ("__debug__":Str))=false:=by decide) (he:starEach (e::es) X.env=(false,eval e X.env)::starEach es X.env:=by rfl) (hpl:(backTo pos (starEach es X.env)).any (·.1)=false:=by rfl) :
    PE X (.Call (.Name x p) (e::es) [] pos) (tMake C sp dvs E t):=by
  intro pins s σ H Q I h
  refine wpAny_Call_Name_kw (ld_glob I hg hm ?_ hdb)
  refine PySem.W.callWith_K (h₀:=X.base) I.ok.mod.kin M.kp (thn (ha pos pins s σ H _ I h) fun us s1 ⟨vs,H1,I1,r,q⟩=>⟨I1.kIn,?_⟩) he hpl
  exact run_make M F hr hb hd hx I1 r q
end

section
variable {X:Cx}{CX:CXT}{k:Nat}{f C:Addr}{fd:FuncData}{ps ks:List Str}{sp:Sp}{E:XK}{x m:Str}{p pos apos kpos:Pos}{e o:Expr}{es:List Expr}{kws:List Keyword}{te ta:TE}{t tk:TA}{nm:Option Str}

variable {g:List Value→List Value→List Value}{gV:List V→List V→List V}
end

structure FnScope (N P:List Str) (sc:Scope):Prop where
  kind:sc.kind=.function
  co:sc.isCoroutine=false
  gen:sc.isGenerator=false
  nd:N.Nodup
  pre:N.take P.length=P
  par:∀ x∈P,sc.names.lookup x=some .local∨sc.names.lookup x=some .cell
  nofree:∀ y∈sc.names,y.2≠.free

theorem bindL_out {kindOf:Str→Option NameKind}{x:Str}:∀ {binds:List (Str×Value)}{m:Str→Option Value},(∀ v,(x,v) ∉ binds)→bindL kindOf binds m x=m x
  | [],_,_=>rfl
  | (n,v)::r,m,h=>by
    unfold bindL
    rw[bindL_out fun w hw=>h w (List.mem_cons_of_mem _ hw)]
    split
    · have:x≠n:=by rintro rfl;exact h v List.mem_cons_self
      simp[this]
    · rfl
theorem bindC_out {kindOf:Str→Option NameKind}{x:Str}:∀ {binds:List (Str×Value)}{m:Str→Option Value},(∀ v,(x,v) ∉ binds)→bindC kindOf binds m x=m x
  | [],_,_=>rfl
  | (n,v)::r,m,h=>by
    unfold bindC
    rw[bindC_out fun w hw=>h w (List.mem_cons_of_mem _ hw)]
    split
    · rfl
    · have:x≠n:=by rintro rfl;exact h v List.mem_cons_self
      simp[this]
theorem bindL_get {kindOf:Str→Option NameKind}{x:Str}{v:Value}:∀ {P:List Str}{vs:List Value}{i:Nat}{m:Str→Option Value},P.Nodup→P[i]?=some x→vs[i]?=some v→kindOf x=some .local →
    bindL kindOf (P.zip vs) m x=some v
  | [],_,_,_,_,h,_,_=>by simp at h
  | _::_,[],_,_,_,_,h,_=>by simp at h
  | p::P,w::vs,0,m,nd,h1,h2,hk=>by
    simp at h1 h2;subst h1;subst h2
    show bindL kindOf ((p,w)::P.zip vs) m p=_
    unfold bindL
    rw[bindL_out fun v hv=>(List.nodup_cons.mp nd).1 (List.of_mem_zip hv).1,if_pos hk]
    simp
  | p::P,w::vs,i+1,m,nd,h1,h2,hk=>by
    show bindL kindOf ((p,w)::P.zip vs) m x=_
    unfold bindL
    exact bindL_get (i:=i) (List.nodup_cons.mp nd).2 (by simpa using h1) (by simpa using h2) hk
theorem bindC_get {kindOf:Str→Option NameKind}{x:Str}{v:Value}:∀ {P:List Str}{vs:List Value}{i:Nat}{m:Str→Option Value},P.Nodup→P[i]?=some x→vs[i]?=some v→kindOf x≠some .local →
    bindC kindOf (P.zip vs) m x=some v
  | [],_,_,_,_,h,_,_=>by simp at h
  | _::_,[],_,_,_,_,h,_=>by simp at h
  | p::P,w::vs,0,m,nd,h1,h2,hk=>by
    simp at h1 h2;subst h1;subst h2
    show bindC kindOf ((p,w)::P.zip vs) m p=_
    unfold bindC
    rw[bindC_out fun v hv=>(List.nodup_cons.mp nd).1 (List.of_mem_zip hv).1,if_neg hk]
    simp
  | p::P,w::vs,i+1,m,nd,h1,h2,hk=>by
    show bindC kindOf ((p,w)::P.zip vs) m x=_
    unfold bindC
    exact bindC_get (i:=i) (List.nodup_cons.mp nd).2 (by simpa using h1) (by simpa using h2) hk

def start (N:List Str) (vs:List V):St:=vs.map some++List.replicate (N.length-vs.length) none

def cxOf (CX:CXT) (P:Program) (w:World) (K:PySem.W.Frag) (mg:Str→Option Value) (base:Heap) (N:List Str) (qual:Str) (scope:Scope) (f:Addr) (cd:Value) (A:Around) (outer:List Env) (s:Shared) (H:Hp) (E:XK):Cx where
  prog:=P
  w:=w
  K:=K
  mg:=mg
  base:=base
  A:=A.deeper (envOfC qual scope s.heap.objs.size f cd)
  N:=N
  s_0:=s
  H_0:=H
  env:=envOfC qual scope s.heap.objs.size f cd
  outer:=outer
  stack:=envOfC qual scope s.heap.objs.size f cd::outer
  ex:=[]
  calm:=true
  fn:=fun _=>true
  pn:=[]
  xe:=fun e s'=>wpAny (model P w) (A.deeper (envOfC qual scope s.heap.objs.size f cd)) (leaving (envOfC qual scope s.heap.objs.size f cd) e) (fun _ s''=>CX outer H s E e s'') (fun e' s''=>CX outer H s E e' s'') s'

theorem cell_has {sc:Scope}{n:Nat}{x:Str} (h:sc.names.lookup x=some .cell):∃ c,(cellsFrom n sc.names []).lookup x=some c:=by
  have q:=PySem.W.cellsFrom_some sc.names n [] (.inl h)
  exact Option.isSome_iff_exists.mp q

theorem inv_start {CX:CXT}{P:Program}{w:World}{K:PySem.W.Frag}{mg:Str→Option Value}{base:Heap}{N ps:List Str}{qual:Str}{scope:Scope}{f:Addr}{cd:Value}{A:Around}{outer:List Env}{s s1:Shared}{H:Hp}{E:XK}{us:List Value}{vs:List V}
    (S:FnScope N ps scope) (hd:A.handled=none) (e0:Env0 P w K mg base A outer s H) (hl:vs.length=ps.length) (r:Vals vs us)
    (x:InCallC s s.heap.objs.size (bindL (envOfC qual scope s.heap.objs.size f cd).kindOf (ps.zip us) fun _=>none) (cellsFrom (s.heap.objs.size+1) scope.names []) (bindC (envOfC qual scope s.heap.objs.size f cd).kindOf (ps.zip us) fun _=>none) s1) :
    Inv (cxOf CX P w K mg base N qual scope f cd A outer s H E) [] (start N vs) H s1:=by
  have hpl:ps.length≤N.length:=by have:=congrArg List.length S.pre;rw[List.length_take] at this;lia
  obtain⟨h1,tk,rfl,hk⟩:=x.done
  have noA:∀ b:Addr,b ∉ (cxOf CX P w K mg base N qual scope f cd A outer s H E).ex:=fun b z=>absurd (show b∈([]:List Addr) from z) (by simp)
  refine⟨⟨e0.mod,S.kind,rfl,rfl,Nat.le_refl _,fun y z c h1 h2=>?_,fun y hy=>?_,fun y c _ h=>?_,fun _=>hd,Around.frames_deeper e0.frames,.inr ⟨rfl,rfl⟩,fun b z=>absurd z (noA b),e0.bs,e0.bsz,fun b _ _=>noA b,fun b z=>absurd z (noA b),e0.funs,e0.frf⟩,
    rfl,e0.bare,Un.kept hk,⟨_,x.toInCall.ns,fun i y v h1 h2 h3=>?_⟩,fun y c h=>⟨_,x.cell y c h⟩,e0.hok.fresh (Nat.le_refl _),fun y c h=>?_,fun p hp=>absurd (show p∈([]:List (Addr×Obj)) from hp) (by simp),e0.hok.kept hk,?_⟩
  · exact name_of_addr x.apart (PySem.mem_of_lookup h1) (PySem.mem_of_lookup h2)
  · have hy:scope.names.lookup y=some .cell∨scope.names.lookup y=some .free:=hy
    rcases hy with hy | hy
    · exact cell_has hy
    · exact absurd rfl (S.nofree _ (PySem.mem_of_lookup hy))
  · exact Nat.le_of_lt (x.above y c (PySem.mem_of_lookup h))
  · have hi:i<vs.length:=by
      unfold start at h2
      by_cases hi:i<vs.length
      · exact hi
      · rw[List.getElem?_append_right (by simpa using hi)] at h2
        rw[List.getElem?_replicate] at h2
        split at h2 <;> cases h2
    have ha:vs[i]?=some v:=by
      unfold start at h2
      rw[List.getElem?_append_left (by simpa using hi),List.getElem?_map] at h2
      cases e:vs[i]? with
      | none=>rw[e] at h2;cases h2
      | some a=>rw[e] at h2;cases h2;rfl
    obtain⟨u,hu,rv⟩:=r.get ha
    have hp:ps[i]?=some y:=by
      rw[←S.pre,List.getElem?_take_of_lt (by lia)];exact h1
    have ndP:ps.Nodup:=by rw[←S.pre];exact S.nd.sublist (List.take_sublist _ _)
    refine⟨u,rv,?_⟩
    rcases S.par y (List.mem_of_getElem? hp) with k | k
    · exact .inl ⟨k,bindL_get ndP hp hu k⟩
    · obtain⟨c,e⟩:=cell_has (n:=s.heap.objs.size+1) k
      refine .inr ⟨.inl k,c,e,?_⟩
      have q:=x.cell y c e
      rw[bindC_get ndP hp hu (by show scope.names.lookup y≠_;rw[k];decide)] at q
      exact q
  · exact e0.hok.fresh (Nat.le_of_lt (x.above y c (PySem.mem_of_lookup h)))
  · unfold start
    show _=N.length
    rw[List.length_append,List.length_map,List.length_replicate]
    lia

theorem fn_of {CX:CXT}{P:Program}{w:World}{K:PySem.W.Frag}{mg:Str→Option Value}{base:Heap}{k:Nat}{f:Addr}{name qual:Str}{params:Arguments}{body:List Stmt}{scope:Scope}{dV kV doc pm cdv ct oc:Value}{an od:Option Addr}
    {osl:Array (Option Value)}{N ps:List Str}{sp:Sp} (lk:K.lookup f=some ⟨oc,od,.func (PySem.W.fnOf name qual params body scope dV kV doc pm an cdv ct),osl⟩) (hcd:PySem.W.codeIn K cdv qual=true) (S:FnScope N ps scope)
    (len:∀ vs H Q E,sp vs H Q E→vs.length=ps.length)
    (hbody:∀ (A:Around) (outer:List Env) (s:Shared) (H:Hp) (vs:List V) (Q:VK) (E:XK),Room k (A.deeper (envOfC qual scope s.heap.objs.size f cdv))→sp vs H Q E →
      ∃ t,PSs (cxOf CX P w K mg base N qual scope f cdv A outer s H E) body t∧t { nx:=fun _ H'=>Q .non H',rt:=Q } (start N vs) H) :
    FnOk P w K mg base CX (k+1) f (PySem.W.fnOf name qual params body scope dV kV doc pm an cdv ct) ps sp:=by
  refine⟨len,fun A outer s H args us vs Q E hr e0 hb r hsp=>?_⟩
  have hl:=len _ _ _ _ hsp
  have KX:K.In s.heap:=e0.mod.kin.keeps fun b o e=>(e0.bs b o e).1
  have lim:s.heap.NoLimit:=e0.mod.nolimit.keeps fun b o e=>(e0.bs b o e).1
  have hkind:∀ y∈ps.zip us,scope.names.lookup y.1=some .local∨(scope.names.lookup y.1=some .cell∧((cellsFrom (s.heap.objs.size+1) scope.names []).lookup y.1).isSome=true):=fun ⟨n,v⟩ hy=>by
    rcases S.par n (List.of_mem_zip hy).1 with q | q
    · exact .inl q
    · exact .inr ⟨q,PySem.W.cellsFrom_some _ _ _ (.inl q)⟩
  refine codeAny_call_function hr.depth (KX _ _ lk) rfl S.co S.gen rfl (PySem.W.codeRec_of KX hcd) (hb _ _ _ _ ?_)
  refine wpAny_newFunctionEnv_cells S.kind hkind fun env he s1 x=>?_
  subst he
  refine⟨lim.keeps x.toInCall.keep,codeAny_func ?_⟩
  obtain⟨t,ht,hq⟩:=hbody A outer s H vs Q E (hr.deeper _) hsp
  have I:Inv (cxOf CX P w K mg base N qual scope f cdv A outer s H E) [] (start N vs) H s1:=inv_start S hr.hd e0 hl r x
  refine wpAny_mono (ht [] s1 (start N vs) H _ I hq) (fun fl s' hs=>?_) fun e s' hs=>hs
  have fin:∀ {σ':St}{H':Hp}{v:V}{u:Value},Inv (cxOf CX P w K mg base N qual scope f cdv A outer s H E) [] σ' H' s'→RelV v u→Q v H'→CE outer P w H s Q u s' :=
    fun {σ' H' v u} J rv q=>⟨v,H',J.os,J.bare,J.base,J.hok,rv,q⟩
  cases fl with
  | ret u =>
    obtain⟨v,σ',H',J,rv,q⟩:=hs
    exact fin J rv q
  | next =>
    obtain⟨σ',H',J,q⟩:=hs
    exact fin (v:=V.non) (u:=Value.none) J rfl q
  | brk =>
    obtain⟨_,_,_,q⟩:=hs
    exact False.elim q
  | cont =>
    obtain⟨_,_,_,q⟩:=hs
    exact False.elim q
end L2

namespace L2
open PySem PySem.Spec PyProof.Rows
section
variable {X:Cx}{x:Str}{p pos:Pos}{e:Expr}{es:List Expr}{t:TA}{id T:String}{r:List V→Hp→VK→Prop}

def tCB (r:List V→Hp→VK→Prop) (t:TA):TE:=fun σ H Q=>t σ H fun vs H1=>r vs H1 Q
theorem pe_callB (hc:CallR X (.builtin id) r) (hg:Gl X x) (hm:X.mg x=none) (hv:bootBuiltins x=some (.builtin id)) (ha:PA X (e::es) t) (hn:x≠"__name__":=by decide) (hdb:(x == ("__debug__":Str))=false:=by decide)
    (he:starEach (e::es) X.env=(false,eval e X.env)::starEach es X.env:=by rfl) (hpl:(backTo pos (starEach es X.env)).any (·.1)=false:=by rfl):PE X (.Call (.Name x p) (e::es) [] pos) (tCB r t):=by
  intro pins s σ H Q I h
  refine wpAny_Call_Name_kw (ld_blt I hg hm hv ?_ hn hdb)
  exact PyProof.Rows.callWith_builtin1 (thn (ha pos pins s σ H _ I h) fun us s1 ⟨vs,H1,I1,r1,q1⟩=>hc pins s1 σ H1 vs us Q I1 r1 q1) he hpl
theorem pe_callTy (hc:CallR X (.type T) r) (hg:Gl X x) (hm:X.mg x=none) (hv:bootBuiltins x=some (.type T)) (ha:PA X (e::es) t) (hn:x≠"__name__":=by decide) (hdb:(x == ("__debug__":Str))=false:=by decide)
    (he:starEach (e::es) X.env=(false,eval e X.env)::starEach es X.env:=by rfl) (hpl:(backTo pos (starEach es X.env)).any (·.1)=false:=by rfl):PE X (.Call (.Name x p) (e::es) [] pos) (tCB r t):=by
  intro pins s σ H Q I h
  refine wpAny_Call_Name_kw (ld_blt I hg hm hv ?_ hn hdb)
  exact PyProof.Rows.callWith_type1 (thn (ha pos pins s σ H _ I h) fun us s1 ⟨vs,H1,I1,r1,q1⟩=>hc pins s1 σ H1 vs us Q I1 r1 q1) he hpl
end
end L2

namespace HT
open PySem PyProof.Rows



section
open PySem.SeqAt
open PySem.AutoSeq1 (wpAny_loadPart')
open PySem.MeetsSeq PySem.MeetsSeq2 PySem.MeetsSeq3

end

section
variable {prog:Program}{w:World}{A:Around}{E:Value→Shared→Prop}{s:Shared}



def sIx (n d:Nat):Option Int→Nat
  | none=>d
  | some v=>if v<0 then (v+(n:Int)).toNat else min v.toNat n
theorem sIx_none (n d:Nat):sIx n d none=d:=rfl

end
end HT

namespace L2
open PySem PySem.Spec PyProof.Rows

abbrev TO:=St→Hp→(Option Int→Hp→Prop)→Prop
def PO (X:Cx) (e:Option Expr) (t:TO):Prop :=
  ∀ (pins:List (Addr×Obj)) (s:Shared) (σ:St) (H:Hp) (Q:Option Int→Hp→Prop),Inv X pins σ H s→t σ H Q →
    wpAny (model X.prog X.w) X.A (evalPart e X.env) (fun u s'=>∃ o H',Inv X pins σ H' s'∧IsPart u o∧Q o H') X.xe s
def tNoPart:TO:=fun _ H Q=>Q none H
def tPart (t:TE):TO:=fun σ H Q=>t σ H fun x H1=>∃ i,x=.int i∧Q (some i) H1


section
variable {X:Cx}{e:Expr}{te:TE}{lo hi:Option Expr}{tl th:TO}{pos p2:Pos}

theorem po_none:PO X none tNoPart:=by
  intro pins s σ H Q I h
  rw[evalPart_none]
  exact wpAny_pure ⟨none,H,I,.none,h⟩
theorem po_some (h:PE X e te):PO X (some e) (tPart te):=by
  intro pins s σ H Q I hw
  rw[evalPart_some]
  refine thn (h pins s σ H _ I hw) fun u s1 ⟨x,H1,I1,r1,q1⟩=>?_
  obtain⟨i,rfl,q⟩:=q1
  obtain⟨t,rfl⟩:=r1
  exact⟨some i,H1,I1,.int i t,q⟩

def SlR (X:Cx) (r:V→Option Int→Option Int→Hp→VK→Prop):Prop :=
  ∀ (pins:List (Addr×Obj)) (s:Shared) (σ:St) (H:Hp) (x:V) (v vl vu:Value) (lo hi:Option Int) (sl:Addr) (Q:VK),Inv X pins σ H s→RelV x v→s.heap.IsSliceOf sl vl vu .none→IsPart vl lo→IsPart vu hi→r x lo hi H Q →
    ∃ T id,typeLookup (.type T) "__getitem__"=pure (some (.builtin id))∧s.TypeIs v T∧wpAny (model X.prog X.w) X.A (getItem v (.ref sl)) (EP X pins σ Q) X.xe s
def tSl (r:V→Option Int→Option Int→Hp→VK→Prop) (te:TE) (tl th:TO):TE:=fun σ H Q=>te σ H fun x H1=>tl σ H1 fun l H2=>th σ H2 fun u H3=>r x l u H3 Q
theorem pe_slice {r:V→Option Int→Option Int→Hp→VK→Prop} (hr:SlR X r) (he:PE X e te) (hl:PO X lo tl) (hu:PO X hi th):PE X (.Subscript e (.Slice lo hi none p2) pos) (tSl r te tl th):=by
  intro pins s σ H Q I h
  refine Subscript_ (thn (he pins s σ H _ I h) fun v s1 ⟨x,H1,I1,r1,q1⟩=>?_)
  refine wpAny_Slice (thn (hl pins s1 σ H1 _ I1 q1) fun vl s2 ⟨l,H2,I2,pl,q2⟩=>thn (hu pins s2 σ H2 _ I2 q2) fun vu s3 ⟨u,H3,I3,pu,q3⟩=>?_)
  rw[evalPart_none]
  refine wpAny_pure ?_
  have I4:Inv X pins σ H3 { s3 with heap:=s3.heap.push { cls:=.type "slice",data:=.fields #[vl,vu,.none] } }:=I3.kept (t':=s3.toks) fun b ob q=>Heap.get?_push_of_some _ q
  obtain⟨T,id,hT,ht,hg⟩:=hr pins { s3 with heap:=s3.heap.push { cls:=.type "slice",data:=.fields #[vl,vu,.none] } } σ H3 x v vl vu l u s3.heap.objs.size Q I4 r1 (Heap.IsSliceOf.new ..) pl pu q3
  show wpAny (model X.prog X.w) X.A (subscriptTail e (.Slice lo hi none p2) v (.ref s3.heap.objs.size)) (EP X pins σ Q) X.xe { s3 with heap:=s3.heap.push { cls:=.type "slice",data:=.fields #[vl,vu,.none] } }
  exact tail_any (ops:=[.ref s3.heap.objs.size,v]) ht hT hg (by with_unfolding_all rfl)

def cutV (xs:List V) (lo hi:Option Int):List V:=(xs.drop (HT.sIx xs.length 0 lo)).take (HT.sIx xs.length xs.length hi-HT.sIx xs.length 0 lo)
theorem cutV_length (xs:List V) (lo hi:Option Int):(cutV xs lo hi).length≤xs.length:=by
  unfold cutV
  rw[List.length_take,List.length_drop]
  lia

end
end L2

namespace L2
open PySem PySem.Spec PyProof.Rows

def ixN (n:Nat) (i:Int):Option Nat:=if 0≤i then (if i<n then some i.toNat else none) else if -(n:Int)≤i then some (i+n).toNat else none
def atI {α:Type} (xs:List α) (i:Int):Option α:=(ixN xs.length i).bind fun j=>xs[j]?
theorem ixN_seq {n:Nat}{i:Int}{j:Nat} (h:ixN n i=some j):seqIndex? i n=some j∧j<n∧-(n:Int)≤i∧i<n:=by
  unfold ixN at h
  by_cases h0:0≤i
  · rw[if_pos h0] at h
    by_cases h1:i<n
    · rw[if_pos h1] at h
      have e:i.toNat=j:=Option.some.inj h
      exact⟨by rw[seqIndex_of h0 h1,e],by lia,by lia,h1⟩
    · rw[if_neg h1] at h;cases h
  · rw[if_neg h0] at h
    by_cases h1:-(n:Int)≤i
    · rw[if_pos h1] at h
      have e:(i+n).toNat=j:=Option.some.inj h
      exact⟨by rw[seqIndex_neg (by lia) h1,e],by lia,h1,by lia⟩
    · rw[if_neg h1] at h;cases h
theorem atI_get {α:Type}{xs:List α}{i:Int}{v:α} (h:atI xs i=some v):∃ j,seqIndex? i xs.length=some j∧xs[j]?=some v∧j<xs.length∧-(xs.length:Int)≤i∧i<xs.length:=by
  unfold atI at h
  cases e:ixN xs.length i with
  | none=>rw[e] at h;cases h
  | some j =>
    rw[e] at h
    obtain⟨h1,h2,h3,h4⟩:=ixN_seq e
    exact⟨j,h1,h,h2,h3,h4⟩
theorem atI_nat {α:Type}{xs:List α}{j:Nat}{v:α} (h:xs[j]?=some v):atI xs (j:Int)=some v:=by
  have hj:j<xs.length:=(List.getElem?_eq_some_iff.mp h).1
  have e:ixN xs.length (j:Int)=some j:=by
    unfold ixN
    rw[if_pos (by lia),if_pos (by lia)];simp
  unfold atI;rw[e];exact h
theorem atI_last {α:Type} (xs:List α) (v:α):atI (xs++[v]) (-1)=some v:=by
  have hl:(xs++[v]).length=xs.length+1:=by simp
  have e:ixN (xs++[v]).length (-1)=some xs.length:=by
    unfold ixN
    rw[hl,if_neg (by decide),if_pos (by lia)]
    congr 1
    lia
  unfold atI
  rw[e]
  show (xs++[v])[xs.length]?=some v
  simp

def PlainIx (b:Expr):Prop:=∀ o i,subscripted b false o i=operate [o,i] (getItem o i)
def IxR (X:Cx) (r:R2):Prop :=
  ∀ (value slice:Expr) (pins:List (Addr×Obj)) (s:Shared) (σ:St) (H:Hp) (x y:V) (v u:Value) (Q:VK),Inv X pins σ H s→RelV x v→RelV y u→r x y H Q →
    subscripted slice false v u=operate [v,u] (getItem v u)→wpAny (model X.prog X.w) X.A (subscriptTail value slice v u) (EP X pins σ Q) X.xe s
def MtR (X:Cx) (id:String) (r:V→List V→Hp→VK→Prop):Prop :=
  ∀ (pins:List (Addr×Obj)) (s:Shared) (σ:St) (H:Hp) (x:V) (xs:List V) (v:Value) (us:List Value) (Q:VK),Inv X pins σ H s→RelV x v→Vals xs us→r x xs H Q →
    wpAny (model X.prog X.w) X.A (call (.builtin id) (v::us)) (EP X pins σ Q) X.xe s
section
variable {X:Cx}{a b:Expr}{ta tb:TE}{pos:Pos}
theorem pe_ix {r:R2} (hr:IxR X r) (ha:PE X a ta) (hb:PE X b tb) (hs:PlainIx b):PE X (.Subscript a b pos) (tOp r ta tb):=by
  intro pins s σ H Q I h
  exact Subscript_ (binT ha hb I h fun v u s2 x y H2 I2 rx ry q=>hr a b pins s2 σ H2 x y v u Q I2 rx ry q (hs _ _))

def rIxL (K:PySem.W.Frag):R2:=fun x y H Q=>∃ p xs i v,x=.ref p∧y=.int i∧SqL K H p xs∧atI xs i=some v∧Q v H
def rIxT (K:PySem.W.Frag):R2:=fun x y H Q=>∃ p xs i v,x=.ref p∧y=.int i∧SqT K H p xs∧atI xs i=some v∧Q v H
theorem ix_list:IxR X (rIxL X.K):=by
  intro value slice pins s σ H x y v u Q I rx ry h hs
  obtain⟨p,xs,i,z,rfl,rfl,hq,he,q⟩:=h
  cases rx
  obtain⟨t,rfl⟩:=ry
  obtain⟨its,r,pl,hz⟩:=I.list hq
  obtain⟨j,h1,h2,h3,h4,h5⟩:=atI_get he
  obtain⟨w,ew,rw'⟩:=r.get h2
  have hl:=r.length
  have hn:=line63
  have fin:EP X pins σ Q w s:=⟨z,H,I,rw',q⟩
  by_cases h0:0≤i
  · have hj:i.toNat=j:=by
      rw[seqIndex_of h0 h5] at h1
      exact Option.some.inj h1
    exact item_listR pl.isList h0 (by lia) (by rw[hj];simpa using ew) fin hs
  · have hj:(i+(its.toArray.size:Int)).toNat=j:=by
      rw[seqIndex_neg (by lia) h4] at h1
      rw[List.size_toArray,←hl]
      exact Option.some.inj h1
    exact subscriptTail_builtinR (x:=w) pl.isList.typeIs slot_list_getitem.lookup
      (wpAny_getItem_list_neg (Q:=fun r s'=>r=w∧EP X pins σ Q r s') pl.isList (by lia) (by rw[List.size_toArray] <;> lia) (by lia) (by rw[hj];simpa using ew) ⟨rfl,fin⟩) hs
theorem ix_tup:IxR X (rIxT X.K):=by
  intro value slice pins s σ H x y v u Q I rx ry h hs
  obtain⟨p,xs,i,z,rfl,rfl,hq,he,q⟩:=h
  cases rx
  obtain⟨t,rfl⟩:=ry
  obtain⟨its,r,pl,hz⟩:=I.tuple hq
  obtain⟨j,h1,h2,h3,h4,h5⟩:=atI_get he
  obtain⟨w,ew,rw'⟩:=r.get h2
  have hl:=r.length
  have hn:=line63
  have fin:EP X pins σ Q w s:=⟨z,H,I,rw',q⟩
  exact subscriptTail_builtinR (x:=w) pl.typeIs slot_tuple_getitem.lookup
    (getItem_tuple (j:=j) (Q:=fun r s'=>r=w∧EP X pins σ Q r s') pl (by lia) (by lia) (by rw[List.size_toArray,←hl];exact h1) (by simpa using ew) ⟨rfl,fin⟩) hs

theorem mapSeq_set (its:List Value) (n j:Nat) (u:Value):Obj.mapSeq (·.setIfInBounds j u) { cls:=.type "list",data:=.seq its.toArray n }={ cls:=.type "list",data:=.seq (its.set j u).toArray n }:=by
  simp[Obj.mapSeq]
theorem Inv.lst {pins:List (Addr×Obj)}{σ:St}{H:Hp}{s:Shared}{p:Addr}{xs:List V} (I:Inv X pins σ H s) (h:H p=some (.lst xs)) :
    ∃ (its:List Value) (n:Nat),Vals xs its∧s.heap.get? p=some { cls:=.type "list",data:=.seq its.toArray n }∧xs.length≤sizeLine:=by
  obtain⟨z,its,n,r,e⟩:=I.hok p _ h
  exact⟨its,n,r,e,z⟩
theorem Inv.lstUpd {pins:List (Addr×Obj)}{σ:St}{H:Hp}{s:Shared}{p:Addr}{xs ys:List V}{its its':List Value}{n n':Nat}{f:Obj→Obj} (I:Inv X pins σ H s) (h:H p=some (.lst xs))
    (ho:s.heap.get? p=some { cls:=.type "list",data:=.seq its.toArray n }) (hf:f { cls:=.type "list",data:=.seq its.toArray n }={ cls:=.type "list",data:=.seq its'.toArray n' }) (r:Vals ys its') (hz:ys.length≤sizeLine) (t:Nat) :
    Inv X pins σ (upd H p (.lst ys)) { s with heap:=s.heap.update p f,toks:=t }:=by
  have e:(s.heap.update p f).get? p=some { cls:=.type "list",data:=.seq its'.toArray n' }:=by
    rw[Heap.get?_update_self f ho (by rw[hf] <;> rfl),hf]
  refine I.write (x:=p) (e:=p) (by rw[h];trivial) (.inl rfl) (fun b u hb q=>(Heap.get?_update_other _ _ (Ne.symm hb)).trans q) ⟨_,e⟩ ?_
  exact⟨hz,its',n',r,e⟩
def rSetL:V→V→V→Hp→(Hp→Prop)→Prop:=fun o i v H Q=>∃ p xs k j,o=.ref p∧i=.int k∧H p=some (.lst xs)∧ixN xs.length k=some j∧Q (upd H p (.lst (xs.set j v)))
theorem set_list:PSet X rSetL:=by
  intro pins s σ H o i v ov iv u Q I ro ri rv h
  obtain⟨p,xs,k,j,rfl,rfl,hp,hj,q⟩:=h
  cases ro
  obtain⟨t,rfl⟩:=ri
  obtain⟨its,n,r,ho,hz⟩:=I.lst hp
  obtain⟨h1,h2,h3,h4⟩:=ixN_seq hj
  have hl:=r.length
  have hn:=line63
  have I':Inv X pins σ (upd H p (.lst (xs.set j v))) { s with heap:=s.heap.update p (Obj.mapSeq (·.setIfInBounds j u)) } :=
    I.lstUpd hp ho (mapSeq_set its n j u) (r.set rv j) (by rw[List.length_set];exact hz) s.toks
  by_cases h0:0≤k
  · have hk:k.toNat=j:=by
      rw[seqIndex_of h0 h4] at h1
      exact Option.some.inj h1
    exact PySem.W.ki_setAt ho h0 (by lia) (by rw[List.size_toArray,←hl];exact h4) (by rw[hk];exact⟨_,I',q⟩)
  · have hk:(k+(its.toArray.size:Int)).toNat=j:=by
      rw[seqIndex_neg (by lia) h3] at h1
      rw[List.size_toArray,←hl]
      exact Option.some.inj h1
    exact PySem.W.ki_setBack ho (by lia) (by rw[List.size_toArray,←hl];exact h3) (by lia) (by rw[hk];exact⟨_,I',q⟩)

theorem slice_bounds (lo hi:Option Int) (n:Nat):(sliceBounds lo hi none n).1=((HT.sIx n 0 lo:Nat):Int)∧(sliceBounds lo hi none n).2.1=((HT.sIx n n hi:Nat):Int)∧(sliceBounds lo hi none n).2.2=1:=by
  refine⟨?_,?_,rfl⟩
  · cases lo with
    | none=>simp[sliceBounds,HT.sIx]
    | some i =>
      simp only[sliceBounds,HT.sIx,Option.getD_none,show (1:Int) > 0 by decide,if_true]
      by_cases h:i<0
      · simp only[h,if_true] <;> lia
      · simp only[h,if_false] <;> lia
  · cases hi with
    | none=>simp[sliceBounds,HT.sIx]
    | some i =>
      simp only[sliceBounds,HT.sIx,Option.getD_none,show (1:Int) > 0 by decide,if_true]
      by_cases h:i<0
      · simp only[h,if_true] <;> lia
      · simp only[h,if_false] <;> lia
theorem slicePick_cut (its:List Value) (lo hi:Option Int):slicePick its.toArray lo hi none=((its.drop (HT.sIx its.length 0 lo)).take (HT.sIx its.length its.length hi-HT.sIx its.length 0 lo)).toArray:=by
  obtain⟨h1,h2,h3⟩:=slice_bounds lo hi its.toArray.size
  unfold slicePick
  rw[h1,h2,h3]
  simp only[sliceRange_one,pick_run,List.size_toArray] <;> rfl
def rSlL (K:PySem.W.Frag):V→Option Int→Option Int→Hp→VK→Prop:=fun x lo hi H Q=>∃ a xs,x=.ref a∧SqL K H a xs∧∀ p,H p=none→Q (.ref p) (upd H p (.lst (cutV xs lo hi)))
theorem sl_list:SlR X (rSlL X.K):=by
  intro pins s σ H x v vl vu lo hi sl Q I rx hs pl pu h
  obtain⟨a,xs,rfl,hx,q⟩:=h
  cases rx
  obtain⟨its,r,ht,hz⟩:=I.list hx
  have hlen:=r.length
  refine⟨"list",_,slot_list_getitem.lookup,ht.isList.typeIs,?_⟩
  refine wpAny_getItem_list_slice ht.isList hs pl pu .none (by simp) ?_ (by rw[List.size_toArray] <;> lia)
  rw[slicePick_cut,←hlen]
  refine⟨.ref s.heap.objs.size,_,I.laid (t':=s.toks) (o:=.lst (cutV xs lo hi)) (fun b ob q=>Heap.get?_push_of_some _ q) (Nat.le_refl _) ?_,rfl,q _ (I.hok.fresh (Nat.le_refl _))⟩
  exact⟨Nat.le_trans (cutV_length xs lo hi) hz,_,0,(r.drop (HT.sIx xs.length 0 lo)).take (HT.sIx xs.length xs.length hi-HT.sIx xs.length 0 lo),Heap.get?_push_size _ rfl⟩

def flatV:V→Bool
  | .non=>true
  | .bl _=>true
  | .int _=>true
  | .str _=>true
  | _=>false
def eqV:V→V→Bool
  | .non,.non=>true
  | .bl a,.bl b=>a == b
  | .bl a,.int b=>(if a then 1 else 0) == b
  | .int a,.bl b=>a == (if b then 1 else 0)
  | .int a,.int b=>a == b
  | .str a,.str b=>a == b
  | _,_=>false
theorem eqAt_V {A:Around}{s:Shared}{y x:V}{u v:Value} (ry:RelV y u) (rx:RelV x v) (fy:flatV y=true) (fx:flatV x=true):SeqAt.EqAt A s u v (eqV y x):=by
  cases y with
  | non =>
    cases ry
    cases x with
    | non=>cases rx;exact SeqAt.EqAt.same _
    | bl b=>cases rx;exact SeqAt.EqAt.none_bool b
    | int b=>obtain⟨t,rfl⟩:=rx;exact SeqAt.EqAt.none_int b t
    | str b=>obtain⟨t,rfl⟩:=rx;exact SeqAt.EqAt.none_str b t
    | _=>exact absurd (show false=true from fx) Bool.false_ne_true
  | bl a =>
    cases ry
    cases x with
    | non=>cases rx;exact SeqAt.EqAt.bool_none a
    | bl b=>cases rx;exact SeqAt.EqAt.bool_bool a b
    | int b=>obtain⟨t,rfl⟩:=rx;exact SeqAt.EqAt.bool_int a b t
    | str b=>obtain⟨t,rfl⟩:=rx;exact SeqAt.EqAt.bool_str a b t
    | _=>exact absurd (show false=true from fx) Bool.false_ne_true
  | int a =>
    obtain⟨t',rfl⟩:=ry
    cases x with
    | non=>cases rx;exact SeqAt.EqAt.int_none a t'
    | bl b=>cases rx;exact SeqAt.EqAt.int_bool a t' b
    | int b=>obtain⟨t,rfl⟩:=rx;exact SeqAt.EqAt.int_int a t' b t
    | str b=>obtain⟨t,rfl⟩:=rx;exact SeqAt.EqAt.int_str a t' b t
    | _=>exact absurd (show false=true from fx) Bool.false_ne_true
  | str a =>
    obtain⟨t',rfl⟩:=ry
    cases x with
    | non=>cases rx;exact SeqAt.EqAt.str_none a t'
    | bl b=>cases rx;exact SeqAt.EqAt.str_bool a t' b
    | int b=>obtain⟨t,rfl⟩:=rx;exact SeqAt.EqAt.str_int a t' b t
    | str b=>obtain⟨t,rfl⟩:=rx;exact SeqAt.EqAt.str_str a t' b t
    | _=>exact absurd (show false=true from fx) Bool.false_ne_true
  | _=>exact absurd (show false=true from fy) Bool.false_ne_true
def eqU (x:V) (u:Value):Bool:=match u with
  | .none=>eqV .non x
  | .bool b=>eqV (.bl b) x
  | .int i _=>eqV (.int i) x
  | .str z _=>eqV (.str z) x
  | _=>false
theorem eqU_of {x y:V}{u:Value} (r:RelV y u) (f:flatV y=true):eqU x u=eqV y x:=by
  cases y with
  | non=>cases r;rfl
  | bl b=>cases r;rfl
  | int i=>obtain⟨t,rfl⟩:=r;rfl
  | str z=>obtain⟨t,rfl⟩:=r;rfl
  | _=>exact absurd (show false=true from f) Bool.false_ne_true
theorem any_eqU {x:V}:∀ {xs:List V}{us:List Value},Vals xs us→xs.all flatV=true→us.any (eqU x)=xs.any fun y=>eqV y x
  | _,_,.nil,_=>rfl
  | y::xs,u::us,.cons r t,f=>by
    rw[List.all_cons,Bool.and_eq_true] at f
    rw[List.any_cons,List.any_cons,eqU_of r f.1,any_eqU t f.2]
theorem mem_eqAt {A:Around}{s:Shared}{x:V}{v:Value} (rx:RelV x v) (fx:flatV x=true):∀ {xs:List V}{us:List Value},Vals xs us→xs.all flatV=true→∀ u∈us,SeqAt.EqAt A s u v (eqU x u)
  | _,_,.nil,_=>fun u hu=>by cases hu
  | y::xs,u::us,.cons r t,f=>fun u' hu=>by
    rw[List.all_cons,Bool.and_eq_true] at f
    rcases List.mem_cons.mp hu with rfl | hu
    · rw[eqU_of r f.1];exact eqAt_V r rx f.1 fx
    · exact mem_eqAt rx fx t f.2 u' hu
def inV (x:V) (xs:List V):Bool:=xs.any fun y=>eqV y x
def rIn (K:PySem.W.Frag) (neg:Bool):R2:=fun x y H Q=>∃ p xs,y=.ref p∧(SqL K H p xs∨SqT K H p xs)∧flatV x=true∧xs.all flatV=true∧Q (.bl (if neg then !inV x xs else inV x xs)) H
theorem op_in_seq:OpR X (compareOp .In) (rIn X.K false):=by
  intro pins s σ H x y v u Q I rx ry h
  obtain⟨p,xs,rfl,hq,fx,fs,q⟩:=h
  cases ry
  rcases hq with hq | hq
  · obtain⟨its,r,pl,hz⟩:=I.list hq
    refine SeqAt.in_listAt (eqU x) pl.isList (fun w hw=>mem_eqAt rx fx r fs w (by simpa using hw)) ⟨.bl _,H,I,rfl,?_⟩
    rw[show its.toArray.any (eqU x)=its.any (eqU x) by simp,any_eqU r fs]
    exact q
  · obtain⟨its,r,pl,hz⟩:=I.tuple hq
    refine SeqAt.in_tupleAt (eqU x) pl (fun w hw=>mem_eqAt rx fx r fs w (by simpa using hw)) ⟨.bl _,H,I,rfl,?_⟩
    rw[show its.toArray.any (eqU x)=its.any (eqU x) by simp,any_eqU r fs]
    exact q

theorem call_len_seq:CallR X (.builtin "len") (fun xs H Q=>∃ p ys,xs=[.ref p]∧(SqL X.K H p ys∨SqT X.K H p ys)∧Q (.int ys.length) H):=by
  intro pins s σ H xs us Q I r h
  obtain⟨p,ys,rfl,hq,q⟩:=h
  obtain⟨u,rfl,rx⟩:=vals1 r
  cases rx
  have hn:=line63
  rcases hq with hq | hq
  · obtain⟨its,r',pl,hz⟩:=I.list hq
    have hlen:=r'.length
    exact Calls.call_len_list pl.isList (by simp only[List.size_toArray] <;> lia) ⟨.int ys.length,H,I.tok _,⟨s.toks+1,by rw[List.size_toArray,hlen]⟩,q⟩
  · obtain⟨its,r',pl,hz⟩:=I.tuple hq
    have hlen:=r'.length
    exact len_tuple pl (by simp only[List.size_toArray] <;> lia) ⟨.int ys.length,H,I.tok _,⟨s.toks+1,by rw[List.size_toArray,hlen]⟩,q⟩
theorem call_list_of:CallR X (.type "list") (fun xs H Q=>∃ p ys,xs=[.ref p]∧(SqL X.K H p ys∨SqT X.K H p ys)∧∀ l,H l=none→Q (.ref l) (upd H l (.lst ys))):=by
  intro pins s σ H xs us Q I r h
  obtain⟨p,ys,rfl,hq,q⟩:=h
  obtain⟨u,rfl,rx⟩:=vals1 r
  cases rx
  have fin:∀ (its:List Value),Vals ys its→ys.length≤sizeLine→∀ (h':Heap) (c':Nat),(∀ b o',s.heap.get? b=some o'→h'.get? b=some o') →
      h'.get? s.heap.objs.size=some { cls:=.type "list",dict:=none,data:=.seq its.toArray c',slots:=#[] }→EP X pins σ Q (.ref s.heap.objs.size) { s with heap:=h' }:=fun its r' hz h' c' kp e =>
    ⟨.ref s.heap.objs.size,_,I.laid (t':=s.toks) kp (Nat.le_refl _) (show ObjOk X.prog X.w _ h' _ (.lst ys) from⟨hz,its,c',r',e⟩),rfl,q _ (I.hok.fresh (Nat.le_refl _))⟩
  rcases hq with hq | hq
  · obtain⟨its,r',pl,hz⟩:=I.list hq
    have hlen:=r'.length
    obtain⟨o,ho,hc,n,hd⟩:=pl.isList
    exact call_list_seq p (.inl rfl) ho hc hd (fun h' c' kp e=>fin its r' hz h' c' kp e) (by simp only[List.size_toArray] <;> lia)
  · obtain⟨its,r',pl,hz⟩:=I.tuple hq
    have hlen:=r'.length
    obtain⟨o,ho,hc,n,hd⟩:=pl
    exact call_list_seq p (.inr rfl) ho hc hd (fun h' c' kp e=>fin its r' hz h' c' kp e) (by simp only[List.size_toArray] <;> lia)

def tyV (K:PySem.W.Frag) (T:String) (x:V) (H:Hp):Prop:=match x with
  | .str _=>T="str"
  | .int _=>T="int"
  | .ref p=>(T="list"∧∃ xs,SqL K H p xs)∨(T="tuple"∧∃ o,K.lookup p=some o∧o.cls=.type "tuple"∧o.dict=none) ∨
      (T="dict"∧((∃ kvs,H p=some (.dK kvs))∨∃ kvs,H p=some (.dT kvs)))∨(T="set"∧∃ S n,H p=some (.set S n))
  | _=>False
theorem tyV_is {pins:List (Addr×Obj)}{σ:St}{H:Hp}{s:Shared}{T:String}{x:V}{v:Value} (I:Inv X pins σ H s) (r:RelV x v) (ty:tyV X.K T x H) :
    s.TypeIs v T∧∀ a,v=.ref a→∃ ob,s.heap.get? a=some ob∧ob.dict=none:=by
  cases x with
  | str z =>
    obtain⟨t,rfl⟩:=r
    cases (show T="str" from ty)
    exact⟨typeIs_str s z t,fun _ e=>nomatch e⟩
  | int i =>
    obtain⟨t,rfl⟩:=r
    cases (show T="int" from ty)
    exact⟨typeIs_int s i t,fun _ e=>nomatch e⟩
  | ref p =>
    cases r
    rcases ty with⟨rfl,xs,hq⟩ | ⟨rfl,o,hk,hc,hd⟩ | ⟨rfl,hk⟩ | ⟨rfl,S,n,hk⟩
    · obtain⟨its,_,pl,_⟩:=I.list hq
      refine⟨pl.isList.typeIs,fun a e=>?_⟩
      cases e
      obtain⟨o,n,e,c,hd,_⟩:=pl
      exact⟨o,e,hd⟩
    · refine⟨⟨o,I.kIn p o hk,hc⟩,fun a e=>?_⟩
      cases e
      exact⟨o,I.kIn _ o hk,hd⟩
    · have z:∃ o,s.heap.get? p=some o∧o.ExactDict:=by
        rcases hk with⟨kvs,hk⟩ | ⟨kvs,hk⟩
        · obtain⟨_,_,_,_,o,_,_,e,ex,_⟩:=I.hok p _ hk
          exact⟨o,e,ex⟩
        · obtain⟨_,_,_,_,o,_,_,e,ex,_⟩:=I.hok p _ hk
          exact⟨o,e,ex⟩
      obtain⟨o,e,ex⟩:=z
      refine⟨⟨o,e,ex.1⟩,fun a e2=>?_⟩
      cases e2
      exact⟨o,e,ex.2.1⟩
    · obtain⟨o,_,_,_,e,ex,_⟩:=I.hok p _ hk
      refine⟨⟨o,e,ex.1⟩,fun a e2=>?_⟩
      cases e2
      exact⟨o,e,ex.2.1⟩
  | _=>exact False.elim ty
def tBM0 (K:PySem.W.Frag) (T:String) (r:V→List V→Hp→VK→Prop) (to:TE):TE:=fun σ H Q=>to σ H fun x H1=>tyV K T x H1∧r x [] H1 Q
def tBM (K:PySem.W.Frag) (T:String) (r:V→List V→Hp→VK→Prop) (to:TE) (t:TA):TE:=fun σ H Q=>to σ H fun x H1=>tyV K T x H1∧t σ H1 fun xs H2=>r x xs H2 Q
variable {o e:Expr}{es:List Expr}{to:TE}{t:TA}{name:Str}{apos cpos:Pos}{T id:String}{r:V→List V→Hp→VK→Prop}
theorem pe_bm0 (pa:PlainAttrs T) (slot:Slot T name id) (hty:typeOf (.builtin id)=pure (.type "method_descriptor")) (hm:MtR X id r) (ho:PE X o to)
    (hbase:attributeBase o name X.env (eval o X.env)=eval o X.env:=by rfl) (hline:(apos.endLine == cpos.line)=true:=by rfl):PE X (.Call (.Attribute o name apos) [] [] cpos) (tBM0 X.K T r to):=by
  intro pins s σ H Q I h
  refine wpAny_Call_method0_late hbase hline (thn (ho pins s σ H _ I h) fun v s1 ⟨x,H1,I1,r1,ty,q1⟩=>?_)
  obtain⟨h1,h2⟩:=tyV_is I1 r1 ty
  exact⟨T,id,pa,slot,hty,h1,h2,Calls.callWith_builtin rfl (PySem.evalArgs_none (hm pins s1 σ H1 x [] v [] Q I1 r1 .nil q1))⟩
theorem pe_bm (pa:PlainAttrs T) (slot:Slot T name id) (hty:typeOf (.builtin id)=pure (.type "method_descriptor")) (hm:MtR X id r) (ho:PE X o to) (ha:PA X (e::es) t)
    (hbase:attributeBase o name X.env (eval o X.env)=eval o X.env:=by rfl)
    (hfew:((backTo cpos (starEach (e::es) X.env)).all (fun x=>!x.1) && (backToKw cpos (keywordEach [] X.env)).all (fun x=>x.1.isSome)
      && decide ((e::es).length+([]:List Keyword).length+(if ([]:List Keyword).isEmpty then 0 else 1)<30))=true:=by rfl)
    (hline:(apos.endLine == cpos.line)=true:=by rfl) (hs:starEach (e::es) X.env=(false,eval e X.env)::starEach es X.env:=by rfl) (hplain:(backTo cpos (starEach es X.env)).any (·.1)=false:=by rfl) :
    PE X (.Call (.Attribute o name apos) (e::es) [] cpos) (tBM X.K T r to t):=by
  intro pins s σ H Q I h
  refine wpAny_Call_method_late hbase hfew hline rfl (thn (ho pins s σ H _ I h) fun v s1 ⟨x,H1,I1,r1,ty,q1⟩=>?_)
  obtain⟨h1,h2⟩:=tyV_is I1 r1 ty
  refine⟨T,id,pa,slot,hty,h1,h2,?_⟩
  have hA:=ha cpos pins s1 σ H1 _ I1 q1
  rw[hs] at hA ⊢
  refine Calls.callWith_builtin (by show (false || (backTo cpos (starEach es X.env)).any (·.1))=false;rw[hplain] <;> rfl) (Calls.evalArgs_plain ?_)
  exact thn hA fun us s2 ⟨vs,H2,I2,r2,q2⟩=>hm pins s2 σ H2 x vs v us Q I2 r1 r2 q2
/- xs.append(e),list.index on a module's tuple .. are MtR facts of 06m -/
end
end L2

namespace L2
open PySem PySem.Spec PyProof.Rows

def MtM (X:Cx) (id:String) (r:V→List V→Hp→VK→Prop):Prop :=
  ∀ (pins:List (Addr×Obj)) (s:Shared) (σ:St) (H:Hp) (x:V) (xs:List V) (v:Value) (us:List Value) (Q:VK),Inv X pins σ H s→RelV x v→Vals xs us→r x xs H Q →
    wpAny (model X.prog X.w) X.A (call (.builtin id) (v::us)) (EP X pins σ Q) X.xe s

theorem Vals.one:∀ {x:V}{us:List Value},Vals [x] us→∃ u,us=[u]∧RelV x u
  | _,_,.cons r .nil=>⟨_,rfl,r⟩
theorem Vals.zero:∀ {us:List Value},Vals [] us→us=[]
  | _,.nil=>rfl
theorem Vals.dropLast {xs:List V}{us:List Value} (h:Vals xs us):Vals xs.dropLast us.dropLast:=by
  induction h with
  | nil=>exact .nil
  | cons r t ih =>
    cases t with
    | nil=>exact .nil
    | cons q t'=>exact .cons r ih
theorem Vals.rep {xs:List V}{us:List Value} (h:Vals xs us):∀ k:Nat,Vals (List.replicate k xs).flatten (List.replicate k us).flatten
  | 0=>.nil
  | k+1=>by
    rw[List.replicate_succ,List.replicate_succ,List.flatten_cons,List.flatten_cons]
    exact Vals.append h (Vals.rep h k)
theorem erase_last {α:Type} (l:List α):l.eraseIdx (l.length-1)=l.dropLast:=by
  induction l with
  | nil=>rfl
  | cons a r ih =>
    cases r with
    | nil=>rfl
    | cons b r =>
      have e:(a::b::r).length-1=((b::r).length-1)+1:=by
        have h1:(a::b::r).length=r.length+2:=rfl
        have h2:(b::r).length=r.length+1:=rfl
        lia
      rw[e,List.eraseIdx_cons_succ,ih]
      all_goals rfl
theorem foldl_rep (its:List Value):∀ (k:Nat) (acc:List Value),
    List.foldl (fun x1 x2=>x1++x2) acc.toArray (List.replicate k its.toArray)=(acc++(List.replicate k its).flatten).toArray
  | 0,acc=>by simp
  | k+1,acc=>by
    have e:acc.toArray++its.toArray=(acc++its).toArray:=by simp
    have e2:(acc++its)++(List.replicate k its).flatten=acc++(List.replicate (k+1) its).flatten:=by
      rw[List.replicate_succ,List.flatten_cons,List.append_assoc]
    rw[←e2,←foldl_rep its k (acc++its),←e,List.replicate_succ,List.foldl_cons]

section
variable {X:Cx}{pins:List (Addr×Obj)}{σ:St}{H:Hp}{s:Shared}{l b:Addr}{xs ys zs:List V}

theorem Inv.lset {its its':List Value}{n:Nat}{f:Array Value→Array Value}{t':Nat} (I:Inv X pins σ H s) (hH:H l=some (.lst xs))
    (e:s.heap.get? l=some { cls:=.type "list",data:=.seq its.toArray n }) (hf:f its.toArray=its'.toArray) (hv:Vals ys its') (hz:ys.length≤sizeLine) :
    Inv X pins σ (upd H l (.lst ys)) { s with heap:=s.heap.update l (Obj.mapSeq f),toks:=t' }:=by
  have q:=PySem.IsL.update e f
  rw[hf] at q
  refine I.write (x:=l) (e:=l) (by rw[hH];exact trivial) (.inl rfl) (fun b' u hb hu=>(Heap.get?_update_other s.heap (Obj.mapSeq f) (Ne.symm hb)).trans hu) ⟨_,q⟩ ?_
  exact⟨hz,its',_,hv,q⟩
theorem Inv.lnew {its:List Value}{t':Nat} (I:Inv X pins σ H s) (hv:Vals ys its) (hz:ys.length≤sizeLine) :
    Inv X pins σ (upd H s.heap.objs.size (.lst ys)) { s with heap:=s.heap.push { cls:=.type "list",data:=.seq its.toArray },toks:=t' } :=
  I.laid (fun _ _ q=>Heap.get?_push_of_some _ q) (Nat.le_refl _) ⟨hz,its,0,hv,Heap.get?_push_size _ rfl⟩
theorem Inv.fresh (I:Inv X pins σ H s):H s.heap.objs.size=none:=I.hok.fresh (Nat.le_refl _)
theorem Inv.lstM (I:Inv X pins σ H s) (hH:H l=some (.lst xs)):xs.length≤sizeLine∧∃ (its:List Value) (n:Nat),Vals xs its∧xs.length=its.length∧s.heap.get? l=some { cls:=.type "list",data:=.seq its.toArray n }:=by
  obtain⟨z,its,n,r,e⟩:=I.hok l _ hH
  exact⟨z,its,n,r,r.length,e⟩

theorem notLongL {n:Nat} (h:n≤sizeLine):Builtin.List.listTooLong n=false:=by
  unfold Builtin.List.listTooLong
  exact decide_eq_false (by lia)
end

section
variable {X:Cx}

def rAppend:V→List V→Hp→VK→Prop:=fun x vs H Q=>∃ l xs y,x=.ref l∧vs=[y]∧H l=some (.lst xs)∧xs.length<sizeLine∧Q .non (upd H l (.lst (xs++[y])))
theorem mt_append:MtM X "list.append" rAppend:=by
  intro pins s σ H x vs v us Q I rx rv h
  obtain⟨l,xs,y,rfl,rfl,hH,hz,q⟩:=h
  cases rx
  obtain⟨u,rfl,ru⟩:=rv.one
  obtain⟨z,its,n,r,hl,e⟩:=I.lstM hH
  refine call_meets F.slot_list_append ⟨_,e,rfl⟩ F.entry_list_append (F.args_list_append_2 _ _) (PySem.list_append l its.toArray n u (by rw[List.size_toArray];lia)) ⟨e,?_⟩
  refine⟨.non,_,I.lset (its':=its++[u]) hH e (by simp) (r.append (.cons ru .nil)) ?_,rfl,q⟩
  rw[List.length_append,List.length_singleton]
  lia

def rExtend:V→List V→Hp→VK→Prop:=fun x vs H Q=>∃ l b xs zs,x=.ref l∧vs=[.ref b]∧H l=some (.lst xs)∧H b=some (.lst zs)∧xs.length+zs.length≤sizeLine∧Q .non (upd H l (.lst (xs++zs)))
theorem mt_extend:MtM X "list.extend" rExtend:=by
  intro pins s σ H x vs v us Q I rx rv h
  obtain⟨l,b,xs,zs,rfl,rfl,hH,hB,hz,q⟩:=h
  cases rx
  obtain⟨u,rfl,ru⟩:=rv.one
  cases ru
  obtain⟨z,its,n,r,hl,e⟩:=I.lstM hH
  obtain⟨z2,its2,n2,r2,hl2,e2⟩:=I.lstM hB
  have hsz:its.toArray.size+its2.toArray.size≤sizeLine:=by rw[List.size_toArray,List.size_toArray];lia
  have hlong:¬ (!its.toArray.isEmpty && Builtin.List.listTooLong (its.toArray.size+its2.toArray.size))=true:=by
    rw[notLongL hsz,Bool.and_false]
    exact Bool.false_ne_true
  refine call_meets F.slot_list_extend ⟨_,e,rfl⟩ F.entry_list_extend (F.args_list_extend_2 _ _)
    (AutoSeq1.list_extend_list_list_0 l its.toArray n b its2.toArray n2 hlong (by rw[List.size_toArray];lia) (by lia)) ⟨e,e2,?_⟩
  refine⟨.non,_,I.lset (its':=its++its2) hH e (by simp) (r.append r2) ?_,rfl,q⟩
  rw[List.length_append]
  lia

def rPop:V→List V→Hp→VK→Prop:=fun x vs H Q=>∃ l xs y,x=.ref l∧vs=[]∧H l=some (.lst xs)∧xs[xs.length-1]?=some y∧Q y (upd H l (.lst xs.dropLast))
theorem mt_pop:MtM X "list.pop" rPop:=by
  intro pins s σ H x vs v us Q I rx rv h
  obtain⟨l,xs,y,rfl,rfl,hH,hy,q⟩:=h
  cases rx
  have hus:=rv.zero
  subst hus
  obtain⟨z,its,n,r,hl,e⟩:=I.lstM hH
  obtain⟨u,hu,ru⟩:=r.get hy
  have hy':its.toArray[its.toArray.size-1]?=some u:=by
    show its.toArray[its.length-1]?=some u
    rw[←Array.getElem?_toList,←hl]
    exact hu
  refine call_meets F.slot_list_pop ⟨_,e,rfl⟩ F.entry_list_pop (F.args_list_pop_1 _) (MeetsSeq.list_pop_last l its.toArray n u hy' (by rw[List.size_toArray];lia)) ⟨e,?_⟩
  refine⟨y,_,I.lset (its':=its.dropLast) hH e ?_ r.dropLast ?_,ru,q⟩
  · show its.toArray.eraseIdxIfInBounds (its.toArray.size-1)=its.dropLast.toArray
    rw[List.size_toArray,List.eraseIdxIfInBounds_toArray,erase_last]
  · rw[List.length_dropLast]
    lia




def rCat:R2:=fun x y H Q=>∃ l b xs zs,x=.ref l∧y=.ref b∧H l=some (.lst xs)∧H b=some (.lst zs)∧xs.length+zs.length≤sizeLine∧∀ p,H p=none→Q (.ref p) (upd H p (.lst (xs++zs)))
theorem op_cat:OpR X (binaryOp .Add) rCat:=by
  intro pins s σ H x y v u Q I rx ry h
  obtain⟨l,b,xs,zs,rfl,rfl,hH,hB,hz,q⟩:=h
  cases rx
  cases ry
  obtain⟨z,its,n,r,hl,e⟩:=I.lstM hH
  obtain⟨z2,its2,n2,r2,hl2,e2⟩:=I.lstM hB
  refine PySem.P.add_list e e2 ?_ (by rw[List.size_toArray,List.size_toArray];lia)
  have ea:its.toArray++its2.toArray=(its++its2).toArray:=by simp
  rw[ea]
  exact⟨.ref _,_,I.lnew (t':=s.toks) (r.append r2) (by rw[List.length_append];lia),rfl,q _ I.fresh⟩
def rRep:R2:=fun x y H Q=>∃ l k xs,x=.ref l∧y=.int k∧H l=some (.lst xs)∧-(2^63)≤k∧k<2^63∧xs.length*k.toNat≤sizeLine ∧
  ∀ p,H p=none→Q (.ref p) (upd H p (.lst (List.replicate k.toNat xs).flatten))
theorem len_rep {α:Type} (xs:List α) (k:Nat):(List.replicate k xs).flatten.length=k*xs.length:=by
  induction k with
  | zero=>simp
  | succ k ih=>rw[List.replicate_succ,List.flatten_cons,List.length_append,ih,Nat.succ_mul,Nat.add_comm]
theorem op_rep:OpR X (binaryOp .Mult) rRep:=by
  intro pins s σ H x y v u Q I rx ry h
  obtain⟨l,k,xs,rfl,rfl,hH,h1,h2,hz,q⟩:=h
  cases rx
  obtain⟨t,rfl⟩:=ry
  obtain⟨z,its,n,r,hl,e⟩:=I.lstM hH
  have hlen:its.toArray.size*k.toNat≤sizeLine:=by rw[List.size_toArray,←hl];exact hz
  have hcap:¬ its.toArray.size*k.toNat > (2^63-1) / 8:=by
    have:(sizeLine:Nat)≤(2^63-1) / 8:=by decide
    lia
  have hfit:¬ (!Builtin.List.listFitsIndex k)=true:=by
    rw[fitsIndex_both h1 h2]
    exact Bool.false_ne_true
  have hlong:¬ Builtin.List.listTooLong (its.toArray.size*k.toNat)=true:=by
    rw[notLongL hlen]
    exact Bool.false_ne_true
  have hnew:List.foldl (fun x1 x2=>x1++x2) #[] (List.replicate (if its.toArray.isEmpty=true then 0 else k.toNat) its.toArray)=(List.replicate k.toNat its).flatten.toArray:=by
    have f0:∀ m:Nat,List.foldl (fun x1 x2=>x1++x2) #[] (List.replicate m its.toArray)=(List.replicate m its).flatten.toArray:=fun m=>by
      have:=foldl_rep its m []
      rw[List.nil_append] at this
      exact this
    rw[f0]
    cases its with
    | nil=>simp
    | cons a r'=>rw[if_neg (by simp)]
  refine wpAny_binaryOp_repeat_ref (T:="list") (U:="int") (by decide) ⟨_,e,rfl⟩ (fun s'=>typeIs_int s' k t) noFill_list_mul F.fills_int_mul F.slot_int_rmul repeat_list F.slot_int_index.lookup
    (call_meets F.slot_int_rmul (typeIs_int s k t) F.entry_int_rmul (F.args_int_rmul_2 _ _) (int___rmul___int_list k t l its.toArray n)
      ⟨e,rfl,⟨_,e,rfl⟩,call_meets F.slot_list_mul ⟨_,e,rfl⟩ F.entry_list_mul (F.args_list_mul_2 _ _) (AutoListH.list___mul___list_int_3 l its.toArray n k t hfit hcap hlong) ⟨e,?_⟩⟩)
  rw[hnew]
  exact⟨.ref _,_,I.lnew (t':=s.toks) (r.rep k.toNat) (by rw[len_rep,Nat.mul_comm];exact hz),rfl,q _ I.fresh⟩

end

section
variable {prog:Program}{w:World}{A:Around}{E:Value→Shared→Prop}{s:Shared}
set_option maxRecDepth 100000 in
end

section
variable {X:Cx}
end
end L2

namespace L2
open PySem PySem.Spec PyProof.Rows

theorem Vals.ints:∀ {ns:List Int}{us:List Value},Vals (ns.map V.int) us→IntsAre us ns
  | [],us,h=>by
    rw[List.map_nil] at h
    cases h
    exact IntsAre.nil
  | n::ns,us,h=>by
    rw[List.map_cons] at h
    cases h with
    | cons r t =>
      obtain⟨k,rfl⟩:=r
      exact IntsAre.cons n k (Vals.ints t)
theorem Vals.bls:∀ {bs:List Bool}{us:List Value},Vals (bs.map V.bl) us→us=bs.map Value.bool
  | [],us,h=>by
    rw[List.map_nil] at h
    cases h
    rfl
  | b::bs,us,h=>by
    rw[List.map_cons] at h
    cases h with
    | cons r t =>
      cases r
      rw[Vals.bls t,List.map_cons]
theorem Vals.ref1 {a:Addr}{us:List Value} (r:Vals [V.ref a] us):us=[Value.ref a]:=by
  cases r with
  | cons r t =>
    cases t
    cases r
    rfl

section
variable {prog:Program}{w:World}{A:Around}{E:Value→Shared→Prop}{s:Shared}{l:Addr}{its:List Value}{ns:List Int}{Q:Value→Shared→Prop}
end

section
variable {X:Cx}

end

section
variable {X:Cx}
end

section
variable {X:Cx}
end

theorem iter_any {prog:Program}{w:World}{A:Around}{E:Value→Shared→Prop}{s:Shared}{l:Addr}{items:Array Value}{Q:Value→Shared→Prop} (hl:s.heap.IsList l items)
    (h:∀ s₂:Shared,s₂={ s with heap:=s.heap.push { cls:=.type "list_iterator",data:=.fields #[.ref l,.int 0 0] } } →
      (s₂.heap.IsListIter s.heap.objs.size l 0∧s₂.heap.IsList l items)→l≠s.heap.objs.size→Q (.ref s.heap.objs.size) s₂):wpAny (model prog w) A (pyIter (.ref l)) Q E s:=by
  have hlt:l<s.heap.objs.size:=by obtain⟨_,e,_⟩:=hl;exact Heap.lt_size e
  exact wpAny_pyIter_list hl (h _ rfl ⟨⟨_,Heap.get?_push_size _ rfl,rfl,rfl⟩,hl.push _⟩ (Nat.ne_of_lt hlt))
theorem truth_bools {prog:Program}{w:World}{A:Around}{bs:List Bool}{its:List Value} (e:its=bs.map Value.bool) :
    TruthOf prog w A (fun i v=>its.toArray[i]?=some v) (fun i=>bs.getD i false):=fun i v s Q E hv hq=>by
  have hv':its[i]?=some v:=by simpa using hv
  rw[e,List.getElem?_map] at hv'
  obtain⟨b,hb,rfl⟩:=Option.map_eq_some_iff.mp hv'
  have hg:bs.getD i false=b:=by rw[List.getD_eq_getElem?_getD,hb] <;> rfl
  have hq':Q (bs.getD i false) s:=hq
  rw[hg] at hq'
  exact wpAny_truthy_bool hq'
theorem any_range:∀ bs:List Bool,(List.range bs.length).any (fun i=>bs.getD i false)=bs.any id
  | []=>rfl
  | b::bs=>by
    rw[List.length_cons,List.range_succ_eq_map,List.any_cons,List.any_map,List.any_cons,←any_range bs]
    all_goals rfl
theorem all_range:∀ bs:List Bool,(List.range bs.length).all (fun i=>bs.getD i false)=bs.all id
  | []=>rfl
  | b::bs=>by
    rw[List.length_cons,List.range_succ_eq_map,List.all_cons,List.all_map,List.all_cons,←all_range bs]
    all_goals rfl
section
variable {X:Cx}
def rAny (K:PySem.W.Frag):List V→Hp→VK→Prop:=fun vs H Q=>∃ (a:Addr) (bs:List Bool),vs=[V.ref a]∧SqL K H a (bs.map V.bl)∧Q (.bl (bs.any id)) H
def rAll (K:PySem.W.Frag):List V→Hp→VK→Prop:=fun vs H Q=>∃ (a:Addr) (bs:List Bool),vs=[V.ref a]∧SqL K H a (bs.map V.bl)∧Q (.bl (bs.all id)) H
theorem cr_any (hc:X.calm=true):CallR X (.builtin "any") (rAny X.K):=by
  intro pins s σ H vs us Q I r h
  obtain⟨a,bs,rfl,hs,q⟩:=h
  obtain⟨its,rv,hl,_⟩:=I.list hs
  rw[Vals.ref1 r]
  have hb:=rv.bls
  refine call_any_walk (iter_any hl.isList fun s₂ e2 st hne=>?_)
  subst e2
  refine⟨_,_,_,_,_,_,_,rfl,Walks.list (A:=X.A.in1) (I.ok.hd hc) _ a hne its.toArray,st,truth_bools hb,fun h' tk hk=>?_⟩
  refine⟨.bl _,H,I.kept fun b o eo=>hk b o (fun hmem=>?_) (Heap.get?_push_of_some _ eo),?_,q⟩
  · rcases List.mem_cons.mp hmem with e1 | hmem
    · exact absurd (e1 ▸ Heap.lt_size eo) (Nat.lt_irrefl _)
    · cases hmem
  · show Value.bool _=Value.bool _
    rw[←any_range,hb,List.size_toArray,List.length_map]
theorem cr_all (hc:X.calm=true):CallR X (.builtin "all") (rAll X.K):=by
  intro pins s σ H vs us Q I r h
  obtain⟨a,bs,rfl,hs,q⟩:=h
  obtain⟨its,rv,hl,_⟩:=I.list hs
  rw[Vals.ref1 r]
  have hb:=rv.bls
  refine call_all_walk (iter_any hl.isList fun s₂ e2 st hne=>?_)
  subst e2
  refine⟨_,_,_,_,_,_,_,rfl,Walks.list (A:=X.A.in1) (I.ok.hd hc) _ a hne its.toArray,st,truth_bools hb,fun h' tk hk=>?_⟩
  refine⟨.bl _,H,I.kept fun b o eo=>hk b o (fun hmem=>?_) (Heap.get?_push_of_some _ eo),?_,q⟩
  · rcases List.mem_cons.mp hmem with e1 | hmem
    · exact absurd (e1 ▸ Heap.lt_size eo) (Nat.lt_irrefl _)
    · cases hmem
  · show Value.bool _=Value.bool _
    rw[←all_range,hb,List.size_toArray,List.length_map]
end

mutual
inductive Dp (K:PySem.W.Frag) (H:Hp):V→PyData→Prop
  | non:Dp K H .non .none
  | bl (b:Bool):Dp K H (.bl b) (.bool b)
  | int (i:Int):Dp K H (.int i) (.int i)
  | str (x:Str):Dp K H (.str x) (.str x)
  | lst {a:Addr}{xs:List V}{ds:List PyData}:SqL K H a xs→DpAll K H xs ds→Dp K H (.ref a) (.list ds)
  | tup {a:Addr}{xs:List V}{ds:List PyData}:SqT K H a xs→DpAll K H xs ds→Dp K H (.ref a) (.tuple ds)
inductive DpAll (K:PySem.W.Frag) (H:Hp):List V→List PyData→Prop
  | nil:DpAll K H [] []
  | cons {v:V}{vs:List V}{d:PyData}{ds:List PyData}:Dp K H v d→DpAll K H vs ds→DpAll K H (v::vs) (d::ds)
end
section
variable {X:Cx}{pins:List (Addr×Obj)}{σ:St}{H:Hp}{s:Shared}
mutual
theorem Dp.reads (I:Inv X pins σ H s):∀ (d:PyData) (v:V) (u:Value),Dp X.K H v d→RelV v u→∃ as,Reads s.heap u d as
  | .none,_,_,h,r=>by
    cases h
    cases r
    exact⟨_,Reads.none⟩
  | .bool b,_,_,h,r=>by
    cases h
    cases r
    exact⟨_,Reads.bool b⟩
  | .int i,_,_,h,r=>by
    cases h
    obtain⟨t,rfl⟩:=r
    exact⟨_,Reads.int i t⟩
  | .str x,_,_,h,r=>by
    cases h
    obtain⟨t,rfl⟩:=r
    exact⟨_,Reads.str x t⟩
  | .list ds,_,_,h,r=>by
    cases h with
    | lst hs ha =>
      cases r
      obtain⟨its,rv,⟨o,n,ho,hc,_,hd⟩,_⟩:=I.list hs
      obtain⟨as,hr⟩:=Dp.readsAll I ds _ its ha rv
      exact⟨_,Reads.list ho hc hd hr⟩
  | .tuple ds,_,_,h,r=>by
    cases h with
    | tup hs ha =>
      cases r
      obtain⟨its,rv,⟨o,ho,hc,n,hd⟩,_⟩:=I.tuple hs
      obtain⟨as,hr⟩:=Dp.readsAll I ds _ its ha rv
      exact⟨_,Reads.tuple ho hc hd hr⟩
  | .dict _,_,_,h,_=>by cases h
theorem Dp.readsAll (I:Inv X pins σ H s):∀ (ds:List PyData) (vs:List V) (us:List Value),DpAll X.K H vs ds→Vals vs us→∃ as,ReadsAll s.heap us ds as
  | [],_,_,h,r=>by
    cases h
    cases r
    exact⟨_,ReadsAll.nil⟩
  | d::ds,_,_,h,r=>by
    cases h with
    | cons h1 h2 =>
      cases r with
      | cons r1 r2 =>
        obtain⟨as,q1⟩:=Dp.reads I d _ _ h1 r1
        obtain⟨bs,q2⟩:=Dp.readsAll I ds _ _ h2 r2
        exact⟨_,ReadsAll.cons q1 q2⟩
end
end
section
variable {X:Cx}
end
end L2

namespace L2
open PySem PySem.Spec PyProof.Rows
abbrev CellAt (h:Heap) (c:Addr) (v:Option Value):Prop:=h.IsCell c v
def relS (scope sc:Scope):Scope :=
  { scope with names:=scope.names.map fun (n,k)=>if (k == .free && sc.kind == .function && sc.names.lookup n == some .cell) then (n,.cell) else (n,k) }

def cloFrom (cells:List (Str×Addr)):List (Str×NameKind)→List (Str×Addr)→List (Str×Addr)
  | [],acc=>acc
  | (n,k)::r,acc=>if k == .free then cloFrom cells r ((n,(cells.lookup n).getD 0)::acc) else cloFrom cells r acc

theorem closure_loop (env:Env) (f:Str×NameKind→List (Str×Addr)→Sem (ForInStep (List (Str×Addr))))
    (hf:∀ n k c,f (n,k) c=if k == .free then (do let a ←cellOf env n;pure (.yield ((n,a)::c))) else pure (.yield c)) :
    ∀ (names:List (Str×NameKind)) (acc:List (Str×Addr)),(∀ y∈names,y.2=.free→∃ c,env.cells.lookup y.1=some c)→forIn names acc f=pure (cloFrom env.cells names acc)
  | [],acc,_=>by rw[List.forIn_nil];rfl
  | (n,k)::r,acc,h=>by
    rw[List.forIn_cons,hf]
    have ih:=fun acc=>closure_loop env f hf r acc fun y hy=>h y (List.mem_cons_of_mem _ hy)
    unfold cloFrom
    by_cases hk:(k == NameKind.free)=true
    · rw[if_pos hk,if_pos hk]
      obtain⟨c,hc⟩:=h (n,k) List.mem_cons_self (by simpa using hk)
      have e:cellOf env n=pure c:=by unfold cellOf;rw[hc]
      rw[e]
      have e2:(env.cells.lookup n).getD 0=c:=by rw[hc];rfl
      rw[e2]
      exact ih _
    · rw[if_neg hk,if_neg hk]
      exact ih _
theorem closure_ok {scope:Scope}{env:Env} (h:∀ y∈scope.names,y.2=.free→∃ c,env.cells.lookup y.1=some c):closureFor scope env=pure (cloFrom env.cells scope.names []):=by
  simp only[closureFor]
  rw[closure_loop env _ (fun n k c=>rfl) scope.names [] h]
  rfl

theorem mem_lookup {α:Type}:∀ {l:List (Str×α)}{n:Str}{c:α},(n,c)∈l→∃ c',l.lookup n=some c'
  | (k,v)::r,n,c,h=>by
    rw[List.lookup_cons]
    cases hb:n == k with
    | true=>exact⟨_,rfl⟩
    | false =>
      rcases List.mem_cons.mp h with e | h
      · cases e;simp at hb
      · exact mem_lookup h

theorem cloFrom_mem {cells:List (Str×Addr)}:∀ {names:List (Str×NameKind)}{acc:List (Str×Addr)}{n:Str}{c:Addr},(n,c)∈cloFrom cells names acc→(n,c)∈acc∨((n,.free)∈names∧c=(cells.lookup n).getD 0)
  | [],_,_,_,h=>.inl h
  | (m,k)::r,acc,n,c,h=>by
    unfold cloFrom at h
    split at h
    · rename_i hk
      have hk:k=.free:=by simpa using hk
      rcases cloFrom_mem h with h | ⟨h1,h2⟩
      · rcases List.mem_cons.mp h with e | h
        · cases e;exact .inr ⟨hk ▸ List.mem_cons_self,rfl⟩
        · exact .inl h
      · exact .inr ⟨List.mem_cons_of_mem _ h1,h2⟩
    · rcases cloFrom_mem h with h | ⟨h1,h2⟩
      · exact .inl h
      · exact .inr ⟨List.mem_cons_of_mem _ h1,h2⟩
theorem cloFrom_acc {cells:List (Str×Addr)}:∀ {names:List (Str×NameKind)}{acc:List (Str×Addr)}{p:Str×Addr},p∈acc→p∈cloFrom cells names acc
  | [],_,_,h=>h
  | (m,k)::r,acc,p,h=>by
    unfold cloFrom
    split
    · exact cloFrom_acc (List.mem_cons_of_mem _ h)
    · exact cloFrom_acc h
theorem cloFrom_has {cells:List (Str×Addr)}:∀ {names:List (Str×NameKind)}{acc:List (Str×Addr)}{n:Str},(n,.free)∈names→(n,(cells.lookup n).getD 0)∈cloFrom cells names acc
  | (m,k)::r,acc,n,h=>by
    unfold cloFrom
    rcases List.mem_cons.mp h with e | h
    · cases e
      exact cloFrom_acc List.mem_cons_self
    · split
      · exact cloFrom_has h
      · exact cloFrom_has h

theorem cells_mem:∀ {names:List (Str×NameKind)}{h:Heap}{acc:List (Str×Addr)}{x:Str}{c:Addr},(x,c)∈cellsFrom h.objs.size names acc →
    (x,c)∈acc∨((x,.cell)∈names∧h.objs.size≤c∧CellAt (pushCells h names) c none)
  | [],_,_,_,_,h=>.inl h
  | (n,k)::r,h,acc,x,c,hm=>by
    unfold cellsFrom at hm
    unfold pushCells
    split at hm
    · rename_i hk
      rw[if_pos hk]
      have hk:k=.cell:=by simpa using hk
      rw[←Heap.size_push h { cls:=.type "cell",data:=.cell none }] at hm
      rcases cells_mem hm with hm | ⟨h1,h2,h3⟩
      · rcases List.mem_cons.mp hm with e | hm
        · cases e
          exact .inr ⟨hk ▸ List.mem_cons_self,Nat.le_refl _,_,pushCells_keeps r _ _ _ (Heap.get?_push_size _ rfl),rfl⟩
        · exact .inl hm
      · rw[Heap.size_push] at h2
        exact .inr ⟨List.mem_cons_of_mem _ h1,Nat.le_of_succ_le h2,h3⟩
    · rename_i hk
      rw[if_neg hk]
      rcases cells_mem hm with hm | ⟨h1,h2,h3⟩
      · exact .inl hm
      · exact .inr ⟨List.mem_cons_of_mem _ h1,h2,h3⟩
theorem cells_acc:∀ {names:List (Str×NameKind)}{n:Nat}{acc:List (Str×Addr)}{p:Str×Addr},p∈acc→p∈cellsFrom n names acc
  | [],_,_,_,h=>h
  | (m,k)::r,n,acc,p,h=>by
    unfold cellsFrom
    split
    · exact cells_acc (List.mem_cons_of_mem _ h)
    · exact cells_acc h
theorem cells_has:∀ {names:List (Str×NameKind)}{n:Nat}{acc:List (Str×Addr)}{x:Str},(x,.cell)∈names→∃ c,(x,c)∈cellsFrom n names acc
  | (m,k)::r,n,acc,x,h=>by
    unfold cellsFrom
    rcases List.mem_cons.mp h with e | h
    · cases e
      exact⟨n,cells_acc List.mem_cons_self⟩
    · split
      · exact cells_has h
      · exact cells_has h
theorem cells_inj:∀ {names:List (Str×NameKind)}{h:Heap}{acc:List (Str×Addr)}{x y:Str}{c:Addr},(∀ p∈acc,p.2<h.objs.size)→(∀ x y c,(x,c)∈acc→(y,c)∈acc→x=y) →
    (x,c)∈cellsFrom h.objs.size names acc→(y,c)∈cellsFrom h.objs.size names acc→x=y
  | [],_,_,_,_,_,_,hi,h1,h2=>hi _ _ _ h1 h2
  | (n,k)::r,h,acc,x,y,c,hl,hi,h1,h2=>by
    unfold cellsFrom at h1 h2
    split at h1
    · rename_i hk
      rw[if_pos hk] at h2
      rw[←Heap.size_push h { cls:=.type "cell",data:=.cell none }] at h1 h2
      refine cells_inj (h:=h.push _) (fun p hp=>?_) (fun x y c a b=>?_) h1 h2
      · rw[Heap.size_push]
        rcases List.mem_cons.mp hp with rfl | hp
        · exact Nat.lt_succ_self _
        · exact Nat.lt_succ_of_lt (hl p hp)
      · rcases List.mem_cons.mp a with e | a <;> rcases List.mem_cons.mp b with e' | b
        · cases e;cases e';rfl
        · cases e;exact absurd (hl _ b) (Nat.lt_irrefl _)
        · cases e';exact absurd (hl _ a) (Nat.lt_irrefl _)
        · exact hi _ _ _ a b
    · rename_i hk
      rw[if_neg hk] at h2
      exact cells_inj hl hi h1 h2

theorem newEnv_comp {M:Model}{A:Around}{E:Value→Shared→Prop}{s:Shared}{scope:Scope}{globals:Addr}{closure:List (Str×Addr)}{qual:Str}{func:Option Addr}{code:Value}{around:Env}{builtins:Addr}{Q:Env→Shared→Prop}
    (h:Q (newEnv scope s.heap.objs.size globals (cellsFrom (s.heap.objs.size+1) scope.names closure) qual func code (some around) builtins)
      { s with heap:=pushCells (s.heap.push { cls:=.type "dict",data:=.dict #[] }) scope.names }) :
    wpAny M A (newFunctionEnv scope globals closure [] qual func code (some around) builtins) Q E s:=by
  simp only[newFunctionEnv,Option.isSome_some,if_true]
  refine wpAny_bind (wpAny_alloc ?_)
  refine wpAny_bind (wpAny_layCells _ (fun n k c=>rfl) scope.names closure _ _ ?_)
  rw[show ({ s with heap:=s.heap.push { cls:=.type "dict",data:=.dict #[] } }:Shared).heap.objs.size=s.heap.objs.size+1 from Heap.size_push ..]
  rw[List.forIn_nil]
  exact wpAny_bind (wpAny_pure (wpAny_pure h))

theorem lookup_relS {sc:Scope}:∀ {names:List (Str×NameKind)}{x:Str}{k:NameKind},
    (names.map fun (n,k)=>if (k == NameKind.free && sc.kind == .function && sc.names.lookup n == some .cell) then (n,NameKind.cell) else (n,k)).lookup x=some k →
    ∃ k',names.lookup x=some k'∧(k=k'∨(k'=.free∧k=.cell))
  | [],_,_,h=>by simp at h
  | (n,k₀)::r,x,k,h=>by
    have ih:=@lookup_relS sc r x k
    have h':List.lookup x ((if (k₀ == NameKind.free && sc.kind == .function && sc.names.lookup n == some .cell)=true then (n,NameKind.cell) else (n,k₀))::(r.map _))=some k:=h
    cases hx:x == n with
    | true =>
      simp only[List.lookup_cons,hx]
      by_cases hc:(k₀ == NameKind.free && sc.kind == .function && sc.names.lookup n == some .cell)=true
      · rw[if_pos hc] at h'
        simp only[List.lookup_cons,hx] at h'
        cases h'
        simp only[Bool.and_eq_true,beq_iff_eq] at hc
        exact⟨k₀,rfl,.inr ⟨hc.1.1,rfl⟩⟩
      · rw[if_neg hc] at h'
        simp only[List.lookup_cons,hx] at h'
        cases h'
        exact⟨_,rfl,.inl rfl⟩
    | false =>
      simp only[List.lookup_cons,hx]
      by_cases hc:(k₀ == NameKind.free && sc.kind == .function && sc.names.lookup n == some .cell)=true
      · rw[if_pos hc] at h'
        simp only[List.lookup_cons,hx] at h'
        exact ih h'
      · rw[if_neg hc] at h'
        simp only[List.lookup_cons,hx] at h'
        exact ih h'



structure BlkOk (N:List Str) (sc scope:Scope) (own:List (Str×Nat)):Prop where
  kind:scope.kind=.function
  uniq:∀ y∈scope.names,scope.names.lookup y.1=some y.2
  ix:∀ p∈own,N[p.2]?=some p.1
  free:∀ y∈scope.names,y.2=.free→sc.names.lookup y.1=some .cell∨sc.names.lookup y.1=some .free
  own:∀ y∈scope.names,y.2=.local∨y.2=.cell→y.1∈own.map (·.1)∨y.1 ∉ N
def wipe (σ:St):List Nat→St
  | []=>σ
  | v::vs=>(wipe σ vs).set v none
theorem wipe_length (σ:St):∀ vs:List Nat,(wipe σ vs).length=σ.length
  | []=>rfl
  | v::vs=>by unfold wipe;rw[List.length_set,wipe_length σ vs]
theorem wipe_some {σ:St}{i:Nat}{x:V}:∀ {vs:List Nat},(wipe σ vs)[i]?=some (some x)→σ[i]?=some (some x)∧i ∉ vs
  | [],h=>⟨h,by simp⟩
  | v::vs,h=>by
    unfold wipe at h
    by_cases hi:v=i
    · subst hi
      by_cases hv:v<(wipe σ vs).length
      · rw[List.getElem?_set_self hv] at h;cases h
      · rw[List.getElem?_eq_none (by simpa using hv)] at h;cases h
    · rw[List.getElem?_set_ne hi] at h
      obtain⟨h1,h2⟩:=wipe_some h
      exact⟨h1,by simp only[List.mem_cons,not_or];exact⟨fun e=>hi e.symm,h2⟩⟩

abbrev Cx.blk (X:Cx) (s:Shared) (H:Hp) (scope:Scope) (cenv:Env) (fp:List Addr):Cx:={ X with s_0:=s,H_0:=H,env:=cenv,outer:=X.stack,ex:=fp,fn:=fun x=>scope.names.lookup x == some .cell,pn:=[],xe:=fun _ _=>False }
section
variable {X:Cx}{pins:List (Addr×Obj)}{σ:St}{H:Hp}{s:Shared}
theorem block_start {scope:Scope}{own:List (Str×Nat)}{fp:List Addr} (I:Inv X pins σ H s) (ok:BlkOk X.N X.env.scope scope own) (hN:X.N.Nodup) (hfp:∀ b∈fp,FpOk X pins H b∧b<s.heap.objs.size) :
    Inv (X.blk s H scope (compEnvC scope (cellsFrom (s.heap.objs.size+1) scope.names (cloFrom X.env.cells scope.names [])) s.heap.objs.size X.env) fp) [] (wipe σ (own.map (·.2))) H { s with heap:=pushCells (s.heap.push { cls:=.type "dict",data:=.dict #[] }) scope.names }:=by
  have hfree:∀ y∈scope.names,y.2=.free→∃ c,X.env.cells.lookup y.1=some c:=fun y hy e=>by
    rcases ok.free y hy e with k | k
    · exact I.ok.has _ (.inl k)
    · exact I.ok.has _ (.inr k)
  generalize hcenv:compEnvC scope (cellsFrom (s.heap.objs.size+1) scope.names (cloFrom X.env.cells scope.names [])) s.heap.objs.size X.env=cenv
  have kp:∀ b o,s.heap.get? b=some o→(pushCells (s.heap.push { cls:=.type "dict",data:=.dict #[] }) scope.names).get? b=some o:=fun b o e=>pushCells_keeps _ _ _ _ (Heap.get?_push_of_some _ e)
  have hL:cenv.locals=s.heap.objs.size:=by rw[←hcenv];rfl
  have hcl:cenv.cells=cellsFrom (s.heap.objs.size+1) scope.names (cloFrom X.env.cells scope.names []):=by rw[←hcenv];rfl
  have hsc:cenv.scope=relS scope X.env.scope:=by rw[←hcenv];rfl
  rw[←Heap.size_push s.heap { cls:=.type "dict",data:=.dict #[] }] at hcl
  have cm:∀ {y c},(y,c)∈cloFrom X.env.cells scope.names []→X.env.cells.lookup y=some c∧c<s.heap.objs.size:=fun {y c} hm=>by
    rcases cloFrom_mem hm with hm | ⟨h1,rfl⟩
    · cases hm
    · obtain⟨c,hc⟩:=hfree _ h1 rfl
      rw[hc]
      obtain⟨w,z⟩:=I.cell _ _ hc
      exact⟨rfl,z.lt⟩
  have mem:∀ {y c},cenv.cells.lookup y=some c→(X.env.cells.lookup y=some c∧c<s.heap.objs.size)∨(s.heap.objs.size+1≤c∧CellAt (pushCells (s.heap.push { cls:=.type "dict",data:=.dict #[] }) scope.names) c none):=fun {y c} e=>by
    rw[hcl] at e
    rcases cells_mem (PySem.mem_of_lookup e) with hm | ⟨_,h2,h3⟩
    · exact .inl (cm hm)
    · rw[Heap.size_push] at h2;exact .inr ⟨h2,h3⟩
  have look:∀ {y},scope.names.lookup y=some .free→∃ c,cenv.cells.lookup y=some c∧X.env.cells.lookup y=some c:=fun {y} hl=>by
    have hy:(y,NameKind.free)∈scope.names:=PySem.mem_of_lookup hl
    obtain⟨c',e'⟩:=mem_lookup (cells_acc (names:=scope.names) (n:=(s.heap.push { cls:=.type "dict",data:=.dict #[] }).objs.size) (cloFrom_has (cells:=X.env.cells) (acc:=[]) hy))
    rw[←hcl] at e'
    refine⟨c',e',?_⟩
    rw[hcl] at e'
    rcases cells_mem (PySem.mem_of_lookup e') with hm | ⟨h1,_,_⟩
    · exact (cm hm).1
    · have:=ok.uniq _ h1
      rw[hl] at this;cases this
  have okB:(X.blk s H scope cenv fp).Ok:=by
    refine⟨I.ok.mod,by show cenv.scope.kind=_;rw[hsc];exact ok.kind,by show cenv.globals=_;rw[←hcenv];exact I.ok.glob,by show cenv.builtins=_;rw[←hcenv];exact I.ok.blt,by show s.heap.objs.size≤cenv.locals;rw[hL];exact Nat.le_refl _,
      fun y z c e1 e2=>?_,fun y hy=>?_,fun y c z e=>?_,I.ok.hd,I.ok.frames,.inl rfl,fun b hb=>⟨?_,fun y c e z=>?_⟩,I.bs,Nat.le_trans I.ok.bsz I.sz,fun b o e hb=>?_,fun b hb z=>?_,I.stack,I.stkFree⟩
    · have e1:cenv.cells.lookup y=some c:=e1
      have e2:cenv.cells.lookup z=some c:=e2
      rw[hcl] at e1 e2
      refine cells_inj (fun p hp=>?_) (fun y z c a b=>I.ok.inj y z c (cm a).1 (cm b).1) (PySem.mem_of_lookup e1) (PySem.mem_of_lookup e2)
      rw[Heap.size_push]
      exact Nat.lt_succ_of_lt (cm (y:=p.1) (c:=p.2) hp).2
    · show ∃ c,cenv.cells.lookup y=some c
      have key:∀ k,cenv.kindOf y=some k→(k=.cell∨k=.free)→∃ c,cenv.cells.lookup y=some c:=fun k hk hk'=>by
        unfold Env.kindOf at hk
        rw[hsc] at hk
        obtain⟨k',e,r⟩:=lookup_relS hk
        have:k'=.cell∨k'=.free:=by
          rcases r with rfl | ⟨rfl,_⟩
          · exact hk'
          · exact .inr rfl
        rcases this with rfl | rfl
        · obtain⟨c,hm⟩:=cells_has (n:=(s.heap.push { cls:=.type "dict",data:=.dict #[] }).objs.size) (acc:=cloFrom X.env.cells scope.names []) (PySem.mem_of_lookup e)
          obtain⟨c',e'⟩:=mem_lookup hm
          exact⟨c',by rw[hcl];exact e'⟩
        · obtain⟨c,h1,_⟩:=look e
          exact⟨c,h1⟩
      rcases hy with hy | hy
      · exact key _ hy (.inl rfl)
      · exact key _ hy (.inr rfl)
    · have z:(scope.names.lookup y == some NameKind.cell)=true:=z
      have z:scope.names.lookup y=some .cell:=by simpa using z
      have e:cenv.cells.lookup y=some c:=e
      rw[hcl] at e
      rcases cells_mem (PySem.mem_of_lookup e) with hm | ⟨_,h2,_⟩
      · rcases cloFrom_mem hm with hm | ⟨h1,_⟩
        · cases hm
        · have q:=ok.uniq _ h1
          rw[z] at q;cases q
      · rw[Heap.size_push] at h2
        exact Nat.le_of_succ_le h2
    · show b≠cenv.locals
      rw[hL];exact Nat.ne_of_lt (hfp b hb).2
    · have e:cenv.cells.lookup y=some c:=e
      rcases mem e with⟨h1,_⟩ | ⟨h1,_⟩
      · exact (hfp b hb).1.2.2.2.2.1 y c h1 z
      · have h2:s.heap.objs.size+1≤b:=by rw[←z];exact h1
        exact absurd (Nat.lt_of_lt_of_le (hfp b hb).2 (Nat.le_of_succ_le h2)) (Nat.lt_irrefl _)
    · rcases (hfp b hb).1.2.2.2.1 with z | z
      · exact I.ok.noex b o e z
      · exact absurd (Nat.lt_of_lt_of_le (Heap.lt_size e) (Nat.le_trans I.ok.bsz z)) (Nat.lt_irrefl _)
    · rcases List.mem_cons.mp (I.stkSub b z) with z | z
      · exact (hfp b hb).1.2.1 z
      · exact (hfp b hb).1.2.2.1 z
  refine⟨okB,rfl,I.bare,Un.kept kp,⟨fun _=>none,?_,fun i y av e1 e2 e3=>?_⟩,fun y c e=>?_,?_,fun y c e=>?_,fun p hp=>?_,I.hok.kept kp,by rw[wipe_length];exact I.len⟩
  · show Heap.Ns _ cenv.locals _
    rw[hL]
    exact Heap.Ns.keeps (Heap.Ns.new ..) fun b o e=>pushCells_keeps _ _ _ _ e
  · obtain⟨e2,hne⟩:=wipe_some e2
    have hfr:scope.names.lookup y=some .free∧(cenv.kindOf y=some .cell∨cenv.kindOf y=some .free):=by
      have key:∀ k,cenv.scope.names.lookup y=some k→k=.local∨k=.cell∨k=.free→scope.names.lookup y=some .free∧(cenv.kindOf y=some .cell∨cenv.kindOf y=some .free):=fun k hk hk'=>by
        have hk0:=hk
        rw[hsc] at hk
        obtain⟨k',e,r⟩:=lookup_relS hk
        have no:¬ (k'=.local∨k'=.cell):=fun hh=>by
          rcases ok.own _ (PySem.mem_of_lookup e) hh with e' | e'
          · obtain⟨p,hp,hpy⟩:=List.mem_map.mp e'
            have e3:=ok.ix p hp
            have:p.1=y:=hpy
            rw[this] at e3
            exact hne (List.mem_map.mpr ⟨p,hp,nodup_ix hN e3 e1⟩)
          · exact e' (List.mem_of_getElem? e1)
        rcases r with rfl | ⟨rfl,rfl⟩
        · rcases hk' with rfl | rfl | rfl
          · exact absurd (.inl rfl) no
          · exact absurd (.inr rfl) no
          · exact⟨e,.inr hk0⟩
        · exact⟨e,.inl hk0⟩
      have e3:Vis cenv.scope y:=e3
      rcases e3 with e3 | e3 | e3
      · exact key _ e3 (.inl rfl)
      · exact key _ e3 (.inr (.inl rfl))
      · exact key _ e3 (.inr (.inr rfl))
    obtain⟨m,hn,hl⟩:=I.loc
    have hvis:Vis X.env.scope y:=(ok.free _ (PySem.mem_of_lookup hfr.1) rfl).elim (fun k=>.inr (.inl k)) (fun k=>.inr (.inr k))
    obtain⟨w,r,q⟩:=hl i y av e1 e2 hvis
    refine⟨w,r,.inr ⟨hfr.2,?_⟩⟩
    obtain⟨c,h1,h2⟩:=look hfr.1
    rcases q with⟨k,_⟩ | ⟨_,c',e',z⟩
    · have k:X.env.scope.names.lookup y=some .local:=k
      rcases ok.free _ (PySem.mem_of_lookup hfr.1) rfl with k' | k' <;> rw[show X.env.scope.names.lookup y=_ from k'] at k <;> cases k
    · rw[h2] at e';cases e'
      exact⟨c,h1,z.keeps kp⟩
  · have e:cenv.cells.lookup y=some c:=e
    rcases mem e with⟨h1,_⟩ | ⟨_,z⟩
    · obtain⟨w,z⟩:=I.cell y c h1
      exact⟨w,z.keeps kp⟩
    · exact⟨_,z⟩
  · show H cenv.locals=none
    rw[hL];exact I.hok.fresh (Nat.le_refl _)
  · have e:cenv.cells.lookup y=some c:=e
    rcases mem e with⟨h1,_⟩ | ⟨h1,_⟩
    · exact I.freeC y c h1
    · exact I.hok.fresh (Nat.le_of_succ_le h1)
  · exact absurd (show p∈([]:List (Addr×Obj))++[] from hp) (by simp)

theorem app_ok {E:Value→Shared→Prop}{D:Addr}{xs:List V}{y:V}{v:Value}{Q:Value→Shared→Prop} (I:Inv X pins σ H s) (hD:H D=some (.lst xs)) (hz:xs.length<sizeLine) (r:RelV y v)
    (h:∀ s',Inv X pins σ (upd H D (.lst (xs++[y]))) s'→Q .none s'):wpAny (model X.prog X.w) X.A (call (.builtin "list.append") [.ref D,v]) Q E s:=by
  obtain⟨hz',its,n,ri,e⟩:=I.hok D _ hD
  have hl:=ri.length
  refine append_at (hsz:=by rw[List.size_toArray];lia) e fun h' sb ho'=>?_
  refine h { s with heap:=h' } (I.write (t':=s.toks) (by rw[hD];trivial) (.inl rfl) (fun b u hb q=>(sb.2 b hb).trans q) ⟨_,ho'⟩ ⟨by rw[List.length_append];exact hz,its++[v],n+1,ri.append (.cons r .nil),?_⟩)
  rw[ho']
  simp

def PTs (X:Cx) (ifs:List Expr) (t:TT):Prop :=
  ∀ (pins:List (Addr×Obj)) (s:Shared) (σ:St) (H:Hp) (Q:Bool→Hp→Prop),Inv X pins σ H s→t σ H Q →
    wpAny (model X.prog X.w) X.A (forIn ifs true fun c r=>if r=true then do let ok ←isTrue c X.env (eval c X.env);pure (ForInStep.yield ok) else pure (ForInStep.yield r)) (TP X pins σ Q) X.xe s
def tYes:TT:=fun _ H Q=>Q true H
theorem pts_nil:PTs X [] tYes:=fun _ _ _ H _ I h=>wpAny_tests_nil ⟨H,I,h⟩
theorem pts_one {c:Expr}{t:TT} (h:PT X c t):PTs X [c] t:=fun pins s σ H Q I hw=>wpAny_tests_one (h pins s σ H Q I hw)
end

theorem thnF {α:Type}{t:Sem α}{Q Q':α→Shared→Prop}{M:Model}{A:Around}{E:Value→Shared→Prop}{s:Shared} (h:wpAny M A t Q (fun _ _=>False) s) (hQ:∀ a s,Q a s→Q' a s):wpAny M A t Q' E s:=wpAny_mono h hQ fun _ _ z=>False.elim z

theorem compLoop_any {prog:Program}{w:World}{A:Around}{R:Result→Shared→Prop}{s:Shared}{elt target iter:Expr}{ifs:List Expr}{scope:Scope}{pos:Pos}{it acc:Value}{env:Env} (I:Nat→Shared→Prop)
    (turn:∀ n s,I n s→wpAny (model prog w) A (pyNext it) (fun r s₁=>match r with
      | none=>R (.ok .next) s₁
      | some v=>wpAny (model prog w) A (letOwnedTupleGo target it v) (fun _ s₁'=>wpAny (model prog w) A (assign target env v) (fun _ s₂ =>
          wpAny (model prog w) A (forIn ifs true fun c r=>if r=true then do let ok ←isTrue c env (eval c env);pure (ForInStep.yield ok) else pure (ForInStep.yield r)) (fun ok s₃ =>
            if ok=true then wpAny (model prog w) A (eval elt env) (fun x s₄ =>
              wpAny (model prog w) A (call (.builtin "list.append") [acc,x]) (fun _ s₅=>∃ m,m<n∧I m s₅) (notedBy (model prog w) A env fun e s'=>R (.error e) s') s₄) (notedBy (model prog w) A env fun e s'=>R (.error e) s') s₃
            else ∃ m,m<n∧I m s₃) (notedBy (model prog w) A env fun e s'=>R (.error e) s') s₂) (notedBy (model prog w) A env fun e s'=>R (.error e) s') s₁') (notedBy (model prog w) A env fun e s'=>R (.error e) s') s₁) (notedBy (model prog w) A env fun e s'=>R (.error e) s') s)
    (n:Nat) (h:I n s) :
    codeAny (model prog w) A (.compLoop (.ListComp elt [⟨target,iter,ifs,0⟩] scope pos) 0 it acc env) R s:=by
  refine codeAny_loop rfl I (fun n s hI=>?_) n h
  show wpAny _ A ((compTurn (.ListComp elt [⟨target,iter,ifs,0⟩] scope pos) 0 it acc env).onRaise (fun x=>do noteFrame x env;theTreesLotGoes x)) _ _ s
  refine wpAny_noted ?_
  rw[compTurn_list]
  refine wpAny_bind (wpAny_standAt (wpAny_bind (wpAny_mono (turn n s hI) (fun r s₁ h₁=>?_) fun _ _ h'=>h')))
  cases r with
  | none=>exact wpAny_pure h₁
  | some v =>
    refine wpAny_bind (wpAny_mono h₁ (fun _ s₁' h₁'=>?_) fun _ _ h'=>h')
    refine wpAny_bind (wpAny_mono h₁' (fun _ s₂ h₂=>wpAny_bind (wpAny_mono h₂ (fun ok s₃ h₃=>?_) fun _ _ h'=>h')) fun _ _ h'=>h')
    cases ok with
    | false=>exact wpAny_pure ⟨rfl,h₃⟩
    | true =>
      exact wpAny_bind (wpAny_bind (wpAny_mono h₃ (fun x s₄ h₄=>wpAny_bind (wpAny_mono h₄ (fun _ s₅ h₅=>wpAny_pure (wpAny_pure ⟨rfl,h₅⟩)) fun _ _ h'=>h')) fun _ _ h'=>h'))

section
variable {X:Cx}
def tLc (wi:TI) (g:TG) (tt:TT) (te:TE) (vs:List Nat):TE:=fun σ H Q=>wi σ H fun J H1=>∀ D,H1 D=none→∃ W:Nat→Nat→Hp→Prop,(∃ m,W 0 m (upd H1 D (.lst [])))∧∀ i m H,W i m H →
  (J.stop i H∧Q (.ref D) H)∨(J.go i H∧∃ Nx:Hp→Prop,(∀ H',Nx H'→∃ m',m'<m∧W (i+1) m' H')∧∀ x H',J.yld i H x H'→g x (wipe σ vs) H' fun σ2 H2=>wipe σ2 vs=wipe σ vs∧tt σ2 H2 fun b H3 =>
    if b=true then te σ2 H3 fun y H4=>∃ acc,H4 D=some (.lst acc)∧acc.length<sizeLine∧Nx (upd H4 D (.lst (acc++[y]))) else Nx H3)
theorem lc_core {pins:List (Addr×Obj)}{s:Shared}{σ:St}{H:Hp}{Q:VK}{elt tg iter:Expr}{ifs:List Expr}{scope:Scope}{own:List (Str×Nat)}{pos pos':Pos}{wi:TI}{g:TG}{tt:TT}{te:TE}{use:Option (Value→Sem Unit)}{Qf:Value→Shared→Prop}
    (hc:X.calm=true) (hN:X.N.Nodup) (I:Inv X pins σ H s) (hi:PI X tg iter wi) (ok:BlkOk X.N X.env.scope scope own)
    (hg:∀ (s:Shared) (H:Hp) (C:Addr) (cl:List (Str×Addr)) (fp:List Addr),PG (X.blk s H scope (compEnvC scope cl C X.env) fp) tg g) (ht:∀ (s:Shared) (H:Hp) (C:Addr) (cl:List (Str×Addr)) (fp:List Addr),PTs (X.blk s H scope (compEnvC scope cl C X.env) fp) ifs tt)
    (he:∀ (s:Shared) (H:Hp) (C:Addr) (cl:List (Str×Addr)) (fp:List Addr),PE (X.blk s H scope (compEnvC scope cl C X.env) fp) elt te) (hs:∀ x,foldedSetIterable iter X.env x=pure x)
    (h:tLc wi g tt te (own.map (·.2)) σ H Q)
    (hRR:∀ D C s' m H',Inv X pins σ H' s'→Q (.ref D) H'→s'.heap.Ns C m→FpOk X pins H' C→compPost (model X.prog X.w) X.A X.xe use Qf (.ref D) C (.ok .next) s') :
    wpAny (model X.prog X.w) X.A (comprehension (.ListComp elt [⟨tg,iter,ifs,0⟩] scope pos) scope X.env pos' (newList []) false (eval iter X.env) use) Qf X.xe s:=by
  have hfree:∀ y∈scope.names,y.2=.free→∃ c,X.env.cells.lookup y.1=some c:=fun y hy e=>by
    rcases ok.free y hy e with k | k
    · exact I.ok.has _ (.inl k)
    · exact I.ok.has _ (.inr k)
  refine wpAny_comprehension_free (use:=use) rfl hs (closure_ok hfree) ok.kind (fun y hy e=>by rw[ok.uniq y hy,e])
    (thn (hi pins s σ H _ I h) fun xv s1 hx=>thn hx fun itv s2 h2=>?_)
  obtain⟨it,fp,tn,J,H2,e,I2,T,st2,f2,q⟩:=h2
  subst e
  refine wpAny_newObj_type (newEnv_comp ?_) (by show 0≤sizeLine;decide)
  generalize hD:s2.heap.objs.size=D
  have hDn:H2 D=none:=I2.hok.fresh (Nat.le_of_eq hD)
  obtain⟨W,⟨m0,w0⟩,turn⟩:=q D hDn
  generalize hs3:({ s2 with heap:=s2.heap.push { cls:=.type "list",data:=.seq ([]:List Value).toArray } }:Shared)=s3
  have I3:Inv X pins σ (upd H2 D (.lst [])) s3:=by
    rw[←hs3]
    refine I2.laid (t':=s2.toks) (fun b o e=>Heap.get?_push_of_some _ e) (Nat.le_of_eq hD) ⟨Nat.zero_le _,[],0,.nil,?_⟩
    rw[←hD]
    exact Heap.get?_push_size _ rfl
  have h3:s3.heap=s2.heap.push { cls:=.type "list",data:=.seq ([]:List Value).toArray }:=by rw[←hs3]
  have sz:∀ b∈fp,b<s2.heap.objs.size:=fun b hb=>by
    obtain⟨o,e,_⟩:=T.obj _ _ st2 b hb
    exact Heap.lt_size e
  have f3:∀ b∈fp,FpOk X pins (upd H2 D (.lst [])) b∧b<s3.heap.objs.size:=fun b hb=>by
    have hlt:=sz b hb
    refine⟨⟨?_,(f2 b hb).2⟩,by rw[h3,Heap.size_push];exact Nat.lt_succ_of_lt hlt⟩
    rw[upd_ne (by rw[←hD];exact Nat.ne_of_lt hlt)]
    exact (f2 b hb).1
  have st3:tn 0 s3.heap:=T.keep _ _ _ st2 fun b _ o e=>by rw[h3];exact Heap.get?_push_of_some _ e
  have I4:=block_start I3 ok hN f3
  have pg:=hg s3 (upd H2 D (.lst [])) s3.heap.objs.size (cellsFrom (s3.heap.objs.size+1) scope.names (cloFrom X.env.cells scope.names [])) fp
  have pt:=ht s3 (upd H2 D (.lst [])) s3.heap.objs.size (cellsFrom (s3.heap.objs.size+1) scope.names (cloFrom X.env.cells scope.names [])) fp
  have pe:=he s3 (upd H2 D (.lst [])) s3.heap.objs.size (cellsFrom (s3.heap.objs.size+1) scope.names (cloFrom X.env.cells scope.names [])) fp
  show codeAny _ _ (.compStart (.ListComp elt [⟨tg,iter,ifs,0⟩] scope pos) 0 (.ref it) (.ref D) (compEnvC scope (cellsFrom (s3.heap.objs.size+1) scope.names (cloFrom X.env.cells scope.names [])) s3.heap.objs.size X.env)) (compPost (model X.prog X.w) X.A X.xe use Qf (.ref D) s3.heap.objs.size) { s3 with heap:=pushCells (s3.heap.push { cls:=.type "dict",data:=.dict #[] }) scope.names }
  have nfp:∀ b∈fp,(upd H2 D (.lst [])) b=none:=fun b hb=>(f3 b hb).1.1
  generalize hce:compEnvC scope (cellsFrom (s3.heap.objs.size+1) scope.names (cloFrom X.env.cells scope.names [])) s3.heap.objs.size X.env=ce at I4 pg pt pe ⊢
  have cL:ce.locals=s3.heap.objs.size:=by subst hce;rfl
  generalize hH3:upd H2 D (.lst [])=H3 at I3 I4 pg pt pe w0 nfp f3
  generalize hs4:({ s3 with heap:=pushCells (s3.heap.push { cls:=.type "dict",data:=.dict #[] }) scope.names }:Shared)=s4 at I4 ⊢
  have st4:tn 0 s4.heap:=T.keep _ _ _ st3 fun b _ o e=>by rw[←hs4];exact pushCells_keeps _ _ _ _ (Heap.get?_push_of_some _ e)
  have stat:∀ {σ':St}{H':Hp}{s':Shared},Inv (X.blk s3 H3 scope ce fp) [] σ' H' s'→(∀ b∈fp,H' b=none)→∀ b∈fp,FpOk (X.blk s3 H3 scope ce fp) [] H' b:=fun {σ' H' s'} I' hn b hb =>
    ⟨hn b hb,(I'.ok.exf b hb).1,I'.ok.exfs b hb,.inl hb,fun x c e=>(I'.ok.exf b hb).2 x c e,fun p hp=>absurd (show p∈([]:List (Addr×Obj))++[] from hp) (by simp)⟩
  have loop:codeAny (model X.prog X.w) X.A (.compLoop (.ListComp elt [⟨tg,iter,ifs,0⟩] scope pos) 0 (.ref it) (.ref D) ce) (compPost (model X.prog X.w) X.A X.xe use Qf (.ref D) s3.heap.objs.size) s4:=by
    refine compLoop_any (fun n s'=>∃ i H',Inv (X.blk s3 H3 scope ce fp) [] (wipe σ (own.map (·.2))) H' s'∧tn i s'.heap∧(∀ b∈fp,H' b=none)∧W i n H') ?_ m0 ⟨0,H3,I4,st4,nfp,w0⟩
    rintro n s5 ⟨i,H5,I5,st5,n5,w5⟩
    rcases turn i n H5 w5 with⟨stop,qq⟩ | ⟨go,Nx,hNx,step⟩
    · have td:=T.done (X.blk s3 H3 scope ce fp) rfl rfl rfl hc i [] s5 _ H5 (fun _ _=>False) I5 (stat I5 n5) st5 stop
      refine thnF td fun r s6 ⟨hr,I6⟩=>?_
      subst hr
      have I7:Inv X pins σ H5 s6:=I3.call' (ch:=fp) I6.os I6.base I6.hok I6.bare fun b hb=>⟨(f3 b hb).1.2.2.2.1,(f3 b hb).1.2.1,(f3 b hb).1.2.2.2.2.1,(f3 b hb).1.2.2.2.2.2⟩
      have nC:H5 s3.heap.objs.size=none:=by
        have z:H5 ce.locals=none:=I6.free
        rw[cL] at z
        exact z
      obtain⟨m,hn,_⟩:=I6.loc
      have hn:s6.heap.Ns ce.locals m:=hn
      rw[cL] at hn
      exact hRR D s3.heap.objs.size s6 m H5 I7 qq hn (I3.fpOk (Nat.le_refl _) nC)
    · have ti:=T.item (X.blk s3 H3 scope ce fp) rfl rfl rfl hc i [] s5 _ H5 (fun _ _=>False) I5 (stat I5 n5) st5 go
      refine thnF ti fun r s6 ⟨u,hr,h6⟩=>?_
      subst hr
      refine thnF h6 fun _ s7 ⟨x,H7,I7,r7,y7,st7,n7⟩=>?_
      have I7':=I7.pinned (stat I7 n7) (T.obj _ _ st7)
      refine thnF (pg _ s7 _ H7 x u _ I7' r7 (step x H7 y7)) fun _ s8 ⟨σ8,H8,I8,hw8,q8⟩=>?_
      refine thnF (pt _ s8 σ8 H8 _ I8 q8) fun b s9 ⟨H9,I9,q9⟩=>?_
      have fin:∀ {s':Shared}{H':Hp},Inv (X.blk s3 H3 scope ce fp) ([]++pinsAt fp s7.heap) σ8 H' s'→Nx H'→∃ m,m<n∧∃ i H',Inv (X.blk s3 H3 scope ce fp) [] (wipe σ (own.map (·.2))) H' s'∧tn i s'.heap∧(∀ b∈fp,H' b=none)∧W i m H':=fun {s' H'} I' nx=>by
        obtain⟨m',hm,w'⟩:=hNx H' nx
        have pin':∀ b∈fp,∀ o,s7.heap.get? b=some o→s'.heap.get? b=some o∧H' b=none:=fun b hb o e =>
          let z:=I'.pin (b,o) (List.mem_append_right _ (List.mem_append_right _ (mem_pinsAt hb e)))
          ⟨z.1,z.2.1⟩
        have hl:(wipe σ (own.map (·.2))).length=σ8.length:=by rw[←hw8,wipe_length]
        refine⟨m',hm,i+1,H',(I'.unpinned (pins:=[])).weak hl (fun j v e=>?_),T.keep _ _ _ st7 fun b hb o e=>(pin' b hb o e).1,fun b hb=>?_,w'⟩
        · rw[←hw8] at e
          exact (wipe_some e).1
        · obtain⟨o,e,_⟩:=T.obj _ _ st7 b hb
          exact (pin' b hb o e).2
      cases b with
      | false =>
        simp only[Bool.false_eq_true,if_false] at q9 ⊢
        exact fin I9 q9
      | true =>
        simp only[if_true] at q9 ⊢
        refine thnF (pe _ s9 σ8 H9 _ I9 q9) fun z s10 ⟨yv,H10,I10,r10,acc,hD10,hz10,nx⟩=>?_
        exact app_ok (X:=X.blk s3 H3 scope ce fp) I10 hD10 hz10 r10 fun s11 I11=>fin I11 nx
  exact codeAny_compStart_list loop (T.self X.A 0 _ _ _ st4 loop)
theorem pe_lc {elt tg iter:Expr}{ifs:List Expr}{scope:Scope}{own:List (Str×Nat)}{pos:Pos}{wi:TI}{g:TG}{tt:TT}{te:TE} (hc:X.calm=true) (hN:X.N.Nodup) (hi:PI X tg iter wi) (ok:BlkOk X.N X.env.scope scope own)
    (hg:∀ (s:Shared) (H:Hp) (C:Addr) (cl:List (Str×Addr)) (fp:List Addr),PG (X.blk s H scope (compEnvC scope cl C X.env) fp) tg g) (ht:∀ (s:Shared) (H:Hp) (C:Addr) (cl:List (Str×Addr)) (fp:List Addr),PTs (X.blk s H scope (compEnvC scope cl C X.env) fp) ifs tt)
    (he:∀ (s:Shared) (H:Hp) (C:Addr) (cl:List (Str×Addr)) (fp:List Addr),PE (X.blk s H scope (compEnvC scope cl C X.env) fp) elt te) (hs:∀ x,foldedSetIterable iter X.env x=pure x:=by intro _;rfl) :
    PE X (.ListComp elt [⟨tg,iter,ifs,0⟩] scope pos) (tLc wi g tt te (own.map (·.2))):=by
  intro pins s σ H Q I h
  rw[eval_ListComp]
  refine lc_core hc hN I hi ok hg ht he hs h fun D C s' m H' I' q hn f=>⟨m,hn,fun h'' sb=>?_⟩
  obtain⟨f0,f1,f2,f3,f4,f5⟩:=f
  exact⟨.ref D,H',I'.turned (t':=s'.toks) (fun b o hb e=>(sb.2 b hb).trans e) f0 f1 f3 f4 f5,rfl,q⟩
theorem ps_setLc {i:Nat}{y:Str}{py:Pos}{elt tg iter:Expr}{ifs:List Expr}{scope:Scope}{own:List (Str×Nat)}{pos spos:Pos}{wi:TI}{g:TG}{tt:TT}{te:TE} (hc:X.calm=true) (hN:X.N.Nodup) (hy:X.N[i]?=some y) (hyl:X.env.scope.names.lookup y=some .local)
    (hsw:swapsWith (.ListComp elt [⟨tg,iter,ifs,0⟩] scope pos) (some (.Name y py)) spos.line X.env=pure true) (hi:PI X tg iter wi) (ok:BlkOk X.N X.env.scope scope own)
    (hg:∀ (s:Shared) (H:Hp) (C:Addr) (cl:List (Str×Addr)) (fp:List Addr),PG (X.blk s H scope (compEnvC scope cl C X.env) fp) tg g) (ht:∀ (s:Shared) (H:Hp) (C:Addr) (cl:List (Str×Addr)) (fp:List Addr),PTs (X.blk s H scope (compEnvC scope cl C X.env) fp) ifs tt)
    (he:∀ (s:Shared) (H:Hp) (C:Addr) (cl:List (Str×Addr)) (fp:List Addr),PE (X.blk s H scope (compEnvC scope cl C X.env) fp) elt te) (hs:∀ x,foldedSetIterable iter X.env x=pure x:=by intro _;rfl) :
    PS X (.Assign [.Name y py] (.ListComp elt [⟨tg,iter,ifs,0⟩] scope pos) spos) (tAsg (tLc wi g tt te (own.map (·.2))) (gName i)):=by
  intro pins s σ H D I h
  rw[exec_Assign_Name_used _ _ _ _ hsw]
  refine wpAny_bind (wpAny_standAt (wpAny_bind ?_))
  show wpAny _ X.A (do let _ ←comprehension (.ListComp elt [⟨tg,iter,ifs,0⟩] scope pos) scope X.env (firstIterPos [⟨tg,iter,ifs,0⟩] pos) (newList []) false (eval iter X.env) (some (assign (.Name y py) X.env))) _ _ s
  have h:tLc wi g tt te (own.map (·.2)) σ H (fun x H1=>gName i x σ H1 D.nx):=h
  refine wpAny_bind (thn (lc_core (Qf:=fun _ s'=>SP X pins D .next s') hc hN I hi ok hg ht he hs h fun L C s' m H' I' q hn f=>?_) fun _ s' hq=>wpAny_pure (wpAny_pure hq))
  show wpAny _ _ (assign (.Name y py) X.env (.ref L)) _ _ _
  refine wpAny_assign_Name (store_ok2 (v:=V.ref L) I' hN hy (.inl hyl) rfl (fun s2 I2 ⟨a,sb,ha⟩=>?_) (.inr hyl))
  obtain⟨f0,f1,f2,f3,f4,f5⟩:=f
  have haC:C≠a:=by
    rcases ha with z | z
    · rw[z];exact f1
    · exact fun e=>f4 y a z e.symm
  refine⟨m,hn.sameBut sb haC,fun h3 sb3=>?_⟩
  exact⟨_,H',I2.turned (t':=s2.toks) (fun b o hb e=>(sb3.2 b hb).trans e) f0 f1 f3 f4 f5,q⟩
end

theorem lc_range {lo:Int}{n:Nat}{g:TG}{tt:TT}{te:TE}{vs:List Nat}{σ:St}{H1:Hp}{D:Addr}{Qd:Hp→Prop} (Pv:Nat→Hp→Prop) (h0:Pv 0 (upd H1 D (.lst [])))
    (hs:∀ i H,i<n→Pv i H→g (.int (lo+i)) (wipe σ vs) H fun σ2 H2=>wipe σ2 vs=wipe σ vs∧tt σ2 H2 fun b H3 =>
      if b=true then te σ2 H3 fun y H4=>∃ acc,H4 D=some (.lst acc)∧acc.length<sizeLine∧Pv (i+1) (upd H4 D (.lst (acc++[y]))) else Pv (i+1) H3) (hd:∀ H,Pv n H→Qd H) :
    ∃ W:Nat→Nat→Hp→Prop,(∃ m,W 0 m (upd H1 D (.lst [])))∧∀ i m H,W i m H →
      ((Itr lo n).stop i H∧Qd H)∨((Itr lo n).go i H∧∃ Nx:Hp→Prop,(∀ H',Nx H'→∃ m',m'<m∧W (i+1) m' H')∧∀ x H',(Itr lo n).yld i H x H'→g x (wipe σ vs) H' fun σ2 H2=>wipe σ2 vs=wipe σ vs∧tt σ2 H2 fun b H3 =>
        if b=true then te σ2 H3 fun y H4=>∃ acc,H4 D=some (.lst acc)∧acc.length<sizeLine∧Nx (upd H4 D (.lst (acc++[y]))) else Nx H3):=by
  refine⟨fun i m H=>m=n-i∧i≤n∧Pv i H,⟨n,by simp,Nat.zero_le _,h0⟩,?_⟩
  rintro i m H ⟨rfl,hi,p⟩
  by_cases hlt:i<n
  · refine .inr ⟨hlt,Pv (i+1),fun H' p'=>⟨n-(i+1),by lia,rfl,hlt,p'⟩,fun x H' y=>?_⟩
    obtain⟨e,y⟩:=y
    subst e y
    exact hs i _ hlt p
  · have e:i=n:=by lia
    subst e
    exact .inl ⟨Nat.le_refl _,hd H p⟩
theorem lc_list {K:PySem.W.Frag}{a:Addr}{xs:List V}{g:TG}{tt:TT}{te:TE}{vs:List Nat}{σ:St}{H1:Hp}{D:Addr}{Qd:Hp→Prop} (Pv:Nat→Hp→Prop) (h0:Pv 0 (upd H1 D (.lst []))) (hl:∀ i H,i≤xs.length→Pv i H→SqL K H a xs)
    (hs:∀ i x H,xs[i]?=some x→Pv i H→g x (wipe σ vs) H fun σ2 H2=>wipe σ2 vs=wipe σ vs∧tt σ2 H2 fun b H3 =>
      if b=true then te σ2 H3 fun y H4=>∃ acc,H4 D=some (.lst acc)∧acc.length<sizeLine∧Pv (i+1) (upd H4 D (.lst (acc++[y]))) else Pv (i+1) H3) (hd:∀ H,Pv xs.length H→Qd H) :
    ∃ W:Nat→Nat→Hp→Prop,(∃ m,W 0 m (upd H1 D (.lst [])))∧∀ i m H,W i m H →
      ((Itl K a).stop i H∧Qd H)∨((Itl K a).go i H∧∃ Nx:Hp→Prop,(∀ H',Nx H'→∃ m',m'<m∧W (i+1) m' H')∧∀ x H',(Itl K a).yld i H x H'→g x (wipe σ vs) H' fun σ2 H2=>wipe σ2 vs=wipe σ vs∧tt σ2 H2 fun b H3 =>
        if b=true then te σ2 H3 fun y H4=>∃ acc,H4 D=some (.lst acc)∧acc.length<sizeLine∧Nx (upd H4 D (.lst (acc++[y]))) else Nx H3):=by
  refine⟨fun i m H=>m=xs.length-i∧i≤xs.length∧Pv i H,⟨xs.length,by simp,Nat.zero_le _,h0⟩,?_⟩
  rintro i m H ⟨rfl,hi,p⟩
  have q:=hl i H hi p
  by_cases hlt:i<xs.length
  · refine .inr ⟨⟨xs,xs[i],q,by simp[hlt]⟩,Pv (i+1),fun H' p'=>⟨xs.length-(i+1),by lia,rfl,hlt,p'⟩,fun x H' y=>?_⟩
    obtain⟨e,y⟩:=y
    subst e
    exact hs i x _ (y xs q) p
  · have e:i=xs.length:=by lia
    subst e
    exact .inl ⟨⟨xs,q,Nat.le_refl _⟩,hd H p⟩
end L2

namespace L2
open PySem PySem.Spec PyProof.Rows


section
variable {prog:Program}{w:World}{A:Around}{R:Result→Shared→Prop}{s:Shared}{elt t0 i0 t1 i1:Expr}{ifs0 ifs1:List Expr}{scope:Scope}{pos:Pos}{it acc:Value}{env:Env}
end

section
variable {X:Cx}
end
end L2

namespace L2
open PySem PySem.Spec PyProof.Rows

section
variable {κ:Type} [DecidableEq κ]



end




section
variable {P:Program}{w:World}{H:Hp}{h:Heap}{a:Addr}
end



section
variable {X:Cx}{pins:List (Addr×Obj)}{σ:St}{H:Hp}{s:Shared}{a:Addr}{y v:V}{u r:Value}{o:Option V}{A:Around}{E:Value→Shared→Prop}


end

section
variable {X:Cx}{pins:List (Addr×Obj)}{σ:St}{H:Hp}{s:Shared}{a:Addr}{kvs:List (Key×V)}{k:Key}{u:Value}{A:Around}{E:Value→Shared→Prop}
end





section
variable {X:Cx}{o i e value:Expr}{pos pos' tpos:Pos}{td ty tv:TE}
end


section
variable {X:Cx}{pos:Pos}
end






section
variable {X:Cx}{pins:List (Addr×Obj)}{σ:St}{H:Hp}{s:Shared}{a:Addr}{y d:V}{u r:Value}{o:Option V}{A:Around}{E:Value→Shared→Prop}
end

section
variable {X:Cx}{o e f:Expr}{apos cpos:Pos}{td ty tx:TE}
end

section
variable {X:Cx}{pins:List (Addr×Obj)}{σ:St}{H:Hp}{s:Shared}{a:Addr}{kvs:List (Key×V)}{A:Around}{E:Value→Shared→Prop}
end


section
variable {X:Cx}{pins:List (Addr×Obj)}{σ:St}{H:Hp}{s:Shared}{a:Addr}{y:V}{u:Value}{A:Around}{E:Value→Shared→Prop}
end
end L2

namespace L2
open PySem PySem.Spec PyProof.Rows


section
variable {prog:Program}{w:World}{A:Around}{E:Value→Shared→Prop}


end

section
variable {X:Cx}
end
end L2

namespace L2
open PySem PySem.Spec PyProof.Rows

theorem boot_reversed5:bootBuiltins "reversed"=some (.type "reversed"):=by decide +kernel

section
variable {X:Cx}{pins:List (Addr×Obj)}{σ:St}{H:Hp}{s:Shared}{h':Heap}
theorem Inv.turnedL {t':Nat}{ch:List Addr} (I:Inv X pins σ H s) (k:∀ b o,b ∉ ch→s.heap.get? b=some o→h'.get? b=some o) (hf:∀ b∈ch,FpOk X pins H b):Inv X pins σ H { s with heap:=h',toks:=t' }:=by
  have nit:∀ b u,H b=some u→b ∉ ch:=fun b u e z=>by
    have q:=(hf b z).1
    rw[q] at e;cases e
  refine I.step (g':=s.gens) (d':=s.drawn) (ch:=ch) (fun b hb=>⟨(hf b hb).2.2.2.1,(hf b hb).2.1,(hf b hb).2.2.2.2.1,(hf b hb).2.2.2.2.2⟩) (fun b o _ _ hc e _=>k b o hc e) (fun b o _ _ hc e _=>⟨o.slots,k b o hc e⟩)
    (fun _ _ _ _ n=>n) (fun b o hc e=>⟨o,k b o hc e⟩) (fun _ _ e=>e) (fun _ _ _ e=>e) (fun b ps e=>⟨#[],by rw[e];simp⟩) (fun m hm=>?_) (fun b u e=>?_) I.bare
  · obtain⟨o,es,ep,ho,r⟩:=hm
    exact⟨o,es,ep,k _ o (fun z=>(hf _ z).2.1 rfl) ho,r⟩
  · refine (I.hok b u e).stay (fun c v hc q=>k c v ?_ q) (fun _ q=>q) fun _ _ q=>q
    rcases hc with z | z
    · rw[z];exact nit b u e
    · exact nit c _ z
theorem Inv.turnedNew {t':Nat}{ch:List Addr}{T:Addr}{ob:HO} (I:Inv X pins σ H s) (k:∀ b o,b ∉ ch→s.heap.get? b=some o→h'.get? b=some o) (hf:∀ b∈ch,FpOk X pins H b) (hT:s.heap.objs.size≤T)
    (new:ObjOk X.prog X.w (upd H T ob) h' T ob):Inv X pins σ (upd H T ob) { s with heap:=h',toks:=t' }:=by
  have hn:H T=none:=I.hok.fresh hT
  have nit:∀ b u,H b=some u→b ∉ ch:=fun b u e z=>by
    have q:=(hf b z).1
    rw[q] at e;cases e
  refine I.step (g':=s.gens) (d':=s.drawn) (ch:=ch) (fun b hb=>⟨(hf b hb).2.2.2.1,(hf b hb).2.1,(hf b hb).2.2.2.2.1,(hf b hb).2.2.2.2.2⟩) (fun b o _ _ hc e _=>k b o hc e) (fun b o _ _ hc e _=>⟨o.slots,k b o hc e⟩)
    (fun b o _ e n=>?_) (fun b o hc e=>⟨o,k b o hc e⟩) (fun b xs e=>?_) (fun b o u e=>?_) (fun b ps e=>⟨#[],?_⟩) (fun m hm=>?_) (fun b u e=>?_) I.bare
  · rw[upd_ne (Nat.ne_of_lt (Nat.lt_of_lt_of_le (Heap.lt_size e) hT))];exact n
  · rw[upd_ne (ne_of_none e hn)];exact e
  · rw[upd_ne (ne_of_none e hn)];exact e
  · rw[upd_ne (ne_of_none e hn),e];simp
  · obtain⟨o,es,ep,ho,r⟩:=hm
    exact⟨o,es,ep,k _ o (fun z=>(hf _ z).2.1 rfl) ho,r⟩
  · by_cases hb:b=T
    · subst hb
      rw[upd_same] at e
      cases e
      exact new
    · rw[upd_ne hb] at e
      refine (I.hok b u e).stay (fun c v hc q=>k c v ?_ q) (fun c q=>by rw[upd_ne (ne_of_none q hn)];exact q) fun c xs q=>by rw[upd_ne (ne_of_none q hn)];exact q
      rcases hc with z | z
      · rw[z];exact nit b u e
      · exact nit c _ z

end
section
variable {X:Cx}

theorem pi_one {tg:Expr}{pins:List (Addr×Obj)}{σ:St}{H:Hp}{s:Shared}{R:It→Hp→Prop}{J:It}{tn:Nat→Heap→Prop}{tk:Nat} (I:Inv X pins σ H s) (o:Obj)
    (T:Turn X.prog X.w X.K tg J [s.heap.objs.size] s.heap.objs.size tn) (st:tn 0 (s.heap.push o)) (q:R J H):PIE X pins σ tg R (.ref s.heap.objs.size) { s with heap:=s.heap.push o,toks:=tk }:=by
  refine⟨s.heap.objs.size,[s.heap.objs.size],tn,J,H,rfl,I.kept fun b ob e=>Heap.get?_push_of_some _ e,T,st,fun b hb=>?_,q⟩
  have e:b=s.heap.objs.size:=by simpa using hb
  subst e
  exact I.fpOk (Nat.le_refl _) (I.hok.fresh (Nat.le_refl _))
end

def Itc (lo c:Int) (n:Nat):It:=⟨fun i _=>i<n,fun i H x H'=>H'=H∧x=.int (lo+(i:Nat)*c),fun i _=>n≤i⟩
theorem turn_rangeC {P:Program}{w:World}{K:PySem.W.Frag}{tg:Expr} (it:Addr) (lo c:Int) (n:Nat):Turn P w K tg (Itc lo c n) [it] it (fun i h=>IsRangeIter h it (lo+(i:Nat)*c) ((n:Int)-(i:Nat)) c) where
  mem:=by simp
  obj:=fun i h st b hb=>by
    have e:b=it:=by simpa using hb
    subst e
    exact⟨_,st,fun v z=>nomatch z⟩
  keep:=fun i h h' st k=>k it (by simp) _ st
  item:=by
    intro X hP hw hK hc i pins s σ H E I hf st hg
    subst hP hw hK
    obtain⟨f0,f1,f2,f3,f4,f5⟩:=hf it (by simp)
    have W:=Walks.range (prog:=X.prog) (w:=X.w) (I.ok.hd hc) it lo c n
    refine W.item i s _ _ hg st fun v h' tk hv st' kk=>?_
    obtain⟨t,rfl⟩:=hv
    have I1:Inv X pins σ H { s with heap:=h',toks:=tk }:=I.turned (fun b o hb e=>kk b o (by simpa using hb) e) f0 f1 f3 f4 f5
    exact⟨_,rfl,go_of (s:={ s with heap:=h',toks:=tk }) (n:="range_iterator") st' rfl rfl (by decide) ⟨.int (lo+(i:Nat)*c),H,I1,⟨t,rfl⟩,⟨rfl,rfl⟩,st',fun b hb=>(hf b hb).1⟩⟩
  done:=by
    intro X hP hw hK hc i pins s σ H E I hf st hg
    subst hP hw hK
    obtain⟨f0,f1,f2,f3,f4,f5⟩:=hf it (by simp)
    exact wpAny_pyNext_range_end (I.ok.hd hc) st (by have:n≤i:=hg;lia) fun h' eb=>⟨rfl,I.turned (t':=s.toks) (fun b o hb e=>eb b o hb e) f0 f1 f3 f4 f5⟩
  self:=fun A i s Q E st h=>wpAny_pyIter_rangeiter st h
def RgC (i j c:Int) (n:Nat):Prop:=c≠0∧c.natAbs<1073741824∧Builtin.Range.small i j c=true∧Builtin.Range.rangeSize i j c=n
theorem RgC.neg {i j:Int} (ha:-(2^62)≤i) (ha':i<2^62) (hb:-(2^62)≤j) (hb':j<2^62):RgC i j (-1) (i-j).toNat :=
  ⟨by decide,by decide,PySem.W.small_down ha ha' hb hb',PySem.W.rangeSize_downNat i j⟩
def iRng3 (ta:TA):TI:=fun σ H R=>ta σ H fun vs H1=>∃ (i j c:Int) (n:Nat),vs=[.int i,.int j,.int c]∧RgC i j c n∧R (Itc i c n) H1
section
variable {X:Cx}{tg:Expr}
theorem pi_range3 {a b c:Expr}{ta:TA}{p pos:Pos} (hg:Gl X "range") (hm:X.mg "range"=none) (ha:PA X [a,b,c] ta)
    (hs:starEach [a,b,c] X.env=(false,eval a X.env)::starEach [b,c] X.env:=by rfl) (hpl:(backTo pos (starEach [b,c] X.env)).any (·.1)=false:=by rfl) :
    PI X tg (.Call (.Name "range" p) [a,b,c] [] pos) (iRng3 ta):=by
  intro pins s σ H R I h
  refine Call_ (ld_blt I hg hm boot_range (PyProof.Rows.callWith_type1 (thn (ha pos pins s σ H _ I h) fun us s1 ⟨vs,H1,I1,r1,q1⟩=>?_) hs hpl))
  obtain⟨i,j,k,n,e,⟨c0,c1,c2,c3⟩,q⟩:=q1
  subst e
  cases r1 with
  | cons r rr =>
    cases rr with
    | cons r' rr =>
      cases rr with
      | cons r'' rr =>
        cases rr
        obtain⟨t,rfl⟩:=r
        obtain⟨t',rfl⟩:=r'
        obtain⟨t'',rfl⟩:=r''
        refine call_range_3 c0 ?_ (.inl (PyProof.noPylong_small c1))
        refine wpAny_pyIter_range (IsRange.new ..) c2 ?_
        have I2:Inv X pins σ H1 { s1 with heap:=s1.heap.push { cls:=.type "range",data:=.fields #[.int i t,.int j t',.int k t''] } }:=I1.kept (t':=s1.toks) fun b o e=>Heap.get?_push_of_some _ e
        refine pi_one (tk:=s1.toks) I2 _ (turn_rangeC _ i k n) ?_ q
        have e1:i+((0:Nat):Int)*k=i:=by simp
        have e2:(n:Int)-((0:Nat):Int)=Builtin.Range.rangeSize i j k:=by rw[c3];simp
        show IsRangeIter _ _ (i+((0:Nat):Int)*k) ((n:Int)-((0:Nat):Int)) k
        rw[e1,e2]
        exact Heap.get?_push_size _ rfl
end
theorem for_rangeC {lo c:Int}{n:Nat}{g:TG}{tb:TS}{D:Ends}{σ:St}{H:Hp} (Pv:Nat→St→Hp→Prop) (h0:Pv 0 σ H)
    (hs:∀ i σ H,i<n→Pv i σ H→g (.int (lo+(i:Nat)*c)) σ H fun σ2 H2=>tb { D with nx:=Pv (i+1),ct:=Pv (i+1),bk:=D.nx } σ2 H2) (hd:∀ σ H,Pv n σ H→D.nx σ H) :
    ∃ W:Nat→Nat→St→Hp→Prop,(∃ m,W 0 m σ H)∧∀ i m σ H,W i m σ H →
      ((Itc lo c n).stop i H∧D.nx σ H)∨((Itc lo c n).go i H∧∃ N:St→Hp→Prop,(∀ σ' H',N σ' H'→∃ m',m'<m∧W (i+1) m' σ' H')∧∀ x H',(Itc lo c n).yld i H x H'→g x σ H' fun σ2 H2=>tb { D with nx:=N,ct:=N,bk:=D.nx } σ2 H2):=by
  refine⟨fun i m σ H=>m=n-i∧i≤n∧Pv i σ H,⟨n,by simp,Nat.zero_le _,h0⟩,?_⟩
  rintro i m σ H ⟨rfl,hi,p⟩
  by_cases hlt:i<n
  · refine .inr ⟨hlt,Pv (i+1),fun σ' H' p'=>⟨n-(i+1),by lia,rfl,hlt,p'⟩,fun x H' y=>?_⟩
    obtain⟨e,y⟩:=y
    subst e y
    exact hs i σ _ hlt p
  · have e:i=n:=by lia
    subst e
    exact .inl ⟨Nat.le_refl _,hd σ H p⟩

def Itv (K:PySem.W.Frag) (a:Addr) (n:Nat):It :=
  ⟨fun i H=>i<n∧∃ (xs:List V) (x:V),SqL K H a xs∧xs[n-1-i]?=some x,fun i H x H'=>H'=H∧∀ xs,SqL K H a xs→xs[n-1-i]?=some x,fun i _=>n≤i⟩
theorem turn_rev {P:Program}{w:World}{K:PySem.W.Frag}{tg:Expr} (a it:Addr) (n:Nat):Turn P w K tg (Itv K a n) [it] it (fun i h=>i≤n∧h.IsRevIter it a ((n:Int)-1-(i:Nat))) where
  mem:=by simp
  obj:=fun i h st b hb=>by
    have e:b=it:=by simpa using hb
    subst e
    obtain⟨_,o,e,c,d⟩:=st
    exact⟨o,e,fun v z=>by rw[d] at z;cases z⟩
  keep:=fun i h h' st k=>⟨st.1,st.2.at fun o e=>k it (by simp) o e⟩
  item:=by
    intro X hP hw hK hc i pins s σ H E I hf st hg
    subst hP hw hK
    obtain⟨hin,xs,x,hq,hx⟩:=hg
    obtain⟨its,rv,p,hz⟩:=I.list hq
    obtain⟨u,hu,ru⟩:=rv.get hx
    obtain⟨f0,f1,f2,f3,f4,f5⟩:=hf it (by simp)
    obtain⟨_,hit⟩:=st
    have e1:(n:Int)-1-((i:Nat):Int)=((n-1-i:Nat):Int):=by lia
    rw[e1] at hit
    refine wpAny_pyNext_rev_item hit p.isList (x:=u) (by simpa using hu) fun h' st' sb=>?_
    have e2:((n-1-i:Nat):Int)-1=(n:Int)-1-((i+1:Nat):Int):=by lia
    rw[e2] at st'
    have I1:Inv X pins σ H { s with heap:=h' }:=I.turned (t':=s.toks) (fun b o hb e=>(sb.2 b hb).trans e) f0 f1 f3 f4 f5
    obtain⟨o,e,c,d⟩:=id st'
    exact⟨u,rfl,go_of (s:={ s with heap:=h' }) e c d (by decide) ⟨x,H,I1,ru,⟨rfl,fun ys hy=>by rw[I.list_inj hy hq];exact hx⟩,⟨hin,st'⟩,fun b hb=>(hf b hb).1⟩⟩
  done:=by
    intro X hP hw hK hc i pins s σ H E I hf st hg
    subst hP hw hK
    obtain⟨f0,f1,f2,f3,f4,f5⟩:=hf it (by simp)
    obtain⟨hin,hit⟩:=st
    have hge:n≤i:=hg
    have e1:(n:Int)-1-((i:Nat):Int)=-1:=by lia
    rw[e1] at hit
    exact wpAny_pyNext_rev_end (I.ok.hd hc) hit fun h' eb=>⟨rfl,I.turned (t':=s.toks) (fun b o hb e=>eb b o hb e) f0 f1 f3 f4 f5⟩
  self:=fun A i s Q E st h=>wpAny_pyIter_revIter st.2 h
def iRev (K:PySem.W.Frag) (ta:TA):TI:=fun σ H R=>ta σ H fun vs H1=>∃ (a:Addr) (xs:List V),vs=[.ref a]∧SqL K H1 a xs∧R (Itv K a xs.length) H1
section
variable {X:Cx}{tg:Expr}
theorem pi_reversed {e:Expr}{ta:TA}{p pos:Pos} (hg:Gl X "reversed") (hm:X.mg "reversed"=none) (ha:PA X [e] ta) (hs:starEach [e] X.env=[(false,eval e X.env)]:=by rfl):PI X tg (.Call (.Name "reversed" p) [e] [] pos) (iRev X.K ta):=by
  intro pins s σ H R I h
  refine Call_ (ld_blt I hg hm boot_reversed5 (PyProof.Rows.callWith_type1 (thn (ha pos pins s σ H _ I h) fun us s1 ⟨vs,H1,I1,r1,q1⟩=>?_) hs rfl))
  obtain⟨a,xs,e,hq,q⟩:=q1
  subst e
  cases r1 with
  | cons r rr =>
    cases rr
    cases r
    obtain⟨its,rv,p',hz⟩:=I1.list hq
    have hl:=rv.length
    have e1:((its.toArray.size:Nat):Int)-1=(xs.length:Int)-1-((0:Nat):Int):=by simp only[List.size_toArray];lia
    refine call_reversed_list p'.isList (wpAny_pyIter_revIter (l:=a) (i:=((its.toArray.size:Nat):Int)-1) ⟨_,Heap.get?_push_size _ rfl,rfl,rfl⟩ ?_)
    refine pi_one (tk:=s1.toks) I1 _ (turn_rev a _ xs.length) ⟨Nat.zero_le _,?_⟩ q
    rw[←e1]
    exact⟨_,Heap.get?_push_size _ rfl,rfl,rfl⟩
end


section
variable {prog:Program}{w:World}{A:Around}{E:Value→Shared→Prop}{s:Shared}
end

section
variable {X:Cx}{pins:List (Addr×Obj)}{σ:St}{H:Hp}{s:Shared}{d:Addr}{o:Obj}
end

section
variable {P:Program}{w:World}{K:PySem.W.Frag}{tg:Expr}{d:Addr}{o:Obj}{es:Array DictEntry}{ep:Nat}
end

section
variable {X:Cx}{tg e:Expr}{td:TE}{apos cpos:Pos}
end

theorem boot_zip5:bootBuiltins "zip"=some (.type "zip"):=by decide +kernel
def Itz (K:PySem.W.Frag) (a b:Addr):It :=
  ⟨fun i H=>∃ (xs ys:List V) (x y:V),SqL K H a xs∧SqL K H b ys∧xs[i]?=some x∧ys[i]?=some y,
    fun i H v H'=>∃ T x y,v=.ref T∧H T=none∧H'=upd H T (.tup [x,y])∧(∀ xs,SqL K H a xs→xs[i]?=some x)∧∀ ys,SqL K H b ys→ys[i]?=some y,
    fun i H=>∃ xs ys:List V,SqL K H a xs∧SqL K H b ys∧(xs.length≤i∨ys.length≤i)⟩
theorem turn_zip {P:Program}{w:World}{K:PySem.W.Frag}{elts:List Expr}{kk:Nat}{tpos:Pos}{a b z TI TO i1 i2:Addr} (D:ZipApart z TI TO i1 i2 a b) :
    Turn P w K (.Tuple elts kk tpos) (Itz K a b) [z,TI,TO,i1,i2] z (fun i h=>IsZip h z TI TO .none∧IsPair h TI (.ref i1) (.ref i2)∧(∃ x y,IsPair h TO x y)∧h.IsListIter i1 a i∧h.IsListIter i2 b i) where
  mem:=by simp
  obj:=fun i h st c hc=>by
    obtain⟨hz,hTI,⟨x,y,hTO⟩,⟨o1,e1,_,d1⟩,⟨o2,e2,_,d2⟩⟩:=st
    have e':c=z∨c=TI∨c=TO∨c=i1∨c=i2:=by simpa using hc
    rcases e' with q | q | q | q | q
    · rw[q];exact⟨_,hz,fun v q=>nomatch q⟩
    · rw[q];exact⟨_,hTI,fun v q=>nomatch q⟩
    · rw[q];exact⟨_,hTO,fun v q=>nomatch q⟩
    · rw[q];exact⟨o1,e1,fun v q=>by rw[d1] at q;cases q⟩
    · rw[q];exact⟨o2,e2,fun v q=>by rw[d2] at q;cases q⟩
  keep:=fun i h h' st k=>by
    obtain⟨hz,hTI,⟨x,y,hTO⟩,h1,h2⟩:=st
    exact⟨k z (by simp) _ hz,k TI (by simp) _ hTI,⟨x,y,k TO (by simp) _ hTO⟩,h1.at fun o q=>k i1 (by simp) o q,h2.at fun o q=>k i2 (by simp) o q⟩
  item:=by
    intro X hP hw hK hc i pins s σ H E I hf st hg
    subst hP hw hK
    obtain⟨hz,hTI,⟨x0,y0,hTO⟩,h1,h2⟩:=st
    obtain⟨xs,ys,x,y,hqx,hqy,hx,hy⟩:=hg
    obtain⟨its,rv,p,_⟩:=I.list hqx
    obtain⟨its2,rv2,p2,_⟩:=I.list hqy
    obtain⟨u,hu,ru⟩:=rv.get hx
    obtain⟨u2,hu2,ru2⟩:=rv2.get hy
    have hzl:z<s.heap.objs.size:=Heap.lt_size hz
    refine wpAny_pyNext_zip_item D hz hTI hTO h1 h2 p.isList p2.isList (x:=u) (y:=u2) (by simpa using hu) (by simpa using hu2) fun h' z' TO' h1' h2' hT hsz hk=>?_
    refine⟨_,rfl,wpAny_letOwnedTupleGo_zip (s:={ s with heap:=h' }) z' fun h'' z'' sb=>?_⟩
    have hT2:h''.get? s.heap.objs.size=some { cls:=.type "tuple",data:=.seq #[u,u2] }:=(sb.2 _ (Nat.ne_of_gt hzl)).trans hT
    have new:ObjOk X.prog X.w (upd H s.heap.objs.size (.tup [x,y])) h'' s.heap.objs.size (.tup [x,y]) :=
      ⟨by show 2≤sizeLine;decide,[u,u2],.cons ru (.cons ru2 .nil),⟨_,hT2,rfl,_,rfl⟩⟩
    have I1:Inv X pins σ (upd H s.heap.objs.size (.tup [x,y])) { s with heap:=h'' } :=
      I.turnedNew (t':=s.toks) (ch:=[z,TI,TO,i1,i2]) (fun c o hb q=>(sb.2 c (fun q'=>hb (by simp[q']))).trans (hk c o (fun q'=>hb (by simp[q'])) (fun q'=>hb (by simp[q'])) (fun q'=>hb (by simp[q'])) (fun q'=>hb (by simp[q'])) q)) hf (Nat.le_refl _) new
    refine⟨.ref s.heap.objs.size,_,I1,rfl,⟨_,x,y,rfl,I.hok.fresh (Nat.le_refl _),rfl,fun l hl=>by rw[I.list_inj hl hqx];exact hx,fun l hl=>by rw[I.list_inj hl hqy];exact hy⟩,⟨z'',?_,⟨u,u2,?_⟩,?_,?_⟩,fun c hcm=>?_⟩
    · exact (sb.2 _ D.TIz).trans (hk _ _ D.TIz D.TITO D.TIi1 D.TIi2 hTI)
    · exact (sb.2 _ D.TOz).trans TO'
    · exact h1'.at fun o q=>(sb.2 _ D.i1z).trans q
    · exact h2'.at fun o q=>(sb.2 _ D.i2z).trans q
    · have hlt:c<s.heap.objs.size:=by
        have e':c=z∨c=TI∨c=TO∨c=i1∨c=i2:=by simpa using hcm
        rcases e' with q | q | q | q | q
        · rw[q];exact hzl
        · rw[q];exact Heap.lt_size hTI
        · rw[q];exact Heap.lt_size hTO
        · rw[q];obtain⟨_,e1,_⟩:=h1;exact Heap.lt_size e1
        · rw[q];obtain⟨_,e2,_⟩:=h2;exact Heap.lt_size e2
      rw[upd_ne (Nat.ne_of_lt hlt)]
      exact (hf c hcm).1
  done:=by
    intro X hP hw hK hc i pins s σ H E I hf st hg
    subst hP hw hK
    obtain⟨hz,hTI,⟨x0,y0,hTO⟩,h1,h2⟩:=st
    obtain⟨xs,ys,hqx,hqy,hend⟩:=hg
    obtain⟨its,rv,p,_⟩:=I.list hqx
    obtain⟨its2,rv2,p2,_⟩:=I.list hqy
    have l1:=rv.length
    have l2:=rv2.length
    have he:its.toArray[i]?=none∨its2.toArray[i]?=none:=by
      rcases hend with q | q
      · exact .inl (by simp;lia)
      · exact .inr (by simp;lia)
    exact wpAny_pyNext_zip_end (I.ok.hd hc) D hz hTI hTO h1 h2 p.isList p2.isList he fun h' hk=>⟨rfl,I.turnedL (t':=s.toks) (ch:=[z,TI,TO,i1,i2]) (fun c o hb q =>
      hk c o (fun q'=>hb (by simp[q'])) (fun q'=>hb (by simp[q'])) (fun q'=>hb (by simp[q'])) (fun q'=>hb (by simp[q'])) q) hf⟩
  self:=fun A i s Q E st h=>wpAny_pyIter_zip st.1 h
def iZip (K:PySem.W.Frag) (ta:TA):TI:=fun σ H R=>ta σ H fun vs H1=>∃ a b xs ys,vs=[.ref a,.ref b]∧SqL K H1 a xs∧SqL K H1 b ys∧R (Itz K a b) H1
theorem pi_zip {X:Cx}{e e2:Expr}{ta:TA}{p pos tpos:Pos}{elts:List Expr}{kk:Nat} (hg:Gl X "zip") (hm:X.mg "zip"=none) (ha:PA X [e,e2] ta)
    (hs:starEach [e,e2] X.env=(false,eval e X.env)::starEach [e2] X.env:=by rfl) (hpl:(backTo pos (starEach [e2] X.env)).any (·.1)=false:=by rfl) :
    PI X (.Tuple elts kk tpos) (.Call (.Name "zip" p) [e,e2] [] pos) (iZip X.K ta):=by
  intro pins s σ H R I h
  refine Call_ (ld_blt I hg hm boot_zip5 (PyProof.Rows.callWith_type1 (thn (ha pos pins s σ H _ I h) fun us s1 ⟨vs,H1,I1,r1,q1⟩=>?_) hs hpl))
  obtain⟨a,b,xs,ys,ex,hqx,hqy,q⟩:=q1
  subst ex
  cases r1 with
  | cons r rr =>
    cases rr with
    | cons r' rr =>
      cases rr
      cases r
      cases r'
      obtain⟨its,rv,p1,_⟩:=I1.list hqx
      obtain⟨its2,rv2,p2,_⟩:=I1.list hqy
      have la:a<s1.heap.objs.size:=p1.lt
      have lb:b<s1.heap.objs.size:=p2.lt
      refine call_zip_2 p1.isList p2.isList fun h' hz hTI hTO h1 h2 hsz hk=>wpAny_pyIter_zip hz ?_
      have I2:Inv X pins σ H1 { s1 with heap:=h' }:=I1.kept (t':=s1.toks) hk
      refine⟨s1.heap.objs.size+4,[s1.heap.objs.size+4,s1.heap.objs.size+2,s1.heap.objs.size+3,s1.heap.objs.size,s1.heap.objs.size+1],_,_,H1,rfl,I2,turn_zip (PySem.W.ktu_apart s1.heap.objs.size a b la lb),⟨hz,hTI,⟨_,_,hTO⟩,h1,h2⟩,fun c hcm=>?_,q⟩
      have e':c=s1.heap.objs.size+4∨c=s1.heap.objs.size+2∨c=s1.heap.objs.size+3∨c=s1.heap.objs.size∨c=s1.heap.objs.size+1:=by simpa using hcm
      have hle:s1.heap.objs.size≤c:=by
        rcases e' with z | z | z | z | z
        · rw[z];exact Nat.le_add_right _ _
        · rw[z];exact Nat.le_add_right _ _
        · rw[z];exact Nat.le_add_right _ _
        · rw[z];exact Nat.le_refl _
        · rw[z];exact Nat.le_add_right _ _
      exact I1.fpOk hle (I1.hok.fresh hle)
end L2

section 
namespace Bits
open PySem PyProof.Rows








end Bits
end 

section 
namespace TL
open PySem PySem.Builtin PySem.Builtin.Str PySem.StrLaws













end TL
end 

namespace L2
open PySem PySem.Spec PyProof.Rows




section
variable {X:Cx}{pins:List (Addr×Obj)}{σ:St}{H:Hp}{s:Shared}{Q:VK}
end

section
variable {X:Cx}







end

section
variable {X:Cx}{o e:Expr}{to te:TE}

end
end L2

namespace L2
open PySem PySem.Spec PyProof.Rows

section
variable {X:Cx}
end



end L2

namespace Att
open PySem PySem.W PySem.Calls PyProof.Rows







section
variable {prog:Program}{w:World}{A:Around}{E:Value→Shared→Prop}{s:Shared}{K:Frag}






end
end Att

namespace L2
open PySem PySem.Spec PyProof.Rows

theorem vals_ints:∀ {vs:List Value}{ns:List Int},IntsAre vs ns→Vals (ns.map V.int) vs
  | _,_,.nil=>.nil
  | _,_,.cons n t h=>.cons ⟨t,rfl⟩ (vals_ints h)


end L2

namespace L2
open PySem PySem.Spec PyProof.Rows


end L2

/- THE LAST THEOREM (shape;LID,My.* are yours):
   My.Adr: a structure of the addresses that your layer names (classes,functions);My.Txt K t: a structure (Prop) of the equations over K;
   My.txt_mk:{K}{implicit addresses ..} (e1:nsIn K mainGlobals "law"=some (some (.ref f))) (e2:K.lookup f=some ⟨oc,od,.func (fnOf "law" "law" params body scope dV kV doc pm an cdv ct),sl⟩) (e3:codeIn K cdv "law"=true) ..:∃ t,My.Txt K t

set_option maxRecDepth 100000 in
set_option maxHeartbeats 0 in
theorem PySem.Challenge.cw_LID_holds : PySem.Challenge.rw_LID.Holds := by
  w_on;o_law;k_head;(case hw=>w_witness2)
  k_fill
  refine L2.walk_of (l:=PySem.Challenge.rw_LID) (n:=63) (k:=40) (x:="script") (CX:=fun w=>..) (sp:=fun _=>My.sp_law) rfl (by decide) rfl ⟨rfl,by decide,by decide⟩ (fun w h Y=>PySem.W.kIn_of Y) ?F ?S ?C
  case F =>
    intro w mg fa h KX G hmg
    have T:∃ t,My.Txt (L2.KOf KX) t:=by
      dsimp only [L2.KOf]                          -- K must stand as «<heap const> w.params» for k_is
      refine' My.txt_mk ?e1 ?e2 ?e3 ..
      (case e1=>PySem.W.k_is)                    -- in the order: a name -> its address -> its object -> its parts
      (case e2=>PySem.W.k_is)
      ..
    obtain⟨t,T⟩:=T
    have e0:=hmg.symm.trans (PySem.W.mg_of KX G T.law)
    cases e0                                       -- fa is the law's own address
    exact⟨_,fun s u=>.of_eq rfl,fun base kb nb=>My.law_fn T kb nb⟩     -- if «.of_eq rfl» comes too early: refine' ⟨_,?b,fun base kb nb=>My.law_fn T kb nb⟩;exact fun s u=>.of_eq rfl
  case S=>exact fun w H a ns hl hO hS=>..
  case C=>exact ..
(the tactic k_is has no namespace: write k_is) -/

namespace L2
open PySem PySem.Spec PyProof.Rows

def defArgs (s:Stmt):Arguments:=match s with
  | .FunctionDef _ a _ _ _ _ _ _ _ _=>a
  | _=>{ posonlyargs:=[],args:=[],vararg:=none,kwonlyargs:=[],kw_defaults:=[],kwarg:=none,defaults:=[] }
def defBody (s:Stmt):List Stmt:=match s with
  | .FunctionDef _ _ b _ _ _ _ _ _ _=>b
  | _=>[]
def defScope (s:Stmt):Scope:=match s with
  | .FunctionDef _ _ _ _ _ _ sc _ _ _=>sc
  | _=>{ kind:=.function,names:=[],isGenerator:=false,isCoroutine:=false }

abbrev CX0:CXT:=fun _ _ _ _ _ _=>False
abbrev E0:XK:=fun _ _ _=>False
theorem pass0 {X:Cx}:Passes CX0 X E0:=fun _ _ _ _ _ _ _ h=>h.elim

structure Fun (K:PySem.W.Frag) (x qual:Str) (st:Stmt) (f:Addr) (fd:FuncData):Prop where
  ex:∃ (oc:Value) (od:Option Addr) (kV doc pm:Value) (an:Option Addr) (cdv ct:Value) (osl:Array (Option Value)),
    fd=PySem.W.fnOf x qual (defArgs st) (defBody st) (defScope st) .none kV doc pm an cdv ct∧K.lookup f=some ⟨oc,od,.func fd,osl⟩∧PySem.W.codeIn K cdv qual=true
  kp:PySem.W.keepIn K (.ref f)=true
section
variable {P:Program}{w:World}{K:PySem.W.Frag}{mg:Str→Option Value}{base:Heap}
theorem Fun.ok {x qual:Str}{st:Stmt}{f:Addr}{fd:FuncData}{N ps:List Str}{k:Nat}{sp:Sp} (F:Fun K x qual st f fd) (S:FnScope N ps (defScope st)) (len:∀ vs H Q E,sp vs H Q E→vs.length=ps.length)
    (hbody:∀ (cdv:Value) (A:Around) (outer:List Env) (s:Shared) (H:Hp) (vs:List V) (Q:VK) (E:XK),Room k (A.deeper (envOfC qual (defScope st) s.heap.objs.size f cdv))→sp vs H Q E →
      ∃ t,PSs (cxOf CX0 P w K mg base N qual (defScope st) f cdv A outer s H E).nox (defBody st) t∧t { nx:=fun _ H'=>Q .non H',rt:=Q } (start N vs) H):FnOk P w K mg base CX0 (k+1) f fd ps sp:=by
  obtain⟨oc,od,kV,doc,pm,an,cdv,ct,osl,rfl,lk,hcd⟩:=F.ex
  refine fn_of lk hcd S len fun A outer s H vs Q E hr hsp=>?_
  obtain⟨t,h,q⟩:=hbody cdv A outer s H vs Q E hr hsp
  exact⟨t,h.nox,q⟩
theorem Fun.binds {x qual:Str}{st:Stmt}{f:Addr}{fd:FuncData}{ps:List Str} (F:Fun K x qual st f fd)
    (h:∀ (kV doc pm:Value) (an:Option Addr) (cdv ct:Value) (us:List Value),us.length=ps.length→bindArgs (PySem.W.fnOf x qual (defArgs st) (defBody st) (defScope st) .none kV doc pm an cdv ct) ⟨us,[]⟩=pure (ps.zip us)):Binds K fd ps []:=by
  obtain⟨oc,od,kV,doc,pm,an,cdv,ct,osl,rfl,lk,hcd⟩:=F.ex
  exact .all (h kV doc pm an cdv ct)
theorem fun_mk {x qual:Str}{st:Stmt}{f:Addr}{oc:Value}{od an:Option Addr}{osl:Array (Option Value)}{kV doc pm cdv ct:Value} (l:K.lookup f=some ⟨oc,od,.func (PySem.W.fnOf x qual (defArgs st) (defBody st) (defScope st) .none kV doc pm an cdv ct),osl⟩)
    (c:PySem.W.codeIn K cdv qual=true) (k:PySem.W.keepIn K (.ref f)=true):Fun K x qual st f (PySem.W.fnOf x qual (defArgs st) (defBody st) (defScope st) .none kV doc pm an cdv ct):=⟨⟨oc,od,kV,doc,pm,an,cdv,ct,osl,rfl,l,c⟩,k⟩
end
theorem small1000 {n:Nat} (h:n≤1000):n<sizeLine:=Nat.lt_of_le_of_lt h (by decide)

section
variable {X:Cx}
theorem pv (i:Nat) {x:Str}{pos:Pos} (hN:X.N[i]?=some x:=by rfl) (hv:Vis X.env.scope x:=by first | exact Or.inl rfl | exact Or.inr (Or.inl rfl) | exact Or.inr (Or.inr rfl)) (hd:(x == ("__debug__":Str))=false:=by decide)
    (hcd:(x == ("__classdict__":Str))=false:=by decide):PE X (.Name x pos) (tVar i):=pe_var hN hv hd hcd
end

theorem iteF {A B:Prop} (h:B):if false=true then A else B:=by
  rw[if_neg Bool.false_ne_true]
  exact h
theorem iteT {A B:Prop} (h:A):if true=true then A else B:=by
  rw[if_pos rfl]
  exact h
theorem ite2 {c A B:Prop} [Decidable c] (h1:c→A) (h2:¬ c→B):if c then A else B:=by
  by_cases h:c
  · rw[if_pos h]
    exact h1 h
  · rw[if_neg h]
    exact h2 h

def Same (H H':Hp):Prop:=∀ b o,H b=some o→H' b=some o
theorem Same.refl (H:Hp):Same H H:=fun _ _ h=>h
theorem Same.trans {H H1 H2:Hp} (a:Same H H1) (b:Same H1 H2):Same H H2:=fun c o h=>b c o (a c o h)
theorem Same.free {H H':Hp} (e:Same H H') {l:Addr} (h:H' l=Option.none):H l=Option.none:=by
  cases q:H l with
  | none=>rfl
  | some o =>
    rw[e l o q] at h
    cases h
theorem Same.seq {K:PySem.W.Frag}{H H':Hp}{a:Addr}{xs:List V} (e:Same H H') (h:SqL K H a xs):SqL K H' a xs:=by
  rcases h with (h | ⟨o,h⟩) | h
  · exact .inl (.inl (e _ _ h))
  · exact .inl (.inr ⟨o,e _ _ h⟩)
  · exact .inr h

section
variable {κ:Type} [DecidableEq κ]
end
end L2


section
set_option Elab.async false
set_option linter.all false
set_option maxRecDepth 100000
set_option maxHeartbeats 2000000
namespace L2
open PySem PySem.Spec PyProof.Rows
open PySem.W (WData Codec OpenSpec Well WellAll ReadsW ReadsAllW)
mutual
inductive Dw (K:PySem.W.Frag) (H:Hp):V→WData→Prop
  | non:Dw K H .non .none
  | bl (b:Bool):Dw K H (.bl b) (.bool b)
  | int (i:Int):Dw K H (.int i) (.int i)
  | str (x:Str):Dw K H (.str x) (.str x)
  | byt (b:Array UInt8):Dw K H (.byt b) (.bytes b.toList)
  | lst {a:Addr}{xs:List V}{ds:List WData}:SqL K H a xs→DwAll K H xs ds→Dw K H (.ref a) (.list ds)
  | tup {a:Addr}{xs:List V}{ds:List WData}:SqT K H a xs→DwAll K H xs ds→Dw K H (.ref a) (.tuple ds)
inductive DwAll (K:PySem.W.Frag) (H:Hp):List V→List WData→Prop
  | nil:DwAll K H [] []
  | cons {v:V}{vs:List V}{d:WData}{ds:List WData}:Dw K H v d→DwAll K H vs ds→DwAll K H (v::vs) (d::ds)
end
theorem dw_ints {K:PySem.W.Frag}{H:Hp}:∀ ns:List Int,DwAll K H (ns.map V.int) (ns.map WData.int)
  | []=>.nil
  | n::r=>.cons (.int n) (dw_ints r)
theorem ints_dw {K:PySem.W.Frag}{H:Hp}:∀ (ns:List Int) (xs:List V),DwAll K H xs (ns.map WData.int)→xs=ns.map V.int
  | [],xs,h=>by
    cases h
    rfl
  | n::r,xs,h=>by
    cases h with
    | cons h1 h2 =>
      cases h1
      rw[ints_dw r _ h2] <;> rfl
section
variable {P:Program}{w:World}{K:PySem.W.Frag}{H:Hp}{h:Heap}{R:PySem.W.WRecords}{cl:Str→Option Addr}
theorem sqL_at {a:Addr}{xs:List V} (hok:HOk P w H h) (KX:K.In h) (q:SqL K H a xs):∃ (its:List Value) (o:Obj) (n:Nat),Vals xs its∧h.get? a=some o∧o.cls=.type "list"∧o.data=.seq its.toArray n:=by
  rcases q with q | ⟨o,its,n,e,hc,_,hd,_,hv⟩
  · obtain⟨_,its,n,hv,e⟩:=(show ObjOk P w H h a (.lst xs) from q.ok hok)
    exact⟨its,_,n,hv,e,rfl,rfl⟩
  · exact⟨its.toList,o,n,hv,KX _ _ e,hc,by simp[hd]⟩
theorem sqT_at {a:Addr}{xs:List V} (hok:HOk P w H h) (KX:K.In h) (q:SqT K H a xs):∃ (its:List Value) (o:Obj) (n:Nat),Vals xs its∧h.get? a=some o∧o.cls=.type "tuple"∧o.data=.seq its.toArray n:=by
  rcases q with q | ⟨o,its,n,e,hc,hd,_,hv⟩
  · obtain⟨_,its,hv,o,e,hc,n,hd⟩:=(show ObjOk P w H h a (.tup xs) from q.ok hok)
    exact⟨its,o,n,hv,e,hc,hd⟩
  · exact⟨its.toList,o,n,hv,KX _ _ e,hc,by simp[hd]⟩
mutual
theorem Dw.reads (hok:HOk P w H h) (KX:K.In h):∀ (d:WData) (v:V) (u:Value),Dw K H v d→RelV v u→∃ as,ReadsW R cl h u d as
  | .none,_,_,x,r=>by
    cases x
    cases r
    exact⟨_,ReadsW.none⟩
  | .bool b,_,_,x,r=>by
    cases x
    cases r
    exact⟨_,ReadsW.bool b⟩
  | .int i,_,_,x,r=>by
    cases x
    obtain⟨t,rfl⟩:=r
    exact⟨_,ReadsW.int i t⟩
  | .str s,_,_,x,r=>by
    cases x
    obtain⟨t,rfl⟩:=r
    exact⟨_,ReadsW.str s t⟩
  | .bytes b,_,_,x,r=>by
    cases x
    obtain⟨t,rfl⟩:=r
    exact⟨_,ReadsW.bytes _ t⟩
  | .list ds,_,_,x,r=>by
    cases x with
    | lst hs ha =>
      cases r
      obtain⟨its,o,n,rv,ho,hc,hd⟩:=sqL_at hok KX hs
      obtain⟨as,hr⟩:=Dw.readsAll hok KX ds _ its ha rv
      exact⟨_,ReadsW.list ho hc hd hr⟩
  | .tuple ds,_,_,x,r=>by
    cases x with
    | tup hs ha =>
      cases r
      obtain⟨its,o,n,rv,ho,hc,hd⟩:=sqT_at hok KX hs
      obtain⟨as,hr⟩:=Dw.readsAll hok KX ds _ its ha rv
      exact⟨_,ReadsW.tuple ho hc hd hr⟩
  | .float _,_,_,x,_=>by cases x
  | .dict _,_,_,x,_=>by cases x
  | .bytearray _,_,_,x,_=>by cases x
  | .set _,_,_,x,_=>by cases x
  | .frozenset _,_,_,x,_=>by cases x
  | .obj _ _,_,_,x,_=>by cases x
theorem Dw.readsAll (hok:HOk P w H h) (KX:K.In h):∀ (ds:List WData) (vs:List V) (us:List Value),DwAll K H vs ds→Vals vs us→∃ as,ReadsAllW R cl h us ds as
  | [],_,_,x,r=>by
    cases x
    cases r
    exact⟨_,ReadsAllW.nil⟩
  | d::ds,_,_,x,r=>by
    cases x with
    | cons h1 h2 =>
      cases r with
      | cons r1 r2 =>
        obtain⟨as,q1⟩:=Dw.reads hok KX d _ _ h1 r1
        obtain⟨bs,q2⟩:=Dw.readsAll hok KX ds _ _ h2 r2
        exact⟨_,ReadsAllW.cons q1 q2⟩
end
end
mutual
def plW:WData→Bool
  | .none=>true
  | .bool _=>true
  | .int _=>true
  | .str _=>true
  | .bytes _=>true
  | .list xs=>plWs xs
  | .tuple xs=>plWs xs
  | _=>false
def plWs:List WData→Bool
  | []=>true
  | x::r=>plW x && plWs r
end
theorem plWs_map {α:Type}{f:α→WData} (h:∀ a,plW (f a)=true):∀ l:List α,plWs (l.map f)=true
  | []=>rfl
  | x::r=>by
    show (plW (f x) && plWs (r.map f))=true
    rw[h x,plWs_map h r] <;> rfl
theorem pl_enc:∀ (c:Codec) (a:c.denote),plW (c.enc a)=true
  | .unit,_=>rfl
  | .bool,_=>rfl
  | .int _ _,_=>rfl
  | .nat _ _,_=>rfl
  | .u8,_=>rfl
  | .bytes _ _,_=>rfl
  | .text _ _ _ _,_=>rfl
  | .list _ _ c,a=>plWs_map (fun x=>pl_enc c x) a
  | .pair c d,a=>by
    show (plW (c.enc a.1) && (plW (d.enc a.2) && true))=true
    rw[pl_enc c a.1,pl_enc d a.2] <;> rfl
  | .triple c d e,a=>by
    show (plW (c.enc a.1) && (plW (d.enc a.2.1) && (plW (e.enc a.2.2) && true)))=true
    rw[pl_enc c a.1,pl_enc d a.2.1,pl_enc e a.2.2] <;> rfl
  | .option c,none=>rfl
  | .option c,some x=>pl_enc c x
theorem pl_encAll:∀ (cs:List Codec) (a:Codec.denoteAll cs),plWs (Codec.encAll cs a)=true
  | [],_=>rfl
  | c::cs,a=>by
    show (plW (c.enc a.1) && plWs (Codec.encAll cs a.2))=true
    rw[pl_enc c a.1,pl_encAll cs a.2] <;> rfl
theorem weight_mem:∀ {xs:List WData}{d:WData},d∈xs→d.weight≤WData.weightAll xs
  | [],d,h=>absurd h (by simp)
  | x::r,d,h=>by
    show d.weight≤x.weight+1+WData.weightAll r
    rcases List.mem_cons.mp h with e | m
    · rw[e]
      lia
    · have z:=weight_mem m
      lia
def toV:Value→V
  | .none=>.non
  | .bool b=>.bl b
  | .int i _=>.int i
  | .str x _=>.str x
  | .bytes b _=>.byt b
  | .ref a=>.ref a
  | _=>.non
def OkU (A:List Addr):Value→Prop
  | .none=>True
  | .bool _=>True
  | .int _ _=>True
  | .str _ _=>True
  | .bytes _ _=>True
  | .ref a=>a∈A
  | _=>False
theorem OkU.mono {A B:List Addr} (h:∀ a∈A,a∈B):∀ {u:Value},OkU A u→OkU B u:=fun {u} x=>by
  cases u with
  | ref a=>exact h a x
  | none=>trivial
  | bool b=>trivial
  | int i t=>trivial
  | str s t=>trivial
  | bytes b t=>trivial
  | _=>exact False.elim x
theorem relV_toV {A:List Addr}{u:Value} (x:OkU A u):RelV (toV u) u:=by
  cases u with
  | ref a=>rfl
  | none=>rfl
  | bool b=>rfl
  | int i t=>exact⟨t,rfl⟩
  | str s t=>exact⟨t,rfl⟩
  | bytes b t=>exact⟨t,rfl⟩
  | _=>exact False.elim x
theorem vals_toV {A:List Addr}:∀ {vs:List Value},(∀ u∈vs,OkU A u)→Vals (vs.map toV) vs
  | [],_=>.nil
  | u::r,h=>.cons (relV_toV (h u (List.mem_cons_self ..))) (vals_toV fun x hx=>h x (List.mem_cons_of_mem _ hx))
def ArgOb (h:Heap) (A:List Addr) (a:Addr):Prop:=∃ vs:List Value,vs.length≤sizeLine∧(∀ u∈vs,OkU A u) ∧
  (h.get? a=some { cls:=.type "list",data:=.seq vs.toArray }∨h.get? a=some { cls:=.type "tuple",data:=.seq vs.toArray })
theorem ArgOb.mono {h:Heap}{A B:List Addr}{a:Addr} (k:∀ a∈A,a∈B) (x:ArgOb h A a):ArgOb h B a:=by
  obtain⟨vs,h1,h2,h3⟩:=x
  exact⟨vs,h1,fun u hu=>(h2 u hu).mono k,h3⟩
theorem wellAll_len {P:Params}{h:Heap}:∀ {vs:List Value}{ds:List WData},WellAll P h vs ds→vs.length=ds.length
  | _,_,.nil=>rfl
  | _,_,.cons _ b=>by
    show _+1=_+1
    rw[wellAll_len b]
theorem well_list {P:Params}{h:Heap}{v:Value}{ds:List WData} (x:Well P h v (.list ds)):∃ (a:Addr) (vs:List Value),v=.ref a∧h.get? a=some { cls:=.type "list",data:=.seq vs.toArray }∧WellAll P h vs ds:=by
  cases x with
  | list ho hall=>exact⟨_,_,rfl,ho,hall⟩
theorem well_tuple {P:Params}{h:Heap}{v:Value}{ds:List WData} (x:Well P h v (.tuple ds)):∃ (a:Addr) (vs:List Value),v=.ref a∧h.get? a=some { cls:=.type "tuple",data:=.seq vs.toArray }∧WellAll P h vs ds:=by
  cases x with
  | tuple ho hall=>exact⟨_,_,rfl,ho,hall⟩
theorem well_cons {P:Params}{h:Heap}{us:List Value}{d:WData}{ds:List WData} (x:WellAll P h us (d::ds)):∃ (v:Value) (vs:List Value),us=v::vs∧Well P h v d∧WellAll P h vs ds:=by
  cases x with
  | cons a b=>exact⟨_,_,rfl,a,b⟩
theorem line_of {n:Nat} (h:n≤1048576):n≤sizeLine:=Nat.le_trans h (by decide)
section
variable {P:Params}{h:Heap}
mutual
theorem area_one:∀ (d:WData) (v:Value),Well P h v d→plW d=true→d.weight≤1048576→∃ A:List Addr,OkU A v∧∀ a∈A,ArgOb h A a
  | .none,_,x,_,_=>by
    cases x
    exact⟨[],trivial,fun a m=>absurd m (by simp)⟩
  | .bool b,_,x,_,_=>by
    cases x
    exact⟨[],trivial,fun a m=>absurd m (by simp)⟩
  | .int i,_,x,_,_=>by
    cases x
    exact⟨[],trivial,fun a m=>absurd m (by simp)⟩
  | .str s,_,x,_,_=>by
    cases x
    exact⟨[],trivial,fun a m=>absurd m (by simp)⟩
  | .bytes b,_,x,_,_=>by
    cases x
    exact⟨[],trivial,fun a m=>absurd m (by simp)⟩
  | .list ds,_,x,p,z=>by
    obtain⟨a,vs,rfl,ho,hall⟩:=well_list x
    have z2:WData.weightAll ds≤1048576:=z
    obtain⟨A,h1,h2⟩:=area_all ds _ hall p fun d hd=>Nat.le_trans (weight_mem hd) z2
    have k:∀ b∈A,b∈a::A:=fun b hb=>List.mem_cons_of_mem _ hb
    refine⟨a::A,List.mem_cons_self ..,fun b hb=>?_⟩
    rcases List.mem_cons.mp hb with e | m
    · rw[e]
      exact⟨vs,line_of (by rw[wellAll_len hall];exact Nat.le_trans (PySem.W.length_le_weightAllW ds) z2),fun u hu=>(h1 u hu).mono k,.inl ho⟩
    · exact (h2 b m).mono k
  | .tuple ds,_,x,p,z=>by
    obtain⟨a,vs,rfl,ho,hall⟩:=well_tuple x
    have z2:WData.weightAll ds≤1048576:=z
    obtain⟨A,h1,h2⟩:=area_all ds _ hall p fun d hd=>Nat.le_trans (weight_mem hd) z2
    have k:∀ b∈A,b∈a::A:=fun b hb=>List.mem_cons_of_mem _ hb
    refine⟨a::A,List.mem_cons_self ..,fun b hb=>?_⟩
    rcases List.mem_cons.mp hb with e | m
    · rw[e]
      exact⟨vs,line_of (by rw[wellAll_len hall];exact Nat.le_trans (PySem.W.length_le_weightAllW ds) z2),fun u hu=>(h1 u hu).mono k,.inr ho⟩
    · exact (h2 b m).mono k
  | .float _,_,_,p,_=>Bool.noConfusion (show false=true from p)
  | .dict _,_,_,p,_=>Bool.noConfusion (show false=true from p)
  | .bytearray _,_,_,p,_=>Bool.noConfusion (show false=true from p)
  | .set _,_,_,p,_=>Bool.noConfusion (show false=true from p)
  | .frozenset _,_,_,p,_=>Bool.noConfusion (show false=true from p)
  | .obj _ _,_,_,p,_=>Bool.noConfusion (show false=true from p)
theorem area_all:∀ (ds:List WData) (vs:List Value),WellAll P h vs ds→plWs ds=true→(∀ d∈ds,d.weight≤1048576)→∃ A:List Addr,(∀ u∈vs,OkU A u)∧∀ a∈A,ArgOb h A a
  | [],_,x,_,_=>by
    cases x
    exact⟨[],fun u m=>absurd m (by simp),fun a m=>absurd m (by simp)⟩
  | d::ds,_,x,p,z=>by
    obtain⟨v,vs,rfl,x1,x2⟩:=well_cons x
    have q:plW d=true∧plWs ds=true:=Bool.and_eq_true_iff.mp p
    obtain⟨A,a1,a2⟩:=area_one d v x1 q.1 (z d (List.mem_cons_self ..))
    obtain⟨B,b1,b2⟩:=area_all ds vs x2 q.2 fun e he=>z e (List.mem_cons_of_mem _ he)
    have kA:∀ b∈A,b∈A++B:=fun b hb=>List.mem_append.mpr (.inl hb)
    have kB:∀ b∈B,b∈A++B:=fun b hb=>List.mem_append.mpr (.inr hb)
    refine⟨A++B,fun u hu=>?_,fun b hb=>?_⟩
    · rcases List.mem_cons.mp hu with e | m
      · rw[e]
        exact a1.mono kA
      · exact (b1 u m).mono kB
    · rcases List.mem_append.mp hb with m | m
      · exact (a2 b m).mono kA
      · exact (b2 b m).mono kB
end
end
def hoOf (o:Obj):Option HO:=match o.data with
  | .seq vs _=>if (o.cls == Value.type "list")=true then some (.frz o (.lst (vs.toList.map toV))) else some (.frz o (.tup (vs.toList.map toV)))
  | _=>none
def argH (K:PySem.W.Frag) (h:Heap) (A:List Addr):Hp:=fun b=>if b∈A then (if (K.lookup b).isNone=true then (h.get? b).bind hoOf else none) else none
def OnlyF (H:Hp):Prop:=∀ b,H b=none∨∃ o u,H b=some (.frz o u)
theorem hoOf_lst (vs:List Value):hoOf { cls:=.type "list",data:=.seq vs.toArray }=some (.frz { cls:=.type "list",data:=.seq vs.toArray } (.lst (vs.map toV))):=by
  show (if (Value.type "list" == Value.type "list")=true then some (HO.frz { cls:=.type "list",data:=.seq vs.toArray } (.lst (vs.toArray.toList.map toV))) else some (HO.frz { cls:=.type "list",data:=.seq vs.toArray } (.tup (vs.toArray.toList.map toV))))=_
  rw[if_pos (beq_self_eq_true _)]
theorem hoOf_tup (vs:List Value):hoOf { cls:=.type "tuple",data:=.seq vs.toArray }=some (.frz { cls:=.type "tuple",data:=.seq vs.toArray } (.tup (vs.map toV))):=by
  show (if (Value.type "tuple" == Value.type "list")=true then some (HO.frz { cls:=.type "tuple",data:=.seq vs.toArray } (.lst (vs.toArray.toList.map toV))) else some (HO.frz { cls:=.type "tuple",data:=.seq vs.toArray } (.tup (vs.toArray.toList.map toV))))=_
  rw[if_neg (by decide)]
section
variable {P:Program}{w:World}{K:PySem.W.Frag}{h:Heap}{A:List Addr}
theorem argH_at {b:Addr}{o:Obj} (hb:b∈A) (hk:K.lookup b=none) (e:h.get? b=some o):argH K h A b=hoOf o:=by
  unfold argH
  rw[if_pos hb,hk,if_pos (show (none:Option Obj).isNone=true from rfl),e] <;> rfl
theorem of_argH {b:Addr}{u:HO} (q:argH K h A b=some u):b∈A∧K.lookup b=none:=by
  unfold argH at q
  by_cases hb:b∈A
  · rw[if_pos hb] at q
    cases hk:K.lookup b with
    | none=>exact⟨hb,rfl⟩
    | some o =>
      rw[hk,if_neg (by simp)] at q
      cases q
  · rw[if_neg hb] at q
    cases q
theorem argH_is (ar:∀ a∈A,ArgOb h A a) {b:Addr}{u:HO} (q:argH K h A b=some u):K.lookup b=none∧∃ vs:List Value,vs.length≤sizeLine∧(∀ u∈vs,OkU A u) ∧
    ((h.get? b=some { cls:=.type "list",data:=.seq vs.toArray }∧u=.frz { cls:=.type "list",data:=.seq vs.toArray } (.lst (vs.map toV))) ∨
     (h.get? b=some { cls:=.type "tuple",data:=.seq vs.toArray }∧u=.frz { cls:=.type "tuple",data:=.seq vs.toArray } (.tup (vs.map toV)))):=by
  obtain⟨hb,hk⟩:=of_argH q
  obtain⟨vs,h1,h2,h3⟩:=ar b hb
  refine⟨hk,vs,h1,h2,?_⟩
  rcases h3 with e | e
  · rw[argH_at hb hk e,hoOf_lst] at q
    exact .inl ⟨e,(Option.some.inj q).symm⟩
  · rw[argH_at hb hk e,hoOf_tup] at q
    exact .inr ⟨e,(Option.some.inj q).symm⟩
theorem argH_only (ar:∀ a∈A,ArgOb h A a):OnlyF (argH K h A):=fun b=>by
  cases q:argH K h A b with
  | none=>exact .inl rfl
  | some u =>
    obtain⟨_,vs,_,_,⟨_,e⟩ | ⟨_,e⟩⟩:=argH_is ar q
    · exact .inr ⟨_,_,by rw[e]⟩
    · exact .inr ⟨_,_,by rw[e]⟩
theorem argH_ok (ar:∀ a∈A,ArgOb h A a):HOk P w (argH K h A) h:=fun b u q=>by
  obtain⟨_,vs,h1,h2,⟨e,rfl⟩ | ⟨e,rfl⟩⟩:=argH_is ar q
  · exact⟨e,by rw[List.length_map];exact h1,vs,_,vals_toV h2,e⟩
  · exact⟨e,by rw[List.length_map];exact h1,vs,vals_toV h2,_,e,rfl,_,rfl⟩
theorem seq_inj {c c':Value}{vs us:List Value} (e:(some { cls:=c,data:=.seq vs.toArray }:Option Obj)=some { cls:=c',data:=.seq us.toArray }):c=c'∧vs=us:=by
  have e1:=Option.some.inj e
  have e2:c=c':=congrArg Obj.cls e1
  have e3:Data.seq vs.toArray=Data.seq us.toArray:=congrArg Obj.data e1
  injection e3 with e4
  refine⟨e2,?_⟩
  have e5:=congrArg Array.toList e4
  simpa using e5
theorem argL (KX:K.In h) (ar:∀ a∈A,ArgOb h A a) {a:Addr}{vs:List Value} (ha:a∈A) (e:h.get? a=some { cls:=.type "list",data:=.seq vs.toArray }):(∀ u∈vs,OkU A u)∧SqL K (argH K h A) a (vs.map toV):=by
  obtain⟨us,h1,h2,h3⟩:=ar a ha
  have hu:us=vs:=by
    rcases h3 with q | q
    · rw[e] at q
      exact (seq_inj q).2.symm
    · rw[e] at q
      exact absurd (Value.type.inj (seq_inj q).1) (by decide)
  subst hu
  refine⟨h2,?_⟩
  cases hk:K.lookup a with
  | none=>exact .inl (.inr ⟨_,by rw[argH_at ha hk e,hoOf_lst]⟩)
  | some o =>
    have e2:=KX a o hk
    rw[e] at e2
    obtain rfl:=Option.some.inj e2
    exact .inr ⟨_,us.toArray,_,hk,rfl,rfl,rfl,by rw[List.size_toArray];exact h1,by simpa using vals_toV h2⟩
theorem argT (KX:K.In h) (ar:∀ a∈A,ArgOb h A a) {a:Addr}{vs:List Value} (ha:a∈A) (e:h.get? a=some { cls:=.type "tuple",data:=.seq vs.toArray }):(∀ u∈vs,OkU A u)∧SqT K (argH K h A) a (vs.map toV):=by
  obtain⟨us,h1,h2,h3⟩:=ar a ha
  have hu:us=vs:=by
    rcases h3 with q | q
    · rw[e] at q
      exact absurd (Value.type.inj (seq_inj q).1) (by decide)
    · rw[e] at q
      exact (seq_inj q).2.symm
  subst hu
  refine⟨h2,?_⟩
  cases hk:K.lookup a with
  | none=>exact .inl (.inr ⟨_,by rw[argH_at ha hk e,hoOf_tup]⟩)
  | some o =>
    have e2:=KX a o hk
    rw[e] at e2
    obtain rfl:=Option.some.inj e2
    exact .inr ⟨_,us.toArray,_,hk,rfl,rfl,by rw[List.size_toArray];exact h1,by simpa using vals_toV h2⟩
mutual
theorem dw_one {Pm:Params} (KX:K.In h) (ar:∀ a∈A,ArgOb h A a):∀ (d:WData) (v:Value),Well Pm h v d→plW d=true→OkU A v→Dw K (argH K h A) (toV v) d
  | .none,_,x,_,_=>by
    cases x
    exact .non
  | .bool b,_,x,_,_=>by
    cases x
    exact .bl b
  | .int i,_,x,_,_=>by
    cases x
    exact .int i
  | .str s,_,x,_,_=>by
    cases x
    exact .str s
  | .bytes b,_,x,_,_=>by
    cases x
    have z:=Dw.byt (K:=K) (H:=argH K h A) b.toArray
    exact z
  | .list ds,_,x,p,hu=>by
    obtain⟨a,vs,rfl,ho,hall⟩:=well_list x
    obtain⟨h2,hs⟩:=argL KX ar hu ho
    exact .lst hs (dw_all KX ar ds _ hall p h2)
  | .tuple ds,_,x,p,hu=>by
    obtain⟨a,vs,rfl,ho,hall⟩:=well_tuple x
    obtain⟨h2,hs⟩:=argT KX ar hu ho
    exact .tup hs (dw_all KX ar ds _ hall p h2)
  | .float _,_,_,p,_=>Bool.noConfusion (show false=true from p)
  | .dict _,_,_,p,_=>Bool.noConfusion (show false=true from p)
  | .bytearray _,_,_,p,_=>Bool.noConfusion (show false=true from p)
  | .set _,_,_,p,_=>Bool.noConfusion (show false=true from p)
  | .frozenset _,_,_,p,_=>Bool.noConfusion (show false=true from p)
  | .obj _ _,_,_,p,_=>Bool.noConfusion (show false=true from p)
theorem dw_all {Pm:Params} (KX:K.In h) (ar:∀ a∈A,ArgOb h A a):∀ (ds:List WData) (vs:List Value),WellAll Pm h vs ds→plWs ds=true→(∀ u∈vs,OkU A u)→DwAll K (argH K h A) (vs.map toV) ds
  | [],_,x,_,_=>by
    cases x
    exact .nil
  | d::ds,_,x,p,hu=>by
    obtain⟨v,vs,rfl,x1,x2⟩:=well_cons x
    have q:plW d=true∧plWs ds=true:=Bool.and_eq_true_iff.mp p
    exact .cons (dw_one KX ar d v x1 q.1 (hu _ (List.mem_cons_self ..))) (dw_all KX ar ds vs x2 q.2 fun u m=>hu u (List.mem_cons_of_mem _ m))
end
end
theorem layable_weight {ds:List WData} (h:WData.layableAll ds=true):∀ d∈ds,d.weight≤1048576:=fun d hd =>
  (PySem.W.layableW_iff.mp (List.all_eq_true.mp h d hd)).2.2
theorem encAll_len:∀ (cs:List Codec) (a:Codec.denoteAll cs),(Codec.encAll cs a).length=cs.length
  | [],_=>rfl
  | c::cs,a=>by
    show (Codec.encAll cs a.2).length+1=cs.length+1
    rw[encAll_len cs a.2]
end L2
end

end
section
set_option linter.all false
set_option maxRecDepth 100000
set_option maxHeartbeats 4000000
namespace L2
open PySem PySem.Spec PyProof.Rows
structure Fly (g:Heap) (C e dx:Addr) (tb:Option Addr) (fl:Value) (h:Heap):Prop where
  ex:∃ (oe:Obj) (vs:Array Value),h.get? e=some oe∧oe.cls=.ref C∧oe.dict=some dx∧oe.data=.fields vs∧vs[1]?=some (tb.elim Value.none Value.ref)
  tr:∀ T,tb=some T→g.get? T=none∧T≠e∧∃ (oT:Obj) (ts:Array Value),h.get? T=some oT∧oT.data=.fields ts∧ts[3]?=some fl
  young:g.get? e=none
theorem dict_mapFields (o:Obj) (f):(o.mapFields f).dict=o.dict:=by
  obtain⟨c,d,dt,sl⟩:=o;cases dt <;> rfl
theorem none_of_there {g h:Heap}{b:Addr} (k:∀ b o,g.get? b=some o→∃ o',h.get? b=some o') (n:h.get? b=none):g.get? b=none:=by
  cases q:g.get? b with
  | none=>rfl
  | some o=>obtain⟨o',z⟩:=k b o q;rw[n] at z;cases z
theorem Fly.mono {g g':Heap}{C e dx:Addr}{tb:Option Addr}{fl:Value}{h:Heap} (F:Fly g C e dx tb fl h) (k:∀ b o,g'.get? b=some o→∃ o',g.get? b=some o'):Fly g' C e dx tb fl h :=
  ⟨F.ex,fun T hT=>⟨none_of_there k (F.tr T hT).1,(F.tr T hT).2⟩,none_of_there k F.young⟩
section
variable {M:Model}{A:Around}{E:Value→Shared→Prop}{s:Shared}{g:Heap}{C e dx L:Addr}{tb:Option Addr}{fl:Value}{base:Heap}{env:Env}{outer:List Env}
theorem Fly.notFrame {l:List Env}{h:Heap} (F:Fly g C e dx tb fl h) (hl:h.FunFrames base l):e ∉ frs l∧∀ T,tb=some T→T ∉ frs l:=by
  obtain⟨oe,vs,he,_,_,hd,_⟩:=F.ex
  refine⟨fun hm=>?_,fun T hT hm=>?_⟩
  · obtain⟨_,o,ho,hnf⟩:=hl.mem hm
    rw[he] at ho;cases ho;exact hnf vs hd
  · obtain⟨_,_,oT,ts,hoT,hdT,_⟩:=F.tr T hT
    obtain⟨_,o,ho,hnf⟩:=hl.mem hm
    rw[hoT] at ho;cases ho;exact hnf ts hdT
theorem note_entry {oe:Obj}{vs:Array Value}{head:Value}{hadNext:Bool}{Q:Unit→Shared→Prop} (hfr:A.frames=some (env::outer)) (hl:s.heap.FunFrames base (env::outer)) (hf:env.frame=some L)
    (he:s.heap.get? e=some oe) (hc:oe.cls=.ref C) (hx:oe.dict=some dx) (hd:oe.data=.fields vs) (hsz:1<vs.size) (hy:g.get? e=none) (hn:∀ b o,g.get? b=some o→∃ o',s.heap.get? b=some o')
    (h:∀ h',Fly g C e dx (some s.heap.objs.size) (rawInt L) h'→(∀ b o,s.heap.get? b=some o→b ∉ frs (env::outer)→b≠e→h'.get? b=some o) →
      (∀ b o,s.heap.get? b=some o→b≠e→∃ sl,h'.get? b=some { o with slots:=sl })→Q () { s with heap:=h' }) :
    wpAny M A (do let a ←frameOf env;let pl ←entryPlaceOf L hadNext;let b ←EntryCells.newEntry head a .none (rawInt L) .none pl;setField (.ref e) 1 b) Q E s:=by
  have hene:e ∉ (env::outer).filterMap (·.frame):=fun hm=>by
    obtain⟨_,o,ho,hnf⟩:=hl.mem hm
    rw[he] at ho;cases ho;exact hnf vs hd
  refine wpAny_bind (wpAny_frameOf_fun hfr hl hf fun h1 hs1=>wpAny_bind (wpAny_entryPlaceOf fun pl hpl=>?_))
  unfold EntryCells.newEntry newFields
  refine wpAny_bind (wpAny_newObj_type ?_ (hpl.sizeOk5 _ _ _ _ _))
  have e1:h1.get? e=some oe:=(hs1.2.1 e hene).trans he
  generalize hob:({ cls:=.type "traceback",dict:=none,data:=.fields ([head,.ref L,.none,rawInt L,.none]++(if pl.isEmpty then List.replicate 6 Value.none else pl)).toArray }:Obj)=ob
  have hobd:ob.data=.fields ([head,.ref L,.none,rawInt L,.none]++(if pl.isEmpty then List.replicate 6 Value.none else pl)).toArray:=by rw[←hob]
  have e2:=Heap.get?_push_of_some (h:=h1) ob e1
  refine wpAny_setField e2 hd hsz (h _ ?_ (fun b o hb hfb hbe=>?_) (fun b o hb hbe=>?_))
  · have hT:h1.objs.size≠e:=Nat.ne_of_gt (Heap.lt_size e1)
    rw[←hs1.1]
    have d3:=Obj.data_mapFields hd (·.setIfInBounds 1 (Value.ref h1.objs.size))
    refine⟨⟨_,_,Heap.get?_update_self _ e2 (Obj.isFreed_of_fields d3),by rw[Obj.cls_mapFields,hc],by rw[dict_mapFields,hx],d3,?_⟩,fun T hTe=>?_,hy⟩
    · show _=some (Value.ref h1.objs.size)
      simp[hsz]
    · obtain rfl:h1.objs.size=T:=Option.some.inj hTe
      refine⟨by rw[hs1.1];exact none_of_there hn (Heap.get?_none_of_le (Nat.le_refl _)),hT,ob,_,?_,hobd,?_⟩
      · rw[Heap.get?_update_other _ _ (Ne.symm hT)]
        refine Heap.get?_push_size h1 ?_
        exact Obj.isFreed_of_fields hobd
      · first | (simp;done) | (rcases hpl with rfl | ⟨_,_,_,_,_,_,_,rfl⟩ <;> simp)
  · rw[Heap.get?_update_other _ _ (Ne.symm hbe)]
    exact Heap.get?_push_of_some _ ((hs1.2.1 b hfb).trans hb)
  · obtain⟨sl,hsl⟩:=hs1.2.2 b o hb
    refine⟨sl,?_⟩
    rw[Heap.get?_update_other _ _ (Ne.symm hbe)]
    exact Heap.get?_push_of_some _ hsl
theorem note_fly {Q:Unit→Shared→Prop} (hfr:A.frames=some (env::outer)) (hl:s.heap.FunFrames base (env::outer)) (hf:env.frame=some L) (F:Fly g C e dx tb .none s.heap) (hn:∀ b o,g.get? b=some o→∃ o',s.heap.get? b=some o')
    (h:∀ h',Fly g C e dx (some s.heap.objs.size) (rawInt L) h'→(∀ b o,s.heap.get? b=some o→b ∉ frs (env::outer)→b≠e→tb≠some b→h'.get? b=some o) →
      (∀ b o,s.heap.get? b=some o→b≠e→tb≠some b→∃ sl,h'.get? b=some { o with slots:=sl })→Q () { s with heap:=h' }) :
    wpAny M A (noteFrame (.ref e) env) Q E s:=by
  obtain⟨⟨oe,vs,he,hc,hx,hd,h1⟩,htr,hy⟩:=F
  have hsz:1<vs.size:=(Array.getElem?_eq_some_iff.mp h1).1
  unfold noteFrame
  simp only[hf]
  refine wpAny_bind (wpAny_field he hd h1 ?_)
  cases tb with
  | none =>
    rw[if_neg (by decide)]
    exact note_entry hfr hl hf he hc hx hd hsz hy hn fun h' F' k1 k2=>h h' F' (fun b o hb q1 q2 _=>k1 b o hb q1 q2) fun b o hb q1 _=>k2 b o hb q1
  | some T =>
    obtain⟨hT1,hTe,oT,ts,hT,hdT,h3⟩:=htr T rfl
    show wpAny M A (if (Value.ref T != Value.none)=true then _ else _) _ _ _
    rw[if_pos (by simp)]
    refine wpAny_bind (wpAny_field hT hdT h3 ?_)
    rw[if_neg (show ¬ ((Value.none == rawInt L)=true) from by simp[rawInt])]
    refine wpAny_bind (wpAny_setField hT hdT (Array.getElem?_eq_some_iff.mp h3).1 ?_)
    have other:∀ b,b≠T→(s.heap.update T (Obj.mapFields (·.setIfInBounds 3 Value.none))).get? b=s.heap.get? b:=fun b hb=>Heap.get?_update_other _ _ (Ne.symm hb)
    have hsize:(s.heap.update T (Obj.mapFields (·.setIfInBounds 3 Value.none))).objs.size=s.heap.objs.size:=Heap.size_after_update ..
    refine note_entry (s:={ s with heap:=s.heap.update T (Obj.mapFields (·.setIfInBounds 3 Value.none)) }) hfr (hl.of_keeps fun b o hb hnf=>⟨o,(other b ?_).trans hb,rfl⟩) hf ((other e (Ne.symm hTe)).trans he) hc hx hd hsz hy (fun b o q=>?_) fun h' F' k1 k2=>h h' ?_ (fun b o hb q1 q2 q3=>?_) fun b o hb q1 q3=>?_
    · intro q
      rw[q,hT] at hb;cases hb;exact hnf ts hdT
    · obtain⟨o',z⟩:=hn b o q
      by_cases hbT:b=T
      · subst hbT
        have d3:=Obj.data_mapFields hdT (·.setIfInBounds 3 Value.none)
        exact⟨_,Heap.get?_update_self _ hT (Obj.isFreed_of_fields d3)⟩
      · exact⟨o',(other b hbT).trans z⟩
    · rw[←hsize];exact F'
    · exact k1 b o ((other b fun z=>q3 (by rw[z])).trans hb) q1 q2
    · exact k2 b o ((other b fun z=>q3 (by rw[z])).trans hb) q1
theorem flight_fly {T:Addr}{Q:Unit→Shared→Prop} (F:Fly g C e dx (some T) fl s.heap)
    (h:∀ h',Fly g C e dx (some T) .none h'→(∀ b o,s.heap.get? b=some o→b≠T→h'.get? b=some o)→h'.objs.size=s.heap.objs.size→Q () { s with heap:=h' }):wpAny M A (setFlight (.ref e) none) Q E s:=by
  obtain⟨⟨oe,vs,he,hc,hx,hd,h1⟩,htr,hy⟩:=F
  obtain⟨hT1,hTe,oT,ts,hT,hdT,h3⟩:=htr T rfl
  have hsz3:3<ts.size:=(Array.getElem?_eq_some_iff.mp h3).1
  unfold setFlight
  refine wpAny_bind (wpAny_field he hd h1 ?_)
  show wpAny M A (if (Value.ref T != Value.none)=true then _ else _) _ _ _
  rw[if_pos (by simp)]
  refine wpAny_setField hT hdT hsz3 (h _ ⟨⟨oe,vs,?_,hc,hx,hd,h1⟩,fun T' e'=>?_,hy⟩ (fun b o hb hbT=>?_) (Heap.size_after_update ..))
  · rw[Heap.get?_update_other _ _ hTe];exact he
  · obtain rfl:T=T':=Option.some.inj e'
    have d3:=Obj.data_mapFields hdT (·.setIfInBounds 3 Value.none)
    exact⟨hT1,hTe,_,_,Heap.get?_update_self _ hT (Obj.isFreed_of_fields d3),d3,by simp[hsz3]⟩
  · rw[Heap.get?_update_other _ _ (Ne.symm hbT)];exact hb
theorem leave_fly {Q:Unit→Shared→Prop} (hfr:A.frames=some (env::outer)) (hl:s.heap.FunFrames base (env::outer)) (hf:env.frame=some L) (F:Fly g C e dx tb .none s.heap) (hn:∀ b o,g.get? b=some o→∃ o',s.heap.get? b=some o')
    (h:∀ h',Fly g C e dx (some s.heap.objs.size) .none h'→(∀ b o,s.heap.get? b=some o→b ∉ frs (env::outer)→b≠e→tb≠some b→h'.get? b=some o) →
      (∀ b o,s.heap.get? b=some o→b≠e→tb≠some b→∃ sl,h'.get? b=some { o with slots:=sl })→Q () { s with heap:=h' }) :
    wpAny M A (leaving env (.ref e)) Q E s:=by
  unfold leaving
  refine wpAny_bind (note_fly hfr hl hf F hn fun h1 F1 k1 k2=>flight_fly (s:={ s with heap:=h1 }) F1 fun h2 F2 k3 _=>h h2 F2 (fun b o hb q1 q2 q3=>?_) fun b o hb q1 q3=>?_)
  · exact k3 b o (k1 b o hb q1 q2 q3) (Nat.ne_of_lt (Heap.lt_size hb))
  · obtain⟨sl,hsl⟩:=k2 b o hb q1 q3
    exact⟨sl,k3 b _ hsl (Nat.ne_of_lt (Heap.lt_size hb))⟩
end

def PlaceAt (h:Heap) (dx:Addr) (p:Int):Prop:=∃ (od:Obj) (t:Tok),h.get? dx=some od∧PySem.W.lookIn "place" od=some (some (.int p t))
theorem PlaceAt.notFields {h:Heap}{dx:Addr}{p:Int}{o:Obj}{vs:Array Value} (x:PlaceAt h dx p) (ho:h.get? dx=some o) (hd:o.data=.fields vs):False:=by
  obtain⟨od,t,e,l⟩:=x
  rw[e] at ho;cases ho
  unfold PySem.W.lookIn at l
  rw[hd] at l
  cases l
theorem PlaceAt.slots {h h':Heap}{dx:Addr}{p:Int} (x:PlaceAt h dx p) (k:∀ o,h.get? dx=some o→∃ sl,h'.get? dx=some { o with slots:=sl }):PlaceAt h' dx p:=by
  obtain⟨od,t,e,l⟩:=x
  obtain⟨sl,e'⟩:=k od e
  exact⟨_,t,e',l⟩
structure Flt (C:Addr) (g:Heap) (fs:List Addr) (H:Hp) (e:Value) (p:Int) (h:Heap):Prop where
  ex:∃ (a dx:Addr) (tb:Option Addr),e=.ref a∧Fly g C a dx tb .none h∧H a=none∧(∀ T,tb=some T→H T=none)∧PlaceAt h dx p∧H dx=none∧g.get? dx=none∧dx ∉ fs
def CXF (P:Program) (w:World) (C:Addr):CXT:=fun outer H s E e s'=>∃ (H':Hp) (p:Int),s'.os=s.os∧AllBare s'.gens∧Un (frs outer) [] H H' s.heap s'.heap∧HOk P w H' s'.heap∧Flt C s.heap (frs outer) H' e p s'.heap∧E (.int p 0) none H'
section
variable {P:Program}{w:World}{K:PySem.W.Frag}{mg:Str→Option Value}{base:Heap}{N:List Str}{qual:Str}{scope:Scope}{f C:Addr}{cd:Value}{A:Around}{outer:List Env}{s s1:Shared}{H H1:Hp}{E:XK}
  {pins:List (Addr×Obj)}{σ:St}{e:Value}{p:Int}
theorem xe_flt (I:Inv (cxOf (CXF P w C) P w K mg base N qual scope f cd A outer s H E) pins σ H1 s1) (F:Flt C s.heap (frs (envOfC qual scope s.heap.objs.size f cd::outer)) H1 e p s1.heap) (hE:E (.int p 0) none H1) :
    (cxOf (CXF P w C) P w K mg base N qual scope f cd A outer s H E).xe e s1:=by
  obtain⟨a,dx,tb,rfl,fly,na,nT,pl,nd,yd,fd⟩:=F.ex
  have ib:Un (frs outer) [] H H1 s.heap s1.heap:=I.base
  have abv:s.heap.objs.size≤(cxOf (CXF P w C) P w K mg base N qual scope f cd A outer s H E).env.locals:=I.ok.above
  have hst:s1.heap.FunFrames base (envOfC qual scope s.heap.objs.size f cd::outer):=I.stack
  have hfree:∀ b∈frs (envOfC qual scope s.heap.objs.size f cd::outer),H1 b=none:=I.stkFree
  have there:∀ b o,s.heap.get? b=some o→∃ o',s1.heap.get? b=some o':=fun b o q=>ib.there b o q (by simp)
  have notL:∀ b o,s.heap.get? b=some o→b ∉ frs outer→b ∉ frs (envOfC qual scope s.heap.objs.size f cd::outer):=fun b o q hb hm=>by
    rcases List.mem_cons.mp (show b∈s.heap.objs.size::frs outer from hm) with z | z
    · exact absurd (Heap.lt_size q) (by rw[z];exact Nat.lt_irrefl _)
    · exact hb z
  have notA:∀ b o,s.heap.get? b=some o→b≠a:=fun b o q z=>by rw[z,fly.young] at q;cases q
  have notT:∀ b o,s.heap.get? b=some o→tb≠some b:=fun b o q z=>by rw[(fly.tr b z).1] at q;cases q
  show wpAny (model P w) (A.deeper (envOfC qual scope s.heap.objs.size f cd)) (leaving (envOfC qual scope s.heap.objs.size f cd) (.ref a)) (fun _ s''=>CXF P w C outer H s E (.ref a) s'') _ s1
  refine leave_fly (base:=base) (L:=s.heap.objs.size) I.ok.frames hst rfl fly there fun h' fly' k1 k2=>?_
  refine⟨H1,p,I.os,I.bare,⟨fun b o q n hb _=>?_,fun b o q n hb _=>?_,fun b o q n _=>ib.free b o q n (by simp),fun b o q _=>?_,ib.tups,ib.frzs,ib.tbls⟩,fun b o q=>?_,⟨a,dx,_,rfl,fly',na,fun T hT=>?_,pl.slots fun o q=>k2 dx o q (fun z=>?_) fun z=>?_,nd,yd,fun z=>fd (List.mem_cons.mpr (.inr z))⟩,hE⟩
  · exact k1 b o (ib.keep b o q n hb (by simp)) (notL b o q hb) (notA b o q) (notT b o q)
  · obtain⟨sl,q1⟩:=ib.slot b o q n hb (by simp)
    obtain⟨sl',q2⟩:=k2 b _ q1 (notA b o q) (notT b o q)
    exact⟨sl',q2⟩
  · obtain⟨o',q1⟩:=there b o q
    obtain⟨sl,q2⟩:=k2 b o' q1 (notA b o q) (notT b o q)
    exact⟨_,q2⟩
  · refine (I.hok b o q).stay (fun c u hc qc=>?_) (fun _ z=>z) fun _ _ z=>z
    have tc:H1 c≠none:=by
      rcases hc with rfl | hc
      · rw[q];simp
      · rw[hc];simp
    exact k1 c u qc (fun z=>tc (hfree c z)) (fun z=>tc (by rw[z];exact na)) fun z=>tc (nT c z)
  · obtain rfl:s1.heap.objs.size=T:=Option.some.inj hT
    exact I.hok.fresh (Nat.le_refl _)
  · obtain⟨oe,vs,he,_,_,hd,_⟩:=fly.ex
    subst z
    exact pl.notFields he hd
  · obtain⟨_,_,oT,ts,hT,hd,_⟩:=fly.tr dx z
    exact pl.notFields hT hd
theorem passF {E':XK} (hEE:∀ v o H',E' v o H'→E v o H'):Passes (CXF P w C) (cxOf (CXF P w C) P w K mg base N qual scope f cd A outer s H E) E':=by
  intro pins σ H1 s1 e s2 I h
  obtain⟨H2,p,os,bare,un,hok,flt,hE⟩:=h
  have I2:Inv (cxOf (CXF P w C) P w K mg base N qual scope f cd A outer s H E) pins σ H2 s2:=I.call' os un hok bare (fun b z=>absurd z (by simp))
  obtain⟨a,dx,tb,he,fly,r1,r2,r3,r4,yd,r5⟩:=flt.ex
  have ib:Un (frs outer) [] H H1 s.heap s1.heap:=I.base
  have th:∀ b o,s.heap.get? b=some o→∃ o',s1.heap.get? b=some o':=fun b o q=>ib.there b o q (by simp)
  exact xe_flt I2 ⟨a,dx,tb,he,fly.mono th,r1,r2,r3,r4,none_of_there th yd,r5⟩ (hEE _ _ _ hE)
end
end L2

end
section
set_option linter.all false
set_option maxRecDepth 100000
set_option maxHeartbeats 4000000
namespace L2
open PySem PySem.Spec PyProof.Rows
abbrev veMro:List Value:=[.type "ValueError",.type "Exception",.type "BaseException",.type "object"]
structure FaultCls (K:PySem.W.Frag) (C N fI:Addr):Prop where
  obj:∃ (nm q:Str) (bs:List Value) (sn:List Str) (sub:List Value) (ab:Bool) (col:Option Bool) (dd:Option Addr) (k0 k1 k2 k3 k5:Option Value),K.lookup C=some (excClassObj nm q C N bs veMro true sn sub ab col dd k0 k1 k2 k3 k5 "ValueError.__new__")
  ns:∃ (c:Value) (d:Option Addr) (es:Array DictEntry) (ep:Nat) (sl:Array (Option Value)),K.lookup N=some ⟨c,d,.dict es ep,sl⟩∧StrKeys es
  init:PySem.W.nsIn K N "__init__"=some (some (.ref fI))
  sa:PySem.W.nsIn K N "__setattr__"=some none
  pl:PySem.W.nsIn K N "place"=some none
  ga:PySem.W.nsIn K N "__getattribute__"=some none
  gt:PySem.W.nsIn K N "__getattr__"=some none
  fn:PySem.W.isFn K (.ref fI)=true
  kp:PySem.W.keepIn K (.ref C)=true
  pf:PySem.W.findIn K (.ref C) "place"=some none
theorem nsFind_of {K:PySem.W.Frag}{N:Addr}{c:Value}{d:Option Addr}{es:Array DictEntry}{ep:Nat}{sl:Array (Option Value)}{n:Str}{r:Option Value} (l:K.lookup N=some ⟨c,d,.dict es ep,sl⟩) (e:PySem.W.nsIn K N n=some r):nsFind es n=r:=by
  unfold PySem.W.nsIn at e
  rw[l] at e
  unfold nsFind findBy
  rw[←Array.find?_toList]
  dsimp only at e
  cases q:es.toList.find? (fun x=>x.key.isStr n) with
  | some en=>rw[q] at e;cases e;rfl
  | none =>
    rw[q] at e
    dsimp only at e
    split at e <;> cases e
    rfl
theorem FaultCls.at {K:PySem.W.Frag}{C N fI:Addr} (F:FaultCls K C N fI):∃ mN:Str→Option Value,(∀ h:Heap,K.In h→h.Ns N mN)∧mN "__init__"=some (.ref fI)∧mN "__setattr__"=none∧mN "place"=none∧mN "__getattribute__"=none∧mN "__getattr__"=none:=by
  obtain⟨c,d,es,ep,sl,l,sk⟩:=F.ns
  exact⟨nsFind es,fun h X=>⟨_,es,ep,X _ _ l,rfl,sk,fun _=>rfl⟩,nsFind_of l F.init,nsFind_of l F.sa,nsFind_of l F.pl,nsFind_of l F.ga,nsFind_of l F.gt⟩
theorem lk_place:typeLookup (.type "ValueError") "place"=pure none:=by rw[typeLookup_type,builtinLookup_eq_fast];kernel_rfl
theorem lookIn_of {o:Obj}{es:Array DictEntry}{ep:Nat}{n:Str}{v:Value} (d:o.data=.dict es ep) (f:nsFind es n=some v):PySem.W.lookIn n o=some (some v):=by
  unfold PySem.W.lookIn
  rw[d]
  dsimp only
  unfold nsFind findBy at f
  rw[←Array.find?_toList] at f
  obtain⟨en,q,rfl⟩:=Option.map_eq_some_iff.mp f
  rw[q]
section
open PySem.Builtin PySem.Builtin.ObjectAttr
variable {prog:Program}{w:World}{A:Around}{E:Value→Shared→Prop}{h:Heap}{g:Array GenState}{d:Drawn}{t:Nat}{os:OsState}
variable {nm q:Str}{C N x:Addr}{bs bm:List Value}{sn:List Str}{sub:List Value}{ab:Bool}{col:Option Bool}{dd:Option Addr}{k0 k1 k2 k3 k5:Option Value}{B newId sa owner:String}
  {mN:Str→Option Value}{name:Str}{v:Value}{vs:Array Value}
theorem new_entry {tk:Tok}{Q:Fin→Shared→Prop} (SF:StoreFacts B bm sa owner) (hC:h.get? C=some (excClassObj nm q C N bs bm true sn sub ab col dd k0 k1 k2 k3 k5 newId)) (hn:h.Ns N mN) (hna:mN name=none)
    (hB:typeLookup (.type B) name=pure none) (hx:h.get? x=some { cls:=.ref C,data:=.fields vs })
    (hq:∀ h' tk',h'.get? x=some { cls:=.ref C,dict:=some h.objs.size,data:=.fields vs }→h'.Ns1 h.objs.size (fun y=>if y=name then some v else none)→(∀ b o,b≠x→h.get? b=some o→h'.get? b=some o)→Q (.done (.ret .none)) ⟨h',g,d,tk',os⟩) :
    wpAny (model prog w) A (Builtin.«object.__setattr__» ⟨[.ref x,.str name tk,v],[]⟩) Q E ⟨h,g,d,t,os⟩:=by
  have I:PySem.W.InstAt h x { cls:=.ref C,data:=.fields vs } C none:=⟨hx,rfl,rfl,trivial⟩
  have L0:=I.type (M:=model prog w)
  rw[PySem.W.osa_eq,refuse_eq]
  refine wpAny_bind (wpAny_bind (L0.here (wpAny_bind (wpAny_mroOf_exc hC ?_))))
  rw[refuseLoop_ref,SF.passes]
  refine wpAny_pure (wpAny_bind (L0.here (wpAny_bind (wpAny_typeLookup_exc hC hn SF.mro hB ?_))))
  rw[hna]
  refine wpAny_bind (wpAny_pure ?_)
  show wpAny _ _ (storeInOwnDict _ _ _ _ _ _) _ _ _
  unfold storeInOwnDict
  refine wpAny_bind (wpAny_pure (wpAny_bind ?_))
  show wpAny _ _ (instanceDict x true) _ _ _
  unfold instanceDict
  refine wpAny_bind (wpAny_loadPart_at hx ?_)
  dsimp only
  unfold classData
  refine wpAny_bind (wpAny_bind (wpAny_load hC (wpAny_pure ?_)))
  dsimp only
  have hx1:(h.push { cls:=.type "dict",data:=.dict #[] }).get? x=some { cls:=.ref C,data:=.fields vs }:=Heap.get?_push_of_some _ hx
  have hxs:x≠h.objs.size:=Nat.ne_of_lt (Heap.lt_size hx)
  refine wpAny_bind (wpAny_alloc' (wpAny_bind (wpAny_update' hx1 (wpAny_pure ?_))))
  show wpAny _ _ (storeInDict h.objs.size (.str name tk) name v) _ _ _
  unfold storeInDict newKeyGuard
  have hgd:((h.push { cls:=.type "dict",data:=.dict #[] }).update x fun o=>{ cls:=o.cls,dict:=some h.objs.size,data:=o.data,slots:=o.slots }).get? h.objs.size=some { cls:=.type "dict",data:=.dict #[] } :=
    (Heap.get?_update_ne _ _ _ _ hxs.symm).trans (Heap.get?_push_at rfl rfl)
  have hnd:((h.push { cls:=.type "dict",data:=.dict #[] }).update x fun o=>{ cls:=o.cls,dict:=some h.objs.size,data:=o.data,slots:=o.slots }).Ns h.objs.size (fun _=>none) :=
    ⟨_,#[],_,hgd,rfl,fun e he=>absurd he (by simp),fun _=>rfl⟩
  refine wpAny_bind (wpAny_pure (wpAny_bind (wpAny_nsSet1 (Heap.Ns1.of_empty hnd) fun h' hn' hs=>?_)))
  obtain⟨oD,esD,epD,hoD,hdD,hcD⟩:=hn'.count (Within.cons name v Within.nil)
  refine wpAny_bind (wpAny_lookBehind hoD (by rw[hdD];exact pastItsLine_dict (Nat.le_trans hcD (by rw[List.length_cons,List.length_nil,sizeLine_eq];omega))) ?_)
  refine wpAny_pure (hq h' _ ((hs.2 x hxs).trans (Heap.get?_update_self _ hx1 rfl)) hn' fun b o hbx hb=>?_)
  exact (hs.2 b (Nat.ne_of_lt (Heap.lt_size hb))).trans ((Heap.get?_update_ne _ _ _ _ hbx).trans (Heap.get?_push_of_some _ hb))
theorem new_attr {Q:Unit→Shared→Prop} (SF:StoreFacts B bm sa owner) (hC:h.get? C=some (excClassObj nm q C N bs bm true sn sub ab col dd k0 k1 k2 k3 k5 newId)) (hn:h.Ns N mN) (hns:mN "__setattr__"=none) (hna:mN name=none)
    (hB:typeLookup (.type B) name=pure none) (hx:h.get? x=some { cls:=.ref C,data:=.fields vs })
    (hq:∀ h' tk',h'.get? x=some { cls:=.ref C,dict:=some h.objs.size,data:=.fields vs }→h'.Ns1 h.objs.size (fun y=>if y=name then some v else none)→(∀ b o,b≠x→h.get? b=some o→h'.get? b=some o)→Q () ⟨h',g,d,tk',os⟩) :
    wpAny (model prog w) A (setAttr (.ref x) name v) Q E ⟨h,g,d,t,os⟩:=by
  have f3:=SF.slot.bind (.ref x)
  unfold setAttr callSpecial? specialOf
  repeat (any_goals (first | assumption | with_reducible refine wpAny_loadPart_at hx ?_ | (with_reducible refine wpAny_typeLookup_exc hC hn SF.mro SF.slot.lookup ?_;rw[hns]) | wp_step))
  refine codeAny_call_builtin SF.slot.plain SF.entry (wpAny_check_sa SF hC hx rfl (new_entry SF hC hn hna hB hx fun h' tk' k1 k2 k3=>?_))
  repeat (any_goals (first | assumption | wp_step))
  exact hq h' tk' k1 k2 k3
end
theorem init_run {P:Program}{w:World}{K:PySem.W.Frag}{mg:Str→Option Value}{base:Heap}{A:Around}{outer:List Env}{s:Shared}{H:Hp}{C N fI e:Addr}{fd:FuncData}{st:Stmt}{vs:Array Value}{p:Int}{t:Tok}{p1 p2 p3 p4:Pos}
    (FC:FaultCls K C N fI) (F:Fun K "__init__" "Fault.__init__" st fI fd) (S:FnScope ["self","place"] ["self","place"] (defScope st)) (hB:Binds K fd ["self","place"] [])
    (hst:defBody st=[.Assign [.Attribute (.Name "self" p1) "place" p2] (.Name "place" p3) p4]) (hsw:∀ env,swapsWith (.Name "place" p3) (some (.Attribute (.Name "self" p1) "place" p2)) p4.line env=pure false) (hv1:Vis (defScope st) "self") (hv2:Vis (defScope st) "place")
    (e0:Env0 P w K mg base A outer s H) (hr:Room 2 A) (he:s.heap.get? e=some { cls:=.ref C,data:=.fields vs }) (He:H e=none) :
    codeAny (model P w) A (.call (.ref fI) ⟨[.ref e,.int p t],[]⟩) (fun r s'=>r=.ok (.ret .none)∧s'.os=s.os∧AllBare s'.gens∧Un (frs outer) [e] H H s.heap s'.heap∧HOk P w H s'.heap ∧
      ∃ dx,s'.heap.get? e=some { cls:=.ref C,dict:=some dx,data:=.fields vs }∧PlaceAt s'.heap dx p∧H dx=none∧s.heap.get? dx=none) s:=by
  obtain⟨oc,od,kV,doc,pm,an,cdv,ct,osl,rfl,lk,hcd⟩:=F.ex
  have KX:K.In s.heap:=e0.mod.kin.keeps fun b o e=>(e0.bs b o e).1
  have lim:s.heap.NoLimit:=e0.mod.nolimit.keeps fun b o e=>(e0.bs b o e).1
  have r:Vals [V.ref e,V.int p] [Value.ref e,Value.int p t]:=.cons rfl (.cons ⟨t,rfl⟩ .nil)
  have hkind:∀ y∈(["self","place"]:List Str).zip [Value.ref e,Value.int p t],(defScope st).names.lookup y.1=some .local∨((defScope st).names.lookup y.1=some .cell∧((cellsFrom (s.heap.objs.size+1) (defScope st).names []).lookup y.1).isSome=true):=fun ⟨n,v⟩ hy=>by
    rcases S.par n (List.of_mem_zip hy).1 with q | q
    · exact .inl q
    · exact .inr ⟨q,PySem.W.cellsFrom_some _ _ _ (.inl q)⟩
  refine codeAny_call_function hr.depth (KX _ _ lk) rfl S.co S.gen rfl (PySem.W.codeRec_of KX hcd) (hB s [.ref e,.int p t] KX rfl _ _ _ _ ?_)
  refine wpAny_newFunctionEnv_cells S.kind hkind fun env henv s1 x=>?_
  subst henv
  refine⟨lim.keeps x.toInCall.keep,codeAny_func ?_⟩
  have I:Inv (cxOf CX0 P w K mg base ["self","place"] "Fault.__init__" (defScope st) fI cdv A outer s H E0) [] (start ["self","place"] [V.ref e,V.int p]) H s1:=inv_start S hr.hd e0 rfl r x
  have I':=I.wish (fun _ _=>False)
  rw[hst]
  refine wpAny_mono (Q:=fun fl s'=>fl=Flow.next∧s'.os=s.os∧AllBare s'.gens∧Un (frs outer) [e] H H s.heap s'.heap∧HOk P w H s'.heap∧∃ dx,s'.heap.get? e=some { cls:=.ref C,dict:=some dx,data:=.fields vs }∧PlaceAt s'.heap dx p∧H dx=none∧s.heap.get? dx=none) (E:=fun _ _=>False) ?_ (fun fl s' q=>?_) fun _ _ z=>z.elim
  · refine wpAny_execs_cons ?_
    refine plainObj_wpAny_Assign_Attribute ?_ (hsw _)
    refine thn (pe_var (X:=(cxOf CX0 P w K mg base ["self","place"] "Fault.__init__" (defScope st) fI cdv A outer s H E0).nox) (i:=1) rfl hv2 (by decide) (by decide) [] s1 _ H (fun v H'=>v=.int p∧H'=H) I' ⟨_,rfl,rfl,rfl⟩) fun u s2 ⟨v,H2,I2,rv,q1,q2⟩=>?_
    subst q1 q2
    obtain⟨t',rfl⟩:=(show ∃ t',u=Value.int p t' from rv)
    refine thn (pe_var (X:=(cxOf CX0 P w K mg base ["self","place"] "Fault.__init__" (defScope st) fI cdv A outer s H2 E0).nox) (i:=0) rfl hv1 (by decide) (by decide) [] s2 _ H2 (fun v H'=>v=.ref e∧H'=H2) I2 ⟨_,rfl,rfl,rfl⟩) fun u2 s3 ⟨v2,H3,I3,rv2,q3,q4⟩=>?_
    subst q3 q4
    obtain rfl:u2=Value.ref e:=rv2
    have ib:Un (frs outer) [] H3 H3 s.heap s3.heap:=I3.base
    have hfe:e ∉ frs outer:=fun hm=>by
      obtain⟨_,o,ho,hnf⟩:=e0.funs.mem hm
      rw[he] at ho;cases ho;exact hnf vs rfl
    have he3:s3.heap.get? e=some { cls:=.ref C,data:=.fields vs }:=ib.keep e _ he He hfe (by simp)
    obtain⟨nm,q,bs,sn,sub,ab,col,dd,k0,k1,k2,k3,k5,lC⟩:=FC.obj
    obtain⟨mN,hN,n1,n2,n3,n4,n5⟩:=FC.at
    have KX3:K.In s3.heap:=I3.kIn
    have hC3:=KX3 _ _ lC
    have hok3:HOk P w H3 s3.heap:=I3.hok
    have os3:s3.os=s.os:=I3.os
    have bare3:=I3.bare
    obtain⟨hh,g,d,tk,os⟩:=s3
    refine new_attr PySem.F.store_ValueError hC3 (hN _ KX3) n2 n3 lk_place he3 fun h' tk' hs hi hk=>?_
    refine wpAny_execs_nil ⟨rfl,os3,bare3,?_,?_,?_⟩
    · refine⟨fun b o q n hb hx=>?_,fun b o q n hb hx=>?_,fun b o q n hx=>n,fun b o q hx=>?_,fun _ _ q=>q,fun _ _ _ q=>q,fun _ ps q=>⟨#[],by rw[q];simp⟩⟩
      · exact hk b o (fun z=>hx (by rw[z];exact List.mem_singleton.mpr rfl)) (ib.keep b o q n hb (by simp))
      · obtain⟨sl,z⟩:=ib.slot b o q n hb (by simp)
        exact⟨sl,hk b _ (fun z=>hx (by rw[z];exact List.mem_singleton.mpr rfl)) z⟩
      · obtain⟨o',z⟩:=ib.there b o q (by simp)
        exact⟨o',hk b _ (fun z=>hx (by rw[z];exact List.mem_singleton.mpr rfl)) z⟩
    · intro b o q
      refine (hok3 b o q).stay (fun c u hc qc=>hk c u (fun z=>?_) qc) (fun _ z=>z) fun _ _ z=>z
      subst z
      rcases hc with rfl | hc
      · rw[He] at q;cases q
      · rw[He] at hc;cases hc
    · obtain⟨od,es,ep,y6,y7,_,_,y8⟩:=hi
      refine⟨hh.objs.size,hs,⟨od,t',y6,lookIn_of y7 (by rw[y8];dsimp only;rw[if_pos rfl])⟩,hok3.fresh (Nat.le_refl _),?_⟩
      exact none_of_there (fun b o q=>ib.there b o q (by simp)) (Heap.get?_none_of_le (Nat.le_refl _))
  · obtain⟨rfl,r1⟩:=q
    exact⟨rfl,r1⟩

theorem ObjOk.there {P:Program}{w:World}{H:Hp}{h:Heap}{a:Addr}{o:HO} (x:ObjOk P w H h a o):∃ ob,h.get? a=some ob:=by
  cases o with
  | lst xs=>obtain⟨_,_,_,_,e⟩:=x;exact⟨_,e⟩
  | tup xs=>obtain⟨_,_,_,ob,e,_⟩:=x;exact⟨_,e⟩
  | dK kvs=>obtain⟨_,_,_,_,o,_,_,e,_⟩:=x;exact⟨_,e⟩
  | dT kvs=>obtain⟨_,_,_,_,o,_,_,e,_⟩:=x;exact⟨_,e⟩
  | set S n=>obtain⟨o,_,_,_,e,_⟩:=x;exact⟨_,e⟩
  | ins C dx fs=>obtain⟨_,_,_,e,_⟩:=x;exact⟨_,e⟩
  | own y=>exact x
  | xd fs=>obtain⟨_,⟨_,_,_,e,_⟩,_⟩:=x;exact⟨_,e⟩
  | rng lo hi=>obtain⟨_,_,_,e⟩:=x;exact⟨_,e⟩
  | frz ob u=>obtain⟨e,_⟩:=x;exact⟨_,e⟩
  | tbl ps=>exact⟨_,(show h.get? a=some _ from x)⟩
  | met f y=>exact⟨_,(show h.get? a=some _ from x)⟩
  | ext φ=>obtain⟨_,e,_⟩:=x;exact e
theorem HOk.noneAt {P:Program}{w:World}{H:Hp}{h:Heap}{a:Addr} (x:HOk P w H h) (n:h.get? a=none):H a=none:=by
  cases q:H a with
  | none=>rfl
  | some u=>obtain⟨ob,e⟩:=(x a u q).there;rw[n] at e;cases e
structure FaultOk (K:PySem.W.Frag) (C N fI:Addr) (st:Stmt):Prop where
  cls:FaultCls K C N fI
  ex:∃ (fd:FuncData) (p1 p2 p3 p4:Pos),Fun K "__init__" "Fault.__init__" st fI fd∧Binds K fd ["self","place"] []∧defBody st=[.Assign [.Attribute (.Name "self" p1) "place" p2] (.Name "place" p3) p4] ∧
    ∀ env,swapsWith (.Name "place" p3) (some (.Attribute (.Name "self" p1) "place" p2)) p4.line env=pure false
  sc:FnScope ["self","place"] ["self","place"] (defScope st)
  v1:Vis (defScope st) "self"
  v2:Vis (defScope st) "place"
theorem make_fault {X:Cx}{pins:List (Addr×Obj)}{σ:St}{H:Hp}{s:Shared}{C N fI:Addr}{st:Stmt}{p:Int}{t:Tok}{E:Value→Shared→Prop} (FO:FaultOk X.K C N fI st) (I:Inv X pins σ H s) (hr:Room 3 X.A) :
    wpAny (model X.prog X.w) X.A (call (.ref C) [.int p t]) (fun r s'=>∃ a dx t0,r=.ref a∧Inv X pins σ H s'∧s.heap.get? a=none∧H a=none ∧
      s'.heap.get? a=some { cls:=.ref C,dict:=some dx,data:=.fields #[.ref t0,.none,.none,.none,.bool false,.none] }∧PlaceAt s'.heap dx p∧H dx=none∧s.heap.get? dx=none) E s:=by
  obtain⟨fd,p1,p2,p3,p4,F,hB,hst,hsw⟩:=FO.ex
  obtain⟨nm,q,bs,sn,sub,ab,col,dd,k0,k1,k2,k3,k5,lC⟩:=FO.cls.obj
  obtain⟨mN,hN,n1,n2,n3,n4,n5⟩:=FO.cls.at
  have KX:=I.kIn
  obtain⟨oc,od,kV,doc,pm,an,cdv,ct,osl,rfl,lk,hcd⟩:=id F.ex
  have hfc:oc=.type "function":=by
    have:=beq_iff_eq.mp FO.cls.fn
    unfold PySem.W.typeIn at this
    dsimp only at this
    rw[lk] at this
    cases this
    rfl
  obtain⟨hh,g,d,tk,os⟩:=s
  refine wpAny_call_exc_init PySem.F.excBase_ValueError (KX _ _ lC) (hN _ KX) n1 (KX _ _ lk) hfc (fun h' e hm=>?_) (show 1≤sizeLine by decide)
  obtain⟨t0,he,_,_⟩:=hm.there
  have I2:Inv X pins σ H ⟨h',g,d,tk,os⟩:=I.kept hm.keeps
  have He:H e=none:=I.hok.noneAt hm.new
  refine wpAny_call (codeAny_mono (init_run (A:=X.A.under (.builtin "type.__call__" ⟨.ref C::[.int p t],[]⟩)) (p:=p) (t:=t) FO.cls F FO.sc hB hst hsw FO.v1 FO.v2 (I2.env0.make C [.int p t] []) (hr.make C [.int p t] []) he He) fun r s' hq=>?_)
  obtain⟨rfl,os',bare',un',hok',dx,he',pl,nd,yd⟩:=hq
  have nb:∀ b o,hh.get? b=some o→b ∉ [e]:=fun b o z1 z2=>by
    rw[List.mem_singleton.mp z2,hm.new] at z1
    cases z1
  refine⟨rfl,e,dx,t0,rfl,I.call' (ch:=[]) os' ⟨fun b o z n hb _=>un'.keep b o (hm.keeps b o z) n hb (nb b o z),fun b o z n hb _=>un'.slot b o (hm.keeps b o z) n hb (nb b o z),fun b o z n _=>n,fun b o z _=>un'.there b o (hm.keeps b o z) (nb b o z),fun _ _ z=>z,fun _ _ _ z=>z,fun _ ps z=>⟨#[],by rw[z];simp⟩⟩ hok' bare' (fun b z=>absurd z (by simp)),hm.new,He,he',pl,nd,none_of_there (fun b o z=>⟨o,hm.keeps b o z⟩) yd⟩
theorem raiseStmt_fault {M:Model}{A:Around}{E:Value→Shared→Prop}{env:Env}{s:Shared}{x:Sem Value}{Q:Flow→Shared→Prop}{nm q:Str}{C N:Addr}{bs bm:List Value}{hdct:Bool}{sn:List Str}{sub:List Value}{ab:Bool}{col:Option Bool}{dd:Option Addr}{k0 k1 k2 k3 k5:Option Value}{newId:String}
    (hbase:bm.contains (.type "BaseException")=true) (hh:A.handled=none)
    (h:wpAny M A x (fun v s₁=>∃ e t dx,v=.ref e∧s₁.heap.get? C=some (excClassObj nm q C N bs bm hdct sn sub ab col dd k0 k1 k2 k3 k5 newId) ∧
      s₁.heap.get? e=some { cls:=.ref C,dict:=some dx,data:=.fields #[.ref t,.none,.none,.none,.bool false,.none] }∧E (.ref e) s₁) E s):wpAny M A (raiseStmt env (some x) none) Q E s:=by
  have hcB:(Value.ref C::bm).contains (.type "BaseException")=true:=by rw[List.contains_cons,hbase,Bool.or_true]
  unfold raiseStmt
  refine wpAny_bind (wpAny_mono h (fun v s₁ h₁=>?_) fun _ _ x=>x)
  obtain⟨e,t,dx,rfl,hC,he,hE⟩:=h₁
  obtain⟨hp,g,d,tk,os⟩:=s₁
  repeat (first | with_reducible refine wpAny_loadPart_at he ?_ | with_reducible refine wpAny_loadPart_at hC ?_ | (with_reducible refine wpAny_isSubtype_exc hC ?_;rw[hcB]) | wp_step)
  exact wpAny_raiseNew_none hh hE
def sRaise (ta:TE) (E:XK):TS:=fun _ σ H=>ta σ H fun v H1=>∃ p,[v]=[V.int p]∧E (.int p 0) none H1
theorem ps_raise {P:Program}{w:World}{K:PySem.W.Frag}{mg:Str→Option Value}{base:Heap}{N:List Str}{qual:Str}{scope:Scope}{f C NC fI:Addr}{cd:Value}{A:Around}{outer:List Env}{s:Shared}{H:Hp}{E:XK}{st:Stmt}{x:Str}{np cpos pos:Pos}{e:Expr}{ta:TE}
    (FO:FaultOk K C NC fI st) (hr:Room 3 (A.deeper (envOfC qual scope s.heap.objs.size f cd))) (hg:Gl (cxOf (CXF P w C) P w K mg base N qual scope f cd A outer s H E) x) (hm:mg x=some (.ref C))
    (ha:PE (cxOf (CXF P w C) P w K mg base N qual scope f cd A outer s H E) e ta) (hdb:(x == ("__debug__":Str))=false:=by decide)
    (he:starEach [e] (envOfC qual scope s.heap.objs.size f cd)=(false,eval e (envOfC qual scope s.heap.objs.size f cd))::starEach [] (envOfC qual scope s.heap.objs.size f cd):=by rfl) :
    PS (cxOf (CXF P w C) P w K mg base N qual scope f cd A outer s H E) (.Raise (some (.Call (.Name x np) [e] [] cpos)) none pos) (sRaise ta E):=by
  intro pins s0 σ H0 D I h
  obtain⟨nm,q,bs,sn,sub,ab,col,dd,k0,k1,k2,k3,k5,lC⟩:=FO.cls.obj
  have hh:(A.deeper (envOfC qual scope s.heap.objs.size f cd)).handled=none:=hr.hd
  have key:wpAny (model P w) (A.deeper (envOfC qual scope s.heap.objs.size f cd)) (eval (.Call (.Name x np) [e] [] cpos) (envOfC qual scope s.heap.objs.size f cd))
      (fun v s₁=>∃ a t dx,v=.ref a∧s₁.heap.get? C=some (excClassObj nm q C NC bs veMro true sn sub ab col dd k0 k1 k2 k3 k5 "ValueError.__new__") ∧
      s₁.heap.get? a=some { cls:=.ref C,dict:=some dx,data:=.fields #[.ref t,.none,.none,.none,.bool false,.none] }∧(cxOf (CXF P w C) P w K mg base N qual scope f cd A outer s H E).xe (.ref a) s₁)
      (cxOf (CXF P w C) P w K mg base N qual scope f cd A outer s H E).xe s0:=by
    refine wpAny_Call_Name_kw (ld_glob I hg hm ?_ hdb)
    refine PySem.W.callWith_K (h₀:=base) I.ok.mod.kin FO.cls.kp (thn ((pa_cons ha pa_nil he) cpos pins s0 σ H0 (fun vs H1=>∃ p,vs=[V.int p]∧E (.int p 0) none H1) I h) fun us s1 ⟨vs,H1,I1,r,p,hv,hE⟩=>⟨I1.kIn,?_⟩) he rfl
    subst hv
    obtain⟨u,rfl,ru⟩:=vals1 r
    obtain⟨t,rfl⟩:=(show ∃ t,u=Value.int p t from ru)
    refine thn (make_fault (X:=cxOf (CXF P w C) P w K mg base N qual scope f cd A outer s H E) FO I1 hr) fun v s2 ⟨a,dx,t0,hv,I2,n1,n2,ha2,pl,nd,yd⟩=>?_
    have ib:Un (frs outer) [] H H1 s.heap s1.heap:=I1.base
    have yo:s.heap.get? a=none:=none_of_there (fun b o q=>ib.there b o q (by simp)) n1
    have fly:Fly s.heap C a dx none .none s2.heap:=⟨⟨_,_,ha2,rfl,rfl,rfl,by simp⟩,fun T z=>(by cases z),yo⟩
    have fd:dx ∉ frs (envOfC qual scope s.heap.objs.size f cd::outer):=fun hm=>by
      have hst:s1.heap.FunFrames base (envOfC qual scope s.heap.objs.size f cd::outer):=I1.stack
      obtain⟨_,o,ho,_⟩:=hst.mem hm
      rw[yd] at ho;cases ho
    have flt:Flt C s.heap (frs (envOfC qual scope s.heap.objs.size f cd::outer)) H1 (.ref a) p s2.heap:=⟨a,dx,none,rfl,fly,n2,fun T z=>(by cases z),pl,nd,none_of_there (fun b o q=>ib.there b o q (by simp)) yd,fd⟩
    have hx:=xe_flt I2 flt hE
    exact⟨a,t0,dx,hv,I2.kIn _ _ lC,ha2,hx⟩
  rw[arm_exec_Raise]
  refine wpAny_bind (wpAny_standAt (raiseStmt_fault (C:=C) (nm:=nm) (q:=q) (N:=NC) (bs:=bs) (bm:=veMro) (hdct:=true) (sn:=sn) (sub:=sub) (ab:=ab) (col:=col) (dd:=dd) (k0:=k0) (k1:=k1) (k2:=k2) (k3:=k3) (k5:=k5) (newId:="ValueError.__new__") PySem.F.excBase_ValueError.hasBase hh ?_))
  exact wpAny_bind (thn key fun v s1 z=>wpAny_bind (wpAny_standAt (wpAny_pure z)))
end L2

end
section
set_option linter.all false
set_option maxRecDepth 100000
set_option maxHeartbeats 1000000
namespace L2
open PySem PySem.Spec PyProof.Rows
section
variable {prog:Program}{w:World}{A:Around}{E:Value→Shared→Prop}{h:Heap}{g:Array GenState}{d:Drawn}{t:Nat}{os:OsState}{a dx:Addr}{oe od:Obj}{vs:Array Value}{K:PySem.W.Frag}{C N fI:Addr}{v:Value}
theorem place_entry {tk:Tok}{Q:Fin→Shared→Prop} (FC:FaultCls K C N fI) (X:K.In h) (he:h.get? a=some oe) (hc:oe.cls=.ref C) (hx:oe.dict=some dx) (hd:oe.data=.fields vs) (ho:h.get? dx=some od) (hl:PySem.W.lookIn "place" od=some (some v))
    (hq:Q (.done (.ret v)) ⟨h,g,d,t,os⟩):wpAny (model prog w) A (Builtin.«object.__getattribute__» ⟨[.ref a,.str "place" tk],[]⟩) Q E ⟨h,g,d,t,os⟩:=by
  obtain⟨nm,q,bs,sn,sub,ab,col,dd,k0,k1,k2,k3,k5,lC⟩:=FC.obj
  have I:PySem.W.InstAt h a oe C (some od):=⟨he,hc,by unfold PySem.W.notCls;rw[hd],by rw[hx];exact ho⟩
  have hf:PySem.W.findObj K C (some od) "place"=some (.value v):=by
    have h1:PySem.W.clsIn K C=some { name:=nm,bases:=bs,mro:=.ref C::veMro,ns:=N,qualname:=q,hasDict:=true,slotNames:=sn,subclasses:=sub,abstract:=ab,collection:=col,hasDel:=false }:=by
      unfold PySem.W.clsIn
      rw[lC]
    unfold PySem.W.findObj
    rw[h1,Option.bind_some,FC.pf,Option.bind_some]
    simp only[Option.bind_some]
    unfold PySem.W.ownOf
    simp only[if_true]
    rw[hl]
    rfl
  have L1:=PySem.W.looks_find (M:=model prog w) X I hf
  have L0:=I.type (M:=model prog w)
  unfold Builtin.«object.__getattribute__»
  refine wpAny_bind (wpAny_pure ?_)
  dsimp only
  refine wpAny_bind (wpAny_pure (wpAny_bind (L0.at (wpAny_bind (L1.at ?_)))))
  exact wpAny_pure hq
theorem place_by {tk:Tok}{fill expr:Bool}{Q:Value→Shared→Prop} (FC:FaultCls K C N fI) (X:K.In h) (he:h.get? a=some oe) (hc:oe.cls=.ref C) (hx:oe.dict=some dx) (hd:oe.data=.fields vs) (ho:h.get? dx=some od) (hl:PySem.W.lookIn "place" od=some (some v)) (hv:handedOut v=pure v)
    (hq:Q v ⟨h,g,d,t,os⟩):wpAny (model prog w) A (getAttrBy (.ref a) (.str "place" tk) fill expr) Q E ⟨h,g,d,t,os⟩:=by
  obtain⟨nm,q,bs,sn,sub,ab,col,dd,k0,k1,k2,k3,k5,lC⟩:=FC.obj
  obtain⟨mN,hN,n1,n2,n3,n4,n5⟩:=FC.at
  have hC:=X _ _ lC
  have FB:=PySem.F.attrBase_ValueError
  have f3:=FB.ga.bind (.ref a)
  have hx0:(expr && onTheHeap (Value.builtin "BaseException.__getattribute__"))=false:=by cases expr <;> rfl
  have hx2:(Value.builtin "BaseException.__getattribute__" == Value.builtin "object.__getattribute__")=false:=by decide +kernel
  have hx1:(onTheHeap (Value.ref C) && Value.builtin "BaseException.__getattribute__" == Value.builtin "object.__getattribute__")=false:=by rw[hx2];rfl
  repeat (any_goals (first | assumption | (with_reducible refine wpAny_loadPart_at he ?_;rw[hc]) | (with_reducible refine wpAny_typeLookup_exc hC (hN _ X) FB.mro FB.ga.lookup ?_;rw[n4]) | (with_reducible refine wpAny_typeLookup_exc hC (hN _ X) FB.mro FB.noGetattr ?_;rw[n5]) | wp_step))
  refine codeAny_call_builtin FB.ga.plain PySem.F.entry_bexc_ga (wpAny_check_ga_own FB hC .base he hc (place_entry FC X he hc hx hd ho hl ?_))
  repeat (any_goals (first | assumption | rw[hv] | wp_step))
theorem place_attr {expr:Bool}{Q:Value→Shared→Prop} (FC:FaultCls K C N fI) (X:K.In h) (he:h.get? a=some oe) (hc:oe.cls=.ref C) (hx:oe.dict=some dx) (hd:oe.data=.fields vs) (ho:h.get? dx=some od) (hl:PySem.W.lookIn "place" od=some (some v)) (hv:handedOut v=pure v)
    (hq:Q v ⟨h,g,d,t+1,os⟩):wpAny (model prog w) A (getAttr (.ref a) "place" expr) Q E ⟨h,g,d,t,os⟩:=by
  unfold getAttr
  exact wpAny_bind (wpAny_mkText (place_by FC X he hc hx hd ho hl hv hq))
end
end L2

end
section
set_option linter.all false
set_option maxRecDepth 100000
set_option maxHeartbeats 1000000
namespace L2
open PySem PySem.Spec PyProof.Rows
structure Plain (X:Cx):Prop where
  stk:X.stack=X.env::X.outer
  fr:X.env.frame=some X.env.locals
  pn:X.pn=[]
  ex:X.ex=[]
section
variable {X:Cx}{σ:St}{H:Hp}{s:Shared}
theorem Inv.went (hp:Plain X) (I:Inv X [] σ H s) {h':Heap}{S:Addr→Prop} (hS:∀ b,S b→X.s_0.heap.get? b=none∧H b=none∧∃ o vs,s.heap.get? b=some o∧o.data=Data.fields vs)
    (K1:∀ b o,s.heap.get? b=some o→b ∉ frs X.stack→¬ S b→h'.get? b=some o) (K2:∀ b o,s.heap.get? b=some o→¬ S b→∃ sl,h'.get? b=some { o with slots:=sl }):Inv X [] σ H { s with heap:=h' }:=by
  have nex:∀ b,b ∉ X.ex:=fun b z=>by rw[hp.ex] at z;cases z
  have nS:∀ b o,X.s_0.heap.get? b=some o→¬ S b:=fun b o q z=>by rw[(hS b z).1] at q;cases q
  have neL:∀ b o,X.s_0.heap.get? b=some o→b≠X.env.locals:=fun b o e=>Nat.ne_of_lt (Nat.lt_of_lt_of_le (Heap.lt_size e) I.ok.above)
  have stkM:∀ b,b∈frs X.stack→b=X.env.locals∨b∈X.fs:=fun b hb=>by
    have hb':b∈frs (X.env::X.outer):=hp.stk ▸ hb
    unfold frs at hb'
    rw[List.filterMap_cons,hp.fr] at hb'
    exact List.mem_cons.mp hb'
  have notFields:∀ b o,s.heap.get? b=some o→(∀ vs,o.data≠.fields vs)→¬ S b:=fun b o q n z=>by
    obtain⟨_,_,o',vs,q',d⟩:=hS b z
    rw[q] at q';cases q';exact n vs d
  have cellK:∀ c v,s.heap.IsCell c v→h'.IsCell c v:=fun c v ⟨o,ho,hd⟩=>by
    obtain⟨sl,q⟩:=K2 c o ho (notFields c o ho fun vs z=>by rw[hd] at z;cases z)
    exact⟨_,q,hd⟩
  refine⟨I.ok,I.os,I.bare,⟨fun b o e n hb hx=>?_,fun b o e n hb hx=>?_,fun b o e n hx=>I.base.free b o e n hx,fun b o e hx=>?_,I.base.tups,I.base.frzs,I.base.tbls⟩,?_,fun x c e=>?_,I.free,I.freeC,fun p hp'=>?_,fun b o q=>?_,I.len⟩
  · exact K1 b o (I.base.keep b o e n hb hx) (fun z=>(stkM b z).elim (neL b o e) hb) (nS b o e)
  · obtain⟨sl,e1⟩:=I.base.slot b o e n hb hx
    obtain⟨sl',e2⟩:=K2 b _ e1 (nS b o e)
    exact⟨sl',e2⟩
  · obtain⟨o',e1⟩:=I.base.there b o e hx
    obtain⟨sl',e2⟩:=K2 b _ e1 (nS b o e)
    exact⟨_,e2⟩
  · obtain⟨m,⟨o,es,ep,ho,hd,r⟩,hl⟩:=I.loc
    obtain⟨sl,q⟩:=K2 _ o ho (notFields _ o ho fun vs z=>by rw[hd] at z;cases z)
    refine⟨m,⟨_,es,ep,q,hd,r⟩,fun i x v e1 e2 e3=>?_⟩
    obtain⟨u,r,l⟩:=hl i x v e1 e2 e3
    refine⟨u,r,?_⟩
    rcases l with l | ⟨k,c,e,z⟩
    · exact .inl l
    · exact .inr ⟨k,c,e,cellK c _ z⟩
  · obtain⟨v,z⟩:=I.cell x c e
    exact⟨v,cellK c v z⟩
  · rw[hp.pn] at hp';cases hp'
  · refine (I.hok b o q).stay (fun c u hc qc=>?_) (fun _ z=>z) fun _ _ z=>z
    have tc:H c≠none:=by
      rcases hc with rfl | hc
      · rw[q];simp
      · rw[hc];simp
    exact K1 c u qc (fun z=>tc (I.stkFree c z)) fun z=>tc (hS c z).2.1
abbrev Cx.inExcept (X:Cx) (a dx:Addr) (oe od:Obj):Cx:={ X with A:=X.A.mark (some (.ref a)),calm:=false,pn:=[(a,oe),(dx,od)],xe:=fun _ _=>False }
theorem Inv.inExcept (I:Inv X [] σ H s) {a dx:Addr}{oe od:Obj}{vs:Array Value} (ha:s.heap.get? a=some oe) (hoe:oe.data=.fields vs) (na:H a=none) (hd:s.heap.get? dx=some od) (hod:∀ v,od.data≠.cell v) (nd:H dx=none)
    (fa:a ∉ X.fs) (fd:dx ∉ X.fs) (la:a≠X.env.locals) (ld:dx≠X.env.locals):Inv (X.inExcept a dx oe od) [] σ H s:=by
  have ok:=I.ok
  refine⟨⟨ok.mod,ok.kind,ok.glob,ok.blt,ok.above,ok.inj,ok.has,ok.cab,(fun z=>Bool.noConfusion z),ok.frames,ok.stk,ok.exf,ok.bs,ok.bsz,ok.noex,ok.exfs,ok.funs,ok.frf⟩,I.os,I.bare,I.base,I.loc,I.cell,I.free,I.freeC,fun p hp=>?_,I.hok,I.len⟩
  rcases List.mem_cons.mp (List.append_nil [(a,oe),(dx,od)] ▸ hp) with rfl | hp
  · exact⟨ha,na,la,fa,fun v z=>by rw[show oe.data=_ from hoe] at z;cases z⟩
  · rcases List.mem_cons.mp hp with rfl | hp
    · exact⟨hd,nd,ld,fd,hod⟩
    · cases hp
theorem Inv.forget {X:Cx}{a dx:Addr}{oe od:Obj} (hp:Plain X) (I:Inv (X.inExcept a dx oe od) [] σ H s) (ok:X.Ok) {h':Heap}{m':Str→Option Value}{t':Nat} (hn:h'.Ns X.env.locals m') (hs:Heap.SameBut X.env.locals s.heap h') :
    Inv X [] (List.replicate X.N.length none) H { s with heap:=h',toks:=t' }:=by
  have ib:Un X.fs X.ex X.H_0 H X.s_0.heap s.heap:=I.base
  have neL:∀ b o,X.s_0.heap.get? b=some o→b≠X.env.locals:=fun b o e=>Nat.ne_of_lt (Nat.lt_of_lt_of_le (Heap.lt_size e) ok.above)
  have free:H X.env.locals=none:=I.free
  refine⟨ok,I.os,I.bare,⟨fun b o e n hb hx=>?_,fun b o e n hb hx=>?_,fun b o e n hx=>ib.free b o e n hx,fun b o e hx=>?_,ib.tups,ib.frzs,ib.tbls⟩,⟨m',hn,fun i x v _ e2 _=>?_⟩,fun x c e=>?_,free,I.freeC,fun p hp'=>?_,fun b o q=>?_,List.length_replicate⟩
  · exact (hs.2 b (neL b o e)).trans (ib.keep b o e n hb hx)
  · obtain⟨sl,e1⟩:=ib.slot b o e n hb hx
    exact⟨sl,(hs.2 b (neL b o e)).trans e1⟩
  · obtain⟨o',e1⟩:=ib.there b o e hx
    exact⟨o',(hs.2 b (neL b o e)).trans e1⟩
  · rw[List.getElem?_replicate] at e2
    split at e2 <;> cases e2
  · obtain⟨v,o,ho,hd⟩:=I.cell x c e
    exact⟨v,o,(hs.2 c (I.cne x c e)).trans ho,hd⟩
  · rw[hp.pn] at hp';cases hp'
  · refine (I.hok b o q).stay (fun c u hc qc=>(hs.2 c fun z=>?_).trans qc) (fun _ z=>z) fun _ _ z=>z
    subst z
    rcases hc with rfl | hc
    · rw[free] at q;cases q
    · rw[free] at hc;cases hc
end
def PS0 (X:Cx) (st:Stmt) (t:TS):Prop :=
  ∀ (s:Shared) (σ:St) (H:Hp) (D:Ends),Inv X [] σ H s→t D σ H→wpAny (model X.prog X.w) X.A (exec st X.env) (SP X [] D) X.xe s
def PSs0 (X:Cx) (st:List Stmt) (t:TS):Prop :=
  ∀ (s:Shared) (σ:St) (H:Hp) (D:Ends),Inv X [] σ H s→t D σ H→wpAny (model X.prog X.w) X.A (execs st X.env) (SP X [] D) X.xe s
section
variable {X:Cx}{st:Stmt}{rest:List Stmt}{t u:TS}
theorem PS.at0 (h:PS X st t):PS0 X st t:=h []
theorem PSs.at0 (h:PSs X rest t):PSs0 X rest t:=h []
theorem ps0_cons (h1:PS0 X st t) (h2:PSs0 X rest u):PSs0 X (st::rest) (tSeq t u):=by
  intro s σ H D I h
  refine wpAny_execs_cons (thn (h1 s σ H { D with nx:=u D } I h) fun f s1 q=>?_)
  cases f with
  | next =>
    obtain⟨σ',H',I',q⟩:=q
    exact h2 s1 σ' H' D I' q
  | brk=>exact q
  | cont=>exact q
  | ret v=>exact q
end
end L2

end
section
set_option linter.all false
set_option maxRecDepth 100000
set_option maxHeartbeats 1000000
namespace L2
open PySem PySem.Spec PyProof.Rows
theorem Inv.nopins {X:Cx}{pins:List (Addr×Obj)}{σ:St}{H:Hp}{s:Shared} (I:Inv X pins σ H s):Inv X [] σ H s :=
  ⟨I.ok,I.os,I.bare,I.base,I.loc,I.cell,I.free,I.freeC,fun p hp=>I.pin p (List.mem_append.mpr (.inl (List.append_nil X.pn ▸ hp))),I.hok,I.len⟩
def onlyAt (n i:Nat) (v:V):St:=(List.replicate n none).set i (some v)
def gTry (n i:Nat) (t3:Addr→Int→TS) (D:Ends):XK:=fun v _ H1=>∃ p,v=.int p 0∧∀ a,t3 a p { nx:=fun _ _=>False,rt:=D.rt } (onlyAt n i (.ref a)) H1
def sTry (n i:Nat) (t:XK→TS) (t3:Addr→Int→TS):TS:=fun D σ H=>t (gTry n i t3 D) D σ H
theorem ps0_try {X:Cx}{C NC fI:Addr}{st:Stmt}{body suite:List Stmt}{b0:Stmt}{x n:Str}{np hpos pos:Pos}{i:Nat}{t:XK→TS}{t3:Addr→Int→TS} (hp:Plain X) (FO:FaultOk X.K C NC fI st) (hg:Gl X x) (hm:X.mg x=some (.ref C))
    (hN:X.N.Nodup) (hi:X.N[i]?=some n) (hk:X.env.scope.names.lookup n=some .local) (hfn:X.fn n=true)
    (hb:∀ (G:XK) (E1:Value→Shared→Prop),Passes (CXF X.prog X.w C) (X.wish E1) G→PSs (X.wish E1) body (t G))
    (hs:∀ (a dx:Addr) (oe od:Obj) (vs:Array Value) (p:Int) (tk:Tok),oe.cls=.ref C→oe.dict=some dx→oe.data=.fields vs→PySem.W.lookIn "place" od=some (some (.int p tk))→PSs (X.inExcept a dx oe od) (b0::suite) (t3 a p))
    (hdb:(x == ("__debug__":Str))=false:=by decide) :
    PS0 X (.Try body [.ExceptHandler (some (.Name x np)) (some n) (b0::suite) hpos] [] [] pos) (sTry X.N.length i t t3):=by
  intro s σ H D I h
  have nex:∀ b,b ∉ X.ex:=fun b z=>by rw[hp.ex] at z;cases z
  have pass:Passes (CXF X.prog X.w C) (X.wish fun e s1=>∃ σ' H1 p,Inv X [] σ' H1 s1∧Flt C X.s_0.heap (frs X.stack) H1 e p s1.heap∧gTry X.N.length i t3 D (.int p 0) none H1) (gTry X.N.length i t3 D):=by
    intro pins σ1 H1 s1 e s2 I1 h1
    obtain⟨H2,p,os,bare,un,hok,flt,hE⟩:=h1
    have I1':=I1.unwish
    have I2:Inv X pins σ1 H2 s2:=I1'.call' os un hok bare (fun b z=>absurd z (by simp))
    obtain⟨a,dx,tb,he,fly,r1,r2,r3,r4,yd,r5⟩:=flt.ex
    have th:∀ b o,X.s_0.heap.get? b=some o→∃ o',s1.heap.get? b=some o':=fun b o q=>I1'.base.there b o q (nex b)
    exact⟨σ1,H2,p,I2.nopins,⟨a,dx,tb,he,fly.mono th,r1,r2,r3,r4,none_of_there th yd,r5⟩,hE⟩
  refine wpAny_Try_except (wpAny_mono (hb _ _ pass [] s σ H D (I.wish _) h) (fun f s1 q=>?_) fun e s1 q=>?_)
  · have q':=q.unwish
    cases f with
    | next=>exact wpAny_execs_nil q'
    | brk=>exact q'
    | cont=>exact q'
    | ret v=>exact q'
  · obtain⟨σ1,H1,p,I1,flt,p',hp',hG⟩:=q
    cases hp'
    obtain⟨a,dx,tb,rfl,fly,na,nT,pl,nd,yd,fd⟩:=flt.ex
    have th:∀ b o,X.s_0.heap.get? b=some o→∃ o',s1.heap.get? b=some o':=fun b o q=>I1.base.there b o q (nex b)
    have hst:s1.heap.FunFrames X.base (X.env::X.outer):=hp.stk ▸ I1.stack
    have hfr:X.A.frames=some (X.env::X.outer):=hp.stk ▸ I1.ok.frames
    have nfa:=fly.notFrame hst
    have flds:∀ b,(b=a∨tb=some b)→X.s_0.heap.get? b=none∧H1 b=none∧∃ o vs,s1.heap.get? b=some o∧o.data=Data.fields vs:=fun b z=>by
      rcases z with rfl | z
      · obtain⟨oe,vs,he,_,_,hd,_⟩:=fly.ex
        exact⟨fly.young,na,oe,vs,he,hd⟩
      · obtain⟨y,_,oT,ts,hT,hd,_⟩:=fly.tr b z
        exact⟨y,nT b z,oT,ts,hT,hd⟩
    refine note_fly (base:=X.base) (L:=X.env.locals) hfr hst hp.fr fly th fun h1 fly1 k1 k2=>?_
    rw[←hp.stk] at k1
    have I2:Inv X [] σ1 H1 { s1 with heap:=h1 }:=I1.went hp (S:=fun b=>b=a∨tb=some b) flds (fun b o q z1 z2=>k1 b o q z1 (fun z=>z2 (.inl z)) fun z=>z2 (.inr z)) fun b o q z2=>k2 b o q (fun z=>z2 (.inl z)) fun z=>z2 (.inr z)
    have nT1:H1 s1.heap.objs.size=none:=I1.hok.fresh (Nat.le_refl _)
    have ndx:dx≠a∧tb≠some dx:=⟨fun z=>by subst z;obtain⟨oe,vs,he,_,_,hd,_⟩:=fly.ex;exact pl.notFields he hd,fun z=>by obtain⟨_,_,oT,ts,hT,hd,_⟩:=fly.tr dx z;exact pl.notFields hT hd⟩
    obtain⟨od,tk,hod,hlk⟩:=pl
    have hod1:h1.get? dx=some od:=k1 dx od hod fd ndx.1 ndx.2
    have ndT:dx≠s1.heap.objs.size:=Nat.ne_of_lt (Heap.lt_size hod)
    refine flight_fly (s:={ s1 with heap:=h1 }) fly1 fun h2 fly2 k3 _=>?_
    have sT:∀ {h:Heap}{fl:Value},Fly X.s_0.heap C a dx (some s1.heap.objs.size) fl h→∀ b,b=s1.heap.objs.size→X.s_0.heap.get? b=none∧H1 b=none∧∃ o vs,h.get? b=some o∧o.data=Data.fields vs:=fun f b z=>by
      subst z
      obtain⟨y,_,oT,ts,hT,hd,_⟩:=f.tr _ rfl
      exact⟨y,nT1,oT,ts,hT,hd⟩
    have I3:Inv X [] σ1 H1 { s1 with heap:=h2 }:=Inv.went (s:={ s1 with heap:=h1 }) hp I2 (S:=fun b=>b=s1.heap.objs.size) (sT fly1) (fun b o q _ z=>k3 b o q z) fun b o q z=>⟨o.slots,k3 b o q z⟩
    have hod2:h2.get? dx=some od:=k3 dx od hod1 ndT
    obtain⟨nm,q,bs,sn,sub,ab,col,dd,c0,c1,c2,c3,c5,lC⟩:=FO.cls.obj
    refine wpAny_handleBy_cons (codeAny_handlers_test ?_) (by intro q;cases q)
    have notCell:∀ v,od.data≠.cell v:=fun v z=>by
      unfold PySem.W.lookIn at hlk
      rw[z] at hlk
      cases hlk
    have locM:X.env.locals∈frs (X.env::X.outer):=by
      unfold frs
      rw[List.filterMap_cons,hp.fr]
      exact List.mem_cons_self
    have fa:a ∉ X.fs:=fun z=>nfa.1 (by
      unfold frs
      rw[List.filterMap_cons,hp.fr]
      exact List.mem_cons.mpr (.inr z))
    have fdx:dx ∉ frs (X.env::X.outer):=hp.stk ▸ fd
    have fd':dx ∉ X.fs:=fun z=>fdx (by
      unfold frs
      rw[List.filterMap_cons,hp.fr]
      exact List.mem_cons.mpr (.inr z))
    have la:a≠X.env.locals:=fun z=>nfa.1 (z ▸ locM)
    have ld:dx≠X.env.locals:=fun z=>fdx (z ▸ locM)
    obtain⟨oe,vs,he2,hc2,hx2,hd2,hv2⟩:=fly2.ex
    have J2:=I3.inExcept he2 hd2 na hod2 notCell nd fa fd' la ld
    refine ld_glob (X:=X.inExcept a dx oe od) J2 hg hm ?_ hdb
    refine wpAny_excMatches_sub_self (I3.kIn _ _ lC) he2 hc2 PySem.F.excBase_ValueError.hasBase ?_
    rw[if_pos rfl]
    refine codeAny_handlers_suite_as ?_
    refine flight_fly (s:={ s1 with heap:=h2 }) fly2 fun h3 fly3 k4 _=>?_
    have I4:Inv X [] σ1 H1 { s1 with heap:=h3 }:=Inv.went (s:={ s1 with heap:=h2 }) hp I3 (S:=fun b=>b=s1.heap.objs.size) (sT fly2) (fun b o q _ z=>k4 b o q z) fun b o q z=>⟨o.slots,k4 b o q z⟩
    have hod3:h3.get? dx=some od:=k4 dx od hod2 ndT
    have haT:a≠s1.heap.objs.size:=fun z=>(fly2.tr _ rfl).2.1 z.symm
    have he3:h3.get? a=some oe:=k4 a oe he2 haT
    have J3:=I4.inExcept he3 hd2 na hod3 notCell nd fa fd' la ld
    have J3':Inv (X.inExcept a dx oe od) [] (List.replicate X.N.length none) H1 { s1 with heap:=h3 }:=J3.weak (by rw[List.length_replicate,J3.len]) fun j v z=>by
      rw[List.getElem?_replicate] at z
      split at z <;> cases z
    refine store_ok (X:=X.inExcept a dx oe od) (v:=V.ref a) J3' hN hi (.inl hk) rfl (fun s4 J4=>?_) (.inl hfn)
    refine wpAny_mono (hs a dx oe od vs p tk hc2 hx2 hd2 hlk [] s4 (onlyAt X.N.length i (.ref a)) H1 _ J4 (hG a)) (fun f s5 q5=>?_) fun _ _ z=>z.elim
    cases f with
    | next=>obtain⟨_,_,_,z⟩:=q5;exact z.elim
    | brk=>obtain⟨_,_,_,z⟩:=q5;exact z.elim
    | cont=>obtain⟨_,_,_,z⟩:=q5;exact z.elim
    | ret u =>
      obtain⟨v,σ5,H5,J5,r5,q5⟩:=q5
      obtain⟨m5,hn5,_⟩:=J5.loc
      refine wpAny_nameGoes hk hn5 (by rw[I.ok.kind];rfl) fun h6 m6 hn6 hs6=>?_
      exact⟨v,_,H5,Inv.forget hp J5 I.ok hn6 hs6,r5,q5⟩
def tPlace (te:TE) (a:Addr) (p:Int):TE:=fun σ H Q=>te σ H fun v H1=>v=.ref a∧Q (.int p) H1
theorem pe_place {X:Cx}{C NC fI a dx:Addr}{oe od:Obj}{vs:Array Value}{p:Int}{tk:Tok}{e:Expr}{te:TE}{pos:Pos} (FC:FaultCls X.K C NC fI) (hc:oe.cls=.ref C) (hx:oe.dict=some dx) (hd:oe.data=.fields vs) (hl:PySem.W.lookIn "place" od=some (some (.int p tk)))
    (he:PE (X.inExcept a dx oe od) e te) (hb:attributeBase e "place" X.env (eval e X.env)=eval e X.env:=by rfl):PE (X.inExcept a dx oe od) (.Attribute e "place" pos) (tPlace te a p):=by
  intro pins s σ H Q I h
  refine attr_of hb (thn (he pins s σ H _ I h) fun u s1 ⟨v,H1,I1,rv,ev,q⟩=>?_)
  subst ev
  obtain rfl:u=Value.ref a:=rv
  have p1:=(I1.pin (a,oe) (List.mem_append.mpr (.inl List.mem_cons_self))).1
  have p2:=(I1.pin (dx,od) (List.mem_append.mpr (.inl (List.mem_cons.mpr (.inr List.mem_cons_self))))).1
  have kin:=I1.kIn
  obtain⟨hh,g,d,t,os⟩:=s1
  exact place_attr FC kin p1 hc hx hd p2 hl rfl ⟨.int p,H1,I1.tok _,⟨_,rfl⟩,q⟩
theorem Fun.ok0 {P:Program}{w:World}{K:PySem.W.Frag}{mg:Str→Option Value}{base:Heap}{x qual:Str}{st:Stmt}{f:Addr}{fd:FuncData}{N ps:List Str}{k:Nat}{sp:Sp} (F:Fun K x qual st f fd) (S:FnScope N ps (defScope st)) (len:∀ vs H Q E,sp vs H Q E→vs.length=ps.length)
    (hbody:∀ (cdv:Value) (A:Around) (outer:List Env) (s:Shared) (H:Hp) (vs:List V) (Q:VK) (E:XK),Room k (A.deeper (envOfC qual (defScope st) s.heap.objs.size f cdv))→sp vs H Q E →
      ∃ t,PSs0 (cxOf CX0 P w K mg base N qual (defScope st) f cdv A outer s H E).nox (defBody st) t∧t { nx:=fun _ H'=>Q .non H',rt:=Q } (start N vs) H):FnOk P w K mg base CX0 (k+1) f fd ps sp:=by
  obtain⟨oc,od,kV,doc,pm,an,cdv,ct,osl,rfl,lk,hcd⟩:=F.ex
  refine⟨len,fun A outer s H args us vs Q E hr e0 hb r hsp=>?_⟩
  have hl:=len _ _ _ _ hsp
  have KX:K.In s.heap:=e0.mod.kin.keeps fun b o e=>(e0.bs b o e).1
  have lim:s.heap.NoLimit:=e0.mod.nolimit.keeps fun b o e=>(e0.bs b o e).1
  have hkind:∀ y∈ps.zip us,(defScope st).names.lookup y.1=some .local∨((defScope st).names.lookup y.1=some .cell∧((cellsFrom (s.heap.objs.size+1) (defScope st).names []).lookup y.1).isSome=true):=fun ⟨n,v⟩ hy=>by
    rcases S.par n (List.of_mem_zip hy).1 with q | q
    · exact .inl q
    · exact .inr ⟨q,PySem.W.cellsFrom_some _ _ _ (.inl q)⟩
  refine codeAny_call_function hr.depth (KX _ _ lk) rfl S.co S.gen rfl (PySem.W.codeRec_of KX hcd) (hb _ _ _ _ ?_)
  refine wpAny_newFunctionEnv_cells S.kind hkind fun env henv s1 x=>?_
  subst henv
  refine⟨lim.keeps x.toInCall.keep,codeAny_func ?_⟩
  obtain⟨t,ht,hq⟩:=hbody cdv A outer s H vs Q E (hr.deeper _) hsp
  have I:Inv (cxOf CX0 P w K mg base N qual (defScope st) f cdv A outer s H E) [] (start N vs) H s1:=inv_start S hr.hd e0 hl r x
  refine wpAny_mono (ht s1 (start N vs) H _ (I.wish _) hq) (fun fl s' hs=>?_) fun e s' hs=>hs.elim
  have fin:∀ {σ':St}{H':Hp}{v:V}{u:Value},Inv (cxOf CX0 P w K mg base N qual (defScope st) f cdv A outer s H E).nox [] σ' H' s'→RelV v u→Q v H'→CE outer P w H s Q u s':=fun {σ' H' v u} J rv q=>⟨v,H',J.os,J.bare,J.base,J.hok,rv,q⟩
  cases fl with
  | ret u =>
    obtain⟨v,σ',H',J,rv,q⟩:=hs
    exact fin J rv q
  | next =>
    obtain⟨σ',H',J,q⟩:=hs
    exact fin (v:=V.non) (u:=Value.none) J rfl q
  | brk =>
    obtain⟨_,_,_,q⟩:=hs
    exact False.elim q
  | cont =>
    obtain⟨_,_,_,q⟩:=hs
    exact False.elim q
theorem plain_of {CX:CXT}{P:Program}{w:World}{K:PySem.W.Frag}{mg:Str→Option Value}{base:Heap}{N:List Str}{qual:Str}{scope:Scope}{f:Addr}{cd:Value}{A:Around}{outer:List Env}{s:Shared}{H:Hp}{E:XK}{E1:Value→Shared→Prop} :
    Plain ((cxOf CX P w K mg base N qual scope f cd A outer s H E).wish E1):=⟨rfl,rfl,rfl,rfl⟩
end L2

end
section
set_option linter.all false
set_option maxRecDepth 100000
set_option maxHeartbeats 4000000
namespace L2
open PySem PySem.Spec PyProof.Rows
open PySem.W (WData Codec OpenSpec Well WellAll ReadsW ReadsAllW)
theorem spec_callS {P:Program}{w:World}{K:PySem.W.Frag}{mg mb:Str→Option Value}{CX:CXT}{k:Nat}{fa:Addr}{fd:FuncData}{ps:List Str}{sp:Sp}{s₁:Shared}{vals:List Value}{ds:List WData}{R:PySem.W.WRecords}{cl:Str→Option Addr}{d0:WData}
    (KX:K.In s₁.heap) (hns:s₁.heap.Ns mainGlobals mg) (hb:s₁.heap.Ns builtinsNs mb) (hbb:∀ x:Str,x≠"__name__"→mb x=bootBuiltins x) (hlim:s₁.heap.NoLimit) (hsr:s₁.heap.NoSeer) (hg:s₁.gens=#[])
    (hwl:WellAll w.params s₁.heap vals ds) (hpl:plWs ds=true) (hwt:∀ d∈ds,d.weight≤1048576) (hr:Room k callerA)
    (F:∀ base:Heap,K.In base→base.Ns mainGlobals mg→base.NoSeer→FnOk P w K mg base CX k fa fd ps sp) (hbind:∀ (s:Shared) (us:List Value),us.length=ps.length→BindsTo s fd ⟨us,[]⟩ (ps.zip us)) (hlen:ds.length=ps.length)
    (hsp:∀ (H:Hp) (xs:List V),OnlyF H→DwAll K H xs ds→sp xs H (fun v H'=>Dw K H' v d0) fun _ _ _=>False)
    (hCX:∀ H e s',CX [] H s₁ (fun _ _ _=>False) e s'→False) :
    codeAny (model P w) callerA (.call (.ref fa) ⟨vals,[]⟩) (fun r s'=>∃ u as,r=.ok (.ret u)∧ReadsW R cl s'.heap u d0 as∧OldK s₁.heap s'.heap∧s'.os=s₁.os∧AllBare s'.gens) s₁:=by
  obtain⟨A,ho,ar⟩:=area_all ds vals hwl hpl hwt
  have hO:OnlyF (argH K s₁.heap A):=argH_only ar
  have hok:HOk P w (argH K s₁.heap A) s₁.heap:=argH_ok ar
  have hS:=dw_all KX ar ds vals hwl hpl ho
  have hV:=vals_toV ho
  have hK:∀ b u,argH K s₁.heap A b=some u→K.lookup b=none:=fun b u q=>(argH_is ar q).1
  have noA:∀ {b:Addr}{o:Obj}{es:Array DictEntry}{ep:Nat},s₁.heap.get? b=some o→o.data=.dict es ep→argH K s₁.heap A b=none:=fun {b o es ep} e d=>by
    cases q:argH K s₁.heap A b with
    | none=>rfl
    | some u =>
      obtain⟨_,vs,_,_,⟨e2,_⟩ | ⟨e2,_⟩⟩:=argH_is ar q
      · rw[e2] at e
        cases e
        have d':Data.seq vs.toArray _=Data.dict es ep:=d
        cases d'
      · rw[e2] at e
        cases e
        have d':Data.seq vs.toArray _=Data.dict es ep:=d
        cases d'
  have noM:∀ {b:Addr}{o:Obj},s₁.heap.get? b=some o→o.cls=.type "module"→argH K s₁.heap A b=none:=fun {b o} e d=>by
    cases q:argH K s₁.heap A b with
    | none=>rfl
    | some u =>
      obtain⟨_,vs,_,_,⟨e2,_⟩ | ⟨e2,_⟩⟩:=argH_is ar q
      · rw[e2] at e
        cases e
        have d':Value.type "list"=Value.type "module":=d
        exact absurd (Value.type.inj d') (by decide)
      · rw[e2] at e
        cases e
        have d':Value.type "tuple"=Value.type "module":=d
        exact absurd (Value.type.inj d') (by decide)
  generalize argH K s₁.heap A=H at hO hok hS hK noA noM
  have base_of:∀ {b:Addr}{o:Obj},s₁.heap.get? b=some o→H b=none→(hidT s₁.heap H).get? b=some o:=fun e n=>hidT_get e n
  have nsK:∀ {b:Addr}{m:Str→Option Value},s₁.heap.Ns b m→(hidT s₁.heap H).Ns b m:=fun {b m} ⟨o,es,ep,e,d,r⟩=>⟨o,es,ep,base_of e (noA e d),d,r⟩
  have nK:∀ b o,K.lookup b=some o→H b=none:=fun b o e=>by
    cases q:H b with
    | none=>rfl
    | some u =>
      rw[hK b u q] at e
      cases e
  have hKb:K.In (hidT s₁.heap H):=fun b o e=>base_of (KX b o e) (nK b o e)
  have hSb:(hidT s₁.heap H).NoSeer:=⟨let ⟨mc,a,b⟩:=hsr.statics;⟨mc,nsK a,b⟩,let ⟨mm,a,b⟩:=hsr.mods;⟨mm,nsK a,b⟩,let ⟨mb,a,b⟩:=hsr.imp;⟨mb,nsK a,b⟩,let ⟨mg,bm,ob,a,b,c,d,e⟩:=hsr.main;⟨mg,bm,ob,nsK a,b,base_of c (noM c d),d,e⟩⟩
  have hM:Mod K mg (hidT s₁.heap H):=⟨hKb,nsK hns,⟨mb,nsK hb,hbb⟩,let ⟨mc,h1,h2⟩:=hlim;⟨mc,nsK h1,h2⟩⟩
  have e0:Env0 P w K mg (hidT s₁.heap H) callerA [] s₁ H:=⟨rfl,hM,fun b o e=>of_hidT e,Nat.le_of_eq (hidT_size _ _),trivial,fun b hb=>absurd (show b∈([]:List Addr) from hb) (by simp),hok,.of_eq hg⟩
  have hl:vals.length=ps.length:=by rw[wellAll_len hwl];exact hlen
  refine codeAny_mono ((F _ hKb (nsK hns) hSb).run callerA [] s₁ H ⟨vals,[]⟩ vals (vals.map toV) _ _ hr e0 (hbind s₁ vals hl) hV (hsp H _ hO hS)) fun r s' x=>?_
  cases r with
  | error e=>exact (hCX H e s' x).elim
  | ok fl =>
    cases fl with
    | next=>exact False.elim x
    | brk=>exact False.elim x
    | cont=>exact False.elim x
    | ret u =>
      obtain⟨v,H',os,bare,un,hok',r',q⟩:=x
      have kept:∀ b o,s₁.heap.get? b=some o→s'.heap.get? b=some o:=fun b o e=>by
        cases q2:H b with
        | none=>exact un.keep b o e q2 (by intro z;exact absurd (show b∈([]:List Addr) from z) (by simp)) (by simp)
        | some u2 =>
          rcases hO b with z | ⟨ob,u3,z⟩
          · rw[q2] at z
            cases z
          · have z2:=un.frzs b ob _ z
            obtain⟨e1,_⟩:=hok b _ z
            obtain⟨e2,_⟩:=hok' b _ z2
            rw[e] at e1
            cases e1
            exact e2
      have KX':K.In s'.heap:=fun b o e=>kept b o (KX b o e)
      obtain⟨as,hrd⟩:=Dw.reads (R:=R) (cl:=cl) hok' KX' d0 v u q r'
      exact⟨u,as,rfl,hrd,OldK.of_keep kept,os,bare⟩
theorem walk_specS0 {r:OpenSpec}{k:Nat}{q:Program}{loose:List Str}{XP:(Str→Option Value)→Heap→Prop}{YP:World→Heap→Prop}{d:DefRec}{K:Params→PySem.W.Frag}{CX:World→CXT}{ps:List Str}{sp:World→Sp}
    (hwell:r.wellSaid=true) (hdf:d.params.defaults=[]) (hlen:r.args.length=ps.length) (hr:Room k callerA)
    (hi:importsNone q=true) (hY:∀ (w:World) (h:Heap),YP w h→(K w.params).In h)
    (F:∀ (w:World) (mg:Str→Option Value) (fa:Addr) (h:Heap),YP w h→(K w.params).In h→h.Ns mainGlobals mg→mg d.name=some (.ref fa) →
      ∃ fd:FuncData,(∀ (s:Shared) (us:List Value),us.length=ps.length→BindsTo s fd ⟨us,[]⟩ (ps.zip us)) ∧
        ∀ base:Heap,(K w.params).In base→base.Ns mainGlobals mg→base.NoSeer→FnOk r.prog w (K w.params) mg base (CX w) k fa fd ps (sp w))
    (hsp:∀ (w:World) (H:Hp) (xs:List V) (a:Codec.denoteAll r.args),OnlyF H→Codec.withinAll r.args a=true→Codec.app r.args r.asked a=true→DwAll (K w.params) H xs (Codec.encAll r.args a) →
      sp w xs H (fun v H'=>Dw (K w.params) H' v (r.ret.enc (Codec.app r.args r.f a))) fun _ _ _=>False)
    (hCX:∀ (w:World) (H:Hp) (s:Shared) (e:Value) (s':Shared),CX w [] H s (fun _ _ _=>False) e s'→False) :
    PySem.W.WalkOS q loose XP YP r d [] (fun f vs=>PySem.call f vs):=by
  intro w s_0 s₁ mg mb G Y fa o pm cd doc dV kV ho hd hcd hD hmg hg args vals as hpre hlay hrd hwl hlo
  obtain⟨a,e1,e2⟩:=PySem.W.os_pre_some hpre
  obtain⟨e3,hwi⟩:=Codec.encAll_of_decAll r.args args a e1
  subst e3
  have KX:=hY w _ Y
  obtain⟨fd,hb,hF⟩:=F w mg fa _ Y KX G.T.g hmg
  refine PySem.W.enter_call (codeAny_mono (spec_callS (R:=[]) (cl:=classAt s_0.heap) (d0:=r.ret.enc (Codec.app r.args r.f a)) KX G.T.g G.T.b G.T.builtins G.T.nolimit (G.T.seer hi) hg hwl (pl_encAll _ _) (layable_weight hlay) hr hF hb (by rw[encAll_len];exact hlen)
    (fun H xs hO hS=>hsp w H xs a hO hwi e2 hS) fun H e s'=>hCX w H s₁ e s') fun r' s' hq=>?_)
  obtain⟨u,as',rfl,h1,h2,h3,h4⟩:=hq
  exact⟨.inl ⟨u,_,as',rfl,fun _=>rfl,h1,(OpenSpec.post_iff hwell hwi _ _).mpr rfl,fun z=>Bool.noConfusion (show false=true from z)⟩,h2,h3,h4⟩
theorem walk_specS {r:OpenSpec}{k:Nat}{q:Program}{loose:List Str}{XP:(Str→Option Value)→Heap→Prop}{YP:World→Heap→Prop}{d:DefRec}{K:Params→PySem.W.Frag}{CX:CXT}{ps:List Str}{sp:PySem.W.Frag→Sp}
    (hwell:r.wellSaid=true) (hdf:d.params.defaults=[]) (hlen:r.args.length=ps.length) (hr:Room k callerA)
    (hi:importsNone q=true) (hY:∀ (w:World) (h:Heap),YP w h→(K w.params).In h)
    (F:∀ (w:World) (mg:Str→Option Value) (fa:Addr) (h:Heap),YP w h→(K w.params).In h→h.Ns mainGlobals mg→mg d.name=some (.ref fa) →
      ∃ fd:FuncData,(∀ (s:Shared) (us:List Value),us.length=ps.length→BindsTo s fd ⟨us,[]⟩ (ps.zip us)) ∧
        ∀ base:Heap,(K w.params).In base→base.Ns mainGlobals mg→base.NoSeer→FnOk r.prog w (K w.params) mg base CX k fa fd ps (sp (K w.params)))
    (hsp:∀ (K:PySem.W.Frag) (H:Hp) (xs:List V) (a:Codec.denoteAll r.args),OnlyF H→Codec.withinAll r.args a=true→Codec.app r.args r.asked a=true→DwAll K H xs (Codec.encAll r.args a) →
      sp K xs H (fun v H'=>Dw K H' v (r.ret.enc (Codec.app r.args r.f a))) fun _ _ _=>False)
    (hCX:∀ (H:Hp) (s:Shared) (e:Value) (s':Shared),CX [] H s (fun _ _ _=>False) e s'→False) :
    PySem.W.WalkOS q loose XP YP r d [] (fun f vs=>PySem.call f vs) :=
  walk_specS0 (K:=K) (CX:=fun _=>CX) (sp:=fun w=>sp (K w.params)) hwell hdf hlen hr hi hY F (fun w H xs a h1 h2 h3 h4=>hsp (K w.params) H xs a h1 h2 h3 h4) fun _ H s e s'=>hCX H s e s'
end L2

end
section
set_option linter.all false
namespace Rr
open Root
def gcdRow (l:List Int):Nat:=l.foldl (fun (g:Nat) (z:Int)=>Nat.gcd g z.natAbs) 0
theorem dvd_foldl_gcd {k:Nat}:∀ (l:List Int) (g:Nat),k ∣ l.foldl (fun (g:Nat) (z:Int)=>Nat.gcd g z.natAbs) g↔k ∣ g∧∀ z∈l,k ∣ z.natAbs
  | [],g=>by simp
  | a::l,g=>by
    rw[List.foldl_cons,dvd_foldl_gcd l,Nat.dvd_gcd_iff]
    simp only[List.mem_cons,forall_eq_or_imp]
    exact⟨fun ⟨⟨h1,h2⟩,h3⟩=>⟨h1,h2,h3⟩,fun ⟨h1,h2,h3⟩=>⟨⟨h1,h2⟩,h3⟩⟩
theorem dvd_gcdRow {k:Nat} (l:List Int):k ∣ gcdRow l↔∀ z∈l,k ∣ z.natAbs:=by
  unfold gcdRow
  rw[dvd_foldl_gcd]
  exact⟨fun h=>h.2,fun h=>⟨Nat.dvd_zero k,h⟩⟩
theorem gcdRow_dvd {l:List Int}{z:Int} (h:z∈l):gcdRow l ∣ z.natAbs:=(dvd_gcdRow l).mp (Nat.dvd_refl _) z h
theorem foldl_gcd_mul (L:Nat):∀ (l:List Int) (g:Nat),l.foldl (fun (g:Nat) (z:Int)=>Nat.gcd g (L*z.natAbs)) (L*g)=L*l.foldl (fun (g:Nat) (z:Int)=>Nat.gcd g z.natAbs) g
  | [],g=>rfl
  | a::l,g=>by
    rw[List.foldl_cons,List.foldl_cons,Nat.gcd_mul_left,foldl_gcd_mul L l]
theorem dvd_foldl_gcdL {k L:Nat}:∀ (l:List Int) (g:Nat),k ∣ g→(∀ z∈l,k ∣ L*z.natAbs)→k ∣ l.foldl (fun (g:Nat) (z:Int)=>Nat.gcd g (L*z.natAbs)) g
  | [],g,h,_=>h
  | a::l,g,h,h2=>dvd_foldl_gcdL l _ (Nat.dvd_gcd h (h2 a (by simp))) fun z hz=>h2 z (by simp[hz])
theorem dvd_mul_gcdRow {k L:Nat} (l:List Int) (h:∀ z∈l,k ∣ L*z.natAbs):k ∣ L*gcdRow l:=by
  unfold gcdRow
  rw[←foldl_gcd_mul L l 0]
  exact dvd_foldl_gcdL l _ (by simp) h
theorem dvd_foldl_lcm:∀ (l:List Nat) (a x:Nat),(x=a∨x∈l)→x ∣ l.foldl Nat.lcm a
  | [],a,x,h=>by
    rcases h with h | h
    · rw[h];exact Nat.dvd_refl _
    · simp at h
  | b::l,a,x,h=>by
    rw[List.foldl_cons]
    rcases h with h | h
    · rw[h]
      exact Nat.dvd_trans (Nat.dvd_lcm_left a b) (dvd_foldl_lcm l _ _ (.inl rfl))
    · rcases List.mem_cons.mp h with h | h
      · rw[h]
        exact Nat.dvd_trans (Nat.dvd_lcm_right a b) (dvd_foldl_lcm l _ _ (.inl rfl))
      · exact dvd_foldl_lcm l _ _ (.inr h)
theorem foldl_lcm_dvd {m:Nat}:∀ (l:List Nat) (a:Nat),a ∣ m→(∀ x∈l,x ∣ m)→l.foldl Nat.lcm a ∣ m
  | [],a,h,_=>h
  | b::l,a,h,h2=>foldl_lcm_dvd l _ (Nat.lcm_dvd h (h2 b (by simp))) fun x hx=>h2 x (by simp[hx])
theorem den_row (z:Int) {D:Nat} (hD:0<D):((z:Rat) / ((D:Int):Rat)).den=D / Nat.gcd D z.natAbs:=by
  rw[Rat.intCast_natCast,←Rat.mkRat_eq_div,Rat.den_mkRat,if_neg (by lia)]
theorem lcm_row (ns:List Int) {D:Nat} (hD:0<D):lcmOf (ns.map fun (z:Int)=>(z:Rat) / ((D:Int):Rat))=D / gcdRow (ns++[(D:Int)]):=by
  have hg:gcdRow (ns++[(D:Int)]) ∣ D:=by
    have:=gcdRow_dvd (l:=ns++[(D:Int)]) (z:=(D:Int)) (by simp)
    simpa using this
  have hz:∀ z∈ns,gcdRow (ns++[(D:Int)]) ∣ z.natAbs:=fun z h=>gcdRow_dvd (by simp[h])
  unfold lcmOf
  rw[List.map_map]
  refine Nat.dvd_antisymm ?_ ?_
  · refine foldl_lcm_dvd _ _ (Nat.one_dvd _) fun x hx=>?_
    obtain⟨z,hzm,rfl⟩:=List.mem_map.mp hx
    show ((z:Rat) / ((D:Int):Rat)).den ∣ _
    rw[den_row z hD]
    have hgg:gcdRow (ns++[(D:Int)]) ∣ Nat.gcd D z.natAbs:=Nat.dvd_gcd hg (hz z hzm)
    obtain⟨t,ht⟩:=hgg
    obtain⟨e,he⟩:=Nat.gcd_dvd_left D z.natAbs
    generalize gcdRow (ns++[(D:Int)])=g at *
    generalize Nat.gcd D z.natAbs=G at *
    have gp:0<g:=Nat.pos_of_dvd_of_pos hg hD
    have Gp:0<G:=by
      rcases Nat.eq_zero_or_pos G with h | h
      · rw[h,Nat.zero_mul] at he;lia
      · exact h
    refine⟨t,?_⟩
    have e1:D / G=e:=by rw[he];exact Nat.mul_div_cancel_left _ Gp
    have e2:D / g=t*e:=by rw[he,ht,Nat.mul_assoc];exact Nat.mul_div_cancel_left _ gp
    rw[e1,e2,Nat.mul_comm]
  · have key:D ∣ ((ns.map (Rat.den ∘ fun (z:Int)=>(z:Rat) / ((D:Int):Rat))).foldl Nat.lcm 1)*gcdRow (ns++[(D:Int)]):=by
      refine dvd_mul_gcdRow _ fun z hzm=>?_
      rcases List.mem_append.mp hzm with h | h
      · have h1:=dvd_foldl_lcm (ns.map (Rat.den ∘ fun (z:Int)=>(z:Rat) / ((D:Int):Rat))) 1 _ (.inr (List.mem_map.mpr ⟨z,h,rfl⟩))
        have h2:(Rat.den ∘ fun (z:Int)=>(z:Rat) / ((D:Int):Rat)) z=D / Nat.gcd D z.natAbs:=den_row z hD
        rw[h2] at h1
        have h3:D=D / Nat.gcd D z.natAbs*Nat.gcd D z.natAbs:=(Nat.div_mul_cancel (Nat.gcd_dvd_left _ _)).symm
        have h4:=Nat.mul_dvd_mul h1 (Nat.gcd_dvd_right D z.natAbs)
        rw[←h3] at h4
        exact h4
      · have:z=(D:Int):=by simpa using h
        subst this
        exact Nat.dvd_mul_left _ _
    have gp:0<gcdRow (ns++[(D:Int)]):=Nat.pos_of_dvd_of_pos hg hD
    have key2:D / gcdRow (ns++[(D:Int)])*gcdRow (ns++[(D:Int)]) ∣ ((ns.map (Rat.den ∘ fun (z:Int)=>(z:Rat) / ((D:Int):Rat))).foldl Nat.lcm 1)*gcdRow (ns++[(D:Int)]):=by
      rw[Nat.div_mul_cancel hg]
      exact key
    exact Nat.dvd_of_mul_dvd_mul_right gp key2
def lessRow (l:List Int):List Int:=l.map fun (z:Int)=>z / (gcdRow l:Int)
theorem oneForm_row (ns:List Int) {d:Int} (hd:0<d):oneForm (ns.map fun (z:Int)=>(z:Rat) / (d:Rat))=lessRow (ns++[d]):=by
  obtain⟨D,rfl⟩:∃ D:Nat,d=(D:Int):=⟨d.toNat,by lia⟩
  have hD:0<D:=by lia
  have hg:gcdRow (ns++[(D:Int)]) ∣ D:=by
    have:=gcdRow_dvd (l:=ns++[(D:Int)]) (z:=(D:Int)) (by simp)
    simpa using this
  have gp:0<gcdRow (ns++[(D:Int)]):=Nat.pos_of_dvd_of_pos hg hD
  have hz:∀ z∈ns,gcdRow (ns++[(D:Int)]) ∣ z.natAbs:=fun z h=>gcdRow_dvd (by simp[h])
  unfold oneForm lessRow
  dsimp only
  rw[lcm_row ns hD]
  generalize gcdRow (ns++[(D:Int)])=g at *
  obtain⟨t,ht⟩:=hg
  have e2:D / g=t:=by rw[ht];exact Nat.mul_div_cancel_left _ gp
  rw[e2,List.map_append,List.map_map]
  refine congr (congrArg _ ?_) ?_
  · refine List.map_congr_left fun z hm=>?_
    obtain⟨u,hu⟩:(g:Int) ∣ z:=Int.ofNat_dvd_left.mpr (hz z hm)
    show ((z:Rat) / ((D:Int):Rat)*(t:Rat)).num=z / (g:Int)
    have e3:z / (g:Int)=u:=by rw[hu];exact Int.mul_ediv_cancel_left _ (by lia)
    rw[e3]
    have e4:(z:Rat) / ((D:Int):Rat)*(t:Rat)=(u:Rat):=by
      have tp:t≠0:=by
        intro h
        rw[h,Nat.mul_zero] at ht;lia
      have h1:(z:Rat)=(g:Rat)*(u:Rat):=by
        rw[hu,Rat.intCast_mul];rfl
      have h2:((D:Int):Rat)=(g:Rat)*(t:Rat):=by
        rw[Rat.intCast_natCast,ht,Rat.natCast_mul]
      have h3:(g:Rat)≠0:=by
        intro h;exact absurd (Rat.natCast_eq_zero_iff.mp h) (by lia)
      have h4:(t:Rat)≠0:=by
        intro h;exact absurd (Rat.natCast_eq_zero_iff.mp h) (by lia)
      rw[h1,h2]
      have h5:(g:Rat)*(t:Rat)≠0:=fun h=>by
        rcases Rat.mul_eq_zero.mp h with h | h
        · exact h3 h
        · exact h4 h
      have h6:(g:Rat)*(u:Rat) / ((g:Rat)*(t:Rat))*((g:Rat)*(t:Rat))=(g:Rat)*(u:Rat):=Rat.div_mul_cancel h5
      generalize (g:Rat)*(u:Rat) / ((g:Rat)*(t:Rat))=q at *
      have h7:(g:Rat)⁻¹*(g:Rat)=1:=Rat.inv_mul_cancel _ h3
      grind
    rw[e4]
    rfl
  · simp only[List.map_cons,List.map_nil]
    congr 1
    rw[ht]
    rw[show (((g*t:Nat)):Int)=(g:Int)*(t:Int) by simp]
    exact (Int.mul_ediv_cancel_left _ (by lia)).symm
end Rr

end
section
set_option linter.all false
namespace Rr
open Root
def divAbove (n:Int):List Int:=((List.range n.natAbs).map fun (i:Nat)=>(1:Int)+(i:Int)).filter fun (k:Int)=>decide (n % k=0)
def divisorsOf (n:Int):List Int:=divAbove n++(divAbove n).map fun (k:Int)=>-k
theorem mem_divAbove {n z:Int}:z∈divAbove n↔0<z∧z≤(n.natAbs:Int)∧n % z=0:=by
  unfold divAbove
  rw[List.mem_filter,List.mem_map]
  constructor
  · rintro ⟨⟨i,hi,rfl⟩,h⟩
    have:=List.mem_range.mp hi
    exact⟨by lia,by lia,of_decide_eq_true h⟩
  · rintro ⟨h1,h2,h3⟩
    exact⟨⟨(z-1).toNat,List.mem_range.mpr (by lia),by lia⟩,decide_eq_true h3⟩
theorem mem_divisors {n z:Int}:z∈divisorsOf n↔z≠0∧-(n.natAbs:Int)≤z∧z≤(n.natAbs:Int)∧n % z=0:=by
  unfold divisorsOf
  rw[List.mem_append,List.mem_map,mem_divAbove]
  constructor
  · rintro (⟨h1,h2,h3⟩ | ⟨k,hk,rfl⟩)
    · exact⟨by lia,by lia,h2,h3⟩
    · obtain⟨h1,h2,h3⟩:=mem_divAbove.mp hk
      exact⟨by lia,by lia,by lia,by rw[Int.emod_neg];exact h3⟩
  · rintro ⟨h1,h2,h3,h4⟩
    rcases Int.lt_trichotomy z 0 with h | h | h
    · exact .inr ⟨-z,mem_divAbove.mpr ⟨by lia,by lia,by rw[Int.emod_neg];exact h4⟩,by lia⟩
    · exact absurd h h1
    · exact .inl ⟨h,h3,h4⟩
theorem divisor_small {n z:Int} (hn:n≠0) (h:n % z=0):z≠0∧-(n.natAbs:Int)≤z∧z≤(n.natAbs:Int):=by
  have h1:z ∣ n:=Int.dvd_of_emod_eq_zero h
  have h2:z.natAbs≤n.natAbs:=Nat.le_of_dvd (by lia) (Int.natAbs_dvd_natAbs.mpr h1)
  refine⟨?_,by lia,by lia⟩
  rintro rfl
  obtain⟨k,hk⟩:=h1
  rw[Int.zero_mul] at hk
  exact hn hk
theorem mem_divisors' {n z:Int} (hn:n≠0):z∈divisorsOf n↔n % z=0:=by
  rw[mem_divisors]
  exact⟨fun h=>h.2.2.2,fun h=>let ⟨a,b,c⟩:=divisor_small hn h;⟨a,b,c,h⟩⟩
theorem mem_around {n:Nat}{z:Int}:z∈around n↔-(n:Int)≤z∧z≤(n:Int):=by
  unfold around
  rw[List.mem_map]
  constructor
  · rintro ⟨i,hi,rfl⟩
    have:=List.mem_range.mp hi
    lia
  · rintro ⟨h1,h2⟩
    exact⟨(z+n).toNat,List.mem_range.mpr (by lia),by lia⟩
theorem divides_of {z n:Int} (hz:z≠0):divides z n=decide (n % z=0):=by
  unfold divides
  rw[if_neg hz]
  exact Bool.eq_iff_iff.mpr (by simp)
def horner (f:List Int) (z:Int):Int:=f.reverse.foldl (fun (s t:Int)=>s*z+t) 0
theorem horner_valueAt (c:List Int) (z:Int):horner (c++[1]) z=valueAt c z:=by
  unfold horner valueAt
  rw[List.reverse_append]
  show (1::c.reverse).foldl _ 0=_
  rw[List.foldl_cons,Int.zero_mul,Int.zero_add]
theorem hasRoot_is {c:List Int} (h0:c.headD 0≠0):hasRoot c=(divisorsOf (c.headD 0)).any fun (z:Int)=>horner (c++[1]) z == 0:=by
  have e0:(c.headD 0 == 0)=false:=by simpa using h0
  unfold hasRoot
  rw[e0,Bool.false_or,Bool.eq_iff_iff,List.any_eq_true,List.any_eq_true]
  constructor
  · rintro ⟨z,hz,h⟩
    rw[Bool.and_eq_true,Bool.and_eq_true] at h
    obtain⟨h1,h2,h3⟩:=h
    have h1':z≠0:=by simpa using h1
    rw[divides_of h1'] at h2
    exact⟨z,(mem_divisors' h0).mpr (of_decide_eq_true h2),by rw[horner_valueAt];exact h3⟩
  · rintro ⟨z,hz,h⟩
    obtain⟨h1,h2,h3,h4⟩:=mem_divisors.mp hz
    refine⟨z,mem_around.mpr ⟨h2,h3⟩,?_⟩
    rw[Bool.and_eq_true,Bool.and_eq_true,divides_of h1]
    refine⟨by simpa using h1,decide_eq_true h4,?_⟩
    rw[←horner_valueAt];exact h
theorem foldl_root {n:Nat}:∀ (k r:Nat),r*r≤n→n<(r+2^k)*(r+2^k) →
    ∃ q,(List.range k).reverse.foldl (fun (r i:Nat)=>if (r+2^i)*(r+2^i)≤n then r+2^i else r) r=q∧q*q≤n∧n<(q+1)*(q+1)
  | 0,r,h1,h2=>⟨r,rfl,h1,by simpa using h2⟩
  | k+1,r,h1,h2=>by
    rw[List.range_succ,List.reverse_append]
    show ∃ q,(k::(List.range k).reverse).foldl _ r=q∧_
    rw[List.foldl_cons]
    by_cases h:(r+2^k)*(r+2^k)≤n
    · rw[if_pos h]
      refine foldl_root k _ h ?_
      have:r+2^k+2^k=r+2^(k+1):=by rw[Nat.pow_succ];lia
      rw[this];exact h2
    · rw[if_neg h]
      exact foldl_root k r h1 (by lia)
theorem rootBelow_is (n:Nat):rootBelow n*rootBelow n≤n∧n<(rootBelow n+1)*(rootBelow n+1):=by
  unfold rootBelow
  obtain⟨q,e,h1,h2⟩:=foldl_root (n:=n) (n.log2 / 2+2) 0 (by lia) (by
    have h3:n<2^(n.log2+1):=Nat.lt_log2_self
    have h4:2^(n.log2+1)≤2^((n.log2 / 2+2)+(n.log2 / 2+2)):=Nat.pow_le_pow_right (by lia) (by lia)
    rw[Nat.zero_add,←Nat.pow_add]
    lia)
  rw[e]
  exact⟨h1,h2⟩
theorem root_unique {n q r:Nat} (h1:q*q≤n) (h2:n<(q+1)*(q+1)) (h3:r*r=n):q=r:=by
  rcases Nat.lt_trichotomy q r with h | h | h
  · have:(q+1)*(q+1)≤r*r:=Nat.mul_le_mul h h
    lia
  · exact h
  · have:(r+1)*(r+1)≤q*q:=Nat.mul_le_mul h h
    have e:(r+1)*(r+1)=r*r+2*r+1:=by grind
    lia
def Hit (c:List Int) (q:Int):Prop:=∃ g:Int,0≤g∧g*g=c.getD 3 0*c.getD 3 0-4*(c.getD 2 0-q-c.getD 0 0 / q) ∧
  ((c.getD 3 0+g) / 2)*(c.getD 0 0 / q)+q*(c.getD 3 0-(c.getD 3 0+g) / 2)=c.getD 1 0
theorem parity {s g p:Int} (h:g*g=s*s-4*p):(s+g) % 2=0:=by
  have h1:(s*s-g*g) % 2=0:=by lia
  have h2:s*s-g*g=(s+g)*(s+g)-2*(g*s+g*g):=by grind
  rw[h2] at h1
  have e01:(s+g) % 2=0∨(s+g) % 2=1:=by lia
  rcases e01 with e | e
  · exact e
  · have h3:((s+g)*(s+g)) % 2=1:=by rw[Int.mul_emod,e];rfl
    lia
theorem splits_of {s p g:Int} (h0:0≤g) (h:g*g=s*s-4*p):splits s p=some ((s+g) / 2):=by
  have hr:rootBelow (s*s-4*p).toNat=g.toNat:=by
    obtain⟨h1,h2⟩:=rootBelow_is (s*s-4*p).toNat
    refine root_unique h1 h2 ?_
    rw[←h]
    obtain⟨G,rfl⟩:∃ G:Nat,g=(G:Int):=⟨g.toNat,by lia⟩
    rw[←Int.natCast_mul,Int.toNat_natCast,Int.toNat_natCast]
  have hg:((g.toNat:Nat):Int)=g:=by lia
  unfold splits
  dsimp only
  rw[hr,hg,if_neg]
  rintro (h1 | h1 | h1)
  · have:0≤g*g:=Int.mul_nonneg h0 h0
    lia
  · apply h1
    rw[←h]
    obtain⟨G,rfl⟩:∃ G:Nat,g=(G:Int):=⟨g.toNat,by lia⟩
    rw[←Int.natCast_mul,Int.toNat_natCast,Int.toNat_natCast]
  · exact h1 (parity h)
theorem splits_some {s p a:Int} (h:splits s p=some a):∃ g:Int,0≤g∧g*g=s*s-4*p∧a=(s+g) / 2:=by
  unfold splits at h
  dsimp only at h
  split at h
  · cases h
  · rename_i hn
    refine⟨(rootBelow (s*s-4*p).toNat:Int),by omega,?_,(Option.some.inj h).symm⟩
    have h1:¬ s*s-4*p<0:=fun z=>hn (.inl z)
    have h2:rootBelow (s*s-4*p).toNat*rootBelow (s*s-4*p).toNat=(s*s-4*p).toNat:=by
      false_or_by_contra
      rename_i z
      exact hn (.inr (.inl z))
    rw[←Int.natCast_mul,h2]
    lia
theorem ediv_div {n q:Int} (hn:n≠0) (h:n % q=0):n % (n / q)=0∧n / (n / q)=q:=by
  obtain⟨k,hk⟩:=Int.dvd_of_emod_eq_zero h
  have hq:q≠0:=by
    rintro rfl
    rw[Int.zero_mul] at hk;exact hn hk
  have hk0:k≠0:=by
    rintro rfl
    rw[Int.mul_zero] at hk;exact hn hk
  have e:n / q=k:=by rw[hk];exact Int.mul_ediv_cancel_left _ hq
  rw[e,hk]
  exact⟨Int.mul_emod_left _ _,Int.mul_ediv_cancel _ hk0⟩
theorem twoTwos_of_hit {c:List Int} (h0:c.getD 0 0≠0) {q:Int} (hq:q∈divisorsOf (c.getD 0 0)) (h:Hit c q):twoTwos c=true:=by
  obtain⟨g,g0,gg,hp⟩:=h
  obtain⟨h1,h2,h3,h4⟩:=mem_divisors.mp hq
  unfold twoTwos
  dsimp only
  rw[List.any_eq_true]
  refine⟨q,mem_around.mpr ⟨h2,h3⟩,?_⟩
  rw[Bool.and_eq_true,Bool.and_eq_true,divides_of h1]
  refine⟨by simpa using h1,decide_eq_true h4,?_⟩
  rw[splits_of g0 gg]
  dsimp only
  rw[Bool.or_eq_true]
  left
  rw[beq_iff_eq,←hp]
  grind
theorem hit_of_twoTwos {c:List Int} (h0:c.getD 0 0≠0) (h:twoTwos c=true):∃ q∈divisorsOf (c.getD 0 0),Hit c q:=by
  unfold twoTwos at h
  dsimp only at h
  rw[List.any_eq_true] at h
  obtain⟨b,hb,h⟩:=h
  rw[Bool.and_eq_true,Bool.and_eq_true] at h
  obtain⟨h1,h2,h3⟩:=h
  have h1':b≠0:=by simpa using h1
  rw[divides_of h1'] at h2
  have h2':=of_decide_eq_true h2
  cases e:splits (c.getD 3 0) (c.getD 2 0-b-c.getD 0 0 / b) with
  | none=>rw[e] at h3;cases h3
  | some a =>
    rw[e] at h3
    dsimp only at h3
    obtain⟨g,g0,gg,ha⟩:=splits_some e
    rw[Bool.or_eq_true,beq_iff_eq,beq_iff_eq] at h3
    rcases h3 with h3 | h3
    · refine⟨b,(mem_divisors' h0).mpr h2',g,g0,gg,?_⟩
      rw[←ha,←h3];grind
    · obtain⟨k1,k2⟩:=ediv_div h0 h2'
      refine⟨c.getD 0 0 / b,(mem_divisors' h0).mpr k1,g,g0,?_,?_⟩
      · rw[k2,gg];grind
      · rw[k2,←ha,←h3];grind
def badField (c:List Int):Bool:=decide (c.length<1) || (decide (4<c.length) || c.any fun (z:Int)=>decide (z < -1000) || decide (1000<z))
def refusal (c:List Int):Int:=if badField c=true then -1 else if isField c=true then 0 else -2
theorem ofField_is (c:List Int) (g:Unit→Ans):ofField c g=if refusal c=0 then g () else says (refusal c):=by
  have hb:badField c=true↔(c.length<1∨DEGREE<c.length∨c.any (fun (z:Int)=>decide (z < -FAR) || decide (FAR<z))=true):=by
    unfold badField
    rw[Bool.or_eq_true,Bool.or_eq_true,decide_eq_true_eq,decide_eq_true_eq]
    exact Iff.rfl
  unfold ofField refusal
  by_cases h:badField c=true
  · rw[if_pos (hb.mp h)]
    simp only[if_pos h]
    rw[if_neg (by decide)]
  · rw[if_neg (fun q=>h (hb.mpr q))]
    simp only[if_neg h]
    by_cases h2:isField c=true
    · simp only[if_pos h2]
      rfl
    · simp only[if_neg h2]
      rw[if_neg (by decide)]
end Rr

end
section
set_option linter.all false
namespace Rr
open Root
theorem newton_ge {n x s:Int} (hx:0<x) (hs:s*s≤n):s≤(x+n / x) / 2:=by
  have h1:2*s-x≤n / x:=by
    rw[Int.le_ediv_iff_mul_le hx]
    have h2:(2*s-x)*x=s*s-(s-x)*(s-x):=by grind
    have h3:0≤(s-x)*(s-x):=by
      rcases Int.le_total 0 (s-x) with h | h
      · exact Int.mul_nonneg h h
      · exact Int.mul_nonneg_of_nonpos_of_nonpos h h
    lia
  lia
structure Newt (n root nearer:Int):Prop where
  n0:0≤n
  r0:0≤root
  rn:root≤n
  up:∀ s:Int,0≤s→s*s≤n→s≤root
  st:(n=0∧root=0∧nearer=0)∨(0<root∧nearer=(root+n / root) / 2)
theorem newt_start {n:Int} (h:0≤n):Newt n n ((n+1) / 2):=by
  refine⟨h,h,Int.le_refl _,fun s h0 hs=>?_,?_⟩
  · rcases Int.lt_or_le s 1 with h1 | h1
    · lia
    · have:s*1≤s*s:=Int.mul_le_mul_of_nonneg_left h1 h0
      lia
  · rcases Int.lt_or_le 0 n with h1 | h1
    · right
      rw[Int.ediv_self (by lia)]
      exact⟨h1,rfl⟩
    · left
      lia
theorem newt_step {n root nearer:Int} (h:Newt n root nearer) (hl:nearer<root):0<nearer∧Newt n nearer ((nearer+n / nearer) / 2):=by
  rcases h.st with⟨h1,h2,h3⟩ | ⟨h1,h2⟩
  · lia
  · have hn:1*1≤n:=by
      have:=h.rn
      lia
    have hp:1≤nearer:=by
      rw[h2]
      exact newton_ge h1 hn
    have:=h.rn
    refine⟨by lia,h.n0,by lia,by lia,fun s h0 hs=>?_,.inr ⟨by lia,rfl⟩⟩
    rw[h2]
    exact newton_ge h1 hs
theorem newt_end {n root nearer:Int} (h:Newt n root nearer) (hl:¬ nearer<root):root*root≤n∧n<(root+1)*(root+1):=by
  constructor
  · rcases h.st with⟨h1,h2,h3⟩ | ⟨h1,h2⟩
    · rw[h2,h1]
      decide
    · have h3:root≤n / root:=by lia
      rw[Int.le_ediv_iff_mul_le h1] at h3
      exact h3
  · rcases Int.lt_or_le n ((root+1)*(root+1)) with h1 | h1
    · exact h1
    · have:=h.up (root+1) (by have:=h.r0;lia) h1
      lia
theorem isField_one {c:List Int} (h:c.length=1):isField c=true:=by
  unfold isField
  rw[h]
  rfl
theorem isField_zero {c:List Int} (h:c.length≠1) (h0:c.headD 0=0):isField c=false:=by
  unfold isField hasRoot
  rw[h0]
  simp[h]
theorem isField_root {c:List Int} (h:c.length≠1) (h0:hasRoot c=true):isField c=false:=by
  unfold isField
  rw[h0]
  simp[h]
theorem isField_rest {c:List Int} (h:c.length≠1) (h0:hasRoot c=false) (h4:c.length≠4):isField c=true:=by
  unfold isField
  rw[h0]
  simp[h4]
theorem isField_four {c:List Int} (h0:hasRoot c=false) (h4:c.length=4):isField c=!twoTwos c:=by
  unfold isField
  rw[h0,h4]
  simp
end Rr

end
section
set_option linter.all false
namespace Rr
open Root
def told_ (x:Ans):List Int:=x.code::x.nums
end Rr

end
section
set_option linter.all false
namespace Rr
open Root
theorem rat_add {m p n q:Int} (hp:0<p) (hq:0<q):(m:Rat) / (p:Rat)+(n:Rat) / (q:Rat)=((m*q+n*p:Int):Rat) / ((p*q:Int):Rat):=by
  have h1:(p:Rat)≠0:=fun h=>by
    have:=Rat.intCast_eq_zero_iff.mp h
    lia
  have h2:(q:Rat)≠0:=fun h=>by
    have:=Rat.intCast_eq_zero_iff.mp h
    lia
  rw[←Rat.divInt_eq_div,←Rat.divInt_eq_div,←Rat.divInt_eq_div,Rat.divInt_add_divInt _ _ (by lia) (by lia)]
theorem zip_map2 {α β γ δ:Type} (f:α→β) (g:δ→β) (h:β→β→γ) (k:α→δ→γ) (e:∀ x y,h (f x) (g y)=k x y):∀ (l:List α) (m:List δ),((l.map f).zip (m.map g)).map (fun (z:β×β)=>h z.1 z.2)=List.zipWith k l m
  | [],_=>by simp
  | _::_,[]=>by simp
  | a::l,b::m=>by
    simp only[List.map_cons,List.zip_cons_cons,List.zipWith_cons_cons,e]
    congr 1
    exact zip_map2 f g h k e l m
def addRow (ms:List Int) (p:Int) (ns:List Int) (q:Int):List Int:=List.zipWith (fun (m n:Int)=>m*q+n*p) ms ns++[p*q]
end Rr

end
section
set_option linter.all false
namespace Rr
open Root
theorem polyAt_nil (x:Rat):polyAt [] x=0:=rfl
theorem polyAt_cons (a:Rat) (p:List Rat) (x:Rat):polyAt (a::p) x=polyAt p x*x+a:=rfl
theorem bnum (a:Rat):∃ A:Rat,0≤A∧-A≤a∧a≤A:=by
  rcases Rat.le_total (a:=a) (b:=0) with h | h
  · exact⟨-a,by grind,by grind,by grind⟩
  · exact⟨a,h,by grind,by grind⟩
end Rr

end
section
set_option linter.all false
namespace Rr
open Root
theorem sign_pos {x:Rat} (h:0<x):signOf x=1:=by
  unfold signOf
  rw[if_neg (by grind),if_neg (by grind)]
theorem sign_neg {x:Rat} (h:x<0):signOf x=-1:=by
  unfold signOf
  rw[if_pos h]
theorem ne_lt {a b:Rat} (h:a≠b):a<b∨b<a:=by grind
end Rr

end
section
set_option linter.all false
namespace Rr
open Root
theorem far_pos:∀ (p:List Rat),0<p.getLastD 0→∃ e N:Rat,0<e∧0≤N∧∀ x,N≤x→e≤polyAt p x
  | [],h=>by
    have:(0:Rat)<0:=h
    grind
  | [a],h=>by
    have h':0<a:=h
    refine⟨a,0,h',by decide,fun x _=>?_⟩
    rw[polyAt_cons,polyAt_nil]
    grind
  | a::b::p,h=>by
    have h':0<(b::p).getLastD 0:=by
      have e:(a::b::p).getLastD 0=(b::p).getLastD 0:=rfl
      rw[←e];exact h
    obtain⟨e,N,he,hN,k⟩:=far_pos (b::p) h'
    obtain⟨A,hA,ha1,ha2⟩:=bnum a
    have hd:0≤A / e:=by
      rw[Rat.div_def]
      exact Rat.mul_nonneg hA (Rat.le_of_lt (Rat.inv_pos.mpr he))
    have hc:A / e*e=A:=Rat.div_mul_cancel (by grind)
    refine⟨e,N+1+A / e,he,by grind,fun x hx=>?_⟩
    generalize A / e=w at *
    have k1:=k x (by grind)
    have m1:0≤(polyAt (b::p) x-e)*x:=Rat.mul_nonneg (by grind) (by grind)
    have m2:0≤e*(x-(1+w)):=Rat.mul_nonneg (by grind) (by grind)
    rw[polyAt_cons]
    grind
theorem polyAt_neg (p:List Rat) (x:Rat):polyAt (p.map fun (z:Rat)=>-z) x=-polyAt p x:=by
  induction p with
  | nil=>rw[List.map_nil,polyAt_nil];grind
  | cons a p ih =>
    rw[List.map_cons,polyAt_cons,polyAt_cons,ih]
    grind
theorem getLastD_map {α β:Type} (f:α→β) (a:α) (b:β) (h:f a=b):∀ l:List α,(l.map f).getLastD b=f (l.getLastD a)
  | []=>h.symm
  | x::l=>by
    rw[List.getLastD_eq_getLast?,List.getLastD_eq_getLast?,List.getLast?_map]
    cases (x::l).getLast? with
    | none=>exact h.symm
    | some y=>rfl
theorem far_sign (p:List Rat) (h:p.getLastD 0≠0):∃ N:Rat,0≤N∧∀ x,N≤x→signOf (polyAt p x)=signOf (p.getLastD 0):=by
  rcases ne_lt h with k | k
  · have k2:0<(p.map fun (z:Rat)=>-z).getLastD 0:=by
      rw[getLastD_map (fun (z:Rat)=>-z) 0 0 (by decide)]
      grind
    obtain⟨e,N,he,hN,hx⟩:=far_pos _ k2
    refine⟨N,hN,fun x h1=>?_⟩
    have:=hx x h1
    rw[polyAt_neg] at this
    rw[sign_neg k,sign_neg (by grind)]
  · obtain⟨e,N,he,hN,hx⟩:=far_pos _ k
    refine⟨N,hN,fun x h1=>?_⟩
    have:=hx x h1
    rw[sign_pos k,sign_pos (by grind)]
end Rr

end
section
set_option linter.all false
namespace Rr
open Root
def Tr (p:List Rat):Prop:=p=[]∨p.getLastD 0≠0
theorem polyAt_append (u w:List Rat) (x:Rat):polyAt (u++w) x=polyAt u x+x^u.length*polyAt w x:=by
  induction u with
  | nil=>rw[List.nil_append,polyAt_nil,List.length_nil,Rat.pow_zero];grind
  | cons a u ih =>
    rw[List.cons_append,polyAt_cons,polyAt_cons,ih,List.length_cons,Rat.pow_succ]
    grind
theorem polyAt_dropWhile (x:Rat):∀ r:List Rat,polyAt (r.dropWhile fun (x:Rat)=>x == 0).reverse x=polyAt r.reverse x
  | []=>rfl
  | a::r=>by
    rw[List.dropWhile_cons]
    by_cases h:a=0
    · rw[if_pos (by simpa using h),polyAt_dropWhile x r,List.reverse_cons,polyAt_append,h,polyAt_cons,polyAt_nil]
      grind
    · rw[if_neg (by simpa using h)]
theorem polyAt_trimmed (p:List Rat) (x:Rat):polyAt (trimmed p) x=polyAt p x:=by
  unfold trimmed
  rw[polyAt_dropWhile,List.reverse_reverse]
theorem tr_trimmed (p:List Rat):Tr (trimmed p):=by
  unfold trimmed Tr
  generalize p.reverse=r
  induction r with
  | nil=>exact .inl rfl
  | cons a r ih =>
    rw[List.dropWhile_cons]
    by_cases h:a=0
    · rw[if_pos (by simpa using h)];exact ih
    · rw[if_neg (by simpa using h)]
      right
      rw[List.reverse_cons]
      simpa using h
theorem trimmed_snoc_zero (l:List Rat):trimmed (l++[0])=trimmed l:=by
  unfold trimmed
  rw[List.reverse_append]
  rfl
theorem trimmed_length (p:List Rat):(trimmed p).length≤p.length:=by
  unfold trimmed
  rw[List.length_reverse]
  have:=(List.dropWhile_sublist (l:=p.reverse) (p:=fun (x:Rat)=>x == 0)).length_le
  rw[List.length_reverse] at this
  exact this
def stepP (p q:List Rat) (k:Nat) (t:Rat):List Rat:=(p.zipIdx).map fun (x:Rat×Nat)=>if x.2<k then x.1 else x.1-t*q.getD (x.2-k) 0
theorem leftOf_succ (f:Nat) (p q:List Rat):leftOf (f+1) p q=if p.length<q.length∨q.isEmpty=true then p else leftOf f (trimmed (stepP p q (p.length-q.length) (p.getLastD 0 / q.getLastD 1))) q:=rfl
theorem step_low {q:List Rat}{k:Nat}{t:Rat}:∀ (u:List Rat) (j:Nat),j+u.length≤k→(u.zipIdx j).map (fun (x:Rat×Nat)=>if x.2<k then x.1 else x.1-t*q.getD (x.2-k) 0)=u
  | [],_,_=>rfl
  | a::u,j,h=>by
    rw[List.length_cons] at h
    rw[List.zipIdx_cons,List.map_cons,step_low u (j+1) (by lia),if_pos (by show j<k;lia)]
theorem step_high {q:List Rat}{k:Nat}{t:Rat}:∀ (v:List Rat) (j:Nat),j+v.length=q.length→(v.zipIdx (k+j)).map (fun (x:Rat×Nat)=>if x.2<k then x.1 else x.1-t*q.getD (x.2-k) 0)=List.zipWith (fun (a b:Rat)=>a-t*b) v (q.drop j)
  | [],_,_=>by simp
  | a::v,j,h=>by
    rw[List.length_cons] at h
    have hj:j<q.length:=by lia
    rw[List.zipIdx_cons,List.map_cons,show k+j+1=k+(j+1) by lia,step_high v (j+1) (by lia),if_neg (by show ¬ k+j<k;lia),List.drop_eq_getElem_cons hj,List.zipWith_cons_cons]
    congr 1
    show a-t*q.getD (k+j-k) 0=_
    rw[show k+j-k=j by lia,List.getD_eq_getElem?_getD,List.getElem?_eq_getElem hj]
    rfl
theorem stepP_eq {p q u v:List Rat}{k:Nat}{t:Rat} (hp:p=u++v) (hu:u.length=k) (hv:v.length=q.length):stepP p q k t=u++List.zipWith (fun (a b:Rat)=>a-t*b) v q:=by
  unfold stepP
  rw[hp,List.zipIdx_append,List.map_append,step_low u 0 (by lia),hu]
  have:=step_high (q:=q) (k:=k) (t:=t) v 0 (by lia)
  rw[List.drop_zero,Nat.add_zero] at this
  rw[Nat.zero_add,this]
theorem polyAt_zipWith (t x:Rat):∀ (v q:List Rat),v.length=q.length→polyAt (List.zipWith (fun (a b:Rat)=>a-t*b) v q) x=polyAt v x-t*polyAt q x
  | [],[],_=>by rw[List.zipWith_nil_left,polyAt_nil];grind
  | a::v,b::q,h=>by
    rw[List.zipWith_cons_cons,polyAt_cons,polyAt_cons,polyAt_cons,polyAt_zipWith t x v q (by simpa using h)]
    grind
theorem snoc_of {α:Type}{l:List α} (h:l≠[]):∃ (m:List α) (z:α),l=m++[z]:=⟨l.dropLast,l.getLast h,(List.dropLast_concat_getLast h).symm⟩
theorem step_div {p q:List Rat} (hq:q≠[]) (hq0:q.getLastD 0≠0) (hl:q.length≤p.length) :
    (∀ x,polyAt (trimmed (stepP p q (p.length-q.length) (p.getLastD 0 / q.getLastD 1))) x=polyAt p x-p.getLastD 0 / q.getLastD 1*(x^(p.length-q.length)*polyAt q x)) ∧
    (trimmed (stepP p q (p.length-q.length) (p.getLastD 0 / q.getLastD 1))).length<p.length:=by
  obtain⟨m,b,rfl⟩:=snoc_of hq
  have hp:p≠[]:=by
    intro z
    rw[z] at hl
    simp at hl
  obtain⟨n,a,rfl⟩:=snoc_of hp
  have eb:(m++[b]).getLastD 1=b:=by simp
  have eb0:(m++[b]).getLastD 0=b:=by simp
  have ea:(n++[a]).getLastD 0=a:=by simp
  rw[eb0] at hq0
  rw[eb,ea]
  have hln:m.length≤n.length:=by
    rw[List.length_append,List.length_append] at hl
    simpa using hl
  have hk:(n++[a]).length-(m++[b]).length=n.length-m.length:=by
    rw[List.length_append,List.length_append]
    show n.length+1-(m.length+1)=_
    lia
  rw[hk]
  have hv:(n.drop (n.length-m.length)).length=m.length:=by rw[List.length_drop];omega
  have hu:(n.take (n.length-m.length)).length=n.length-m.length:=by rw[List.length_take];lia
  have hs:n++[a]=n.take (n.length-m.length)++(n.drop (n.length-m.length)++[a]):=by
    rw[←List.append_assoc,List.take_append_drop]
  have hvl:(n.drop (n.length-m.length)++[a]).length=(m++[b]).length:=by
    rw[List.length_append,List.length_append,hv]
    rfl
  have e:=stepP_eq (t:=a / b) hs hu hvl
  have e2:List.zipWith (fun (a_1 b_1:Rat)=>a_1-a / b*b_1) (n.drop (n.length-m.length)++[a]) (m++[b])=List.zipWith (fun (a_1 b_1:Rat)=>a_1-a / b*b_1) (n.drop (n.length-m.length)) m++[0]:=by
    rw[List.zipWith_append hv,List.zipWith_cons_cons,List.zipWith_nil_left]
    congr 2
    have:=Rat.div_mul_cancel (a:=a) hq0
    grind
  constructor
  · intro x
    rw[polyAt_trimmed,e,polyAt_append,polyAt_zipWith _ _ _ _ hvl,hu]
    have e3:polyAt (n++[a]) x=polyAt (n.take (n.length-m.length)) x+x^(n.length-m.length)*polyAt (n.drop (n.length-m.length)++[a]) x:=by
      have:=polyAt_append (n.take (n.length-m.length)) (n.drop (n.length-m.length)++[a]) x
      rw[hu,←List.append_assoc,List.take_append_drop] at this
      exact this
    rw[e3]
    grind
  · rw[e,e2,←List.append_assoc,trimmed_snoc_zero]
    refine Nat.lt_of_le_of_lt (trimmed_length _) ?_
    rw[List.length_append,hu,List.length_zipWith,hv,List.length_append]
    show n.length-m.length+min m.length m.length<n.length+1
    lia
theorem polyAt_zeros (n:Nat) (x:Rat):polyAt (List.replicate n 0) x=0:=by
  induction n with
  | zero=>rfl
  | succ n ih=>rw[List.replicate_succ,polyAt_cons,ih];grind
theorem leftOf_div {q:List Rat} (hq:q≠[]) (hq0:q.getLastD 0≠0):∀ (n:Nat) (p:List Rat),p.length<n+q.length→Tr p →
    ∃ Q:List Rat,(Q=[]∨Q.length+q.length≤p.length+1)∧(∀ x,polyAt p x=polyAt Q x*polyAt q x+polyAt (leftOf n p q) x)∧(leftOf n p q).length<q.length∧Tr (leftOf n p q)
  | 0,p,h,ht=>⟨[],.inl rfl,fun x=>by rw[polyAt_nil];show polyAt p x=0*_+polyAt p x;grind,by show p.length<q.length;lia,ht⟩
  | n+1,p,h,ht=>by
    rw[leftOf_succ]
    by_cases hc:p.length<q.length
    · rw[if_pos (.inl hc)]
      exact⟨[],.inl rfl,fun x=>by rw[polyAt_nil];grind,hc,ht⟩
    · have he:q.isEmpty=false:=by
        cases q with
        | nil=>exact absurd rfl hq
        | cons _ _=>rfl
      rw[if_neg (by rw[he];simp;lia)]
      obtain⟨e1,e2⟩:=step_div hq hq0 (p:=p) (by lia)
      obtain⟨Q,hQ,h1,h2,h3⟩:=leftOf_div hq hq0 n _ (by lia) (tr_trimmed (stepP p q (p.length-q.length) (p.getLastD 0 / q.getLastD 1)))
      have hQl:Q.length≤p.length-q.length:=by
        rcases hQ with rfl | hQ
        · exact Nat.zero_le _
        · lia
      refine⟨Q++(List.replicate (p.length-q.length-Q.length) 0++[p.getLastD 0 / q.getLastD 1]),.inr ?_,fun x=>?_,h2,h3⟩
      · rw[List.length_append,List.length_append,List.length_replicate]
        show Q.length+(p.length-q.length-Q.length+1)+q.length≤p.length+1
        lia
      · have h1x:=h1 x
        rw[e1 x] at h1x
        rw[polyAt_append,polyAt_append,polyAt_zeros,List.length_replicate,polyAt_cons,polyAt_nil]
        have hpw:x^(p.length-q.length)=x^Q.length*x^(p.length-q.length-Q.length):=by
          have e3:p.length-q.length=Q.length+(p.length-q.length-Q.length):=by lia
          generalize p.length-q.length-Q.length=j at *
          rw[e3]
          clear e3 h1x
          induction j with
          | zero=>rw[Nat.add_zero,Rat.pow_zero];grind
          | succ j ih=>rw[Nat.add_succ,Rat.pow_succ,Rat.pow_succ,ih];grind
        rw[hpw] at h1x
        grind
end Rr

end
section
set_option linter.all false
namespace Rr
open Root
theorem homog (n d:Int) (r:Rat) (hr:r*(d:Rat)=(n:Rat)):∀ c:List Int,∃ k:Int,polyAt (polyOf c) r*(d:Rat)^c.length=((n^c.length+d*k:Int):Rat)
  | []=>⟨0,by
    show polyAt [1] r*(d:Rat)^0=((n^0+d*0:Int):Rat)
    rw[polyAt_cons,polyAt_nil,Rat.pow_zero,Int.pow_zero,Int.mul_zero,Int.add_zero]
    show (0*r+1)*1=(1:Rat)
    grind⟩
  | a::c=>by
    obtain⟨k,hk⟩:=homog n d r hr c
    refine⟨k*n+a*d^c.length,?_⟩
    have e1:polyAt (polyOf (a::c)) r=polyAt (polyOf c) r*r+(a:Rat):=rfl
    rw[e1,List.length_cons,Rat.pow_succ,Int.pow_succ]
    have e2:(polyAt (polyOf c) r*r+(a:Rat))*((d:Rat)^c.length*(d:Rat))=(polyAt (polyOf c) r*(d:Rat)^c.length)*(r*(d:Rat))+(a:Rat)*((d:Rat)^c.length*(d:Rat)):=by grind
    rw[e2,hk,hr,←Rat.intCast_pow,←Rat.intCast_mul,←Rat.intCast_mul,←Rat.intCast_mul,←Rat.intCast_add]
    congr 1
    grind
theorem root_den {c:List Int} (hc:c≠[]) {r:Rat} (h:polyAt (polyOf c) r=0):∃ z:Int,r=(z:Rat):=by
  have hd:((r.den:Int):Rat)≠0:=by
    intro z
    have:=Rat.intCast_eq_zero_iff.mp z
    have:=r.den_nz
    lia
  have hr:r*((r.den:Int):Rat)=(r.num:Rat):=by
    have:=Rat.num_divInt_den r
    rw[Rat.divInt_eq_div] at this
    have e:=Rat.div_mul_cancel (a:=(r.num:Rat)) hd
    rw[this] at e
    exact e
  obtain⟨k,hk⟩:=homog r.num r.den r hr c
  rw[h,Rat.zero_mul] at hk
  have h0:r.num^c.length+(r.den:Int)*k=0:=Rat.intCast_eq_zero_iff.mp hk.symm
  have hdvd:(r.den:Int) ∣ r.num^c.length:=⟨-k,by rw[Int.mul_neg];lia⟩
  have hd2:r.den ∣ r.num.natAbs^c.length:=by
    have:=Int.natAbs_dvd_natAbs.mpr hdvd
    rw[Int.natAbs_pow] at this
    exact this
  have hco:Nat.Coprime (r.num.natAbs^c.length) r.den:=Nat.Coprime.pow_left _ r.reduced
  have h1:r.den=1:=Nat.Coprime.eq_one_of_dvd (Nat.Coprime.symm hco) hd2
  refine⟨r.num,?_⟩
  rw[h1] at hr
  have:((1:Nat):Int)=1:=rfl
  rw[this,Rat.intCast_one,Rat.mul_one] at hr
  exact hr
theorem polyAt_whole (z:Int):∀ c:List Int,polyAt (polyOf c) (z:Rat)=((c.foldr (fun (t s:Int)=>s*z+t) 1:Int):Rat)
  | []=>by
    show polyAt [1] (z:Rat)=((1:Int):Rat)
    rw[polyAt_cons,polyAt_nil,Rat.intCast_one]
    grind
  | a::c=>by
    have e1:polyAt (polyOf (a::c)) (z:Rat)=polyAt (polyOf c) (z:Rat)*(z:Rat)+(a:Rat):=rfl
    rw[e1,polyAt_whole z c,List.foldr_cons,←Rat.intCast_mul,←Rat.intCast_add]
theorem hasRoot_of {c:List Int} (hc:c≠[]) {r:Rat} (h:polyAt (polyOf c) r=0):hasRoot c=true:=by
  obtain⟨z,rfl⟩:=root_den hc h
  rw[polyAt_whole] at h
  have h0:=Rat.intCast_eq_zero_iff.mp h
  by_cases hh:c.headD 0=0
  · unfold hasRoot
    rw[hh]
    rfl
  · rw[hasRoot_is hh,List.any_eq_true]
    refine⟨z,(mem_divisors' hh).mpr ?_,?_⟩
    · cases c with
      | nil=>exact absurd rfl hc
      | cons a c =>
        rw[List.foldr_cons] at h0
        show a % z=0
        refine Int.emod_eq_zero_of_dvd ⟨-(c.foldr (fun (t s:Int)=>s*z+t) 1),?_⟩
        rw[Int.mul_neg,Int.mul_comm]
        lia
    · rw[horner_valueAt]
      unfold valueAt
      rw[List.foldl_reverse,h0]
      rfl
theorem no_root {c:List Int} (h1:c.length≠1) (hc:c≠[]) (hf:isField c=true) (r:Rat):polyAt (polyOf c) r≠0:=fun h=>by
  rw[isField_root h1 (hasRoot_of hc h)] at hf
  cases hf
theorem zero4 {a0 a1 a2 a3 a4:Rat} (h:∀ x:Rat,a4*(x*x*x*x)+a3*(x*x*x)+a2*(x*x)+a1*x+a0=0):a0=0∧a1=0∧a2=0∧a3=0∧a4=0:=by
  have h0:=h 0
  have h1:=h 1
  have h2:=h (-1)
  have h3:=h 2
  have h4:=h (-2)
  clear h
  refine⟨?_,?_,?_,?_,?_⟩ <;> grind
theorem linear_root {g:List Rat} (h:g.length=2) (h0:g.getLastD 0≠0):∃ r:Rat,polyAt g r=0:=by
  match g,h with
  | [b,a],_ =>
    have ha:a≠0:=h0
    refine⟨-b / a,?_⟩
    rw[polyAt_cons,polyAt_cons,polyAt_nil]
    have:=Rat.div_mul_cancel (a:=-b) ha
    grind
theorem quad_of {g:List Rat} (h:g.length=3) (h0:g.getLastD 0≠0):∃ a b e:Rat,a≠0∧∀ x,polyAt g x=a*(x*x)+b*x+e:=by
  match g,h with
  | [e,b,a],_ =>
    exact⟨a,b,e,h0,fun x=>by rw[polyAt_cons,polyAt_cons,polyAt_cons,polyAt_nil];grind⟩
end Rr

end
section
set_option linter.all false
namespace Rr
open Root
theorem polyOf_length (c:List Int):(polyOf c).length=c.length+1:=by
  unfold polyOf
  rw[List.length_append,List.length_map]
  rfl
theorem polyOf_last (c:List Int):(polyOf c).getLastD 0=1:=by
  unfold polyOf
  simp
def negs (p:List Rat):List Rat:=p.map fun (x:Rat)=>-x
theorem negs_at (p:List Rat) (x:Rat):polyAt (negs p) x=-polyAt p x:=polyAt_neg p x
theorem negs_length (p:List Rat):(negs p).length=p.length:=by unfold negs;rw[List.length_map]
theorem ne_of_len {α:Type}{q:List α} (h:1≤q.length):q≠[]:=by
  rintro rfl
  simp at h
theorem poly4 (c0 c1 c2 c3:Int) (x:Rat):polyAt (polyOf [c0,c1,c2,c3]) x=x*x*x*x+c3*(x*x*x)+c2*(x*x)+c1*x+c0:=by
  show polyAt [(c0:Rat),(c1:Rat),(c2:Rat),(c3:Rat),1] x=_
  rw[polyAt_cons,polyAt_cons,polyAt_cons,polyAt_cons,polyAt_cons,polyAt_nil]
  grind
theorem list4 {α:Type}{l:List α} (h:l.length=4):∃ a b c d,l=[a,b,c,d]:=match l,h with | [a,b,c,d],_=>⟨a,b,c,d,rfl⟩
theorem ok_field {c:List Int} (h:refusal c=0):1≤c.length∧c.length≤4∧∀ z∈c,z.natAbs≤1000:=by
  have hb:badField c=false:=by
    cases z:badField c with
    | false=>rfl
    | true=>unfold refusal at h;rw[if_pos z] at h;cases h
  unfold badField at hb
  rw[Bool.or_eq_false_iff,Bool.or_eq_false_iff,decide_eq_false_iff_not,decide_eq_false_iff_not,List.any_eq_false] at hb
  obtain⟨h1,h2,h3⟩:=hb
  refine⟨by lia,by lia,fun z hz=>?_⟩
  have:=h3 z hz
  rw[Bool.or_eq_true,decide_eq_true_eq,decide_eq_true_eq] at this
  omega
theorem all_zero_of_dropWhile:∀ r:List Rat,(r.dropWhile fun (x:Rat)=>x == 0)=[]→∀ z∈r,z=0
  | [],_,z,hz=>absurd hz (by simp)
  | a::r,h,z,hz=>by
    rw[List.dropWhile_cons] at h
    by_cases ha:a=0
    · rw[if_pos (by simpa using ha)] at h
      rcases List.mem_cons.mp hz with rfl | hz
      · exact ha
      · exact all_zero_of_dropWhile r h z hz
    · rw[if_neg (by simpa using ha)] at h
      cases h
theorem poly_zero {p:List Rat} (h:∀ x,polyAt p x=0):∀ z∈p,z=0:=by
  have ht:trimmed p=[]:=by
    rcases tr_trimmed p with k | k
    · exact k
    · obtain⟨N,_,hN⟩:=far_sign _ k
      have h1:=hN N Rat.le_refl
      rw[polyAt_trimmed,h] at h1
      rcases ne_lt k with z | z
      · rw[sign_neg z] at h1
        cases h1
      · rw[sign_pos z] at h1
        cases h1
  intro z hz
  unfold trimmed at ht
  exact all_zero_of_dropWhile _ (List.reverse_eq_nil_iff.mp ht) z (List.mem_reverse.mpr hz)
theorem zipWith_zero:∀ {p q:List Rat},p.length=q.length→(∀ z∈List.zipWith (fun (a b:Rat)=>a-1*b) p q,z=0)→p=q
  | [],[],_,_=>rfl
  | a::p,b::q,hl,h=>by
    rw[List.zipWith_cons_cons] at h
    have h1:=h (a-1*b) (by simp)
    have h2:=zipWith_zero (p:=p) (q:=q) (by simpa using hl) fun z hz=>h z (List.mem_cons_of_mem _ hz)
    rw[h2,show a=b by grind]
theorem poly_ext {p q:List Rat} (hl:p.length=q.length) (h:∀ x,polyAt p x=polyAt q x):p=q:=by
  refine zipWith_zero hl (poly_zero fun x=>?_)
  rw[polyAt_zipWith _ _ _ _ hl,h]
  grind
def addP:List Rat→List Rat→List Rat
  | [],q=>q
  | a::p,[]=>a::p
  | a::p,b::q=>(a+b)::addP p q
theorem addP_at (x:Rat):∀ p q:List Rat,polyAt (addP p q) x=polyAt p x+polyAt q x
  | [],q=>by rw[polyAt_nil];show polyAt q x=_;grind
  | a::p,[]=>by rw[polyAt_nil];show polyAt (a::p) x=_;grind
  | a::p,b::q=>by
    show polyAt ((a+b)::addP p q) x=_
    rw[polyAt_cons,polyAt_cons,polyAt_cons,addP_at x p q]
    grind
theorem addP_length:∀ p q:List Rat,p.length≤q.length→(addP p q).length=q.length
  | [],q,_=>rfl
  | a::p,[],h=>by simp at h
  | a::p,b::q,h=>by
    show ((a+b)::addP p q).length=_
    rw[List.length_cons,List.length_cons,addP_length p q (by simpa using h)]
theorem last_cons {a:Rat}{l:List Rat} (h:l≠[]):(a::l).getLastD 0=l.getLastD 0:=by
  cases l with
  | nil=>exact absurd rfl h
  | cons b l=>rfl
theorem addP_last:∀ p q:List Rat,p.length<q.length→(addP p q).getLastD 0=q.getLastD 0
  | [],q,_=>rfl
  | a::p,[],h=>by simp at h
  | a::p,b::q,h=>by
    have hl:p.length<q.length:=by simpa using h
    have h1:q≠[]:=by rintro rfl;simp at hl
    have h2:addP p q≠[]:=by
      intro z
      have:=addP_length p q (by lia)
      rw[z] at this
      simp at this
      lia
    show ((a+b)::addP p q).getLastD 0=_
    rw[last_cons h2,last_cons h1,addP_last p q hl]
def mulC (t:Rat) (p:List Rat):List Rat:=p.map fun (z:Rat)=>t*z
theorem mulC_at (t x:Rat):∀ p:List Rat,polyAt (mulC t p) x=t*polyAt p x
  | []=>by show (0:Rat)=t*0;grind
  | a::p=>by
    show polyAt (t*a::mulC t p) x=_
    rw[polyAt_cons,polyAt_cons,mulC_at t x p]
    grind
theorem mulC_length (t:Rat) (p:List Rat):(mulC t p).length=p.length:=by unfold mulC;rw[List.length_map]
theorem mulC_last (t:Rat) (p:List Rat):(mulC t p).getLastD 0=t*p.getLastD 0:=getLastD_map (fun (z:Rat)=>t*z) 0 0 (Rat.mul_zero t) p
def upP:List Rat→List Rat
  | []=>[]
  | a::p=>0::a::p
theorem upP_at (x:Rat) (p:List Rat):polyAt (upP p) x=x*polyAt p x:=by
  cases p with
  | nil=>show (0:Rat)=x*0;grind
  | cons a p =>
    show polyAt (0::a::p) x=_
    rw[polyAt_cons]
    grind
def mulP:List Rat→List Rat→List Rat
  | [],_=>[]
  | a::p,q=>addP (mulC a q) (upP (mulP p q))
theorem mulP_at (x:Rat):∀ p q:List Rat,polyAt (mulP p q) x=polyAt p x*polyAt q x
  | [],q=>by rw[polyAt_nil];show (0:Rat)=0*_;grind
  | a::p,q=>by
    show polyAt (addP (mulC a q) (upP (mulP p q))) x=_
    rw[addP_at,mulC_at,upP_at,mulP_at x p q,polyAt_cons]
    grind
theorem addP_nil:∀ p:List Rat,addP p []=p
  | []=>rfl
  | _::_=>rfl
theorem mulP_last {q:List Rat} (hq:q≠[]):∀ p:List Rat,p≠[]→(mulP p q).length+1=p.length+q.length∧(mulP p q).getLastD 0=p.getLastD 0*q.getLastD 0
  | [],h=>absurd rfl h
  | [a],_=>by
    show (addP (mulC a q) []).length+1=1+q.length∧(addP (mulC a q) []).getLastD 0=a*q.getLastD 0
    rw[addP_nil,mulC_length,mulC_last]
    exact⟨by lia,rfl⟩
  | a::b::p,_=>by
    obtain⟨h1,h2⟩:=mulP_last hq (b::p) (by simp)
    have hql:1≤q.length:=by
      cases q with
      | nil=>exact absurd rfl hq
      | cons _ _=>simp
    rw[List.length_cons] at h1
    have hm:mulP (b::p) q≠[]:=by
      intro z
      rw[z] at h1
      simp at h1
      lia
    have hu:upP (mulP (b::p) q)=0::mulP (b::p) q:=by
      cases hh:mulP (b::p) q with
      | nil=>exact absurd hh hm
      | cons _ _=>rfl
    have e:mulP (a::b::p) q=addP (mulC a q) (0::mulP (b::p) q):=by
      show addP (mulC a q) (upP (mulP (b::p) q))=_
      rw[hu]
    have hlt:(mulC a q).length<(0::mulP (b::p) q).length:=by
      rw[mulC_length,List.length_cons]
      lia
    rw[e,addP_length _ _ (by lia),addP_last _ _ hlt,last_cons hm,h2]
    refine⟨?_,rfl⟩
    rw[List.length_cons,List.length_cons,List.length_cons]
    lia
theorem mult_short {q Q r:List Rat} (hq:q≠[]) (hq0:q.getLastD 0≠0) (hr:r.length<q.length) (h:∀ x,polyAt Q x*polyAt q x=polyAt r x):∀ x,polyAt Q x=0:=by
  rcases tr_trimmed Q with k | k
  · intro x
    rw[←polyAt_trimmed,k]
    rfl
  · exfalso
    have hne:trimmed Q≠[]:=by
      intro z
      rw[z] at k
      exact k rfl
    obtain⟨m1,m2⟩:=mulP_last hq (trimmed Q) hne
    have hl:(negs r).length<(mulP (trimmed Q) q).length:=by
      rw[negs_length]
      have:1≤(trimmed Q).length:=by
        cases hh:trimmed Q with
        | nil=>exact absurd hh hne
        | cons _ _=>simp
      lia
    have hz:∀ x,polyAt (addP (negs r) (mulP (trimmed Q) q)) x=0:=fun x=>by
      rw[addP_at,mulP_at,negs_at,polyAt_trimmed,h]
      grind
    have hall:=poly_zero hz
    have hlast:=addP_last _ _ hl
    rw[m2] at hlast
    have hadd:addP (negs r) (mulP (trimmed Q) q)≠[]:=by
      intro z
      have:=addP_length _ _ (Nat.le_of_lt hl)
      rw[z] at this
      simp at this
      lia
    obtain⟨m,z,hm⟩:=snoc_of hadd
    have hz0:=hall z (by rw[hm];simp)
    rw[hm] at hlast
    have:(m++[z]).getLastD 0=z:=by simp
    rw[this,hz0] at hlast
    rcases Rat.mul_eq_zero.mp hlast.symm with w | w
    · exact k w
    · exact hq0 w
theorem same_len {p q:List Rat} (hp:p.getLastD 0≠0) (hq:q.getLastD 0≠0) (h:∀ x,polyAt p x=polyAt q x):p.length=q.length:=by
  have one:∀ x:Rat,polyAt [1] x=1:=fun x=>by rw[polyAt_cons,polyAt_nil];grind
  have ne:∀ {l:List Rat},l.getLastD 0≠0→l≠[]:=fun {l} k z=>by rw[z] at k;exact k rfl
  rcases Nat.lt_trichotomy p.length q.length with k | k | k
  · have:=mult_short (Q:=[1]) (ne hq) hq k (fun x=>by rw[one,h];grind) 0
    rw[one] at this
    exact absurd this (by decide)
  · exact k
  · have:=mult_short (Q:=[1]) (ne hp) hp k (fun x=>by rw[one,h];grind) 0
    rw[one] at this
    exact absurd this (by decide)
theorem intc (a b:Int) (h:(a:Rat)=(b:Rat)):a=b:=Rat.intCast_inj.mp h
theorem gauss {c0 c1 c2 c3:Int} (h0:c0≠0) {A B u v:Rat} (e3:(c3:Rat)=A+u) (e2:(c2:Rat)=B+v+A*u) (e1:(c1:Rat)=A*v+B*u) (e0:(c0:Rat)=B*v):twoTwos [c0,c1,c2,c3]=true:=by
  obtain⟨s,hs⟩:=root_den (c:=[4*c0*c2-c1*c1-c0*c3*c3,c1*c3-4*c0,-c2]) (by simp) (r:=B+v) (by
    show polyAt [((4*c0*c2-c1*c1-c0*c3*c3:Int):Rat),((c1*c3-4*c0:Int):Rat),((-c2:Int):Rat),1] (B+v)=0
    simp only[polyAt_cons,polyAt_nil,Rat.intCast_sub,Rat.intCast_mul,Rat.intCast_neg,e0,e1,e2,e3]
    have:((4:Int):Rat)=4:=rfl
    rw[this]
    grind)
  obtain⟨b,rfl⟩:=root_den (c:=[c0,-s]) (by simp) (r:=B) (by
    show polyAt [(c0:Rat),((-s:Int):Rat),1] B=0
    simp only[polyAt_cons,polyAt_nil,Rat.intCast_neg,e0,←hs]
    grind)
  obtain⟨a,rfl⟩:=root_den (c:=[c2-s,-c3]) (by simp) (r:=A) (by
    show polyAt [((c2-s:Int):Rat),((-c3:Int):Rat),1] A=0
    simp only[polyAt_cons,polyAt_nil,Rat.intCast_neg,Rat.intCast_sub,e2,e3,←hs]
    grind)
  obtain⟨w,rfl⟩:∃ w:Int,v=(w:Rat):=⟨s-b,by rw[Rat.intCast_sub,←hs];grind⟩
  obtain⟨t,rfl⟩:∃ t:Int,u=(t:Rat):=⟨c3-a,by rw[Rat.intCast_sub,e3];grind⟩
  rw[←Rat.intCast_add] at e3
  rw[←Rat.intCast_mul,←Rat.intCast_add,←Rat.intCast_add] at e2
  rw[←Rat.intCast_mul,←Rat.intCast_mul,←Rat.intCast_add] at e1
  rw[←Rat.intCast_mul] at e0
  have f3:=intc _ _ e3
  have f2:=intc _ _ e2
  have f1:=intc _ _ e1
  have f0:=intc _ _ e0
  clear e0 e1 e2 e3 hs
  have hb:b≠0:=by rintro rfl;rw[Int.zero_mul] at f0;exact h0 f0
  have hw:w≠0:=by rintro rfl;rw[Int.mul_zero] at f0;exact h0 f0
  have d1:c0 / b=w:=by rw[f0];exact Int.mul_ediv_cancel_left _ hb
  have d2:c0 / w=b:=by rw[f0];exact Int.mul_ediv_cancel _ hw
  by_cases hle:t≤a
  · refine twoTwos_of_hit (c:=[c0,c1,c2,c3]) h0 (q:=b) ((mem_divisors' h0).mpr ?_) ⟨a-t,by lia,?_,?_⟩
    · show c0 % b=0
      rw[f0];exact Int.mul_emod_right _ _
    · show (a-t)*(a-t)=c3*c3-4*(c2-b-c0 / b)
      rw[d1,f3,f2];grind
    · show (c3+(a-t)) / 2*(c0 / b)+b*(c3-(c3+(a-t)) / 2)=c1
      rw[d1,show (c3+(a-t)) / 2=a by lia,f1,f3];grind
  · refine twoTwos_of_hit (c:=[c0,c1,c2,c3]) h0 (q:=w) ((mem_divisors' h0).mpr ?_) ⟨t-a,by lia,?_,?_⟩
    · show c0 % w=0
      rw[f0];exact Int.mul_emod_left _ _
    · show (t-a)*(t-a)=c3*c3-4*(c2-w-c0 / w)
      rw[d2,f3,f2];grind
    · show (c3+(t-a)) / 2*(c0 / w)+w*(c3-(c3+(t-a)) / 2)=c1
      rw[d2,show (c3+(t-a)) / 2=t by lia,f1,f3];grind
theorem is_field {c:List Int} (h:refusal c=0):isField c=true:=by
  unfold refusal at h
  split at h
  · cases h
  · split at h
    · assumption
    · cases h
theorem irr {c:List Int} (h:refusal c=0) {g Q:List Rat} (hg:2≤g.length) (hgl:g.length≤c.length) (hg0:g.getLastD 0≠0) (e:∀ x,polyAt (polyOf c) x=polyAt Q x*polyAt g x):False:=by
  obtain⟨l1,l4,_⟩:=ok_field h
  have hf:=is_field h
  have hc:=ne_of_len l1
  have hz:=no_root (by lia) hc hf
  have e':∀ x,polyAt (polyOf c) x=polyAt (trimmed Q) x*polyAt g x:=fun x=>by rw[polyAt_trimmed];exact e x
  have hQ:(trimmed Q).getLastD 0≠0:=by
    rcases tr_trimmed Q with k | k
    · exfalso
      refine hz 0 ?_
      rw[e' 0,k,polyAt_nil]
      grind
    · exact k
  generalize trimmed Q=R at *
  have hR:R≠[]:=by rintro rfl;exact hQ rfl
  have hgne:g≠[]:=ne_of_len (by lia)
  obtain⟨m1,m2⟩:=mulP_last hgne R hR
  have hlen:=same_len (p:=mulP R g) (q:=polyOf c) (by
    rw[m2]
    intro z
    rcases Rat.mul_eq_zero.mp z with w | w
    · exact hQ w
    · exact hg0 w) (by rw[polyOf_last];decide) (fun x=>by rw[mulP_at,e' x])
  rw[polyOf_length] at hlen
  have hsum:R.length+g.length=c.length+2:=by lia
  by_cases h2:g.length=2
  · obtain⟨r,hr⟩:=linear_root h2 hg0
    exact hz r (by rw[e' r,hr];grind)
  by_cases h3:R.length=2
  · obtain⟨r,hr⟩:=linear_root h3 hQ
    exact hz r (by rw[e' r,hr];grind)
  obtain⟨c0,c1,c2,c3,rfl⟩:=list4 (show c.length=4 by lia)
  · rw[show ([c0,c1,c2,c3]:List Int).length=4 from rfl] at hsum hgl
    obtain⟨a,b,k,ha,eg⟩:=quad_of (show g.length=3 by lia) hg0
    obtain⟨p,q,r,hp,eR⟩:=quad_of (show R.length=3 by lia) hQ
    have hc0:c0≠0:=by
      rintro rfl
      refine hz 0 ?_
      rw[poly4]
      have:((0:Int):Rat)=0:=rfl
      rw[this]
      grind
    obtain⟨z0,z1,z2,z3,z4⟩:=zero4 (a4:=1-p*a) (a3:=c3-(p*b+q*a)) (a2:=c2-(p*k+q*b+r*a)) (a1:=c1-(q*k+r*b)) (a0:=c0-r*k) (fun x=>by
      have:=e' x
      rw[poly4,eg,eR] at this
      grind)
    have ht:twoTwos [c0,c1,c2,c3]=true:=by
      clear e e' eg eR hz m1 m2 hlen hsum hgl hg hg0 hQ hR hgne h2 h3 l1 l4 hf hc h
      refine gauss (c0:=c0) (c1:=c1) (c2:=c2) (c3:=c3) hc0 (A:=p*b) (B:=p*k) (u:=a*q) (v:=a*r) ?_ ?_ ?_ ?_ <;> grind
    have hr:hasRoot [c0,c1,c2,c3]=false:=by
      cases hR:hasRoot [c0,c1,c2,c3] with
      | false=>rfl
      | true=>rw[isField_root (by simp) hR] at hf;cases hf
    rw[isField_four hr rfl,ht] at hf
    cases hf
end Rr

end
section
set_option linter.all false
namespace Rr
open Root
def Cg (c:List Int) (u v:Rat→Rat):Prop:=∃ Q:List Rat,∀ x,u x-v x=polyAt Q x*polyAt (polyOf c) x
theorem Cg.refl {c:List Int} (u:Rat→Rat):Cg c u u:=⟨[],fun x=>by rw[polyAt_nil];grind⟩
theorem Cg.symm {c:List Int}{u v:Rat→Rat} (h:Cg c u v):Cg c v u:=by
  obtain⟨Q,h⟩:=h
  exact⟨negs Q,fun x=>by rw[negs_at];have:=h x;grind⟩
theorem Cg.trans {c:List Int}{u v w:Rat→Rat} (h:Cg c u v) (k:Cg c v w):Cg c u w:=by
  obtain⟨Q,h⟩:=h
  obtain⟨R,k⟩:=k
  exact⟨addP Q R,fun x=>by rw[addP_at];have:=h x;have:=k x;grind⟩
theorem Cg.add {c:List Int}{u v u' v':Rat→Rat} (h:Cg c u v) (k:Cg c u' v'):Cg c (fun x=>u x+u' x) (fun x=>v x+v' x):=by
  obtain⟨Q,h⟩:=h
  obtain⟨R,k⟩:=k
  exact⟨addP Q R,fun x=>by rw[addP_at];have:=h x;have:=k x;grind⟩
theorem Cg.mul {c:List Int}{u v:Rat→Rat} (h:Cg c u v) (p:List Rat):Cg c (fun x=>u x*polyAt p x) (fun x=>v x*polyAt p x):=by
  obtain⟨Q,h⟩:=h
  exact⟨mulP Q p,fun x=>by rw[mulP_at];have:=h x;grind⟩
theorem Cg.of_eq {c:List Int}{u v:Rat→Rat} (h:∀ x,u x=v x):Cg c u v:=⟨[],fun x=>by rw[polyAt_nil,h];grind⟩
theorem polyOf_ne (c:List Int):polyOf c≠[]:=by
  intro z
  have:=polyOf_length c
  rw[z] at this
  simp at this
theorem Cg.unique {c:List Int}{a b:List Rat} (ha:a.length=c.length) (hb:b.length=c.length) (h:Cg c (polyAt a) (polyAt b)):a=b:=by
  obtain⟨Q,h⟩:=h
  have hz:=mult_short (q:=polyOf c) (Q:=Q) (r:=List.zipWith (fun (u v:Rat)=>u-1*v) a b) (polyOf_ne c) (by rw[polyOf_last];decide) (by rw[List.length_zipWith,polyOf_length];lia) (fun x=>by
    rw[←h x,polyAt_zipWith _ _ _ _ (by lia)]
    grind)
  refine poly_ext (by lia) fun x=>?_
  have:=h x
  rw[hz x] at this
  grind
theorem plus_length {a b:Num}:(Root.plus a b).length=min a.length b.length:=by unfold Root.plus;rw[List.length_map,List.length_zip]
theorem minus_length {a b:Num}:(Root.minus a b).length=min a.length b.length:=by unfold Root.minus;rw[List.length_map,List.length_zip]
theorem scaled_length (r:Rat) (a:Num):(scaled r a).length=a.length:=by unfold scaled;rw[List.length_map]
theorem plus_cons (a b:Rat) (p q:Num):Root.plus (a::p) (b::q)=(a+b)::Root.plus p q:=rfl
theorem plus_at (x:Rat):∀ a b:Num,a.length=b.length→polyAt (Root.plus a b) x=polyAt a x+polyAt b x
  | [],[],_=>by show (0:Rat)=0+0;grind
  | a::p,b::q,h=>by
    rw[plus_cons,polyAt_cons,polyAt_cons,polyAt_cons,plus_at x p q (by simpa using h)]
    grind
theorem minus_cons (a b:Rat) (p q:Num):Root.minus (a::p) (b::q)=(a-b)::Root.minus p q:=rfl
theorem scaled_at (r x:Rat) (a:Num):polyAt (scaled r a) x=r*polyAt a x:=mulC_at r x a
theorem zeroIn_at (d:Nat) (x:Rat):polyAt (zeroIn d) x=0:=polyAt_zeros d x
theorem zeroIn_length (d:Nat):(zeroIn d).length=d:=List.length_replicate
theorem oneIn_succ (d:Nat):oneIn (d+1)=1::List.replicate d 0:=by
  unfold oneIn
  rw[List.range_succ_eq_map,List.map_cons,List.map_map]
  congr 1
  refine List.ext_getElem (by simp) fun i h1 h2=>?_
  simp
theorem oneIn_length (d:Nat):(oneIn d).length=d:=by unfold oneIn;rw[List.length_map,List.length_range]
theorem oneIn_at {d:Nat} (h:1≤d) (x:Rat):polyAt (oneIn d) x=1:=by
  obtain⟨e,rfl⟩:∃ e,d=e+1:=⟨d-1,by lia⟩
  rw[oneIn_succ,polyAt_cons,polyAt_zeros]
  grind
theorem timesX_length (c:List Int) (a:Num):(timesX c a).length=c.length:=by
  unfold timesX
  rw[List.length_map,List.length_range]
theorem timesX_eq {c:List Int}{n:Num}{h:Rat} (hl:n.length+1=c.length):timesX c (n++[h])=List.zipWith (fun (u v:Rat)=>u-h*v) (0::n) (c.map fun (z:Int)=>(z:Rat)):=by
  refine List.ext_getElem (by rw[timesX_length,List.length_zipWith,List.length_map,List.length_cons];lia) fun i h1 h2=>?_
  rw[timesX_length] at h1
  unfold timesX
  have e:(n++[h]).getLastD 0=h:=by simp
  simp only[List.getElem_map,List.getElem_range,List.getElem_zipWith,e]
  have e2:c.getD i 0=c[i]:=by rw[List.getD_eq_getElem?_getD,List.getElem?_eq_getElem h1];rfl
  rw[e2]
  cases i with
  | zero=>rfl
  | succ i =>
    have hi:i<n.length:=by lia
    rw[if_neg (by lia)]
    show at_ (n++[h]) (i+1-1)-_=n[i]-_
    have:at_ (n++[h]) (i+1-1)=n[i]:=by
      unfold at_
      rw[List.getD_eq_getElem?_getD,Nat.add_sub_cancel,List.getElem?_append_left hi,List.getElem?_eq_getElem hi]
      rfl
    rw[this]
theorem timesX_at {c:List Int}{a:Num} (hc:1≤c.length) (hl:a.length=c.length) (x:Rat):polyAt (timesX c a) x=x*polyAt a x-a.getLastD 0*polyAt (polyOf c) x:=by
  obtain⟨n,h,rfl⟩:=snoc_of (show a≠[] from ne_of_len (by lia))
  have hn:n.length+1=c.length:=by rw[←hl,List.length_append];rfl
  have e:(n++[h]).getLastD 0=h:=by simp
  rw[timesX_eq hn,polyAt_zipWith _ _ _ _ (by rw[List.length_cons,List.length_map];omega),e,polyAt_append,polyAt_cons]
  unfold polyOf
  rw[polyAt_append,List.length_map,←hn,Rat.pow_succ]
  simp only[polyAt_cons,polyAt_nil]
  generalize polyAt (c.map fun (z:Int)=>(z:Rat)) x=C
  generalize polyAt n x=N
  generalize x^n.length=X
  clear e hl hn
  grind
theorem fold_times {c:List Int} (hc:1≤c.length):∀ (b:List Rat) (a s:Num),a.length=c.length→s.length=c.length →
    (((shifts c a b.length).zip b).foldl (fun (s:Num) (x:Num×Rat)=>Root.plus s (scaled x.2 x.1)) s).length=c.length ∧
    Cg c (polyAt (((shifts c a b.length).zip b).foldl (fun (s:Num) (x:Num×Rat)=>Root.plus s (scaled x.2 x.1)) s)) (fun x=>polyAt s x+polyAt a x*polyAt b x)
  | [],a,s,ha,hs=>by
    refine⟨hs,Cg.of_eq fun x=>?_⟩
    show polyAt s x=polyAt s x+polyAt a x*0
    grind
  | t::b,a,s,ha,hs=>by
    have e:((shifts c a (t::b).length).zip (t::b)).foldl (fun (s:Num) (x:Num×Rat)=>Root.plus s (scaled x.2 x.1)) s=((shifts c (timesX c a) b.length).zip b).foldl (fun (s:Num) (x:Num×Rat)=>Root.plus s (scaled x.2 x.1)) (Root.plus s (scaled t a)):=rfl
    rw[e]
    have hsl:s.length=(scaled t a).length:=by rw[scaled_length];lia
    obtain⟨h1,h2⟩:=fold_times hc b (timesX c a) (Root.plus s (scaled t a)) (timesX_length c a) (by rw[plus_length,scaled_length];lia)
    refine⟨h1,h2.trans ⟨mulC (-a.getLastD 0) b,fun x=>?_⟩⟩
    show polyAt (Root.plus s (scaled t a)) x+polyAt (timesX c a) x*polyAt b x-(polyAt s x+polyAt a x*polyAt (t::b) x)=_
    rw[plus_at x _ _ hsl,scaled_at,timesX_at hc ha,mulC_at,polyAt_cons]
    generalize a.getLastD 0=h0
    clear h1 h2 e hsl hs ha
    grind
theorem times_length {c:List Int} (hc:1≤c.length) {a b:Num} (ha:a.length=c.length) (hb:b.length=c.length):(Root.times c a b).length=c.length:=by
  unfold Root.times
  rw[←hb]
  have:=(fold_times hc b a (zeroIn b.length) ha (by rw[zeroIn_length,hb])).1
  rw[hb] at *
  exact this
theorem times_cg {c:List Int} (hc:1≤c.length) {a b:Num} (ha:a.length=c.length) (hb:b.length=c.length):Cg c (polyAt (Root.times c a b)) (fun x=>polyAt a x*polyAt b x):=by
  unfold Root.times
  have:=(fold_times hc b a (zeroIn b.length) ha (by rw[zeroIn_length,hb])).2
  rw[hb] at this
  refine this.trans (Cg.of_eq fun x=>?_)
  rw[zeroIn_at]
  grind
theorem times_unique {c:List Int} (hc:1≤c.length) {a b r:Num} (ha:a.length=c.length) (hb:b.length=c.length) (hr:r.length=c.length) (h:Cg c (fun x=>polyAt a x*polyAt b x) (polyAt r)):Root.times c a b=r :=
  Cg.unique (times_length hc ha hb) hr ((times_cg hc ha hb).trans h)
end Rr

end
section
set_option linter.all false
namespace Rr
open Root
theorem inv_poly {c:List Int} (h:refusal c=0):∀ (n:Nat) (a:List Rat),a.length≤n→a.length≤c.length→a.getLastD 0≠0→∃ U:List Rat,Cg c (fun x=>polyAt U x*polyAt a x) (fun _=>1)
  | 0,a,hn,_,h0=>by
    have:a=[]:=List.length_eq_zero_iff.mp (by lia)
    rw[this] at h0
    exact absurd rfl h0
  | n+1,a,hn,hc,h0=>by
    obtain⟨l1,l4,_⟩:=ok_field h
    have hne:a≠[]:=by rintro rfl;exact h0 rfl
    by_cases h1:a.length=1
    · match a,h1 with
      | [t],_ =>
        have ht:t≠0:=h0
        refine⟨[1 / t],Cg.of_eq fun x=>?_⟩
        rw[polyAt_cons,polyAt_nil,polyAt_cons,polyAt_nil]
        have:=Rat.div_mul_cancel (a:=1) ht
        grind
    · have hl:2≤a.length:=by
        have:a.length≠0:=fun z=>hne (List.length_eq_zero_iff.mp z)
        lia
      obtain⟨Q,_,e,hs,ht⟩:=leftOf_div hne h0 8 (polyOf c) (by rw[polyOf_length];lia) (.inr (by rw[polyOf_last];decide))
      rcases ht with z | z
      · exfalso
        refine irr h hl hc h0 (Q:=Q) fun x=>?_
        rw[e x,z,polyAt_nil]
        grind
      · obtain⟨U,R,hU⟩:=inv_poly h n (leftOf 8 (polyOf c) a) (by lia) (by lia) z
        refine⟨negs (mulP U Q),addP R (negs U),fun x=>?_⟩
        have h1:polyAt U x*polyAt (leftOf 8 (polyOf c) a) x-1=polyAt R x*polyAt (polyOf c) x:=hU x
        have h2:=e x
        show polyAt (negs (mulP U Q)) x*polyAt a x-1=polyAt (addP R (negs U)) x*polyAt (polyOf c) x
        rw[negs_at,mulP_at,addP_at,negs_at]
        clear hU e
        grind
theorem row_of {c:List Int} (p:List Rat):∃ r:List Rat,r.length=c.length∧Cg c (polyAt p) (polyAt r):=by
  obtain⟨Q,_,e,hs,ht⟩:=leftOf_div (polyOf_ne c) (by rw[polyOf_last];decide) p.length (trimmed p) (by have:=trimmed_length p;rw[polyOf_length];lia) (tr_trimmed p)
  generalize leftOf p.length (trimmed p) (polyOf c)=r at *
  rw[polyOf_length] at hs
  refine⟨r++List.replicate (c.length-r.length) 0,?_,Q,fun x=>?_⟩
  · rw[List.length_append,List.length_replicate]
    lia
  · rw[polyAt_append,polyAt_zeros,←polyAt_trimmed,e x]
    grind
theorem isZero_of {a:Num}:isZero a=true↔∀ x,polyAt a x=0:=by
  unfold isZero
  rw[List.all_eq_true]
  constructor
  · intro h x
    induction a with
    | nil=>rfl
    | cons t a ih =>
      have h1:t=0:=by simpa using h t (by simp)
      rw[polyAt_cons,ih fun z hz=>h z (by simp[hz]),h1]
      grind
  · intro h z hz
    simpa using poly_zero h z hz
theorem inv_row {c:List Int} (h:refusal c=0) {a:Num} (ha:a.length=c.length) (h0:isZero a=false):∃ w:Num,w.length=c.length∧Cg c (fun x=>polyAt w x*polyAt a x) (fun _=>1):=by
  have hz:(trimmed a).getLastD 0≠0:=by
    rcases tr_trimmed a with k | k
    · exfalso
      have:isZero a=true:=isZero_of.mpr fun x=>by rw[←polyAt_trimmed,k];rfl
      rw[this] at h0
      cases h0
    · exact k
  obtain⟨U,hU⟩:=inv_poly h _ (trimmed a) (Nat.le_refl _) (by have:=trimmed_length a;lia) hz
  obtain⟨w,hw,e⟩:=row_of (c:=c) U
  refine⟨w,hw,?_⟩
  have h1:=(e.mul a).symm
  refine h1.trans ((Cg.of_eq fun x=>?_).trans hU)
  rw[polyAt_trimmed]
theorem cancel {c:List Int} (h:refusal c=0) {a u v:Num} (ha:a.length=c.length) (h0:isZero a=false) (hu:u.length=c.length) (hv:v.length=c.length) (e:Cg c (fun x=>polyAt a x*polyAt u x) (fun x=>polyAt a x*polyAt v x)):u=v:=by
  obtain⟨w,hw,k⟩:=inv_row h ha h0
  refine Cg.unique hu hv ?_
  have k1:=(k.mul u).symm
  have k2:=k.mul v
  have k3:=e.mul w
  refine Cg.trans (Cg.of_eq fun x=>?_) (k1.trans (Cg.trans (Cg.of_eq fun x=>?_) (k3.trans (Cg.trans (Cg.of_eq fun x=>?_) (k2.trans (Cg.of_eq fun x=>?_))))))
  all_goals grind
end Rr

end
section
set_option linter.all false
namespace Rr
open Root
theorem at_nil (i:Nat):at_ [] i=0:=by
  unfold at_
  rfl
theorem at_succ (t:Rat) (a:Num) (i:Nat):at_ (t::a) (i+1)=at_ a i:=rfl
theorem at_out {a:Num}{i:Nat} (h:a.length≤i):at_ a i=0:=by
  unfold at_
  rw[List.getD_eq_getElem?_getD,List.getElem?_eq_none h]
  rfl
theorem at_minus:∀ (a b:Num),a.length=b.length→∀ i,at_ (Root.minus a b) i=at_ a i-at_ b i
  | [],[],_,i=>by rw[at_nil];show (0:Rat)=0-0;grind
  | s::a,t::b,h,i=>by
    rw[minus_cons]
    cases i with
    | zero=>rfl
    | succ i=>rw[at_succ,at_succ,at_succ,at_minus a b (by simpa using h)]
theorem at_plus:∀ (a b:Num),a.length=b.length→∀ i,at_ (Root.plus a b) i=at_ a i+at_ b i
  | [],[],_,i=>by rw[at_nil];show (0:Rat)=0+0;grind
  | s::a,t::b,h,i=>by
    rw[plus_cons]
    cases i with
    | zero=>rfl
    | succ i=>rw[at_succ,at_succ,at_succ,at_plus a b (by simpa using h)]
theorem at_scaled (r:Rat):∀ (a:Num) (i:Nat),at_ (scaled r a) i=r*at_ a i
  | [],i=>by show at_ [] i=_;rw[at_nil];grind
  | t::a,i=>by
    cases i with
    | zero=>rfl
    | succ i =>
      show at_ (scaled r a) i=_
      rw[at_scaled r a i,at_succ]
theorem at_zeroIn (d i:Nat):at_ (zeroIn d) i=0:=by
  unfold at_ zeroIn
  rw[List.getD_eq_getElem?_getD,List.getElem?_replicate]
  split <;> rfl
theorem num_ext {a b:Num} (hl:a.length=b.length) (h:∀ i,at_ a i=at_ b i):a=b:=by
  refine List.ext_getElem hl fun i h1 h2=>?_
  have:=h i
  unfold at_ at this
  rw[List.getD_eq_getElem?_getD,List.getD_eq_getElem?_getD,List.getElem?_eq_getElem h1,List.getElem?_eq_getElem h2] at this
  exact this
theorem isZero_at {a:Num}:isZero a=true↔∀ i,at_ a i=0:=by
  unfold isZero
  rw[List.all_eq_true]
  constructor
  · intro h i
    by_cases hi:i<a.length
    · unfold at_
      rw[List.getD_eq_getElem?_getD,List.getElem?_eq_getElem hi]
      simpa using h _ (List.getElem_mem hi)
    · exact at_out (by lia)
  · intro h z hz
    obtain⟨i,hi,rfl⟩:=List.mem_iff_getElem.mp hz
    have:=h i
    unfold at_ at this
    rw[List.getD_eq_getElem?_getD,List.getElem?_eq_getElem hi] at this
    simpa using this
def csum:List Rat→List Num→Nat→Rat
  | t::w,v::l,i=>t*at_ v i+csum w l i
  | _,_,_=>0
theorem csum_nil (l:List Num) (i:Nat):csum [] l i=0:=by
  cases l <;> rfl
theorem csum_nil' (w:List Rat) (i:Nat):csum w [] i=0:=by
  cases w <;> rfl
theorem csum_minus (t:Rat):∀ (w u:Num) (l:List Num) (i:Nat),w.length=u.length→csum (Root.minus w (scaled t u)) l i=csum w l i-t*csum u l i
  | [],[],l,i,_=>by
    show csum [] l i=_
    rw[csum_nil]
    grind
  | a::w,b::u,[],i,_=>by
    rw[csum_nil',csum_nil',csum_nil']
    grind
  | a::w,b::u,v::l,i,h=>by
    show csum ((a-t*b)::Root.minus w (scaled t u)) (v::l) i=_
    have:=csum_minus t w u l i (by simpa using h)
    show (a-t*b)*at_ v i+csum (Root.minus w (scaled t u)) l i=a*at_ v i+csum w l i-t*(b*at_ v i+csum u l i)
    rw[this]
    grind
theorem csum_scaled (t:Rat):∀ (u:Num) (l:List Num) (i:Nat),csum (scaled t u) l i=t*csum u l i
  | [],l,i=>by
    show csum [] l i=_
    rw[csum_nil]
    grind
  | b::u,[],i=>by
    rw[csum_nil',csum_nil']
    grind
  | b::u,v::l,i=>by
    show t*b*at_ v i+csum (scaled t u) l i=t*(b*at_ v i+csum u l i)
    rw[csum_scaled t u l i]
    grind
theorem csum_zeroIn:∀ (n:Nat) (l:List Num) (i:Nat),csum (zeroIn n) l i=0
  | 0,l,i=>csum_nil l i
  | n+1,[],i=>csum_nil' _ i
  | n+1,v::l,i=>by
    show 0*at_ v i+csum (zeroIn n) l i=0
    rw[csum_zeroIn n l i]
    grind
theorem csum_neg:∀ (u:Num) (l:List Num) (i:Nat),csum (u.map fun (r:Rat)=>-r) l i=-csum u l i
  | [],l,i=>by
    show csum [] l i=_
    rw[csum_nil]
    grind
  | b::u,[],i=>by
    rw[csum_nil',csum_nil']
    grind
  | b::u,v::l,i=>by
    show -b*at_ v i+csum (u.map fun (r:Rat)=>-r) l i=-(b*at_ v i+csum u l i)
    rw[csum_neg u l i]
    grind
theorem csum_append:∀ (w u:List Rat) (l m:List Num) (i:Nat),w.length=l.length→csum (w++u) (l++m) i=csum w l i+csum u m i
  | [],u,[],m,i,_=>by
    show csum u m i=0+csum u m i
    grind
  | a::w,u,v::l,m,i,h=>by
    show a*at_ v i+csum (w++u) (l++m) i=a*at_ v i+csum w l i+csum u m i
    rw[csum_append w u l m i (by simpa using h)]
    grind
def unit (n i:Nat):Num:=(List.range n).map fun (j:Nat)=>if j=i then 1 else 0
theorem unit_length (n i:Nat):(unit n i).length=n:=by unfold unit;rw[List.length_map,List.length_range]
theorem unit_succ (n i:Nat):unit (n+1) (i+1)=0::unit n i:=by
  unfold unit
  rw[List.range_succ_eq_map,List.map_cons,List.map_map,if_neg (by lia)]
  congr 1
  refine List.map_congr_left fun j _=>?_
  show (if j+1=i+1 then (1:Rat) else 0)=if j=i then 1 else 0
  by_cases h:j=i
  · rw[if_pos h,if_pos (by lia)]
  · rw[if_neg h,if_neg (by lia)]
theorem unit_zero (n:Nat):unit (n+1) 0=1::zeroIn n:=by
  unfold unit zeroIn
  rw[List.range_succ_eq_map,List.map_cons,List.map_map,if_pos rfl]
  congr 1
  refine List.ext_getElem (by simp) fun i h1 h2=>?_
  simp
theorem csum_unit:∀ (l:List Num) (i k:Nat),i<l.length→csum (unit l.length i) l k=at_ (l.getD i []) k
  | [],i,k,h=>by simp at h
  | v::l,0,k,_=>by
    rw[List.length_cons,unit_zero]
    show 1*at_ v k+csum (zeroIn l.length) l k=at_ v k
    rw[csum_zeroIn]
    grind
  | v::l,i+1,k,h=>by
    rw[List.length_cons,unit_succ]
    show 0*at_ v k+csum (unit l.length i) l k=at_ (l.getD i []) k
    rw[csum_unit l i k (by simpa using h)]
    grind
structure Ech (m n:Nat) (l:List Num) (ps:List Piv):Prop where
  vl:∀ p∈ps,p.vec.length=m
  fl:∀ p∈ps,p.from_.length=n
  eq:∀ p∈ps,∀ i,at_ p.vec i=csum p.from_ l i
  one:∀ p∈ps,at_ p.vec p.col=1
  below:ps.Pairwise fun (p q:Piv)=>at_ q.vec p.col=0
theorem Ech.tail {m n:Nat}{l:List Num}{p:Piv}{ps:List Piv} (h:Ech m n l (p::ps)):Ech m n l ps :=
  ⟨fun q hq=>h.vl q (by simp[hq]),fun q hq=>h.fl q (by simp[hq]),fun q hq=>h.eq q (by simp[hq]),fun q hq=>h.one q (by simp[hq]),(List.pairwise_cons.mp h.below).2⟩
def Span (ps:List Piv) (v:Num):Prop:=∃ ts:List Rat,ts.length=ps.length∧∀ i,at_ v i=csum ts (ps.map Piv.vec) i
theorem less_cons (p:Piv) (ps:List Piv) (v w:Num):less (p::ps) v w=less ps (Root.minus v (scaled (at_ v p.col) p.vec)) (Root.minus w (scaled (at_ v p.col) p.from_)):=rfl
theorem less_spec {m n:Nat}{l:List Num}:∀ (ps:List Piv) (v w:Num),Ech m n l ps→v.length=m→w.length=n →
    (less ps v w).1.length=m∧(less ps v w).2.length=n∧(∀ i,at_ (less ps v w).1 i-csum (less ps v w).2 l i=at_ v i-csum w l i) ∧
    (∀ p∈ps,at_ (less ps v w).1 p.col=0)∧(∀ k,at_ v k=0→(∀ p∈ps,at_ p.vec k=0)→at_ (less ps v w).1 k=0) ∧
    ∃ ts:List Rat,ts.length=ps.length∧∀ i,at_ v i=at_ (less ps v w).1 i+csum ts (ps.map Piv.vec) i
  | [],v,w,_,hv,hw=>⟨hv,hw,fun _=>rfl,fun p hp=>absurd hp (by simp),fun k hk _=>hk,[],rfl,fun i=>by rw[csum_nil];show at_ v i=at_ v i+0;grind⟩
  | p::ps,v,w,h,hv,hw=>by
    rw[less_cons]
    have hp:=h.vl p (by simp)
    have hpf:=h.fl p (by simp)
    have e1:v.length=(scaled (at_ v p.col) p.vec).length:=by rw[scaled_length];lia
    have e2:w.length=p.from_.length:=by lia
    obtain⟨a1,a2,a3,a4,a5,ts,a6,a7⟩:=less_spec ps (Root.minus v (scaled (at_ v p.col) p.vec)) (Root.minus w (scaled (at_ v p.col) p.from_)) h.tail (by rw[minus_length,scaled_length];lia) (by rw[minus_length,scaled_length];lia)
    have hb:=(List.pairwise_cons.mp h.below).1
    refine⟨a1,a2,fun i=>?_,fun q hq=>?_,fun k hk hz=>?_,at_ v p.col::ts,by rw[List.length_cons,List.length_cons,a6],fun i=>?_⟩
    · rw[a3 i,at_minus _ _ e1,at_scaled,csum_minus _ _ _ _ _ e2,h.eq p (by simp) i]
      grind
    · rcases List.mem_cons.mp hq with rfl | hq
      · refine a5 _ ?_ hb
        rw[at_minus _ _ e1,at_scaled,h.one _ (by simp)]
        grind
      · exact a4 q hq
    · refine a5 k ?_ fun q hq=>hz q (by simp[hq])
      rw[at_minus _ _ e1,at_scaled,hk,hz p (by simp)]
      grind
    · have:=a7 i
      rw[at_minus _ _ e1,at_scaled] at this
      show at_ v i=_+(at_ v p.col*at_ p.vec i+csum ts (ps.map Piv.vec) i)
      generalize at_ v p.col*at_ p.vec i=z at *
      grind
theorem steps_zero {m n:Nat}{l:List Num}:∀ (ps:List Piv) (ts:List Rat),Ech m n l ps→ts.length=ps.length→(∀ p∈ps,csum ts (ps.map Piv.vec) p.col=0)→∀ i,csum ts (ps.map Piv.vec) i=0
  | [],ts,_,_,_,i=>csum_nil' _ i
  | p::ps,[],_,hl,_,i=>by simp at hl
  | p::ps,t::ts,h,hl,hz,i=>by
    have hb:=(List.pairwise_cons.mp h.below).1
    have later:∀ (qs:List Piv) (us:List Rat),(∀ q∈qs,at_ q.vec p.col=0)→csum us (qs.map Piv.vec) p.col=0:=by
      intro qs
      induction qs with
      | nil=>intro us _;exact csum_nil' _ _
      | cons q qs ih =>
        intro us hq
        cases us with
        | nil=>exact csum_nil _ _
        | cons u us =>
          show u*at_ q.vec p.col+csum us (qs.map Piv.vec) p.col=0
          rw[hq q (by simp),ih us fun r hr=>hq r (by simp[hr])]
          grind
    have h0:=hz p (by simp)
    have h1:t*at_ p.vec p.col+csum ts (ps.map Piv.vec) p.col=0:=h0
    rw[h.one p (by simp),later ps ts hb] at h1
    have ht:t=0:=by grind
    have hs:∀ k,csum (t::ts) ((p::ps).map Piv.vec) k=csum ts (ps.map Piv.vec) k:=fun k=>by
      show t*at_ p.vec k+csum ts (ps.map Piv.vec) k=_
      rw[ht]
      grind
    rw[hs]
    exact steps_zero ps ts h.tail (by simpa using hl) (fun q hq=>by rw[←hs];exact hz q (by simp[hq])) i
theorem csum_sub:∀ (ts us:List Rat) (l:List Num) (i:Nat),ts.length=us.length→csum (Root.minus ts us) l i=csum ts l i-csum us l i:=fun ts us l i h=>by
  have:=csum_minus 1 ts us l i h
  have e:scaled 1 us=us:=by
    unfold scaled
    have:(fun (x:Rat)=>1*x)=id:=by funext x;show 1*x=x;grind
    rw[this,List.map_id]
  rw[e] at this
  rw[this]
  grind
theorem span_less {m n:Nat}{l:List Num}{ps:List Piv}{v w:Num} (h:Ech m n l ps) (hv:v.length=m) (hw:w.length=n) (hs:Span ps v):∀ i,at_ (less ps v w).1 i=0:=by
  obtain⟨a1,a2,a3,a4,a5,ts,a6,a7⟩:=less_spec ps v w h hv hw
  obtain⟨us,b1,b2⟩:=hs
  have e:∀ i,at_ (less ps v w).1 i=csum (Root.minus us ts) (ps.map Piv.vec) i:=fun i=>by
    rw[csum_sub us ts _ _ (by lia),←b2 i,a7 i]
    grind
  intro i
  rw[e i]
  exact steps_zero ps _ h (by rw[minus_length];lia) (fun p hp=>by rw[←e];exact a4 p hp) i
theorem less_span {m n:Nat}{l:List Num}{ps:List Piv}{v w:Num} (h:Ech m n l ps) (hv:v.length=m) (hw:w.length=n) (hz:∀ i,at_ (less ps v w).1 i=0):Span ps v:=by
  obtain⟨a1,a2,a3,a4,a5,ts,a6,a7⟩:=less_spec ps v w h hv hw
  exact⟨ts,a6,fun i=>by rw[a7 i,hz i];grind⟩
theorem Span.more {ps qs:List Piv}{v:Num} (h:Span ps v):Span (ps++qs) v:=by
  obtain⟨ts,h1,h2⟩:=h
  refine⟨ts++List.replicate qs.length 0,by rw[List.length_append,List.length_append,List.length_replicate,h1],fun i=>?_⟩
  rw[h2 i,List.map_append,csum_append _ _ _ _ _ (by rw[List.length_map,h1])]
  have:csum (List.replicate qs.length 0) (qs.map Piv.vec) i=0:=csum_zeroIn _ _ _
  rw[this]
  grind
theorem join_none {m n:Nat}{l:List Num}{ps:List Piv}{i:Nat}{v:Num} (h:Ech m n l ps) (hv:v.length=m):join n ps i v=none↔Span ps v:=by
  have hu:=unit_length n i
  have e:join n ps i v=(match (less ps v (unit n i)).1.findIdx? fun (r:Rat)=>r != 0 with
    | none=>none
    | some c=>some (ps++[⟨c,scaled (1 / at_ (less ps v (unit n i)).1 c) (less ps v (unit n i)).1,scaled (1 / at_ (less ps v (unit n i)).1 c) (less ps v (unit n i)).2⟩])):=rfl
  rw[e]
  constructor
  · intro hn
    refine less_span h hv hu ?_
    cases hf:(less ps v (unit n i)).1.findIdx? fun (r:Rat)=>r != 0 with
    | some c=>rw[hf] at hn;cases hn
    | none =>
      rw[List.findIdx?_eq_none_iff] at hf
      refine isZero_at.mp ?_
      unfold isZero
      rw[List.all_eq_true]
      intro z hz
      have:=hf z hz
      simpa using this
  · intro hs
    have hz:=span_less h hv hu hs
    have:(less ps v (unit n i)).1.findIdx? (fun (r:Rat)=>r != 0)=none:=by
      rw[List.findIdx?_eq_none_iff]
      intro z hz'
      have:=isZero_at.mpr hz
      unfold isZero at this
      rw[List.all_eq_true] at this
      simpa using this z hz'
    rw[this]
theorem join_some {m:Nat}{l:List Num}{ps qs:List Piv}{i:Nat} (h:Ech m l.length l ps) (hi:i<l.length) (hv:(l.getD i []).length=m) (hj:join l.length ps i (l.getD i [])=some qs):Ech m l.length l qs∧∃ p:Piv,qs=ps++[p]∧Span qs (l.getD i []):=by
  have hu:=unit_length l.length i
  obtain⟨a1,a2,a3,a4,a5,ts,a6,a7⟩:=less_spec ps (l.getD i []) (unit l.length i) h hv hu
  have e:join l.length ps i (l.getD i [])=(match (less ps (l.getD i []) (unit l.length i)).1.findIdx? fun (r:Rat)=>r != 0 with
    | none=>none
    | some c=>some (ps++[⟨c,scaled (1 / at_ (less ps (l.getD i []) (unit l.length i)).1 c) (less ps (l.getD i []) (unit l.length i)).1,scaled (1 / at_ (less ps (l.getD i []) (unit l.length i)).1 c) (less ps (l.getD i []) (unit l.length i)).2⟩])):=rfl
  rw[e] at hj
  generalize less ps (l.getD i []) (unit l.length i)=x at *
  cases hf:x.1.findIdx? fun (r:Rat)=>r != 0 with
  | none=>rw[hf] at hj;cases hj
  | some c =>
    rw[hf] at hj
    have hq:qs=ps++[⟨c,scaled (1 / at_ x.1 c) x.1,scaled (1 / at_ x.1 c) x.2⟩]:=(Option.some.inj hj).symm
    have ht:at_ x.1 c≠0:=by
      rw[List.findIdx?_eq_some_iff_getElem] at hf
      obtain⟨hc,h1,_⟩:=hf
      unfold at_
      rw[List.getD_eq_getElem?_getD,List.getElem?_eq_getElem hc]
      simpa using h1
    have hinv:1 / at_ x.1 c*at_ x.1 c=1:=Rat.div_mul_cancel ht
    have hx:∀ k,at_ x.1 k=csum x.2 l k:=fun k=>by
      have:=a3 k
      rw[csum_unit l i k hi] at this
      grind
    refine⟨?_,_,hq,?_⟩
    · rw[hq]
      refine⟨fun p hp=>?_,fun p hp=>?_,fun p hp k=>?_,fun p hp=>?_,?_⟩
      · rcases List.mem_append.mp hp with hp | hp
        · exact h.vl p hp
        · have:p=_:=List.mem_singleton.mp hp
          rw[this]
          show (scaled _ x.1).length=m
          rw[scaled_length,a1]
      · rcases List.mem_append.mp hp with hp | hp
        · exact h.fl p hp
        · have:p=_:=List.mem_singleton.mp hp
          rw[this]
          show (scaled _ x.2).length=_
          rw[scaled_length,a2]
      · rcases List.mem_append.mp hp with hp | hp
        · exact h.eq p hp k
        · have:p=_:=List.mem_singleton.mp hp
          rw[this]
          show at_ (scaled _ x.1) k=csum (scaled _ x.2) l k
          rw[at_scaled,csum_scaled,hx k]
      · rcases List.mem_append.mp hp with hp | hp
        · exact h.one p hp
        · have:p=_:=List.mem_singleton.mp hp
          rw[this]
          show at_ (scaled _ x.1) c=1
          rw[at_scaled]
          exact hinv
      · rw[List.pairwise_append]
        refine⟨h.below,List.pairwise_singleton _ _,fun p hp q hq'=>?_⟩
        have:q=_:=List.mem_singleton.mp hq'
        rw[this]
        show at_ (scaled _ x.1) p.col=0
        rw[at_scaled,a4 p hp]
        grind
    · rw[hq]
      refine⟨ts++[at_ x.1 c],by rw[List.length_append,List.length_append,a6];rfl,fun k=>?_⟩
      rw[List.map_append,csum_append _ _ _ _ _ (by rw[List.length_map,a6]),a7 k]
      show _=csum ts (ps.map Piv.vec) k+(at_ x.1 c*at_ (scaled (1 / at_ x.1 c) x.1) k+0)
      rw[at_scaled]
      have:at_ x.1 c*(1 / at_ x.1 c*at_ x.1 k)=at_ x.1 k:=by
        generalize at_ x.1 k=z
        generalize at_ x.1 c=y at *
        generalize 1 / y=u at *
        grind
      rw[this]
      grind
end Rr

end
section
set_option linter.all false
namespace Rr
open Root
def InS (l:List Num) (f:Nat→Rat):Prop:=∃ w:List Rat,w.length=l.length∧∀ i,f i=csum w l i
def Ind (l:List Num):Prop:=∀ w:List Rat,w.length=l.length→(∀ i,csum w l i=0)→∀ z∈w,z=0
theorem csum_add:∀ (w u:Num) (l:List Num) (i:Nat),w.length=u.length→csum (Root.plus w u) l i=csum w l i+csum u l i
  | [],[],l,i,_=>by
    show csum [] l i=_
    rw[csum_nil]
    grind
  | a::w,b::u,[],i,_=>by
    rw[csum_nil',csum_nil',csum_nil']
    grind
  | a::w,b::u,v::l,i,h=>by
    show (a+b)*at_ v i+csum (Root.plus w u) l i=a*at_ v i+csum w l i+(b*at_ v i+csum u l i)
    rw[csum_add w u l i (by simpa using h)]
    grind
theorem InS.zero (l:List Num):InS l fun _=>0:=⟨zeroIn l.length,zeroIn_length _,fun i=>(csum_zeroIn _ _ _).symm⟩
theorem InS.add {l:List Num}{f g:Nat→Rat} (hf:InS l f) (hg:InS l g):InS l fun i=>f i+g i:=by
  obtain⟨w,h1,h2⟩:=hf
  obtain⟨u,k1,k2⟩:=hg
  exact⟨Root.plus w u,by rw[plus_length];lia,fun i=>by rw[csum_add _ _ _ _ (by lia),←h2 i,←k2 i]⟩
theorem InS.smul {l:List Num}{f:Nat→Rat} (t:Rat) (hf:InS l f):InS l fun i=>t*f i:=by
  obtain⟨w,h1,h2⟩:=hf
  exact⟨scaled t w,by rw[scaled_length];exact h1,fun i=>by rw[csum_scaled,←h2 i]⟩
theorem InS.eq {l:List Num}{f g:Nat→Rat} (hf:InS l f) (h:∀ i,f i=g i):InS l g:=by
  obtain⟨w,h1,h2⟩:=hf
  exact⟨w,h1,fun i=>by rw[←h i];exact h2 i⟩
theorem InS.csum {l:List Num}:∀ (vs:List Num) (ts:List Rat),(∀ v∈vs,InS l (at_ v))→InS l fun i=>Rr.csum ts vs i
  | [],ts,_=>(InS.zero l).eq fun i=>(csum_nil' _ _).symm
  | v::vs,[],_=>(InS.zero l).eq fun i=>(csum_nil _ _).symm
  | v::vs,t::ts,h=>((InS.smul t (h v (by simp))).add (InS.csum vs ts fun u hu=>h u (by simp[hu]))).eq fun _=>rfl
theorem InS.more {l m:List Num}{f:Nat→Rat} (h:InS l f):InS (l++m) f:=by
  obtain⟨w,h1,h2⟩:=h
  refine⟨w++zeroIn m.length,by rw[List.length_append,List.length_append,zeroIn_length,h1],fun i=>?_⟩
  rw[csum_append _ _ _ _ _ h1,csum_zeroIn,h2 i]
  grind
theorem InS.mem {l:List Num}{v:Num} (h:v∈l):InS l (at_ v):=by
  obtain⟨i,hi,rfl⟩:=List.mem_iff_getElem.mp h
  refine⟨unit l.length i,unit_length _ _,fun k=>?_⟩
  rw[csum_unit l i k hi,List.getD_eq_getElem?_getD,List.getElem?_eq_getElem hi]
  rfl
theorem span_ins {ps:List Piv}{v:Num}:Span ps v↔InS (ps.map Piv.vec) (at_ v):=by
  constructor
  · rintro ⟨ts,h1,h2⟩
    exact⟨ts,by rw[List.length_map];exact h1,h2⟩
  · rintro ⟨ts,h1,h2⟩
    exact⟨ts,by rw[List.length_map] at h1;exact h1,h2⟩
theorem InS.through {l m:List Num}{f:Nat→Rat} (h:InS l f) (hl:∀ v∈l,InS m (at_ v)):InS m f:=by
  obtain⟨w,h1,h2⟩:=h
  exact (InS.csum l w hl).eq fun i=>(h2 i).symm
theorem ind_snoc {l:List Num}{v:Num}:Ind (l++[v])↔Ind l∧¬ InS l (at_ v):=by
  constructor
  · intro h
    refine⟨fun w hw hz z hzm=>?_,fun hs=>?_⟩
    · refine h (w++[0]) (by rw[List.length_append,List.length_append,hw];rfl) (fun i=>?_) z (by simp[hzm])
      rw[csum_append _ _ _ _ _ hw,hz i]
      show 0+(0*at_ v i+0)=0
      grind
    · obtain⟨w,hw,e⟩:=hs
      have:=h (w++[-1]) (by rw[List.length_append,List.length_append,hw];rfl) (fun i=>by
        rw[csum_append _ _ _ _ _ hw,←e i]
        show at_ v i+(-1*at_ v i+0)=0
        grind) (-1) (by simp)
      exact absurd this (by decide)
  · rintro ⟨h,hn⟩ w hw hz
    have hne:w≠[]:=by
      rintro rfl
      rw[List.length_append] at hw
      simp at hw
    obtain⟨u,t,rfl⟩:=snoc_of hne
    have hu:u.length=l.length:=by
      rw[List.length_append,List.length_append] at hw
      simpa using hw
    have e:∀ i,csum u l i+t*at_ v i=0:=fun i=>by
      have:=hz i
      rw[csum_append _ _ _ _ _ hu] at this
      have k:csum [t] [v] i=t*at_ v i+0:=rfl
      rw[k] at this
      grind
    have ht:t=0:=by
      false_or_by_contra
      rename_i ht
      apply hn
      refine (InS.smul (-1 / t) ⟨u,hu,fun i=>rfl⟩).eq fun i=>?_
      have:=e i
      have k:=Rat.div_mul_cancel (a:=-1) ht
      generalize -1 / t=s at *
      show s*csum u l i=at_ v i
      have e2:csum u l i=-(t*at_ v i):=by grind
      rw[e2]
      have e3:s*-(t*at_ v i)=-(s*t)*at_ v i:=by grind
      rw[e3,k]
      grind
    subst ht
    intro z hz'
    rcases List.mem_append.mp hz' with hz' | hz'
    · refine h u hu (fun i=>?_) z hz'
      have:=e i
      grind
    · simpa using hz'
def jn (n:Nat) (ps:List Piv) (x:Num×Nat):List Piv:=match join n ps x.2 x.1 with
  | none=>ps
  | some q=>q
theorem pivots_fold (l:List Num):pivots l=l.zipIdx.foldl (jn l.length) []:=rfl
structure Stage (m:Nat) (l pre:List Num) (ps:List Piv):Prop where
  ech:Ech m l.length l ps
  rows:∀ v∈pre,Span ps v
  made:∀ p∈ps,InS pre (at_ p.vec)
  len:ps.length≤pre.length
  ind:ps.length=pre.length↔Ind pre
theorem Stage.span_iff {m:Nat}{l pre:List Num}{ps:List Piv} (h:Stage m l pre ps) {v:Num}:Span ps v↔InS pre (at_ v):=by
  rw[span_ins]
  constructor
  · intro k
    refine k.through fun u hu=>?_
    obtain⟨p,hp,rfl⟩:=List.mem_map.mp hu
    exact h.made p hp
  · intro k
    exact k.through fun u hu=>span_ins.mp (h.rows u hu)
theorem stage_next {m:Nat}{l pre post:List Num}{v:Num}{ps:List Piv} (hl:l=pre++v::post) (hm:∀ u∈l,u.length=m) (h:Stage m l pre ps):Stage m l (pre++[v]) (jn l.length ps (v,pre.length)):=by
  have hi:pre.length<l.length:=by rw[hl,List.length_append,List.length_cons];lia
  have hv:l.getD pre.length []=v:=by
    rw[hl,List.getD_eq_getElem?_getD,List.getElem?_append_right (Nat.le_refl _),Nat.sub_self]
    rfl
  have hvm:v.length=m:=hm v (by rw[hl];simp)
  have hpl:(pre++[v]).length=pre.length+1:=by rw[List.length_append];rfl
  have hlen:=h.len
  unfold jn
  cases hj:join l.length ps pre.length v with
  | none =>
    have hs:=(join_none h.ech hvm).mp hj
    refine⟨h.ech,fun u hu=>?_,fun p hp=>(h.made p hp).more,?_,?_⟩
    · rcases List.mem_append.mp hu with hu | hu
      · exact h.rows u hu
      · rw[List.mem_singleton.mp hu]
        exact hs
    · show ps.length≤(pre++[v]).length
      lia
    · show ps.length=(pre++[v]).length↔_
      constructor
      · intro z
        lia
      · intro hI
        exact absurd (h.span_iff.mp hs) (ind_snoc.mp hI).2
  | some qs =>
    have hns:¬ Span ps v:=fun z=>by
      have:=(join_none (i:=pre.length) h.ech hvm).mpr z
      rw[this] at hj
      cases hj
    rw[←hv] at hj
    obtain⟨he,p,hq,hsp⟩:=join_some h.ech hi (by rw[hv];exact hvm) hj
    rw[hv] at hsp
    have hql:qs.length=ps.length+1:=by rw[hq,List.length_append];rfl
    refine⟨he,fun u hu=>?_,fun q hq'=>?_,?_,?_⟩
    · rcases List.mem_append.mp hu with hu | hu
      · rw[hq]
        exact (h.rows u hu).more
      · rw[List.mem_singleton.mp hu]
        exact hsp
    · -- the new one is made of v and of those before
      have hq2:q∈ps++[p]:=by rw[←hq];exact hq'
      rcases List.mem_append.mp hq2 with hq2 | hq2
      · exact (h.made q hq2).more
      · have hqp:=List.mem_singleton.mp hq2
        subst hqp
        obtain⟨ts,t1,t2⟩:=hsp
        rw[hq] at t1 t2
        have hne:ts≠[]:=by
          rintro rfl
          rw[List.length_append] at t1
          simp at t1
        obtain⟨us,t,rfl⟩:=snoc_of hne
        have hus:us.length=ps.length:=by
          rw[List.length_append,List.length_append] at t1
          simpa using t1
        have e:∀ i,at_ v i=csum us (ps.map Piv.vec) i+t*at_ q.vec i:=fun i=>by
          rw[t2 i,List.map_append,csum_append _ _ _ _ _ (by rw[List.length_map];exact hus)]
          have k:csum [t] ([q].map Piv.vec) i=t*at_ q.vec i+0:=rfl
          rw[k]
          grind
        have ht:t≠0:=by
          rintro rfl
          exact hns ⟨us,hus,fun i=>by rw[e i];grind⟩
        have hin:InS (pre++[v]) fun i=>csum us (ps.map Piv.vec) i:=InS.csum _ _ fun u hu=>by
          obtain⟨p',hp',rfl⟩:=List.mem_map.mp hu
          exact (h.made p' hp').more
        have hvin:InS (pre++[v]) (at_ v):=InS.mem (by simp)
        refine ((hvin.add (hin.smul (-1))).smul (1 / t)).eq fun i=>?_
        have k:=Rat.div_mul_cancel (a:=1) ht
        generalize 1 / t=s at *
        show s*(at_ v i+-1*csum us (ps.map Piv.vec) i)=at_ q.vec i
        rw[e i]
        have e3:s*(csum us (ps.map Piv.vec) i+t*at_ q.vec i+-1*csum us (ps.map Piv.vec) i)=(s*t)*at_ q.vec i:=by grind
        rw[e3,k]
        grind
    · show qs.length≤_
      lia
    · show qs.length=_↔_
      rw[ind_snoc,←h.ind,hql,hpl]
      constructor
      · intro z
        exact⟨by lia,fun w=>hns (h.span_iff.mpr w)⟩
      · rintro ⟨z,_⟩
        lia
theorem stage_all {m:Nat}{l:List Num} (hm:∀ u∈l,u.length=m):∀ (post pre:List Num) (ps:List Piv),l=pre++post→Stage m l pre ps→Stage m l l ((post.zipIdx pre.length).foldl (jn l.length) ps)
  | [],pre,ps,hl,h=>by
    rw[List.append_nil] at hl
    subst hl
    exact h
  | v::post,pre,ps,hl,h=>by
    rw[List.zipIdx_cons,List.foldl_cons]
    have hs:=stage_next hl hm h
    have:=stage_all hm post (pre++[v]) _ (by rw[hl,List.append_assoc];rfl) hs
    rw[List.length_append] at this
    exact this
theorem pivots_stage {m:Nat}{l:List Num} (hm:∀ u∈l,u.length=m):Stage m l l (pivots l):=by
  rw[pivots_fold]
  refine stage_all hm l [] [] rfl ⟨⟨?_,?_,?_,?_,List.Pairwise.nil⟩,?_,?_,Nat.le_refl _,?_⟩
  all_goals try (intro p hp;exact absurd hp (by simp))
  constructor
  · intro _ w hw _ z hz
    have:w=[]:=List.length_eq_zero_iff.mp hw
    rw[this] at hz
    exact absurd hz (by simp)
  · intro _
    rfl
theorem madeOf_sound {m:Nat}{l:List Num} (hm:∀ u∈l,u.length=m) {a w:Num} (ha:a.length=m) (h:madeOf l a=some w):w.length=l.length∧∀ i,at_ a i=csum w l i:=by
  have hs:=pivots_stage hm
  obtain⟨a1,a2,a3,_⟩:=less_spec (pivots l) a (zeroIn l.length) hs.ech ha (zeroIn_length _)
  have e:madeOf l a=if isZero (less (pivots l) a (zeroIn l.length)).1=true then some ((less (pivots l) a (zeroIn l.length)).2.map fun (r:Rat)=>-r) else none:=rfl
  rw[e] at h
  split at h
  · rename_i hz
    have hw:=Option.some.inj h
    subst hw
    refine⟨by rw[List.length_map,a2],fun i=>?_⟩
    rw[csum_neg]
    have k:=a3 i
    rw[isZero_at.mp hz i,csum_zeroIn] at k
    grind
  · cases h
theorem madeOf_iff {m:Nat}{l:List Num} (hm:∀ u∈l,u.length=m) {a:Num} (ha:a.length=m):(∃ w,madeOf l a=some w)↔InS l (at_ a):=by
  constructor
  · rintro ⟨w,h⟩
    obtain⟨h1,h2⟩:=madeOf_sound hm ha h
    exact⟨w,h1,h2⟩
  · intro h
    have hs:=pivots_stage hm
    have hz:=span_less (w:=zeroIn l.length) hs.ech ha (zeroIn_length _) (hs.span_iff.mpr h)
    refine⟨(less (pivots l) a (zeroIn l.length)).2.map fun (r:Rat)=>-r,?_⟩
    · show (if isZero (less (pivots l) a (zeroIn l.length)).1=true then some ((less (pivots l) a (zeroIn l.length)).2.map fun (r:Rat)=>-r) else none)=some _
      rw[if_pos (isZero_at.mpr hz)]
theorem shifts_length (c:List Int):∀ (n:Nat) (a:Num),(shifts c a n).length=n
  | 0,_=>rfl
  | n+1,a=>by
    show (a::shifts c (timesX c a) n).length=n+1
    rw[List.length_cons,shifts_length c n]
theorem shifts_mem {c:List Int}:∀ (n:Nat) (a:Num),a.length=c.length→∀ v∈shifts c a n,v.length=c.length
  | 0,_,_,v,hv=>absurd hv (by show ¬ v∈[];simp)
  | n+1,a,ha,v,hv=>by
    have hv':v∈a::shifts c (timesX c a) n:=hv
    rcases List.mem_cons.mp hv' with rfl | hv'
    · exact ha
    · exact shifts_mem n (timesX c a) (timesX_length c a) v hv'
theorem fold_csum {m:Nat}:∀ (l:List Num) (b:List Rat) (s:Num),(∀ v∈l,v.length=m)→s.length=m→∀ i,at_ ((l.zip b).foldl (fun (s:Num) (x:Num×Rat)=>Root.plus s (scaled x.2 x.1)) s) i=at_ s i+csum b l i
  | [],b,s,_,_,i=>by
    rw[csum_nil']
    show at_ s i=at_ s i+0
    grind
  | v::l,[],s,_,_,i=>by
    rw[csum_nil]
    show at_ s i=at_ s i+0
    grind
  | v::l,t::b,s,hl,hs,i=>by
    have hv:=hl v (by simp)
    show at_ ((l.zip b).foldl (fun (s:Num) (x:Num×Rat)=>Root.plus s (scaled x.2 x.1)) (Root.plus s (scaled t v))) i=at_ s i+(t*at_ v i+csum b l i)
    rw[fold_csum l b _ (fun u hu=>hl u (by simp[hu])) (by rw[plus_length,scaled_length];lia) i,at_plus _ _ (by rw[scaled_length];lia),at_scaled]
    grind
theorem times_csum {c:List Int}{a b:Num} (ha:a.length=c.length) (i:Nat):at_ (Root.times c a b) i=csum b (shifts c a c.length) i:=by
  unfold Root.times
  rw[fold_csum (m:=c.length) _ _ _ (shifts_mem _ a ha) (zeroIn_length _),at_zeroIn]
  grind
theorem inverse_ok {c:List Int} (h:refusal c=0) {a:Num} (ha:a.length=c.length) (h0:isZero a=false):(inverse c a).length=c.length∧Root.times c a (inverse c a)=oneIn c.length:=by
  obtain⟨l1,_,_⟩:=ok_field h
  obtain⟨w,hw,e⟩:=inv_row h ha h0
  have ht:Root.times c a w=oneIn c.length:=times_unique l1 ha hw (oneIn_length _) ((Cg.of_eq fun x=>by grind).trans (e.trans (Cg.of_eq fun x=>by rw[oneIn_at l1])))
  have hin:InS (shifts c a c.length) (at_ (oneIn c.length)):=⟨w,by rw[shifts_length];exact hw,fun i=>by rw[←ht,times_csum ha]⟩
  obtain⟨u,hu⟩:=(madeOf_iff (shifts_mem _ a ha) (oneIn_length _)).mpr hin
  obtain⟨u1,u2⟩:=madeOf_sound (shifts_mem _ a ha) (oneIn_length _) hu
  rw[shifts_length] at u1
  have ei:inverse c a=u:=by
    unfold inverse
    rw[hu]
    rfl
  rw[ei]
  refine⟨u1,num_ext (by rw[times_length l1 ha u1,oneIn_length]) fun i=>?_⟩
  rw[times_csum ha,u2 i]
theorem inverse_cg {c:List Int} (h:refusal c=0) {a:Num} (ha:a.length=c.length) (h0:isZero a=false):Cg c (fun x=>polyAt a x*polyAt (inverse c a) x) (fun _=>1):=by
  obtain⟨l1,_,_⟩:=ok_field h
  obtain⟨h1,h2⟩:=inverse_ok h ha h0
  have:=times_cg l1 ha h1
  rw[h2] at this
  exact this.symm.trans (Cg.of_eq fun x=>oneIn_at l1 x)
end Rr

end
section
set_option linter.all false
namespace Rr
open Root
def rI (l:List Int):List Rat:=l.map fun (z:Int)=>(z:Rat)
theorem rI_length (l:List Int):(rI l).length=l.length:=by unfold rI;rw[List.length_map]
end Rr

end
section
set_option linter.all false
namespace Rr
open Root
def dv (p:Int) (A:List Int):Num:=A.map fun (z:Int)=>(z:Rat) / (p:Rat)
theorem dv_length (p:Int) (A:List Int):(dv p A).length=A.length:=by unfold dv;rw[List.length_map]
theorem rI_dv {p:Int} (hp:0<p) (A:List Int):rI A=scaled (p:Rat) (dv p A):=by
  have hp0:(p:Rat)≠0:=fun z=>by
    have:=Rat.intCast_eq_zero_iff.mp z
    lia
  unfold rI scaled dv
  rw[List.map_map]
  refine List.map_congr_left fun z _=>?_
  show (z:Rat)=(p:Rat)*((z:Rat) / (p:Rat))
  have:=Rat.div_mul_cancel (a:=(z:Rat)) hp0
  grind
theorem rI_at {p:Int} (hp:0<p) (A:List Int) (x:Rat):polyAt (rI A) x=(p:Rat)*polyAt (dv p A) x:=by
  rw[rI_dv hp,scaled_at]
theorem dv_at {p:Int} (hp:0<p) (A:List Int) (x:Rat):polyAt (dv p A) x=1 / (p:Rat)*polyAt (rI A) x:=by
  have hp0:(p:Rat)≠0:=fun z=>by
    have:=Rat.intCast_eq_zero_iff.mp z
    lia
  rw[rI_at hp]
  have:=Rat.div_mul_cancel (a:=1) hp0
  generalize 1 / (p:Rat)=u at *
  grind
theorem isZero_dv {p:Int} (hp:0<p) {A:List Int}:isZero (dv p A)=true↔∀ z∈A,z=0:=by
  have hp0:(p:Rat)≠0:=fun z=>by
    have:=Rat.intCast_eq_zero_iff.mp z
    lia
  unfold isZero dv
  rw[List.all_map,List.all_eq_true]
  constructor
  · intro h z hz
    have h1:(z:Rat) / (p:Rat)=0:=by simpa using h z hz
    have:=Rat.div_mul_cancel (a:=(z:Rat)) hp0
    rw[h1,Rat.zero_mul] at this
    exact Rat.intCast_eq_zero_iff.mp this.symm
  · intro h z hz
    have:z=0:=h z hz
    subst this
    show ((((0:Int):Rat) / (p:Rat)) == 0)=true
    rw[Rat.intCast_zero,Rat.div_def,Rat.zero_mul]
    rfl
theorem times_dv {c:List Int} (hc:1≤c.length) {A B R:List Int}{p q:Int} (hp:0<p) (hq:0<q) (hA:A.length=c.length) (hB:B.length=c.length) (hR:R.length=c.length) (h:Cg c (fun x=>polyAt (rI A) x*polyAt (rI B) x) (polyAt (rI R))):Root.times c (dv p A) (dv q B)=dv (p*q) R:=by
  refine times_unique hc (by rw[dv_length];exact hA) (by rw[dv_length];exact hB) (by rw[dv_length];exact hR) ?_
  obtain⟨Q,hQ⟩:=h
  refine⟨mulC (1 / (p:Rat)*(1 / (q:Rat))) Q,fun x=>?_⟩
  have hpq:0<p*q:=Int.mul_pos hp hq
  have k:polyAt (rI A) x*polyAt (rI B) x-polyAt (rI R) x=polyAt Q x*polyAt (polyOf c) x:=hQ x
  show polyAt (dv p A) x*polyAt (dv q B) x-polyAt (dv (p*q) R) x=_
  rw[dv_at hp,dv_at hq,dv_at hpq,mulC_at]
  have e:1 / ((p*q:Int):Rat)=1 / (p:Rat)*(1 / (q:Rat)):=by
    rw[Rat.intCast_mul,Rat.div_def,Rat.div_def,Rat.div_def,Rat.inv_mul_rev]
    grind
  rw[e]
  generalize 1 / (p:Rat)=u at *
  generalize 1 / (q:Rat)=v at *
  clear hQ e
  grind
end Rr

end
section
set_option linter.all false
set_option maxHeartbeats 4000000
namespace Rr
open Root
theorem ratpow_add (x:Rat) (m:Nat):∀ n:Nat,x^(m+n)=x^m*x^n
  | 0=>by rw[Nat.add_zero,Rat.pow_zero];grind
  | n+1=>by rw[←Nat.add_assoc,Rat.pow_succ,ratpow_add x m n,Rat.pow_succ];grind
def pI (A:List Int) (x:Rat):Rat:=polyAt (rI A) x
theorem pI_nil (x:Rat):pI [] x=0:=polyAt_nil x
theorem pI_cons (a:Int) (l:List Int) (x:Rat):pI (a::l) x=(a:Rat)+x*pI l x:=by
  unfold pI rI
  rw[List.map_cons,polyAt_cons]
  grind
theorem pI_append (x:Rat):∀ l m:List Int,pI (l++m) x=pI l x+x^l.length*pI m x
  | [],m=>by rw[List.nil_append,pI_nil,List.length_nil];grind
  | a::l,m=>by
    rw[List.cons_append,pI_cons,pI_cons,pI_append x l m,List.length_cons,Rat.pow_succ]
    grind
theorem pI_set (x:Rat) (v:Int):∀ (l:List Int) (i:Nat),i<l.length→pI (l.set i v) x=pI l x+((v:Rat)-(l.getD i 0:Rat))*x^i
  | [],i,h=>absurd h (by simp)
  | a::l,0,_=>by
    rw[List.set_cons_zero,pI_cons,pI_cons,List.getD_cons_zero]
    grind
  | a::l,i+1,h=>by
    rw[List.set_cons_succ,pI_cons,pI_cons,pI_set x v l i (by simpa using h),List.getD_cons_succ,Rat.pow_succ]
    grind
theorem pI_take (x:Rat):∀ (l:List Int) (i:Nat),i<l.length→pI (l.take (i+1)) x=pI (l.take i) x+(l.getD i 0:Rat)*x^i
  | [],i,h=>absurd h (by simp)
  | a::l,0,_=>by
    rw[List.take_succ_cons,List.take_zero,List.take_zero,pI_cons,pI_nil,List.getD_cons_zero]
    grind
  | a::l,i+1,h=>by
    rw[List.take_succ_cons,List.take_succ_cons,pI_cons,pI_cons,pI_take x l i (by simpa using h),List.getD_cons_succ,Rat.pow_succ]
    grind
theorem pI_zeros (x:Rat):∀ n:Nat,pI (List.replicate n 0) x=0
  | 0=>pI_nil x
  | n+1=>by
    rw[List.replicate_succ,pI_cons,pI_zeros x n]
    grind
theorem polyOf_pI (c:List Int) (x:Rat):polyAt (polyOf c) x=pI c x+x^c.length:=by
  have e:polyOf c=rI (c++[1]):=by
    unfold polyOf rI
    rw[List.map_append]
    rfl
  rw[e]
  show pI (c++[1]) x=_
  rw[pI_append,pI_cons,pI_nil]
  grind
theorem pI_unique {c A B:List Int} (hA:A.length=c.length) (hB:B.length=c.length) (h:Cg c (pI A) (pI B)):A=B:=by
  have:=Cg.unique (c:=c) (a:=rI A) (b:=rI B) (by unfold rI;rw[List.length_map];exact hA) (by unfold rI;rw[List.length_map];exact hB) h
  unfold rI at this
  have inj:∀ x y:Int,(x:Rat)=(y:Rat)→x=y:=fun x y e=>Rat.intCast_inj.mp e
  exact (List.map_inj_right inj).mp this
theorem rem_step {c r R:List Int}{h:Int} (hl:c.length≤r.length) (e:∀ x,pI R x=pI r x-(h:Rat)*x^(r.length-c.length)*pI c x):Cg c (pI (r++[h])) (pI R):=by
  refine⟨rI (List.replicate (r.length-c.length) 0++[h]),fun x=>?_⟩
  show pI (r++[h]) x-pI R x=pI (List.replicate (r.length-c.length) 0++[h]) x*_
  rw[polyOf_pI,e,pI_append,pI_append,pI_zeros,pI_cons,pI_nil,List.length_replicate]
  have ep:x^r.length=x^(r.length-c.length)*x^c.length:=by rw[←ratpow_add,show r.length-c.length+c.length=r.length by lia]
  rw[ep]
  grind
end Rr

end
section
set_option linter.all false
set_option maxHeartbeats 4000000
namespace Rr
open Root
def xI (c v:List Int):List Int:=List.zipWith (fun (u w:Int)=>u-v.getLastD 0*w) (0::v.dropLast) c
theorem xI_snoc (c n:List Int) (h:Int):xI c (n++[h])=List.zipWith (fun (u w:Int)=>u-h*w) (0::n) c:=by
  unfold xI
  rw[List.dropLast_concat]
  simp
theorem pI_zipSub (h:Int) (x:Rat):∀ u w:List Int,u.length=w.length→pI (List.zipWith (fun (u w:Int)=>u-h*w) u w) x=pI u x-(h:Rat)*pI w x
  | [],[],_=>by rw[List.zipWith_nil_left,pI_nil];grind
  | a::u,b::w,e=>by
    rw[List.zipWith_cons_cons,pI_cons,pI_cons,pI_cons,pI_zipSub h x u w (by simpa using e),Rat.intCast_sub,Rat.intCast_mul]
    grind
  | [],b::w,e=>by simp at e
  | a::u,[],e=>by simp at e
theorem xI_length {c v:List Int} (h:v.length=c.length) (hc:1≤c.length):(xI c v).length=c.length:=by
  unfold xI
  rw[List.length_zipWith,List.length_cons,List.length_dropLast]
  lia
theorem xI_cg {c v:List Int} (h:v.length=c.length) (hc:1≤c.length):Cg c (fun x=>x*pI v x) (pI (xI c v)):=by
  have hne:v≠[]:=by
    rintro rfl
    simp at h
    lia
  obtain⟨n,t,rfl⟩:=snoc_of hne
  rw[xI_snoc]
  have hl:n.length+1=c.length:=by simpa using h
  refine⟨rI [t],fun x=>?_⟩
  show x*pI (n++[t]) x-pI _ x=pI [t] x*_
  rw[polyOf_pI,pI_zipSub t x _ _ (by simpa using hl),pI_append,pI_cons,pI_cons,pI_nil,←hl,Rat.pow_succ]
  grind
theorem pI_add (x:Rat):∀ u w:List Int,u.length=w.length→pI (List.zipWith (fun (u w:Int)=>u+w) u w) x=pI u x+pI w x
  | [],[],_=>by rw[List.zipWith_nil_left,pI_nil];grind
  | a::u,b::w,e=>by
    rw[List.zipWith_cons_cons,pI_cons,pI_cons,pI_cons,pI_add x u w (by simpa using e),Rat.intCast_add]
    grind
  | [],b::w,e=>by simp at e
  | a::u,[],e=>by simp at e
theorem pI_smul (t:Int) (x:Rat):∀ u:List Int,pI (u.map fun (z:Int)=>t*z) x=(t:Rat)*pI u x
  | []=>by rw[List.map_nil,pI_nil];grind
  | a::u=>by
    rw[List.map_cons,pI_cons,pI_cons,pI_smul t x u,Rat.intCast_mul]
    grind
def mulI (c:List Int):List Int→List Int→List Int
  | _,[]=>List.replicate c.length 0
  | A,b::B=>List.zipWith (fun (u w:Int)=>u+w) (A.map fun (z:Int)=>b*z) (mulI c (xI c A) B)
theorem mulI_cons (c A B:List Int) (b:Int):mulI c A (b::B)=List.zipWith (fun (u w:Int)=>u+w) (A.map fun (z:Int)=>b*z) (mulI c (xI c A) B):=rfl
theorem mulI_nil (c A:List Int):mulI c A []=List.replicate c.length 0:=rfl
theorem mulI_length {c:List Int} (hc:1≤c.length):∀ (B A:List Int),A.length=c.length→(mulI c A B).length=c.length
  | [],A,h=>by unfold mulI;rw[List.length_replicate]
  | b::B,A,h=>by
    unfold mulI
    rw[List.length_zipWith,List.length_map,mulI_length hc B (xI c A) (xI_length h hc),h]
    lia
theorem mulI_cg {c:List Int} (hc:1≤c.length):∀ (B A:List Int),A.length=c.length→Cg c (fun x=>pI A x*pI B x) (pI (mulI c A B))
  | [],A,h=>Cg.of_eq fun x=>by
    unfold mulI
    rw[pI_nil,pI_zeros]
    grind
  | b::B,A,h=>by
    have hx:=xI_length h hc
    have e1:=mulI_cg hc B (xI c A) hx
    have e2:=(xI_cg h hc).mul (rI B)
    have e3:Cg c (fun x=>x*pI A x*pI B x) (pI (mulI c (xI c A) B)):=e2.trans e1
    have e4:=(Cg.refl (c:=c) (fun x=>(b:Rat)*pI A x)).add e3
    refine (Cg.of_eq fun x=>?_).trans (e4.trans (Cg.of_eq fun x=>?_))
    · rw[pI_cons]
      grind
    · rw[mulI_cons,pI_add x _ _ (by rw[List.length_map,mulI_length hc B _ hx,h]),pI_smul]
theorem mulI_is {c A B R:List Int} (hc:1≤c.length) (hA:A.length=c.length) (hR:R.length=c.length) (h:Cg c (fun x=>pI A x*pI B x) (pI R)):R=mulI c A B :=
  pI_unique hR (mulI_length hc B A hA) (h.symm.trans (mulI_cg hc B A hA))
theorem xI_is {c A R:List Int} (hc:1≤c.length) (hA:A.length=c.length) (hR:R.length=c.length) (h:Cg c (fun x=>x*pI A x) (pI R)):R=xI c A :=
  pI_unique hR (xI_length hA hc) (h.symm.trans (xI_cg hA hc))
theorem Cg.mulx {c:List Int}{u v:Rat→Rat} (h:Cg c u v):Cg c (fun x=>x*u x) (fun x=>x*v x):=by
  obtain⟨Q,hQ⟩:=h
  refine⟨upP Q,fun x=>?_⟩
  have:=hQ x
  rw[upP_at]
  grind
theorem xI_mulI {c A B:List Int} (hc:1≤c.length) (hA:A.length=c.length) (hB:B.length=c.length):xI c (mulI c A B)=mulI c A (xI c B):=by
  have hm:=mulI_length hc B A hA
  refine mulI_is hc hA (xI_length hm hc) ?_
  have e1:=xI_cg hm hc
  have e2:=(mulI_cg hc B A hA).mulx
  have e3:=(xI_cg hB hc).mul (rI A)
  refine Cg.trans ?_ (e2.trans e1)
  refine (Cg.of_eq fun x=>?_).trans (e3.symm.trans (Cg.of_eq fun x=>?_))
  · show pI A x*pI (xI c B) x=pI (xI c B) x*pI A x
    grind
  · show x*pI B x*pI A x=x*(pI A x*pI B x)
    grind
def colI (c v:List Int):Nat→List Int
  | 0=>v
  | j+1=>xI c (colI c v j)
theorem colI_length {c v:List Int} (hc:1≤c.length) (h:v.length=c.length):∀ j,(colI c v j).length=c.length
  | 0=>h
  | j+1=>xI_length (colI_length hc h j) hc
def trN (c v:List Int):Nat→Int
  | 0=>0
  | n+1=>trN c v n+(colI c v n).getD n 0
def trI (c v:List Int):Int:=trN c v c.length
def lessI (v:List Int) (s:Int):List Int:=(v.headD 0-s)::v.tail
def flI (c A:List Int):Nat→List Int
  | 0=>1::List.replicate (c.length-1) 0
  | n+1=>lessI (mulI c A (flI c A n)) (trI c (mulI c A (flI c A n)) / ((n:Int)+1))
theorem lessI_length {v:List Int}{s:Int} (h:1≤v.length):(lessI v s).length=v.length:=by
  unfold lessI
  rw[List.length_cons,List.length_tail]
  lia
theorem flI_length {c A:List Int} (hc:1≤c.length) (h:A.length=c.length):∀ n,(flI c A n).length=c.length
  | 0=>by
    unfold flI
    rw[List.length_cons,List.length_replicate]
    lia
  | n+1=>by
    unfold flI
    rw[lessI_length (by rw[mulI_length hc _ _ h];exact hc),mulI_length hc _ _ h]
end Rr

end
section
set_option linter.all false
set_option maxHeartbeats 4000000
namespace Rr
open Root
def eI (c v:List Int) (i j:Nat):Int:=(colI c v j).getD i 0
theorem colI_mulI {c A B:List Int} (hc:1≤c.length) (hA:A.length=c.length) (hB:B.length=c.length):∀ j,colI c (mulI c A B) j=mulI c A (colI c B j)
  | 0=>rfl
  | j+1=>by
    show xI c (colI c (mulI c A B) j)=mulI c A (xI c (colI c B j))
    rw[colI_mulI hc hA hB j,xI_mulI hc hA (colI_length hc hB j)]
def dotI (f:Nat→Int):List Int→Nat→Int
  | [],_=>0
  | b::B,k=>b*f k+dotI f B (k+1)
theorem getD_zip {f:Int→Int→Int}:∀ (u w:List Int) (i:Nat),u.length=w.length→i<u.length→(List.zipWith f u w).getD i 0=f (u.getD i 0) (w.getD i 0)
  | [],_,i,_,h=>absurd h (by simp)
  | a::u,[],i,e,_=>by simp at e
  | a::u,b::w,0,_,_=>rfl
  | a::u,b::w,i+1,e,h=>by
    rw[List.zipWith_cons_cons,List.getD_cons_succ,List.getD_cons_succ,List.getD_cons_succ]
    exact getD_zip u w i (by simpa using e) (by simpa using h)
theorem getD_map0 (f:Int→Int) (u:List Int) (i:Nat) (h:i<u.length):(u.map f).getD i 0=f (u.getD i 0):=by
  rw[List.getD_eq_getElem?_getD,List.getD_eq_getElem?_getD,List.getElem?_map,List.getElem?_eq_getElem h]
  rfl
theorem mulI_at {c A:List Int} (hc:1≤c.length) (hA:A.length=c.length) {i:Nat} (hi:i<c.length):∀ (B:List Int) (k:Nat),(mulI c (colI c A k) B).getD i 0=dotI (fun j=>eI c A i j) B k
  | [],k=>by
    rw[mulI_nil]
    show _=(0:Int)
    rw[List.getD_eq_getElem?_getD,List.getElem?_replicate]
    split <;> rfl
  | b::B,k=>by
    have hl:=colI_length hc hA k
    have hx:xI c (colI c A k)=colI c A (k+1):=rfl
    rw[mulI_cons,getD_zip _ _ _ (by rw[List.length_map,mulI_length hc B _ (xI_length hl hc),hl]) (by rw[List.length_map,hl];exact hi),getD_map0 _ _ _ (by rw[hl];exact hi),hx,mulI_at hc hA hi B (k+1)]
    rfl
theorem eI_mul {c A B:List Int} (hc:1≤c.length) (hA:A.length=c.length) (hB:B.length=c.length) {i:Nat} (hi:i<c.length) (j:Nat):eI c (mulI c A B) i j=dotI (fun k=>eI c A i k) (colI c B j) 0:=by
  unfold eI
  rw[colI_mulI hc hA hB]
  exact mulI_at hc hA hi _ 0
theorem xI_sub {c v:List Int} (hc:1≤c.length) (h:v.length=c.length) {j:Nat} (hj:j+1<c.length) (s:Int):xI c (v.set j (v.getD j 0-s))=(xI c v).set (j+1) ((xI c v).getD (j+1) 0-s):=by
  have hl:=xI_length h hc
  have hs:(v.set j (v.getD j 0-s)).length=c.length:=by rw[List.length_set];exact h
  refine (xI_is hc hs (by rw[List.length_set];exact hl) ?_).symm
  obtain⟨Q,hQ⟩:=xI_cg h hc
  refine⟨Q,fun x=>?_⟩
  have:=hQ x
  show x*pI _ x-pI _ x=_
  rw[pI_set x _ _ _ (by lia),pI_set x _ _ _ (by lia),Rat.intCast_sub,Rat.intCast_sub,Rat.pow_succ]
  grind
theorem lessI_set {v:List Int} (h:1≤v.length) (s:Int):lessI v s=v.set 0 (v.getD 0 0-s):=by
  cases v with
  | nil=>simp at h
  | cons a l=>rfl
theorem colI_less {c v:List Int} (hc:1≤c.length) (h:v.length=c.length) (s:Int):∀ j,j<c.length→colI c (lessI v s) j=(colI c v j).set j ((colI c v j).getD j 0-s)
  | 0,_=>lessI_set (by lia) s
  | j+1,hj=>by
    show xI c (colI c (lessI v s) j)=_
    rw[colI_less hc h s j (by lia),xI_sub hc (colI_length hc h j) hj]
    rfl
theorem eI_less {c v:List Int} (hc:1≤c.length) (h:v.length=c.length) (s:Int) {i j:Nat} (hi:i<c.length) (hj:j<c.length):eI c (lessI v s) i j=eI c v i j-if i=j then s else 0:=by
  unfold eI
  have hl:=colI_length hc h j
  rw[colI_less hc h s j hj]
  by_cases e:i=j
  · subst e
    rw[if_pos rfl,List.getD_eq_getElem?_getD,List.getElem?_set_self (by lia)]
    rfl
  · rw[if_neg e,List.getD_eq_getElem?_getD,List.getElem?_set_ne (fun z=>e z.symm),←List.getD_eq_getElem?_getD]
    lia
theorem trN_less {c v:List Int} (hc:1≤c.length) (h:v.length=c.length) (s:Int):∀ n,n≤c.length→trN c (lessI v s) n=trN c v n-(n:Int)*s
  | 0,_=>by
    show (0:Int)=0-((0:Nat):Int)*s
    simp
  | n+1,hn=>by
    show trN c (lessI v s) n+eI c (lessI v s) n n=trN c v n+eI c v n n-((n+1:Nat):Int)*s
    rw[trN_less hc h s n (by lia),eI_less hc h s (by lia) (by lia),if_pos rfl]
    grind
theorem trI_less {c v:List Int} (hc:1≤c.length) (h:v.length=c.length) (s:Int):trI c (lessI v s)=trI c v-(c.length:Int)*s:=trN_less hc h s _ (Nat.le_refl _)
theorem mulI_one {c A:List Int} (hc:1≤c.length) (hA:A.length=c.length):mulI c A (1::List.replicate (c.length-1) 0)=A:=by
  refine (mulI_is hc hA hA ?_).symm
  refine Cg.of_eq fun x=>?_
  rw[pI_cons,pI_zeros,Rat.intCast_one]
  grind
theorem four {v:List Int} (h:v.length=4):v=[v.getD 0 0,v.getD 1 0,v.getD 2 0,v.getD 3 0]:=by
  match v,h with
  | [a,b,c,d],_=>rfl
theorem e4_mul {c A B:List Int} (hc:c.length=4) (hA:A.length=4) (hB:B.length=4) {i:Nat} (hi:i<4) (j:Nat):eI c (mulI c A B) i j=eI c B 0 j*eI c A i 0+eI c B 1 j*eI c A i 1+eI c B 2 j*eI c A i 2+eI c B 3 j*eI c A i 3:=by
  rw[eI_mul (by lia) (by lia) (by lia) (by lia)]
  have:=four (v:=colI c B j) (by rw[colI_length (by lia) (by lia)];exact hc)
  rw[this]
  show _*_+(_*_+(_*_+(_*_+0)))=_
  unfold eI
  grind
theorem tr4 {c v:List Int} (hc:c.length=4):trI c v=eI c v 0 0+eI c v 1 1+eI c v 2 2+eI c v 3 3:=by
  unfold trI
  rw[hc]
  show 0+_+_+_+_=_
  unfold eI
  rw[Int.zero_add]
end Rr

end
section
set_option linter.all false
set_option maxHeartbeats 4000000
namespace Rr
open Root
structure FlOk (c A:List Int):Prop where
  ex:∀ n,n+1<c.length→((n:Int)+1)*(trI c (mulI c A (flI c A n)) / ((n:Int)+1))=trI c (mulI c A (flI c A n))
  fin:∃ D:Int,mulI c A (flI c A (c.length-1))=D::List.replicate (c.length-1) 0
theorem fl_next {c A:List Int}{n:Nat}{s:Int} (h:trI c (mulI c A (flI c A n))=((n:Int)+1)*s):flI c A (n+1)=lessI (mulI c A (flI c A n)) s∧((n:Int)+1)*(trI c (mulI c A (flI c A n)) / ((n:Int)+1))=trI c (mulI c A (flI c A n)):=by
  have e:trI c (mulI c A (flI c A n)) / ((n:Int)+1)=s:=by
    rw[h]
    exact Int.mul_ediv_cancel_left _ (by lia)
  refine⟨?_,by rw[e,h]⟩
  show lessI (mulI c A (flI c A n)) (trI c (mulI c A (flI c A n)) / ((n:Int)+1))=_
  rw[e]
theorem fl1 {c A:List Int} (hc:c.length=1) (hA:A.length=1):FlOk c A:=by
  have h1:1≤c.length:=by lia
  have e0:mulI c A (flI c A 0)=A:=mulI_one h1 (by lia)
  refine⟨fun n hn=>by lia,A.getD 0 0,?_⟩
  rw[hc]
  show mulI c A (flI c A 0)=_
  rw[e0]
  match A,hA with
  | [a],_=>rfl
theorem two {v:List Int} (h:v.length=2):v=[v.getD 0 0,v.getD 1 0]:=by
  match v,h with
  | [a0,a1],_=>rfl
theorem e2_mul {c A B:List Int} (hc:c.length=2) (hA:A.length=2) (hB:B.length=2) {i:Nat} (hi:i<2) (j:Nat):eI c (mulI c A B) i j=eI c B 0 j*eI c A i 0+eI c B 1 j*eI c A i 1:=by
  rw[eI_mul (by lia) (by lia) (by lia) (by lia)]
  have:=two (v:=colI c B j) (by rw[colI_length (by lia) (by lia)];exact hc)
  rw[this]
  show _*_+(_*_+0)=_
  unfold eI
  grind
theorem tr2 {c v:List Int} (hc:c.length=2):trI c v=eI c v 0 0+eI c v 1 1:=by
  unfold trI
  rw[hc]
  show 0+_+_=_
  unfold eI
  rw[Int.zero_add]
theorem fl2 {c A:List Int} (hc:c.length=2) (hA:A.length=2):FlOk c A:=by
  have h1:1≤c.length:=by lia
  have hA':A.length=c.length:=by lia
  have e0:mulI c A (flI c A 0)=A:=mulI_one h1 hA'
  obtain⟨a00,e00⟩:∃ t,eI c A 0 0=t:=⟨_,rfl⟩
  obtain⟨a01,e01⟩:∃ t,eI c A 0 1=t:=⟨_,rfl⟩
  obtain⟨a10,e10⟩:∃ t,eI c A 1 0=t:=⟨_,rfl⟩
  obtain⟨a11,e11⟩:∃ t,eI c A 1 1=t:=⟨_,rfl⟩
  obtain⟨s1,hs1⟩:∃ s,s=a00+a11:=⟨_,rfl⟩
  obtain⟨f1,x1⟩:=fl_next (c:=c) (A:=A) (n:=0) (s:=s1) (by rw[e0,tr2 hc,e00,e11,←hs1];simp)
  rw[e0] at f1
  have l1:(flI c A 1).length=2:=by rw[flI_length h1 hA'];exact hc
  have m1_00:eI c (flI c A 1) 0 0=a00-s1:=by
    rw[f1,eI_less h1 hA' s1 (by lia) (by lia),e00]
    simp
  have m1_10:eI c (flI c A 1) 1 0=a10:=by
    rw[f1,eI_less h1 hA' s1 (by lia) (by lia),e10]
    simp
  have p2_00:eI c (mulI c A (flI c A 1)) 0 0=((a00-s1)*a00+(a10)*a01):=by
    rw[e2_mul hc hA l1 (by decide),m1_00,m1_10,e00,e01]
  have p2_10:eI c (mulI c A (flI c A 1)) 1 0=((a00-s1)*a10+(a10)*a11):=by
    rw[e2_mul hc hA l1 (by decide),m1_00,m1_10,e10,e11]
  refine⟨fun n hn=>?_,(mulI c A (flI c A 1)).getD 0 0,?_⟩
  · have:n=0:=by lia
    subst this
    exact x1
  · rw[hc]
    have hl:(mulI c A (flI c A 1)).length=2:=by rw[mulI_length h1 _ _ hA'];exact hc
    have z1:(mulI c A (flI c A 1)).getD 1 0=0:=by
      refine (show _=eI c (mulI c A (flI c A 1)) 1 0 from rfl).trans (p2_10.trans ?_)
      subst hs1
      grind
    rw[two hl,z1]
    rfl
theorem three {v:List Int} (h:v.length=3):v=[v.getD 0 0,v.getD 1 0,v.getD 2 0]:=by
  match v,h with
  | [a0,a1,a2],_=>rfl
theorem e3_mul {c A B:List Int} (hc:c.length=3) (hA:A.length=3) (hB:B.length=3) {i:Nat} (hi:i<3) (j:Nat):eI c (mulI c A B) i j=eI c B 0 j*eI c A i 0+eI c B 1 j*eI c A i 1+eI c B 2 j*eI c A i 2:=by
  rw[eI_mul (by lia) (by lia) (by lia) (by lia)]
  have:=three (v:=colI c B j) (by rw[colI_length (by lia) (by lia)];exact hc)
  rw[this]
  show _*_+(_*_+(_*_+0))=_
  unfold eI
  grind
theorem tr3 {c v:List Int} (hc:c.length=3):trI c v=eI c v 0 0+eI c v 1 1+eI c v 2 2:=by
  unfold trI
  rw[hc]
  show 0+_+_+_=_
  unfold eI
  rw[Int.zero_add]
theorem fl3 {c A:List Int} (hc:c.length=3) (hA:A.length=3):FlOk c A:=by
  have h1:1≤c.length:=by lia
  have hA':A.length=c.length:=by lia
  have e0:mulI c A (flI c A 0)=A:=mulI_one h1 hA'
  obtain⟨a00,e00⟩:∃ t,eI c A 0 0=t:=⟨_,rfl⟩
  obtain⟨a01,e01⟩:∃ t,eI c A 0 1=t:=⟨_,rfl⟩
  obtain⟨a02,e02⟩:∃ t,eI c A 0 2=t:=⟨_,rfl⟩
  obtain⟨a10,e10⟩:∃ t,eI c A 1 0=t:=⟨_,rfl⟩
  obtain⟨a11,e11⟩:∃ t,eI c A 1 1=t:=⟨_,rfl⟩
  obtain⟨a12,e12⟩:∃ t,eI c A 1 2=t:=⟨_,rfl⟩
  obtain⟨a20,e20⟩:∃ t,eI c A 2 0=t:=⟨_,rfl⟩
  obtain⟨a21,e21⟩:∃ t,eI c A 2 1=t:=⟨_,rfl⟩
  obtain⟨a22,e22⟩:∃ t,eI c A 2 2=t:=⟨_,rfl⟩
  obtain⟨s1,hs1⟩:∃ s,s=a00+a11+a22:=⟨_,rfl⟩
  obtain⟨f1,x1⟩:=fl_next (c:=c) (A:=A) (n:=0) (s:=s1) (by rw[e0,tr3 hc,e00,e11,e22,←hs1];simp)
  rw[e0] at f1
  have l1:(flI c A 1).length=3:=by rw[flI_length h1 hA'];exact hc
  have m1_00:eI c (flI c A 1) 0 0=a00-s1:=by
    rw[f1,eI_less h1 hA' s1 (by lia) (by lia),e00]
    simp
  have m1_01:eI c (flI c A 1) 0 1=a01:=by
    rw[f1,eI_less h1 hA' s1 (by lia) (by lia),e01]
    simp
  have m1_02:eI c (flI c A 1) 0 2=a02:=by
    rw[f1,eI_less h1 hA' s1 (by lia) (by lia),e02]
    simp
  have m1_10:eI c (flI c A 1) 1 0=a10:=by
    rw[f1,eI_less h1 hA' s1 (by lia) (by lia),e10]
    simp
  have m1_11:eI c (flI c A 1) 1 1=a11-s1:=by
    rw[f1,eI_less h1 hA' s1 (by lia) (by lia),e11]
    simp
  have m1_12:eI c (flI c A 1) 1 2=a12:=by
    rw[f1,eI_less h1 hA' s1 (by lia) (by lia),e12]
    simp
  have m1_20:eI c (flI c A 1) 2 0=a20:=by
    rw[f1,eI_less h1 hA' s1 (by lia) (by lia),e20]
    simp
  have m1_21:eI c (flI c A 1) 2 1=a21:=by
    rw[f1,eI_less h1 hA' s1 (by lia) (by lia),e21]
    simp
  have m1_22:eI c (flI c A 1) 2 2=a22-s1:=by
    rw[f1,eI_less h1 hA' s1 (by lia) (by lia),e22]
    simp
  have p2_00:eI c (mulI c A (flI c A 1)) 0 0=((a00-s1)*a00+(a10)*a01+(a20)*a02):=by
    rw[e3_mul hc hA l1 (by decide),m1_00,m1_10,m1_20,e00,e01,e02]
  have p2_10:eI c (mulI c A (flI c A 1)) 1 0=((a00-s1)*a10+(a10)*a11+(a20)*a12):=by
    rw[e3_mul hc hA l1 (by decide),m1_00,m1_10,m1_20,e10,e11,e12]
  have p2_11:eI c (mulI c A (flI c A 1)) 1 1=((a01)*a10+(a11-s1)*a11+(a21)*a12):=by
    rw[e3_mul hc hA l1 (by decide),m1_01,m1_11,m1_21,e10,e11,e12]
  have p2_20:eI c (mulI c A (flI c A 1)) 2 0=((a00-s1)*a20+(a10)*a21+(a20)*a22):=by
    rw[e3_mul hc hA l1 (by decide),m1_00,m1_10,m1_20,e20,e21,e22]
  have p2_22:eI c (mulI c A (flI c A 1)) 2 2=((a02)*a20+(a12)*a21+(a22-s1)*a22):=by
    rw[e3_mul hc hA l1 (by decide),m1_02,m1_12,m1_22,e20,e21,e22]
  obtain⟨s2,hs2⟩:∃ s,s=-((a00*a11-a01*a10)+(a00*a22-a02*a20)+(a11*a22-a12*a21)):=⟨_,rfl⟩
  obtain⟨f2,x2⟩:=fl_next (c:=c) (A:=A) (n:=1) (s:=s2) (by
    rw[tr3 hc,p2_00,p2_11,p2_22,hs2]
    rw[show (((1:Nat):Int)+1)=2 from rfl]
    subst hs1
    grind)
  have l2:(flI c A 2).length=3:=by rw[flI_length h1 hA'];exact hc
  have m2_00:eI c (flI c A 2) 0 0=((a00-s1)*a00+(a10)*a01+(a20)*a02)-s2:=by
    rw[f2,eI_less h1 (by rw[mulI_length h1 _ _ hA']) s2 (by lia) (by lia),p2_00]
    simp
  have m2_10:eI c (flI c A 2) 1 0=((a00-s1)*a10+(a10)*a11+(a20)*a12):=by
    rw[f2,eI_less h1 (by rw[mulI_length h1 _ _ hA']) s2 (by lia) (by lia),p2_10]
    simp
  have m2_20:eI c (flI c A 2) 2 0=((a00-s1)*a20+(a10)*a21+(a20)*a22):=by
    rw[f2,eI_less h1 (by rw[mulI_length h1 _ _ hA']) s2 (by lia) (by lia),p2_20]
    simp
  have p3_00:eI c (mulI c A (flI c A 2)) 0 0=(((((a00-s1)*a00+(a10)*a01+(a20)*a02)-s2))*a00+((((a00-s1)*a10+(a10)*a11+(a20)*a12)))*a01+((((a00-s1)*a20+(a10)*a21+(a20)*a22)))*a02):=by
    rw[e3_mul hc hA l2 (by decide),m2_00,m2_10,m2_20,e00,e01,e02]
  have p3_10:eI c (mulI c A (flI c A 2)) 1 0=(((((a00-s1)*a00+(a10)*a01+(a20)*a02)-s2))*a10+((((a00-s1)*a10+(a10)*a11+(a20)*a12)))*a11+((((a00-s1)*a20+(a10)*a21+(a20)*a22)))*a12):=by
    rw[e3_mul hc hA l2 (by decide),m2_00,m2_10,m2_20,e10,e11,e12]
  have p3_20:eI c (mulI c A (flI c A 2)) 2 0=(((((a00-s1)*a00+(a10)*a01+(a20)*a02)-s2))*a20+((((a00-s1)*a10+(a10)*a11+(a20)*a12)))*a21+((((a00-s1)*a20+(a10)*a21+(a20)*a22)))*a22):=by
    rw[e3_mul hc hA l2 (by decide),m2_00,m2_10,m2_20,e20,e21,e22]
  refine⟨fun n hn=>?_,(mulI c A (flI c A 2)).getD 0 0,?_⟩
  · have:n=0∨n=1:=by lia
    rcases this with rfl | rfl
    · exact x1
    · exact x2
  · rw[hc]
    have hl:(mulI c A (flI c A 2)).length=3:=by rw[mulI_length h1 _ _ hA'];exact hc
    have z1:(mulI c A (flI c A 2)).getD 1 0=0:=by
      refine (show _=eI c (mulI c A (flI c A 2)) 1 0 from rfl).trans (p3_10.trans ?_)
      subst hs1 hs2
      grind
    have z2:(mulI c A (flI c A 2)).getD 2 0=0:=by
      refine (show _=eI c (mulI c A (flI c A 2)) 2 0 from rfl).trans (p3_20.trans ?_)
      subst hs1 hs2
      grind
    rw[three hl,z1,z2]
    rfl
theorem fl4 {c A:List Int} (hc:c.length=4) (hA:A.length=4):FlOk c A:=by
  have h1:1≤c.length:=by lia
  have hA':A.length=c.length:=by lia
  have e0:mulI c A (flI c A 0)=A:=mulI_one h1 hA'
  obtain⟨a00,e00⟩:∃ t,eI c A 0 0=t:=⟨_,rfl⟩
  obtain⟨a01,e01⟩:∃ t,eI c A 0 1=t:=⟨_,rfl⟩
  obtain⟨a02,e02⟩:∃ t,eI c A 0 2=t:=⟨_,rfl⟩
  obtain⟨a03,e03⟩:∃ t,eI c A 0 3=t:=⟨_,rfl⟩
  obtain⟨a10,e10⟩:∃ t,eI c A 1 0=t:=⟨_,rfl⟩
  obtain⟨a11,e11⟩:∃ t,eI c A 1 1=t:=⟨_,rfl⟩
  obtain⟨a12,e12⟩:∃ t,eI c A 1 2=t:=⟨_,rfl⟩
  obtain⟨a13,e13⟩:∃ t,eI c A 1 3=t:=⟨_,rfl⟩
  obtain⟨a20,e20⟩:∃ t,eI c A 2 0=t:=⟨_,rfl⟩
  obtain⟨a21,e21⟩:∃ t,eI c A 2 1=t:=⟨_,rfl⟩
  obtain⟨a22,e22⟩:∃ t,eI c A 2 2=t:=⟨_,rfl⟩
  obtain⟨a23,e23⟩:∃ t,eI c A 2 3=t:=⟨_,rfl⟩
  obtain⟨a30,e30⟩:∃ t,eI c A 3 0=t:=⟨_,rfl⟩
  obtain⟨a31,e31⟩:∃ t,eI c A 3 1=t:=⟨_,rfl⟩
  obtain⟨a32,e32⟩:∃ t,eI c A 3 2=t:=⟨_,rfl⟩
  obtain⟨a33,e33⟩:∃ t,eI c A 3 3=t:=⟨_,rfl⟩
  obtain⟨s1,hs1⟩:∃ s,s=a00+a11+a22+a33:=⟨_,rfl⟩
  obtain⟨f1,x1⟩:=fl_next (c:=c) (A:=A) (n:=0) (s:=s1) (by rw[e0,tr4 hc,e00,e11,e22,e33,←hs1];simp)
  rw[e0] at f1
  have l1:(flI c A 1).length=4:=by rw[flI_length h1 hA'];exact hc
  have m1_00:eI c (flI c A 1) 0 0=a00-s1:=by
    rw[f1,eI_less h1 hA' s1 (by lia) (by lia),e00]
    simp
  have m1_01:eI c (flI c A 1) 0 1=a01:=by
    rw[f1,eI_less h1 hA' s1 (by lia) (by lia),e01]
    simp
  have m1_02:eI c (flI c A 1) 0 2=a02:=by
    rw[f1,eI_less h1 hA' s1 (by lia) (by lia),e02]
    simp
  have m1_03:eI c (flI c A 1) 0 3=a03:=by
    rw[f1,eI_less h1 hA' s1 (by lia) (by lia),e03]
    simp
  have m1_10:eI c (flI c A 1) 1 0=a10:=by
    rw[f1,eI_less h1 hA' s1 (by lia) (by lia),e10]
    simp
  have m1_11:eI c (flI c A 1) 1 1=a11-s1:=by
    rw[f1,eI_less h1 hA' s1 (by lia) (by lia),e11]
    simp
  have m1_12:eI c (flI c A 1) 1 2=a12:=by
    rw[f1,eI_less h1 hA' s1 (by lia) (by lia),e12]
    simp
  have m1_13:eI c (flI c A 1) 1 3=a13:=by
    rw[f1,eI_less h1 hA' s1 (by lia) (by lia),e13]
    simp
  have m1_20:eI c (flI c A 1) 2 0=a20:=by
    rw[f1,eI_less h1 hA' s1 (by lia) (by lia),e20]
    simp
  have m1_21:eI c (flI c A 1) 2 1=a21:=by
    rw[f1,eI_less h1 hA' s1 (by lia) (by lia),e21]
    simp
  have m1_22:eI c (flI c A 1) 2 2=a22-s1:=by
    rw[f1,eI_less h1 hA' s1 (by lia) (by lia),e22]
    simp
  have m1_23:eI c (flI c A 1) 2 3=a23:=by
    rw[f1,eI_less h1 hA' s1 (by lia) (by lia),e23]
    simp
  have m1_30:eI c (flI c A 1) 3 0=a30:=by
    rw[f1,eI_less h1 hA' s1 (by lia) (by lia),e30]
    simp
  have m1_31:eI c (flI c A 1) 3 1=a31:=by
    rw[f1,eI_less h1 hA' s1 (by lia) (by lia),e31]
    simp
  have m1_32:eI c (flI c A 1) 3 2=a32:=by
    rw[f1,eI_less h1 hA' s1 (by lia) (by lia),e32]
    simp
  have m1_33:eI c (flI c A 1) 3 3=a33-s1:=by
    rw[f1,eI_less h1 hA' s1 (by lia) (by lia),e33]
    simp
  have p2_00:eI c (mulI c A (flI c A 1)) 0 0=((a00-s1)*a00+(a10)*a01+(a20)*a02+(a30)*a03):=by
    rw[e4_mul hc hA l1 (by decide),m1_00,m1_10,m1_20,m1_30,e00,e01,e02,e03]
  have p2_01:eI c (mulI c A (flI c A 1)) 0 1=((a01)*a00+(a11-s1)*a01+(a21)*a02+(a31)*a03):=by
    rw[e4_mul hc hA l1 (by decide),m1_01,m1_11,m1_21,m1_31,e00,e01,e02,e03]
  have p2_02:eI c (mulI c A (flI c A 1)) 0 2=((a02)*a00+(a12)*a01+(a22-s1)*a02+(a32)*a03):=by
    rw[e4_mul hc hA l1 (by decide),m1_02,m1_12,m1_22,m1_32,e00,e01,e02,e03]
  have p2_03:eI c (mulI c A (flI c A 1)) 0 3=((a03)*a00+(a13)*a01+(a23)*a02+(a33-s1)*a03):=by
    rw[e4_mul hc hA l1 (by decide),m1_03,m1_13,m1_23,m1_33,e00,e01,e02,e03]
  have p2_10:eI c (mulI c A (flI c A 1)) 1 0=((a00-s1)*a10+(a10)*a11+(a20)*a12+(a30)*a13):=by
    rw[e4_mul hc hA l1 (by decide),m1_00,m1_10,m1_20,m1_30,e10,e11,e12,e13]
  have p2_11:eI c (mulI c A (flI c A 1)) 1 1=((a01)*a10+(a11-s1)*a11+(a21)*a12+(a31)*a13):=by
    rw[e4_mul hc hA l1 (by decide),m1_01,m1_11,m1_21,m1_31,e10,e11,e12,e13]
  have p2_12:eI c (mulI c A (flI c A 1)) 1 2=((a02)*a10+(a12)*a11+(a22-s1)*a12+(a32)*a13):=by
    rw[e4_mul hc hA l1 (by decide),m1_02,m1_12,m1_22,m1_32,e10,e11,e12,e13]
  have p2_13:eI c (mulI c A (flI c A 1)) 1 3=((a03)*a10+(a13)*a11+(a23)*a12+(a33-s1)*a13):=by
    rw[e4_mul hc hA l1 (by decide),m1_03,m1_13,m1_23,m1_33,e10,e11,e12,e13]
  have p2_20:eI c (mulI c A (flI c A 1)) 2 0=((a00-s1)*a20+(a10)*a21+(a20)*a22+(a30)*a23):=by
    rw[e4_mul hc hA l1 (by decide),m1_00,m1_10,m1_20,m1_30,e20,e21,e22,e23]
  have p2_21:eI c (mulI c A (flI c A 1)) 2 1=((a01)*a20+(a11-s1)*a21+(a21)*a22+(a31)*a23):=by
    rw[e4_mul hc hA l1 (by decide),m1_01,m1_11,m1_21,m1_31,e20,e21,e22,e23]
  have p2_22:eI c (mulI c A (flI c A 1)) 2 2=((a02)*a20+(a12)*a21+(a22-s1)*a22+(a32)*a23):=by
    rw[e4_mul hc hA l1 (by decide),m1_02,m1_12,m1_22,m1_32,e20,e21,e22,e23]
  have p2_23:eI c (mulI c A (flI c A 1)) 2 3=((a03)*a20+(a13)*a21+(a23)*a22+(a33-s1)*a23):=by
    rw[e4_mul hc hA l1 (by decide),m1_03,m1_13,m1_23,m1_33,e20,e21,e22,e23]
  have p2_30:eI c (mulI c A (flI c A 1)) 3 0=((a00-s1)*a30+(a10)*a31+(a20)*a32+(a30)*a33):=by
    rw[e4_mul hc hA l1 (by decide),m1_00,m1_10,m1_20,m1_30,e30,e31,e32,e33]
  have p2_31:eI c (mulI c A (flI c A 1)) 3 1=((a01)*a30+(a11-s1)*a31+(a21)*a32+(a31)*a33):=by
    rw[e4_mul hc hA l1 (by decide),m1_01,m1_11,m1_21,m1_31,e30,e31,e32,e33]
  have p2_32:eI c (mulI c A (flI c A 1)) 3 2=((a02)*a30+(a12)*a31+(a22-s1)*a32+(a32)*a33):=by
    rw[e4_mul hc hA l1 (by decide),m1_02,m1_12,m1_22,m1_32,e30,e31,e32,e33]
  have p2_33:eI c (mulI c A (flI c A 1)) 3 3=((a03)*a30+(a13)*a31+(a23)*a32+(a33-s1)*a33):=by
    rw[e4_mul hc hA l1 (by decide),m1_03,m1_13,m1_23,m1_33,e30,e31,e32,e33]
  obtain⟨s2,hs2⟩:∃ s,s=-((a00*a11-a01*a10)+(a00*a22-a02*a20)+(a00*a33-a03*a30)+(a11*a22-a12*a21)+(a11*a33-a13*a31)+(a22*a33-a23*a32)):=⟨_,rfl⟩
  obtain⟨f2,x2⟩:=fl_next (c:=c) (A:=A) (n:=1) (s:=s2) (by
    rw[tr4 hc,p2_00,p2_11,p2_22,p2_33,hs2]
    rw[show (((1:Nat):Int)+1)=2 from rfl]
    subst hs1
    grind)
  have l2:(flI c A 2).length=4:=by rw[flI_length h1 hA'];exact hc
  have m2_00:eI c (flI c A 2) 0 0=((a00-s1)*a00+(a10)*a01+(a20)*a02+(a30)*a03)-s2:=by
    rw[f2,eI_less h1 (by rw[mulI_length h1 _ _ hA']) s2 (by lia) (by lia),p2_00]
    simp
  have m2_01:eI c (flI c A 2) 0 1=((a01)*a00+(a11-s1)*a01+(a21)*a02+(a31)*a03):=by
    rw[f2,eI_less h1 (by rw[mulI_length h1 _ _ hA']) s2 (by lia) (by lia),p2_01]
    simp
  have m2_02:eI c (flI c A 2) 0 2=((a02)*a00+(a12)*a01+(a22-s1)*a02+(a32)*a03):=by
    rw[f2,eI_less h1 (by rw[mulI_length h1 _ _ hA']) s2 (by lia) (by lia),p2_02]
    simp
  have m2_03:eI c (flI c A 2) 0 3=((a03)*a00+(a13)*a01+(a23)*a02+(a33-s1)*a03):=by
    rw[f2,eI_less h1 (by rw[mulI_length h1 _ _ hA']) s2 (by lia) (by lia),p2_03]
    simp
  have m2_10:eI c (flI c A 2) 1 0=((a00-s1)*a10+(a10)*a11+(a20)*a12+(a30)*a13):=by
    rw[f2,eI_less h1 (by rw[mulI_length h1 _ _ hA']) s2 (by lia) (by lia),p2_10]
    simp
  have m2_11:eI c (flI c A 2) 1 1=((a01)*a10+(a11-s1)*a11+(a21)*a12+(a31)*a13)-s2:=by
    rw[f2,eI_less h1 (by rw[mulI_length h1 _ _ hA']) s2 (by lia) (by lia),p2_11]
    simp
  have m2_12:eI c (flI c A 2) 1 2=((a02)*a10+(a12)*a11+(a22-s1)*a12+(a32)*a13):=by
    rw[f2,eI_less h1 (by rw[mulI_length h1 _ _ hA']) s2 (by lia) (by lia),p2_12]
    simp
  have m2_13:eI c (flI c A 2) 1 3=((a03)*a10+(a13)*a11+(a23)*a12+(a33-s1)*a13):=by
    rw[f2,eI_less h1 (by rw[mulI_length h1 _ _ hA']) s2 (by lia) (by lia),p2_13]
    simp
  have m2_20:eI c (flI c A 2) 2 0=((a00-s1)*a20+(a10)*a21+(a20)*a22+(a30)*a23):=by
    rw[f2,eI_less h1 (by rw[mulI_length h1 _ _ hA']) s2 (by lia) (by lia),p2_20]
    simp
  have m2_21:eI c (flI c A 2) 2 1=((a01)*a20+(a11-s1)*a21+(a21)*a22+(a31)*a23):=by
    rw[f2,eI_less h1 (by rw[mulI_length h1 _ _ hA']) s2 (by lia) (by lia),p2_21]
    simp
  have m2_22:eI c (flI c A 2) 2 2=((a02)*a20+(a12)*a21+(a22-s1)*a22+(a32)*a23)-s2:=by
    rw[f2,eI_less h1 (by rw[mulI_length h1 _ _ hA']) s2 (by lia) (by lia),p2_22]
    simp
  have m2_23:eI c (flI c A 2) 2 3=((a03)*a20+(a13)*a21+(a23)*a22+(a33-s1)*a23):=by
    rw[f2,eI_less h1 (by rw[mulI_length h1 _ _ hA']) s2 (by lia) (by lia),p2_23]
    simp
  have m2_30:eI c (flI c A 2) 3 0=((a00-s1)*a30+(a10)*a31+(a20)*a32+(a30)*a33):=by
    rw[f2,eI_less h1 (by rw[mulI_length h1 _ _ hA']) s2 (by lia) (by lia),p2_30]
    simp
  have m2_31:eI c (flI c A 2) 3 1=((a01)*a30+(a11-s1)*a31+(a21)*a32+(a31)*a33):=by
    rw[f2,eI_less h1 (by rw[mulI_length h1 _ _ hA']) s2 (by lia) (by lia),p2_31]
    simp
  have m2_32:eI c (flI c A 2) 3 2=((a02)*a30+(a12)*a31+(a22-s1)*a32+(a32)*a33):=by
    rw[f2,eI_less h1 (by rw[mulI_length h1 _ _ hA']) s2 (by lia) (by lia),p2_32]
    simp
  have m2_33:eI c (flI c A 2) 3 3=((a03)*a30+(a13)*a31+(a23)*a32+(a33-s1)*a33)-s2:=by
    rw[f2,eI_less h1 (by rw[mulI_length h1 _ _ hA']) s2 (by lia) (by lia),p2_33]
    simp
  have p3_00:eI c (mulI c A (flI c A 2)) 0 0=(((((a00-s1)*a00+(a10)*a01+(a20)*a02+(a30)*a03)-s2))*a00+((((a00-s1)*a10+(a10)*a11+(a20)*a12+(a30)*a13)))*a01+((((a00-s1)*a20+(a10)*a21+(a20)*a22+(a30)*a23)))*a02+((((a00-s1)*a30+(a10)*a31+(a20)*a32+(a30)*a33)))*a03):=by
    rw[e4_mul hc hA l2 (by decide),m2_00,m2_10,m2_20,m2_30,e00,e01,e02,e03]
  have p3_10:eI c (mulI c A (flI c A 2)) 1 0=(((((a00-s1)*a00+(a10)*a01+(a20)*a02+(a30)*a03)-s2))*a10+((((a00-s1)*a10+(a10)*a11+(a20)*a12+(a30)*a13)))*a11+((((a00-s1)*a20+(a10)*a21+(a20)*a22+(a30)*a23)))*a12+((((a00-s1)*a30+(a10)*a31+(a20)*a32+(a30)*a33)))*a13):=by
    rw[e4_mul hc hA l2 (by decide),m2_00,m2_10,m2_20,m2_30,e10,e11,e12,e13]
  have p3_11:eI c (mulI c A (flI c A 2)) 1 1=(((((a01)*a00+(a11-s1)*a01+(a21)*a02+(a31)*a03)))*a10+((((a01)*a10+(a11-s1)*a11+(a21)*a12+(a31)*a13)-s2))*a11+((((a01)*a20+(a11-s1)*a21+(a21)*a22+(a31)*a23)))*a12+((((a01)*a30+(a11-s1)*a31+(a21)*a32+(a31)*a33)))*a13):=by
    rw[e4_mul hc hA l2 (by decide),m2_01,m2_11,m2_21,m2_31,e10,e11,e12,e13]
  have p3_20:eI c (mulI c A (flI c A 2)) 2 0=(((((a00-s1)*a00+(a10)*a01+(a20)*a02+(a30)*a03)-s2))*a20+((((a00-s1)*a10+(a10)*a11+(a20)*a12+(a30)*a13)))*a21+((((a00-s1)*a20+(a10)*a21+(a20)*a22+(a30)*a23)))*a22+((((a00-s1)*a30+(a10)*a31+(a20)*a32+(a30)*a33)))*a23):=by
    rw[e4_mul hc hA l2 (by decide),m2_00,m2_10,m2_20,m2_30,e20,e21,e22,e23]
  have p3_22:eI c (mulI c A (flI c A 2)) 2 2=(((((a02)*a00+(a12)*a01+(a22-s1)*a02+(a32)*a03)))*a20+((((a02)*a10+(a12)*a11+(a22-s1)*a12+(a32)*a13)))*a21+((((a02)*a20+(a12)*a21+(a22-s1)*a22+(a32)*a23)-s2))*a22+((((a02)*a30+(a12)*a31+(a22-s1)*a32+(a32)*a33)))*a23):=by
    rw[e4_mul hc hA l2 (by decide),m2_02,m2_12,m2_22,m2_32,e20,e21,e22,e23]
  have p3_30:eI c (mulI c A (flI c A 2)) 3 0=(((((a00-s1)*a00+(a10)*a01+(a20)*a02+(a30)*a03)-s2))*a30+((((a00-s1)*a10+(a10)*a11+(a20)*a12+(a30)*a13)))*a31+((((a00-s1)*a20+(a10)*a21+(a20)*a22+(a30)*a23)))*a32+((((a00-s1)*a30+(a10)*a31+(a20)*a32+(a30)*a33)))*a33):=by
    rw[e4_mul hc hA l2 (by decide),m2_00,m2_10,m2_20,m2_30,e30,e31,e32,e33]
  have p3_33:eI c (mulI c A (flI c A 2)) 3 3=(((((a03)*a00+(a13)*a01+(a23)*a02+(a33-s1)*a03)))*a30+((((a03)*a10+(a13)*a11+(a23)*a12+(a33-s1)*a13)))*a31+((((a03)*a20+(a13)*a21+(a23)*a22+(a33-s1)*a23)))*a32+((((a03)*a30+(a13)*a31+(a23)*a32+(a33-s1)*a33)-s2))*a33):=by
    rw[e4_mul hc hA l2 (by decide),m2_03,m2_13,m2_23,m2_33,e30,e31,e32,e33]
  obtain⟨s3,hs3⟩:∃ s,s=(a00*(a11*a22-a12*a21)-a01*(a10*a22-a12*a20)+a02*(a10*a21-a11*a20))+(a00*(a11*a33-a13*a31)-a01*(a10*a33-a13*a30)+a03*(a10*a31-a11*a30))+(a00*(a22*a33-a23*a32)-a02*(a20*a33-a23*a30)+a03*(a20*a32-a22*a30))+(a11*(a22*a33-a23*a32)-a12*(a21*a33-a23*a31)+a13*(a21*a32-a22*a31)):=⟨_,rfl⟩
  obtain⟨f3,x3⟩:=fl_next (c:=c) (A:=A) (n:=2) (s:=s3) (by
    rw[tr4 hc,p3_00,p3_11,p3_22,p3_33,hs3]
    rw[show (((2:Nat):Int)+1)=3 from rfl]
    subst hs1 hs2
    grind)
  have l3:(flI c A 3).length=4:=by rw[flI_length h1 hA'];exact hc
  have m3_00:eI c (flI c A 3) 0 0=(((((a00-s1)*a00+(a10)*a01+(a20)*a02+(a30)*a03)-s2))*a00+((((a00-s1)*a10+(a10)*a11+(a20)*a12+(a30)*a13)))*a01+((((a00-s1)*a20+(a10)*a21+(a20)*a22+(a30)*a23)))*a02+((((a00-s1)*a30+(a10)*a31+(a20)*a32+(a30)*a33)))*a03)-s3:=by
    rw[f3,eI_less h1 (by rw[mulI_length h1 _ _ hA']) s3 (by lia) (by lia),p3_00]
    simp
  have m3_10:eI c (flI c A 3) 1 0=(((((a00-s1)*a00+(a10)*a01+(a20)*a02+(a30)*a03)-s2))*a10+((((a00-s1)*a10+(a10)*a11+(a20)*a12+(a30)*a13)))*a11+((((a00-s1)*a20+(a10)*a21+(a20)*a22+(a30)*a23)))*a12+((((a00-s1)*a30+(a10)*a31+(a20)*a32+(a30)*a33)))*a13):=by
    rw[f3,eI_less h1 (by rw[mulI_length h1 _ _ hA']) s3 (by lia) (by lia),p3_10]
    simp
  have m3_20:eI c (flI c A 3) 2 0=(((((a00-s1)*a00+(a10)*a01+(a20)*a02+(a30)*a03)-s2))*a20+((((a00-s1)*a10+(a10)*a11+(a20)*a12+(a30)*a13)))*a21+((((a00-s1)*a20+(a10)*a21+(a20)*a22+(a30)*a23)))*a22+((((a00-s1)*a30+(a10)*a31+(a20)*a32+(a30)*a33)))*a23):=by
    rw[f3,eI_less h1 (by rw[mulI_length h1 _ _ hA']) s3 (by lia) (by lia),p3_20]
    simp
  have m3_30:eI c (flI c A 3) 3 0=(((((a00-s1)*a00+(a10)*a01+(a20)*a02+(a30)*a03)-s2))*a30+((((a00-s1)*a10+(a10)*a11+(a20)*a12+(a30)*a13)))*a31+((((a00-s1)*a20+(a10)*a21+(a20)*a22+(a30)*a23)))*a32+((((a00-s1)*a30+(a10)*a31+(a20)*a32+(a30)*a33)))*a33):=by
    rw[f3,eI_less h1 (by rw[mulI_length h1 _ _ hA']) s3 (by lia) (by lia),p3_30]
    simp
  have p4_00:eI c (mulI c A (flI c A 3)) 0 0=((((((((a00-s1)*a00+(a10)*a01+(a20)*a02+(a30)*a03)-s2))*a00+((((a00-s1)*a10+(a10)*a11+(a20)*a12+(a30)*a13)))*a01+((((a00-s1)*a20+(a10)*a21+(a20)*a22+(a30)*a23)))*a02+((((a00-s1)*a30+(a10)*a31+(a20)*a32+(a30)*a33)))*a03)-s3))*a00+(((((((a00-s1)*a00+(a10)*a01+(a20)*a02+(a30)*a03)-s2))*a10+((((a00-s1)*a10+(a10)*a11+(a20)*a12+(a30)*a13)))*a11+((((a00-s1)*a20+(a10)*a21+(a20)*a22+(a30)*a23)))*a12+((((a00-s1)*a30+(a10)*a31+(a20)*a32+(a30)*a33)))*a13)))*a01+(((((((a00-s1)*a00+(a10)*a01+(a20)*a02+(a30)*a03)-s2))*a20+((((a00-s1)*a10+(a10)*a11+(a20)*a12+(a30)*a13)))*a21+((((a00-s1)*a20+(a10)*a21+(a20)*a22+(a30)*a23)))*a22+((((a00-s1)*a30+(a10)*a31+(a20)*a32+(a30)*a33)))*a23)))*a02+(((((((a00-s1)*a00+(a10)*a01+(a20)*a02+(a30)*a03)-s2))*a30+((((a00-s1)*a10+(a10)*a11+(a20)*a12+(a30)*a13)))*a31+((((a00-s1)*a20+(a10)*a21+(a20)*a22+(a30)*a23)))*a32+((((a00-s1)*a30+(a10)*a31+(a20)*a32+(a30)*a33)))*a33)))*a03):=by
    rw[e4_mul hc hA l3 (by decide),m3_00,m3_10,m3_20,m3_30,e00,e01,e02,e03]
  have p4_10:eI c (mulI c A (flI c A 3)) 1 0=((((((((a00-s1)*a00+(a10)*a01+(a20)*a02+(a30)*a03)-s2))*a00+((((a00-s1)*a10+(a10)*a11+(a20)*a12+(a30)*a13)))*a01+((((a00-s1)*a20+(a10)*a21+(a20)*a22+(a30)*a23)))*a02+((((a00-s1)*a30+(a10)*a31+(a20)*a32+(a30)*a33)))*a03)-s3))*a10+(((((((a00-s1)*a00+(a10)*a01+(a20)*a02+(a30)*a03)-s2))*a10+((((a00-s1)*a10+(a10)*a11+(a20)*a12+(a30)*a13)))*a11+((((a00-s1)*a20+(a10)*a21+(a20)*a22+(a30)*a23)))*a12+((((a00-s1)*a30+(a10)*a31+(a20)*a32+(a30)*a33)))*a13)))*a11+(((((((a00-s1)*a00+(a10)*a01+(a20)*a02+(a30)*a03)-s2))*a20+((((a00-s1)*a10+(a10)*a11+(a20)*a12+(a30)*a13)))*a21+((((a00-s1)*a20+(a10)*a21+(a20)*a22+(a30)*a23)))*a22+((((a00-s1)*a30+(a10)*a31+(a20)*a32+(a30)*a33)))*a23)))*a12+(((((((a00-s1)*a00+(a10)*a01+(a20)*a02+(a30)*a03)-s2))*a30+((((a00-s1)*a10+(a10)*a11+(a20)*a12+(a30)*a13)))*a31+((((a00-s1)*a20+(a10)*a21+(a20)*a22+(a30)*a23)))*a32+((((a00-s1)*a30+(a10)*a31+(a20)*a32+(a30)*a33)))*a33)))*a13):=by
    rw[e4_mul hc hA l3 (by decide),m3_00,m3_10,m3_20,m3_30,e10,e11,e12,e13]
  have p4_20:eI c (mulI c A (flI c A 3)) 2 0=((((((((a00-s1)*a00+(a10)*a01+(a20)*a02+(a30)*a03)-s2))*a00+((((a00-s1)*a10+(a10)*a11+(a20)*a12+(a30)*a13)))*a01+((((a00-s1)*a20+(a10)*a21+(a20)*a22+(a30)*a23)))*a02+((((a00-s1)*a30+(a10)*a31+(a20)*a32+(a30)*a33)))*a03)-s3))*a20+(((((((a00-s1)*a00+(a10)*a01+(a20)*a02+(a30)*a03)-s2))*a10+((((a00-s1)*a10+(a10)*a11+(a20)*a12+(a30)*a13)))*a11+((((a00-s1)*a20+(a10)*a21+(a20)*a22+(a30)*a23)))*a12+((((a00-s1)*a30+(a10)*a31+(a20)*a32+(a30)*a33)))*a13)))*a21+(((((((a00-s1)*a00+(a10)*a01+(a20)*a02+(a30)*a03)-s2))*a20+((((a00-s1)*a10+(a10)*a11+(a20)*a12+(a30)*a13)))*a21+((((a00-s1)*a20+(a10)*a21+(a20)*a22+(a30)*a23)))*a22+((((a00-s1)*a30+(a10)*a31+(a20)*a32+(a30)*a33)))*a23)))*a22+(((((((a00-s1)*a00+(a10)*a01+(a20)*a02+(a30)*a03)-s2))*a30+((((a00-s1)*a10+(a10)*a11+(a20)*a12+(a30)*a13)))*a31+((((a00-s1)*a20+(a10)*a21+(a20)*a22+(a30)*a23)))*a32+((((a00-s1)*a30+(a10)*a31+(a20)*a32+(a30)*a33)))*a33)))*a23):=by
    rw[e4_mul hc hA l3 (by decide),m3_00,m3_10,m3_20,m3_30,e20,e21,e22,e23]
  have p4_30:eI c (mulI c A (flI c A 3)) 3 0=((((((((a00-s1)*a00+(a10)*a01+(a20)*a02+(a30)*a03)-s2))*a00+((((a00-s1)*a10+(a10)*a11+(a20)*a12+(a30)*a13)))*a01+((((a00-s1)*a20+(a10)*a21+(a20)*a22+(a30)*a23)))*a02+((((a00-s1)*a30+(a10)*a31+(a20)*a32+(a30)*a33)))*a03)-s3))*a30+(((((((a00-s1)*a00+(a10)*a01+(a20)*a02+(a30)*a03)-s2))*a10+((((a00-s1)*a10+(a10)*a11+(a20)*a12+(a30)*a13)))*a11+((((a00-s1)*a20+(a10)*a21+(a20)*a22+(a30)*a23)))*a12+((((a00-s1)*a30+(a10)*a31+(a20)*a32+(a30)*a33)))*a13)))*a31+(((((((a00-s1)*a00+(a10)*a01+(a20)*a02+(a30)*a03)-s2))*a20+((((a00-s1)*a10+(a10)*a11+(a20)*a12+(a30)*a13)))*a21+((((a00-s1)*a20+(a10)*a21+(a20)*a22+(a30)*a23)))*a22+((((a00-s1)*a30+(a10)*a31+(a20)*a32+(a30)*a33)))*a23)))*a32+(((((((a00-s1)*a00+(a10)*a01+(a20)*a02+(a30)*a03)-s2))*a30+((((a00-s1)*a10+(a10)*a11+(a20)*a12+(a30)*a13)))*a31+((((a00-s1)*a20+(a10)*a21+(a20)*a22+(a30)*a23)))*a32+((((a00-s1)*a30+(a10)*a31+(a20)*a32+(a30)*a33)))*a33)))*a33):=by
    rw[e4_mul hc hA l3 (by decide),m3_00,m3_10,m3_20,m3_30,e30,e31,e32,e33]
  refine⟨fun n hn=>?_,(mulI c A (flI c A 3)).getD 0 0,?_⟩
  · have:n=0∨n=1∨n=2:=by lia
    rcases this with rfl | rfl | rfl
    · exact x1
    · exact x2
    · exact x3
  · rw[hc]
    have hl:(mulI c A (flI c A 3)).length=4:=by rw[mulI_length h1 _ _ hA'];exact hc
    have z1:(mulI c A (flI c A 3)).getD 1 0=0:=by
      refine (show _=eI c (mulI c A (flI c A 3)) 1 0 from rfl).trans (p4_10.trans ?_)
      subst hs1 hs2 hs3
      grind
    have z2:(mulI c A (flI c A 3)).getD 2 0=0:=by
      refine (show _=eI c (mulI c A (flI c A 3)) 2 0 from rfl).trans (p4_20.trans ?_)
      subst hs1 hs2 hs3
      grind
    have z3:(mulI c A (flI c A 3)).getD 3 0=0:=by
      refine (show _=eI c (mulI c A (flI c A 3)) 3 0 from rfl).trans (p4_30.trans ?_)
      subst hs1 hs2 hs3
      grind
    rw[four hl,z1,z2,z3]
    rfl

end Rr

end
section
set_option linter.all false
set_option maxHeartbeats 4000000
namespace Rr
open Root
theorem fl_ok {c A:List Int} (h1:1≤c.length) (h4:c.length≤4) (hA:A.length=c.length):FlOk c A:=by
  have:c.length=1∨c.length=2∨c.length=3∨c.length=4:=by lia
  rcases this with e | e | e | e
  · exact fl1 e (by lia)
  · exact fl2 e (by lia)
  · exact fl3 e (by lia)
  · exact fl4 e (by lia)
theorem isZero_rI {A:List Int} (h:∃ z∈A,z≠0):isZero (rI A)=false:=by
  obtain⟨z,hz,h0⟩:=h
  cases e:isZero (rI A) with
  | false=>rfl
  | true =>
    unfold isZero rI at e
    rw[List.all_eq_true] at e
    have:=e (z:Rat) (List.mem_map.mpr ⟨z,hz,rfl⟩)
    have h1:(z:Rat)=0:=by simpa using this
    exact absurd (Rat.intCast_eq_zero_iff.mp h1) h0
theorem rI_inj {A B:List Int} (h:rI A=rI B):A=B:=by
  unfold rI at h
  have inj:∀ x y:Int,(x:Rat)=(y:Rat)→x=y:=fun x y e=>Rat.intCast_inj.mp e
  exact (List.map_inj_right inj).mp h
theorem mulI_zero {c A B:List Int} (h:refusal c=0) (hc:1≤c.length) (hA:A.length=c.length) (hB:B.length=c.length) (hnz:∃ z∈A,z≠0) (e:mulI c A B=List.replicate c.length 0):B=List.replicate c.length 0:=by
  refine rI_inj (cancel h (a:=rI A) (by rw[rI_length];exact hA) (isZero_rI hnz) (by rw[rI_length];exact hB) (by rw[rI_length,List.length_replicate]) ?_)
  have e1:=mulI_cg hc B A hA
  rw[e] at e1
  refine e1.trans (Cg.of_eq fun x=>?_)
  show pI _ x=pI A x*pI _ x
  rw[pI_zeros]
  grind
theorem xI_zeros {c:List Int} (hc:1≤c.length):xI c (List.replicate c.length 0)=List.replicate c.length 0:=by
  refine (xI_is hc (List.length_replicate) (List.length_replicate) (Cg.of_eq fun x=>?_)).symm
  rw[pI_zeros]
  grind
theorem colI_zeros {c:List Int} (hc:1≤c.length):∀ j,colI c (List.replicate c.length 0) j=List.replicate c.length 0
  | 0=>rfl
  | j+1=>by
    show xI c _=_
    rw[colI_zeros hc j,xI_zeros hc]
theorem trN_zeros {c:List Int} (hc:1≤c.length):∀ n,trN c (List.replicate c.length 0) n=0
  | 0=>rfl
  | n+1=>by
    show trN c _ n+(colI c _ n).getD n 0=0
    rw[trN_zeros hc n,colI_zeros hc,List.getD_eq_getElem?_getD,List.getElem?_replicate]
    split <;> rfl
theorem flI_ne {c A:List Int} (h:refusal c=0) (hc:1≤c.length) (hA:A.length=c.length) (hnz:∃ z∈A,z≠0) (hfl:FlOk c A):∀ n,n<c.length→flI c A n≠List.replicate c.length 0
  | 0,hn=>fun e=>by
    obtain⟨m,hm⟩:∃ m,c.length=m+1:=⟨c.length-1,by lia⟩
    have e':(1:Int)::List.replicate (c.length-1) 0=List.replicate c.length 0:=e
    rw[hm,List.replicate_succ] at e'
    have:=(List.cons.inj e').1
    lia
  | n+1,hn=>fun e=>by
    have hm:=mulI_length hc (flI c A n) A hA
    have hex:=hfl.ex n (by lia)
    have e2:flI c A (n+1)=lessI (mulI c A (flI c A n)) (trI c (mulI c A (flI c A n)) / ((n:Int)+1)):=rfl
    generalize hs:trI c (mulI c A (flI c A n)) / ((n:Int)+1)=s at *
    have e3:=trI_less hc hm s
    rw[←e2,e] at e3
    have e4:trI c (List.replicate c.length 0)=0:=trN_zeros hc _
    rw[e4,←hex] at e3
    have e5:((n:Int)+1-(c.length:Int))*s=0:=by grind
    have e6:s=0:=by
      rcases Int.mul_eq_zero.mp e5 with z | z
      · lia
      · exact z
    subst e6
    have e7:lessI (mulI c A (flI c A n)) 0=mulI c A (flI c A n):=by
      unfold lessI
      cases z:mulI c A (flI c A n) with
      | nil=>rw[z] at hm;simp at hm;lia
      | cons a l=>show (a-0)::l=a::l;rw[Int.sub_zero]
    rw[e7] at e2
    exact flI_ne h hc hA hnz hfl n (by lia) (mulI_zero h hc hA (flI_length hc hA n) hnz (by rw[←e2,e]))
theorem fl_whole {c A:List Int} (h:refusal c=0) (hc:1≤c.length) (h4:c.length≤4) (hA:A.length=c.length) (hnz:∃ z∈A,z≠0):∃ D:Int,D≠0∧mulI c A (flI c A (c.length-1))=D::List.replicate (c.length-1) 0∧Cg c (fun x=>pI A x*pI (flI c A (c.length-1)) x) (fun _=>(D:Rat)):=by
  have hfl:=fl_ok hc h4 hA
  obtain⟨D,hD⟩:=hfl.fin
  refine⟨D,fun z=>?_,hD,?_⟩
  · subst z
    refine flI_ne h hc hA hnz hfl (c.length-1) (by lia) (mulI_zero h hc hA (flI_length hc hA _) hnz ?_)
    rw[hD,←List.replicate_succ]
    congr 1
    lia
  · have:=mulI_cg hc (flI c A (c.length-1)) A hA
    rw[hD] at this
    refine this.trans (Cg.of_eq fun x=>?_)
    rw[pI_cons,pI_zeros]
    grind
end Rr

end
section
set_option linter.all false
set_option maxHeartbeats 4000000
namespace Rr
open Root
theorem plus_dv {p q:Int} (hp:0<p) (hq:0<q) (A B:List Int):Root.plus (dv p A) (dv q B)=dv (p*q) (List.zipWith (fun (m n:Int)=>m*q+n*p) A B):=by
  unfold Root.plus dv
  rw[List.map_zipWith]
  exact zip_map2 _ _ (fun (x y:Rat)=>x+y) (fun (m n:Int)=>((m*q+n*p:Int):Rat) / ((p*q:Int):Rat)) (fun x y=>rat_add hp hq) _ _
end Rr

end
section
set_option linter.all false
set_option maxHeartbeats 4000000
namespace Rr
open Root
theorem dv_neg {p:Int} (A:List Int):dv p (A.map fun (z:Int)=>-z)=scaled (-1) (dv p A):=by
  unfold dv scaled
  rw[List.map_map,List.map_map]
  refine List.map_congr_left fun z _=>?_
  show ((-z:Int):Rat) / (p:Rat)=-1*((z:Rat) / (p:Rat))
  rw[Rat.intCast_neg,Rat.div_def,Rat.div_def]
  grind
end Rr

end
section
set_option linter.all false
set_option maxHeartbeats 4000000
namespace Rr
open Root
theorem power_length {c:List Int} (h1:1≤c.length) {a:Num} (ha:a.length=c.length):∀ k,(Root.power c a k).length=c.length
  | 0=>oneIn_length _
  | k+1=>times_length h1 (power_length h1 ha k) ha
end Rr

end
section
set_option linter.all false
namespace Rr
open Root
theorem dv_less {A:List Int}{p:Int} (hp:0<p):∃ (B:List Int) (q:Int),lessRow (A++[p])=B++[q]∧B.length=A.length∧0<q∧dv q B=dv p A:=by
  have hg:gcdRow (A++[p])≠0:=fun z=>by
    have:=gcdRow_dvd (l:=A++[p]) (z:=p) (by simp)
    rw[z,Nat.zero_dvd] at this
    lia
  generalize hG:gcdRow (A++[p])=G at *
  have hd:∀ z∈A++[p],(G:Int) ∣ z:=fun z hz=>Int.ofNat_dvd_left.mpr (by rw[←hG];exact gcdRow_dvd hz)
  refine⟨A.map fun (z:Int)=>z / (G:Int),p / (G:Int),?_,by rw[List.length_map],?_,?_⟩
  · unfold lessRow
    rw[hG,List.map_append]
    rfl
  · have:=Int.mul_ediv_cancel' (hd p (by simp))
    false_or_by_contra
    have h2:p / (G:Int)≤0:=by lia
    have h3:=Int.mul_le_mul_of_nonneg_left h2 (show (0:Int)≤(G:Int) by lia)
    lia
  · unfold dv
    rw[List.map_map]
    refine List.map_congr_left fun z hz=>?_
    show ((z / (G:Int):Int):Rat) / ((p / (G:Int):Int):Rat)=(z:Rat) / (p:Rat)
    have e1:=Int.mul_ediv_cancel' (hd z (List.mem_append_left _ hz))
    have e2:=Int.mul_ediv_cancel' (hd p (by simp))
    generalize z / (G:Int)=u at *
    generalize p / (G:Int)=s at *
    rw[←e1,←e2,Rat.intCast_mul,Rat.intCast_mul]
    have g':((G:Int):Rat)≠0:=fun z=>by have:=Rat.intCast_eq_zero_iff.mp z;lia
    have s':(s:Rat)≠0:=fun z=>by
      have:=Rat.intCast_eq_zero_iff.mp z
      rw[this,Int.mul_zero] at e2
      lia
    grind
end Rr

end
section
set_option linter.all false
namespace Rr
open Root
structure Ls (a b x u0 v0 y u1 v1:Int):Prop where
  ex:x=u0*a+v0*b
  ey:y=u1*a+v1*b
  det:u0*v1-v0*u1=1∨u0*v1-v0*u1=-1
theorem det_of {z w:Int} (h:z=1∨z=-1) (e:w=-z):w=1∨w=-1:=by omega
theorem Ls.start (a b:Int):Ls a b a 1 0 b 0 1:=⟨by omega,by omega,.inl (by decide)⟩
theorem Ls.flip0 {a b x u0 v0 y u1 v1:Int} (h:Ls a b x u0 v0 y u1 v1):Ls a b (-x) (-u0) (-v0) y u1 v1 :=
  ⟨by have:=h.ex;grind,h.ey,det_of h.det (by grind)⟩
theorem Ls.flip1 {a b x u0 v0 y u1 v1:Int} (h:Ls a b x u0 v0 y u1 v1):Ls a b x u0 v0 (-y) (-u1) (-v1) :=
  ⟨h.ex,by have:=h.ey;grind,det_of h.det (by grind)⟩
theorem Ls.swap {a b x u0 v0 y u1 v1:Int} (h:Ls a b x u0 v0 y u1 v1):Ls a b y u1 v1 x u0 v0 :=
  ⟨h.ey,h.ex,det_of h.det (by grind)⟩
theorem Ls.div {a b x u0 v0 y u1 v1:Int} (h:Ls a b x u0 v0 y u1 v1) (q:Int):Ls a b y u1 v1 (x-q*y) (u0-q*u1) (v0-q*v1) :=
  ⟨h.ey,by have e1:=h.ex;have e2:=h.ey;rw[e1,e2];grind,det_of h.det (by grind)⟩
theorem Ls.comp {a b x u0 v0 y u1 v1:Int} (h:Ls a b x u0 v0 y u1 v1) {l0 m0 l1 m1:Int} (hd:l0*m1-m0*l1=1∨l0*m1-m0*l1=-1) :
    Ls a b (l0*x+m0*y) (l0*u0+m0*u1) (l0*v0+m0*v1) (l1*x+m1*y) (l1*u0+m1*u1) (l1*v0+m1*v1):=by
  obtain⟨e1,e2,e3⟩:=h
  refine⟨by rw[e1,e2];grind,by rw[e1,e2];grind,?_⟩
  have e:(l0*u0+m0*u1)*(l1*v0+m1*v1)-(l0*v0+m0*v1)*(l1*u0+m1*u1)=(l0*m1-m0*l1)*(u0*v1-v0*u1):=by grind
  rw[e]
  rcases hd with h1 | h1 <;> rcases e3 with h2 | h2 <;> rw[h1,h2] <;> decide
theorem Ls.back {a b x u0 v0 y u1 v1:Int} (h:Ls a b x u0 v0 y u1 v1):∃ e:Int,(e=1∨e=-1)∧v1*x-v0*y=e*a∧u0*y-u1*x=e*b:=by
  obtain⟨e1,e2,e3⟩:=h
  refine⟨u0*v1-v0*u1,e3,?_,?_⟩
  · rw[e1,e2];grind
  · rw[e1,e2];grind
theorem Ls.gcd {a b x u0 v0 y u1 v1:Int} (h:Ls a b x u0 v0 y u1 v1):Nat.gcd x.natAbs y.natAbs=Nat.gcd a.natAbs b.natAbs:=by
  obtain⟨e,he,h1,h2⟩:=h.back
  have e1:=h.ex
  have e2:=h.ey
  refine Nat.dvd_antisymm (Nat.dvd_gcd ?_ ?_) (Nat.dvd_gcd ?_ ?_)
  · have d1:((Nat.gcd x.natAbs y.natAbs:Nat):Int) ∣ x:=Int.ofNat_dvd_left.mpr (Nat.gcd_dvd_left _ _)
    have d2:((Nat.gcd x.natAbs y.natAbs:Nat):Int) ∣ y:=Int.ofNat_dvd_left.mpr (Nat.gcd_dvd_right _ _)
    have d3:((Nat.gcd x.natAbs y.natAbs:Nat):Int) ∣ e*a:=h1 ▸ Int.dvd_sub (Int.dvd_mul_of_dvd_right d1) (Int.dvd_mul_of_dvd_right d2)
    have:=Int.ofNat_dvd_left.mp d3
    rwa [Int.natAbs_mul,show e.natAbs=1 by omega,Nat.one_mul] at this
  · have d1:((Nat.gcd x.natAbs y.natAbs:Nat):Int) ∣ x:=Int.ofNat_dvd_left.mpr (Nat.gcd_dvd_left _ _)
    have d2:((Nat.gcd x.natAbs y.natAbs:Nat):Int) ∣ y:=Int.ofNat_dvd_left.mpr (Nat.gcd_dvd_right _ _)
    have d3:((Nat.gcd x.natAbs y.natAbs:Nat):Int) ∣ e*b:=h2 ▸ Int.dvd_sub (Int.dvd_mul_of_dvd_right d2) (Int.dvd_mul_of_dvd_right d1)
    have:=Int.ofNat_dvd_left.mp d3
    rwa [Int.natAbs_mul,show e.natAbs=1 by omega,Nat.one_mul] at this
  · have d1:((Nat.gcd a.natAbs b.natAbs:Nat):Int) ∣ a:=Int.ofNat_dvd_left.mpr (Nat.gcd_dvd_left _ _)
    have d2:((Nat.gcd a.natAbs b.natAbs:Nat):Int) ∣ b:=Int.ofNat_dvd_left.mpr (Nat.gcd_dvd_right _ _)
    have d3:((Nat.gcd a.natAbs b.natAbs:Nat):Int) ∣ x:=e1 ▸ Int.dvd_add (Int.dvd_mul_of_dvd_right d1) (Int.dvd_mul_of_dvd_right d2)
    exact Int.ofNat_dvd_left.mp d3
  · have d1:((Nat.gcd a.natAbs b.natAbs:Nat):Int) ∣ a:=Int.ofNat_dvd_left.mpr (Nat.gcd_dvd_left _ _)
    have d2:((Nat.gcd a.natAbs b.natAbs:Nat):Int) ∣ b:=Int.ofNat_dvd_left.mpr (Nat.gcd_dvd_right _ _)
    have d3:((Nat.gcd a.natAbs b.natAbs:Nat):Int) ∣ y:=e2 ▸ Int.dvd_add (Int.dvd_mul_of_dvd_right d1) (Int.dvd_mul_of_dvd_right d2)
    exact Int.ofNat_dvd_left.mp d3
theorem Ls.fac {a b x u0 v0 y u1 v1:Int} (h:Ls a b x u0 v0 y u1 v1) (l m:Int):(l*v0+m*v1).natAbs*x.natAbs≤v0.natAbs*(l*x+m*y).natAbs+m.natAbs*a.natAbs∧(l*u0+m*u1).natAbs*x.natAbs≤u0.natAbs*(l*x+m*y).natAbs+m.natAbs*b.natAbs:=by
  obtain⟨e,he,h1,h2⟩:=h.back
  have k1:(l*v0+m*v1)*x=v0*(l*x+m*y)+m*(e*a):=by rw[←h1];grind
  have k2:(l*u0+m*u1)*x=u0*(l*x+m*y)+(-m)*(e*b):=by rw[←h2];grind
  have he1:e.natAbs=1:=by omega
  constructor
  · rw[←Int.natAbs_mul,k1]
    refine Nat.le_trans (Int.natAbs_add_le _ _) ?_
    rw[Int.natAbs_mul,Int.natAbs_mul,Int.natAbs_mul,he1,Nat.one_mul]
    exact Nat.le_refl _
  · rw[←Int.natAbs_mul,k2]
    refine Nat.le_trans (Int.natAbs_add_le _ _) ?_
    rw[Int.natAbs_mul,Int.natAbs_mul,Int.natAbs_mul,he1,Nat.one_mul,Int.natAbs_neg]
    exact Nat.le_refl _
end Rr

end
section
set_option linter.all false
set_option maxHeartbeats 4000000
namespace Rr
open Root
@[irreducible] def W (e:Nat):Nat:=2^e
theorem W_is (e:Nat):W e=2^e:=by
  unfold W
  rfl
theorem W_add (m n:Nat):W (m+n)=W m*W n:=by
  rw[W_is,W_is,W_is]
  exact Nat.pow_add ..
theorem W_le {m n:Nat} (h:m≤n):W m≤W n:=by
  rw[W_is,W_is]
  exact Nat.pow_le_pow_right (by decide) h
theorem W_pos (m:Nat):0<W m:=by
  rw[W_is]
  exact Nat.two_pow_pos m
theorem W_one:W 1=2:=by
  rw[W_is]
theorem W_two:W 2=4:=by
  rw[W_is]
structure Hv (t n:Nat) (a b x u0 v0 y u1 v1:Int):Prop where
  ls:Ls a b x u0 v0 y u1 v1
  y0:0≤y
  yx:y≤x
  yb:y.natAbs<W (n / 2+t)
  xb:x.natAbs<W (n+t)
  c0:u0.natAbs<W (n-n / 2+t)
  c1:v0.natAbs<W (n-n / 2+t)
  c2:u1.natAbs<W (n-n / 2+t)
  c3:v1.natAbs<W (n-n / 2+t)
theorem p2_up {a m n:Nat} (h:a<W m) (e:m≤n):a<W n:=Nat.lt_of_lt_of_le h (W_le e)
theorem p2_mul {a b m n:Nat} (ha:a<W m) (hb:b<W n):a*b<W (m+n):=by
  rw[W_add]
  exact Nat.mul_lt_mul_of_lt_of_lt ha hb
theorem pw4 {e k m:Nat} (h:e=k+(m+2)):W e=W k*(W m*4):=by
  subst h
  rw[W_add,W_add,W_two]
theorem pw2 {e k m:Nat} (h:e=k+(m+1)):W e=W k*(W m*2):=by
  subst h
  rw[W_add,W_add,W_one]
theorem in4 {S A C D:Nat} (h1:A≤D) (h2:C≤D):S*(A+2*C)≤S*(D*4):=Nat.mul_le_mul_left _ (by omega)
theorem in2 {S A C:Nat} (h2:C*2≤A):S*(A+2*C)≤S*(A*2):=Nat.mul_le_mul_left _ (by omega)
theorem g_lt {g V M E e w:Nat}{x:Nat} (q1:V<W E) (q2:M<W E) (hg:g*x≤V+M) (q3:g*W w≤g*x) (h:E+1=e+w):g<W e:=by
  have q4:g*W w<W e*W w:=by
    rw[←W_add,←h,W_add,W_one]
    omega
  exact Nat.lt_of_mul_lt_mul_right q4
theorem Hv.up {t t' n:Nat}{a b x u0 v0 y u1 v1:Int} (h:Hv t n a b x u0 v0 y u1 v1) (e:t≤t'):Hv t' n a b x u0 v0 y u1 v1 :=
  ⟨h.ls,h.y0,h.yx,p2_up h.yb (by omega),p2_up h.xb (by omega),p2_up h.c0 (by omega),p2_up h.c1 (by omega),p2_up h.c2 (by omega),p2_up h.c3 (by omega)⟩
theorem zb {X l m lx ly:Int}{A C S:Nat} (hX:X.natAbs<A) (hl:l.natAbs<C) (hm:m.natAbs<C) (hx:lx.natAbs<S) (hy:ly.natAbs<S):(X*(S:Int)+l*lx+m*ly).natAbs<S*(A+2*C):=by
  have h1:(X*(S:Int)+l*lx+m*ly).natAbs≤X.natAbs*S+l.natAbs*lx.natAbs+m.natAbs*ly.natAbs:=by
    refine Nat.le_trans (Int.natAbs_add_le _ _) ?_
    rw[Int.natAbs_mul m]
    refine Nat.add_le_add_right ?_ _
    refine Nat.le_trans (Int.natAbs_add_le _ _) ?_
    rw[Int.natAbs_mul,Int.natAbs_mul,Int.natAbs_natCast]
    exact Nat.le_refl _
  have h2:l.natAbs*lx.natAbs≤C*S:=Nat.mul_le_mul (by omega) (by omega)
  have h3:m.natAbs*ly.natAbs≤C*S:=Nat.mul_le_mul (by omega) (by omega)
  have h4:(X.natAbs+1)*S≤A*S:=Nat.mul_le_mul_right _ (by omega)
  have h5:S*(A+2*C)=A*S+2*(C*S):=by rw[Nat.mul_add,Nat.mul_comm S A,Nat.mul_left_comm,Nat.mul_comm S C]
  rw[Nat.succ_mul] at h4
  omega
def flipR (r:Int×Int×Int):Int×Int×Int:=if r.1<0 then (-r.1,-r.2.1,-r.2.2) else r
def inOrder (p q:Int×Int×Int):(Int×Int×Int)×(Int×Int×Int):=if p.1<q.1 then (q,p) else (p,q)
theorem flip_ok (z p q:Int):∃ X U V:Int,flipR (z,p,q)=(X,U,V)∧0≤X∧X.natAbs=z.natAbs∧U.natAbs=p.natAbs∧V.natAbs=q.natAbs ∧
    (∀ a b y u1 v1:Int,Ls a b z p q y u1 v1→Ls a b X U V y u1 v1)∧(∀ a b x u0 v0:Int,Ls a b x u0 v0 z p q→Ls a b x u0 v0 X U V):=by
  unfold flipR
  by_cases h:z<0
  · rw[if_pos h]
    exact⟨-z,-p,-q,rfl,by omega,by omega,by omega,by omega,fun a b y u1 v1 h=>h.flip0,fun a b x u0 v0 h=>h.flip1⟩
  · rw[if_neg h]
    exact⟨z,p,q,rfl,by omega,rfl,rfl,rfl,fun a b y u1 v1 h=>h,fun a b x u0 v0 h=>h⟩
theorem order_ok {a b z0 p0 q0 z1 p1 q1:Int} (h:Ls a b z0 p0 q0 z1 p1 q1) {Z0 Z1 C:Nat}
    (h0:z0.natAbs<Z0) (h1:z1.natAbs<Z1) (hZ:Z1≤Z0) (c0:p0.natAbs<C) (c1:q0.natAbs<C) (c2:p1.natAbs<C) (c3:q1.natAbs<C) :
    ∃ X U0 V0 Y U1 V1:Int,inOrder (flipR (z0,p0,q0)) (flipR (z1,p1,q1))=((X,U0,V0),(Y,U1,V1))∧Ls a b X U0 V0 Y U1 V1∧0≤Y∧Y≤X∧Y.natAbs<Z1∧X.natAbs<Z0∧U0.natAbs<C∧V0.natAbs<C∧U1.natAbs<C∧V1.natAbs<C:=by
  obtain⟨X,U0,V0,e1,f1,f2,f3,f4,f5,_⟩:=flip_ok z0 p0 q0
  obtain⟨Y,U1,V1,e2,g1,g2,g3,g4,_,g5⟩:=flip_ok z1 p1 q1
  have hL:=g5 _ _ _ _ _ (f5 _ _ _ _ _ h)
  rw[e1,e2]
  unfold inOrder
  by_cases hlt:X<Y
  · rw[if_pos (show (X,U0,V0).1<(Y,U1,V1).1 from hlt)]
    exact⟨Y,U1,V1,X,U0,V0,rfl,hL.swap,f1,by omega,by omega,by omega,by omega,by omega,by omega,by omega⟩
  · rw[if_neg (show ¬ (X,U0,V0).1<(Y,U1,V1).1 from hlt)]
    exact⟨X,U0,V0,Y,U1,V1,rfl,hL,g1,by omega,by omega,by omega,by omega,by omega,by omega,by omega⟩
theorem nabs_lt {z:Int}{S:Nat} (h0:0≤z) (h1:z<(S:Int)):z.natAbs<S:=by omega
theorem stage1 {t n:Nat}{a b l0 m0 l1 m1 X Y:Int} (hn:200<n) (ht:t≤40) (ha:a.natAbs<W n) (hb0:0≤b) (ha0:0≤a) (h:Hv t (n-n / 2) (a / ((W (n / 2):Nat):Int)) (b / ((W (n / 2):Nat):Int)) X l0 m0 Y l1 m1) :
    ∃ x u0 v0 y u1 v1:Int,inOrder (flipR (l0*a+m0*b,l0,m0)) (flipR (l1*a+m1*b,l1,m1))=((x,u0,v0),(y,u1,v1))∧Ls a b x u0 v0 y u1 v1∧0≤y∧y≤x∧y.natAbs<W (n / 2+((n-n / 2)-(n-n / 2) / 2)+t+2)∧x.natAbs<W (n+t+2) ∧
      u0.natAbs<W ((n-n / 2)-(n-n / 2) / 2+t)∧v0.natAbs<W ((n-n / 2)-(n-n / 2) / 2+t)∧u1.natAbs<W ((n-n / 2)-(n-n / 2) / 2+t)∧v1.natAbs<W ((n-n / 2)-(n-n / 2) / 2+t):=by
  generalize hh:n / 2=k at *
  generalize hn':n-k=n' at *
  generalize hk':n' / 2=k' at *
  have A1:k'+t≤n'-k'+t:=by clear ha h;omega
  have A2:k+(n'-k')+t+2=k+((n'-k'+t)+2):=by clear ha h;omega
  have A3:n'-k'+t≤n'+t:=by clear ha h;omega
  have A4:n+t+2=k+((n'+t)+2):=by clear ha h;omega
  have A5:k+(n'-k')+t+2≤n+t+2:=by clear ha h;omega
  have hSp:(0:Int)<((W k:Nat):Int):=Int.natCast_pos.mpr (W_pos k)
  have hS:0<W k:=W_pos k
  have ea:a=a / ((W k:Nat):Int)*((W k:Nat):Int)+a % ((W k:Nat):Int):=by rw[Int.mul_comm];exact (Int.mul_ediv_add_emod a _).symm
  have eb:b=b / ((W k:Nat):Int)*((W k:Nat):Int)+b % ((W k:Nat):Int):=by rw[Int.mul_comm];exact (Int.mul_ediv_add_emod b _).symm
  have la0:=Int.emod_nonneg a (Int.ne_of_gt hSp)
  have la1:=Int.emod_lt_of_pos a hSp
  have lb0:=Int.emod_nonneg b (Int.ne_of_gt hSp)
  have lb1:=Int.emod_lt_of_pos b hSp
  have e1:=h.ls.ex
  have e2:=h.ls.ey
  generalize hA:a / ((W k:Nat):Int)=A at *
  generalize hB:b / ((W k:Nat):Int)=B at *
  generalize hla:a % ((W k:Nat):Int)=la at *
  generalize hlb:b % ((W k:Nat):Int)=lb at *
  have z0:l0*a+m0*b=X*((W k:Nat):Int)+l0*la+m0*lb:=by rw[ea,eb,e1];grind
  have z1:l1*a+m1*b=Y*((W k:Nat):Int)+l1*la+m1*lb:=by rw[ea,eb,e2];grind
  have k0:=h.c0
  have k1:=h.c1
  have k2:=h.c2
  have k3:=h.c3
  have xb:=h.xb
  have yb:=h.yb
  rw[hk'] at k0 k1 k2 k3 yb
  have w0:=zb (S:=W k) xb k0 k1 (nabs_lt la0 la1) (nabs_lt lb0 lb1)
  have w1:=zb (S:=W k) yb k2 k3 (nabs_lt la0 la1) (nabs_lt lb0 lb1)
  rw[←z0] at w0
  rw[←z1] at w1
  have hd:Ls a b (l0*a+m0*b) l0 m0 (l1*a+m1*b) l1 m1:=⟨rfl,rfl,h.ls.det⟩
  have p1:W (k'+t)≤W (n'-k'+t):=W_le A1
  have p2:W k*(W (k'+t)+2*W (n'-k'+t))≤W (k+(n'-k')+t+2):=by
    rw[pw4 (e:=k+(n'-k')+t+2) (k:=k) (m:=n'-k'+t) A2]
    exact in4 p1 (Nat.le_refl _)
  have p3:W (n'-k'+t)≤W (n'+t):=W_le A3
  have p4:W k*(W (n'+t)+2*W (n'-k'+t))≤W (n+t+2):=by
    rw[pw4 (e:=n+t+2) (k:=k) (m:=n'+t) A4]
    exact in4 (Nat.le_refl _) p3
  exact order_ok hd (Nat.lt_of_lt_of_le w0 p4) (Nat.lt_of_lt_of_le w1 p2) (W_le A5) k0 k1 k2 k3
theorem stage2 {t n L:Nat}{a b x u0 v0 y u1 v1 l0 m0 l1 m1 X Y:Int} (hn:200<n) (ht:t≤40) (ha:a.natAbs<W n) (hba:b.natAbs≤a.natAbs) (hL:Ls a b x u0 v0 y u1 v1) (hy0:0≤y) (hyx:y≤x)
    (hx1:W (L-1)≤x.natAbs) (hx2:x.natAbs<W L) (hLk:n / 2<L) (hLm:L≤n / 2+((n-n / 2)-(n-n / 2) / 2)+t+2)
    (c0:u0.natAbs<W ((n-n / 2)-(n-n / 2) / 2+t)) (c1:v0.natAbs<W ((n-n / 2)-(n-n / 2) / 2+t))
    (h:Hv t (2*(L-n / 2)) (x / ((W (2*(n / 2)-L):Nat):Int)) (y / ((W (2*(n / 2)-L):Nat):Int)) X l0 m0 Y l1 m1) :
    ∃ x' u0' v0' y' u1' v1':Int,inOrder (flipR (l0*x+m0*y,l0*u0+m0*u1,l0*v0+m0*v1)) (flipR (l1*x+m1*y,l1*u0+m1*u1,l1*v0+m1*v1))=((x',u0',v0'),(y',u1',v1'))∧Hv (t+2) n a b x' u0' v0' y' u1' v1':=by
  generalize hh:n / 2=k at *
  generalize hn':n-k=n' at *
  generalize hk':n' / 2=k' at *
  have hL2:L≤2*k:=by clear ha hba hx1 hx2 c0 c1 h hyx hy0;omega
  generalize hs:2*k-L=s at *
  generalize hr:L-k=r at *
  have B2:L+t+1=s+((2*r+t)+1):=by clear ha hba hx1 hx2 c0 c1 h hyx hy0;omega
  have B3:r+t+1≤2*r+t:=by clear ha hba hx1 hx2 c0 c1 h hyx hy0;omega
  have B4:k+t+2=s+((r+t)+2):=by clear ha hba hx1 hx2 c0 c1 h hyx hy0;omega
  have B5:k+t+2≤L+t+1:=by clear ha hba hx1 hx2 c0 c1 h hyx hy0;omega
  have B6:n'-k'+t+(L+t+1)≤n-k+(t+1)+(L-1):=by clear ha hba hx1 hx2 c0 c1 h hyx hy0;omega
  have B7:r+t+n≤n-k+(t+1)+(L-1):=by clear ha hba hx1 hx2 c0 c1 h hyx hy0;omega
  have B8:n-k+(t+1)+(L-1)+1=n-k+(t+2)+(L-1):=by clear ha hba hx1 hx2 c0 c1 h hyx hy0;omega
  have B9:L+t+1≤n+(t+2):=by clear ha hba hx1 hx2 c0 c1 h hyx hy0;omega
  have B10:k+(t+2)≤n+(t+2):=by clear ha hba hx1 hx2 c0 c1 h hyx hy0;omega
  have B11:2*r / 2=r:=by clear ha hba hx1 hx2 c0 c1 h hyx hy0;omega
  have B12:2*r-r=r:=by clear ha hba hx1 hx2 c0 c1 h hyx hy0;omega
  have hSp:(0:Int)<((W s:Nat):Int):=Int.natCast_pos.mpr (W_pos s)
  have hS:0<W s:=W_pos s
  have ea:x=x / ((W s:Nat):Int)*((W s:Nat):Int)+x % ((W s:Nat):Int):=by rw[Int.mul_comm];exact (Int.mul_ediv_add_emod x _).symm
  have eb:y=y / ((W s:Nat):Int)*((W s:Nat):Int)+y % ((W s:Nat):Int):=by rw[Int.mul_comm];exact (Int.mul_ediv_add_emod y _).symm
  have la0:=Int.emod_nonneg x (Int.ne_of_gt hSp)
  have la1:=Int.emod_lt_of_pos x hSp
  have lb0:=Int.emod_nonneg y (Int.ne_of_gt hSp)
  have lb1:=Int.emod_lt_of_pos y hSp
  have e1:=h.ls.ex
  have e2:=h.ls.ey
  generalize hA:x / ((W s:Nat):Int)=A at *
  generalize hB:y / ((W s:Nat):Int)=B at *
  generalize hla:x % ((W s:Nat):Int)=la at *
  generalize hlb:y % ((W s:Nat):Int)=lb at *
  have z0:l0*x+m0*y=X*((W s:Nat):Int)+l0*la+m0*lb:=by rw[ea,eb,e1];grind
  have z1:l1*x+m1*y=Y*((W s:Nat):Int)+l1*la+m1*lb:=by rw[ea,eb,e2];grind
  have k0:=h.c0
  have k1:=h.c1
  have k2:=h.c2
  have k3:=h.c3
  have xb:=h.xb
  have yb:=h.yb
  rw[B11] at k0 k1 k2 k3 yb
  rw[B12] at k0 k1 k2 k3
  have w0:=zb (S:=W s) xb k0 k1 (nabs_lt la0 la1) (nabs_lt lb0 lb1)
  have w1:=zb (S:=W s) yb k2 k3 (nabs_lt la0 la1) (nabs_lt lb0 lb1)
  rw[←z0] at w0
  rw[←z1] at w1
  have hz0:(l0*x+m0*y).natAbs<W (L+t+1):=by
    refine Nat.lt_of_lt_of_le w0 ?_
    rw[pw2 (e:=L+t+1) (k:=s) (m:=2*r+t) B2]
    refine in2 ?_
    have:=W_le B3
    rwa [W_add,W_one] at this
  have hz1:(l1*x+m1*y).natAbs<W (k+t+2):=by
    refine Nat.lt_of_lt_of_le w1 ?_
    rw[pw4 (e:=k+t+2) (k:=s) (m:=r+t) B4]
    exact in4 (Nat.le_refl _) (Nat.le_refl _)
  have hz1':(l1*x+m1*y).natAbs<W (L+t+1):=p2_up hz1 B5
  have fac:∀ (g V z m:Nat),g*x.natAbs≤V*z+m*a.natAbs→V<W (n'-k'+t)→z<W (L+t+1)→m<W (r+t)→g<W (n-k+(t+2)):=fun g V z m hg hV hz hm=>by
    have q1:V*z<W (n-k+(t+1)+(L-1)):=p2_up (p2_mul hV hz) B6
    have q2:m*a.natAbs<W (n-k+(t+1)+(L-1)):=p2_up (p2_mul hm ha) B7
    have q3:g*W (L-1)≤g*x.natAbs:=Nat.mul_le_mul_left _ hx1
    exact g_lt q1 q2 hg q3 B8
  obtain⟨f0,f1⟩:=hL.fac l0 m0
  obtain⟨f2,f3⟩:=hL.fac l1 m1
  have f1':(l0*u0+m0*u1).natAbs*x.natAbs≤u0.natAbs*(l0*x+m0*y).natAbs+m0.natAbs*a.natAbs:=Nat.le_trans f1 (Nat.add_le_add_left (Nat.mul_le_mul_left _ hba) _)
  have f3':(l1*u0+m1*u1).natAbs*x.natAbs≤u0.natAbs*(l1*x+m1*y).natAbs+m1.natAbs*a.natAbs:=Nat.le_trans f3 (Nat.add_le_add_left (Nat.mul_le_mul_left _ hba) _)
  obtain⟨x',u0',v0',y',u1',v1',g1,g2,g3,g4,g5,g6,g7,g8,g9,g10⟩:=order_ok (hL.comp h.ls.det) (Z0:=W (n+(t+2))) (Z1:=W (k+(t+2))) (C:=W (n-k+(t+2))) (p2_up hz0 B9) hz1 (W_le B10)
    (fac _ _ _ _ f1' c0 hz0 k1) (fac _ _ _ _ f0 c1 hz0 k1) (fac _ _ _ _ f3' c0 hz1' k3) (fac _ _ _ _ f2 c1 hz1' k3)
  exact⟨x',u0',v0',y',u1',v1',g1,g2,g3,g4,by rw[hh];exact g5,g6,by rw[hh];exact g7,by rw[hh];exact g8,by rw[hh];exact g9,by rw[hh];exact g10⟩
end Rr

end
section
set_option linter.all false
set_option maxHeartbeats 1000000
namespace Rr
open Root
theorem ret1 {t n:Nat}{a b x u0 v0 y u1 v1:Int} (hn:200<n) (hL:Ls a b x u0 v0 y u1 v1) (y0:0≤y) (yx:y≤x) (xb:x.natAbs<W (n+t+2)) (yb:y.natAbs<W (n / 2))
    (c0:u0.natAbs<W ((n-n / 2)-(n-n / 2) / 2+t)) (c1:v0.natAbs<W ((n-n / 2)-(n-n / 2) / 2+t)) (c2:u1.natAbs<W ((n-n / 2)-(n-n / 2) / 2+t)) (c3:v1.natAbs<W ((n-n / 2)-(n-n / 2) / 2+t)):Hv (t+2) n a b x u0 v0 y u1 v1:=by
  have A1:(n-n / 2)-(n-n / 2) / 2+t≤n-n / 2+(t+2):=by clear xb yb c0 c1 c2 c3;omega
  exact⟨hL,y0,yx,p2_up yb (by clear xb yb c0 c1 c2 c3;omega),xb,p2_up c0 A1,p2_up c1 A1,p2_up c2 A1,p2_up c3 A1⟩
theorem div_few {a y d v w:Nat}{n k e E:Nat} (h:w*y≤a+v*d) (hd:d≤y) (hy:W k≤y) (ha:a<W n) (hv:v<W e) (hk:k≤n) (he:e≤E) (hE:n-k≤E):w<W (E+1):=by
  have h1:v*d≤v*y:=Nat.mul_le_mul_left _ hd
  rw[W_add,W_one]
  have e1:=W_le he
  have e2:=W_le hE
  by_cases hwv:w≤v
  · omega
  · have h2:(w-v)*y≤a:=by
      rw[Nat.sub_mul]
      omega
    have h3:(w-v)*W k≤(w-v)*y:=Nat.mul_le_mul_left _ hy
    have h4:(w-v)*W k<W (n-k)*W k:=by
      rw[←W_add,show n-k+k=n by omega]
      omega
    have h5:=Nat.lt_of_mul_lt_mul_right h4
    omega
theorem divide {t n:Nat}{a b x u0 v0 y u1 v1:Int} (hn:200<n) (ha:a.natAbs<W n) (hba:b.natAbs≤a.natAbs) (hL:Ls a b x u0 v0 y u1 v1) (hy:W (n / 2)≤y.natAbs) (hy0:0≤y) (hyx:y≤x)
    (c2:u1.natAbs<W ((n-n / 2)-(n-n / 2) / 2+t)) (c3:v1.natAbs<W ((n-n / 2)-(n-n / 2) / 2+t)) :
    Ls a b y u1 v1 (x-x / y*y) (u0-x / y*u1) (v0-x / y*v1)∧0≤x-x / y*y∧x-x / y*y≤y∧(u0-x / y*u1).natAbs<W (n-n / 2+t+1)∧(v0-x / y*v1).natAbs<W (n-n / 2+t+1):=by
  have hD:=hL.div (x / y)
  have hp:0<y:=by
    have:=W_pos (n / 2)
    clear ha hba c2 c3
    omega
  have h1:=Int.emod_nonneg x (Int.ne_of_gt hp)
  have h2:=Int.emod_lt_of_pos x hp
  have h3:x-x / y*y=x % y:=by
    have:=Int.mul_ediv_add_emod x y
    rw[Int.mul_comm] at this
    clear ha hba c2 c3
    omega
  rw[h3] at hD ⊢
  obtain⟨e,he,k1,k2⟩:=hD.back
  have he1:e.natAbs=1:=by clear ha hba c2 c3 hy;omega
  have g1:(v0-x / y*v1).natAbs*y.natAbs≤a.natAbs+v1.natAbs*(x % y).natAbs:=by
    rw[←Int.natAbs_mul,show (v0-x / y*v1)*y=e*a+v1*(x % y) by rw[←k1];grind]
    refine Nat.le_trans (Int.natAbs_add_le _ _) ?_
    rw[Int.natAbs_mul,Int.natAbs_mul,he1,Nat.one_mul]
    exact Nat.le_refl _
  have g2:(u0-x / y*u1).natAbs*y.natAbs≤a.natAbs+u1.natAbs*(x % y).natAbs:=by
    rw[←Int.natAbs_mul,show (u0-x / y*u1)*y=-(e*b)+u1*(x % y) by rw[←k2];grind]
    refine Nat.le_trans (Int.natAbs_add_le _ _) ?_
    rw[Int.natAbs_neg,Int.natAbs_mul,Int.natAbs_mul,he1,Nat.one_mul]
    exact Nat.add_le_add_right hba _
  have hd:(x % y).natAbs≤y.natAbs:=by clear ha hba c2 c3 g1 g2 hy k1 k2;omega
  have A1:n / 2≤n:=by clear ha hba c2 c3 g1 g2 hy hd;omega
  have A2:(n-n / 2)-(n-n / 2) / 2+t≤n-n / 2+t:=by clear ha hba c2 c3 g1 g2 hy hd;omega
  have A3:n-n / 2≤n-n / 2+t:=Nat.le_add_right _ _
  exact⟨hD,h1,Int.le_of_lt h2,div_few g2 hd hy ha c2 A1 A2 A3,div_few g1 hd hy ha c3 A1 A2 A3⟩
theorem ret2 {t n:Nat}{a b x u0 v0 y u1 v1:Int} (hn:200<n) (ht:t≤40) (hL:Ls a b x u0 v0 y u1 v1) (y0:0≤y) (yx:y≤x) (xb:x.natAbs<W (n / 2+((n-n / 2)-(n-n / 2) / 2)+t+2)) (yb:y.natAbs<W (n / 2))
    (c0:u0.natAbs<W ((n-n / 2)-(n-n / 2) / 2+t)) (c1:v0.natAbs<W ((n-n / 2)-(n-n / 2) / 2+t)) (c2:u1.natAbs<W (n-n / 2+t+1)) (c3:v1.natAbs<W (n-n / 2+t+1)):Hv (t+2) n a b x u0 v0 y u1 v1:=by
  have A1:(n-n / 2)-(n-n / 2) / 2+t≤n-n / 2+(t+2):=by clear xb yb c0 c1 c2 c3;omega
  have A2:n-n / 2+t+1≤n-n / 2+(t+2):=by clear xb yb c0 c1 c2 c3;omega
  have A3:n / 2+((n-n / 2)-(n-n / 2) / 2)+t+2≤n+(t+2):=by clear xb yb c0 c1 c2 c3;omega
  exact⟨hL,y0,yx,p2_up yb (by clear xb yb c0 c1 c2 c3;omega),p2_up xb A3,p2_up c0 A1,p2_up c1 A1,p2_up c2 A2,p2_up c3 A2⟩
structure Eu (n:Nat) (a b x u0 v0 y u1 v1:Int):Prop where
  ls:Ls a b x u0 v0 y u1 v1
  y0:0≤y
  yx:y≤x
  xk:W (n / 2)≤x.natAbs
  co:∃ (e p0 q0 p1 q1:Int),(e=1∨e=-1)∧0≤p0∧p0≤p1∧1≤p1∧0≤q0∧0≤q1∧(q0≤1∨q0≤q1)∧u0=e*q0∧v0=-e*p0∧u1=-e*q1∧v1=e*p1∧a=p1*x+p0*y∧b=q1*x+q0*y
theorem Eu.start {n:Nat}{a b:Int} (h0:0≤b) (h1:b≤a) (ha:W (n / 2)≤a.natAbs):Eu n a b a 1 0 b 0 1 :=
  ⟨Ls.start a b,h0,h1,ha,1,0,1,1,0,.inl rfl,by decide,by decide,by decide,by decide,by decide,.inl (by decide),rfl,rfl,rfl,rfl,by omega,by omega⟩
theorem Eu.step {n:Nat}{a b x u0 v0 y u1 v1:Int} (h:Eu n a b x u0 v0 y u1 v1) (hy:W (n / 2)≤y.natAbs):Eu n a b y u1 v1 (x-x / y*y) (u0-x / y*u1) (v0-x / y*v1):=by
  obtain⟨hL,y0,yx,xk,e,p0,q0,p1,q1,he,h1,h2,h3,h4,h5,h6,e1,e2,e3,e4,e5,e6⟩:=h
  have hp:0<y:=by
    have:=W_pos (n / 2)
    omega
  have g1:=Int.emod_nonneg x (Int.ne_of_gt hp)
  have g2:=Int.emod_lt_of_pos x hp
  have g3:x-x / y*y=x % y:=by
    have:=Int.mul_ediv_add_emod x y
    rw[Int.mul_comm] at this
    omega
  have g4:1≤x / y:=(Int.le_ediv_iff_mul_le hp).mpr (by omega)
  generalize x / y=q at *
  refine⟨hL.div q,by omega,by omega,hy,-e,p1,q1,p0+q*p1,q0+q*q1,by omega,by omega,?_,?_,h5,?_,?_,by rw[e3],by rw[e4];grind,by rw[e1,e3];grind,by rw[e2,e4];grind,by rw[e5];grind,by rw[e6];grind⟩
  · have:=Int.mul_le_mul_of_nonneg_right g4 (show 0≤p1 by omega)
    omega
  · have:=Int.mul_le_mul_of_nonneg_right g4 (show 0≤p1 by omega)
    omega
  · have:=Int.mul_nonneg (show 0≤q by omega) h5
    omega
  · right
    have:=Int.mul_le_mul_of_nonneg_right g4 h5
    omega
theorem fac_lt {p x a:Int}{n k:Nat} (hp:0≤p) (h:p*x≤a) (ha:a.natAbs<W n) (hx:W k≤x.natAbs) (hx0:0≤x) (hk:k≤n):p.natAbs<W (n-k):=by
  have h1:p.natAbs*x.natAbs≤a.natAbs:=by
    rw[←Int.natAbs_mul]
    have:=Int.mul_nonneg hp hx0
    omega
  have h2:p.natAbs*W k≤p.natAbs*x.natAbs:=Nat.mul_le_mul_left _ hx
  have h3:p.natAbs*W k<W (n-k)*W k:=by
    rw[←W_add,show n-k+k=n by omega]
    omega
  exact Nat.lt_of_mul_lt_mul_right h3
theorem Eu.done {n:Nat}{a b x u0 v0 y u1 v1:Int} (h:Eu n a b x u0 v0 y u1 v1) (hn:1≤n) (ha:a.natAbs<W n) (ha0:0≤a) (hba:b≤a) (hy:y.natAbs<W (n / 2)):Hv 0 n a b x u0 v0 y u1 v1:=by
  obtain⟨hL,y0,yx,xk,e,p0,q0,p1,q1,he,h1,h2,h3,h4,h5,h6,e1,e2,e3,e4,e5,e6⟩:=h
  have hx0:0≤x:=by omega
  have k1:n / 2≤n:=Nat.div_le_self _ _
  have m1:=Int.mul_nonneg h1 y0
  have m2:=Int.mul_nonneg h4 y0
  have m3:=Int.mul_le_mul_of_nonneg_right h3 hx0
  have b1:=fac_lt (p:=p1) (by omega) (show p1*x≤a by omega) ha xk hx0 k1
  have b2:=fac_lt (p:=q1) h5 (show q1*x≤a by omega) ha xk hx0 k1
  have b3:2≤W (n-n / 2):=by
    have:=W_le (show 1≤n-n / 2 by omega)
    rwa [W_one] at this
  have xa:x≤a:=by omega
  have b4:q0.natAbs<W (n-n / 2):=by omega
  have b5:p0.natAbs<W (n-n / 2):=by omega
  have ab:∀ z:Int,(e*z).natAbs=z.natAbs∧(-e*z).natAbs=z.natAbs:=fun z=>by
    rcases he with h | h <;> rw[h] <;> omega
  refine⟨hL,y0,yx,by rw[Nat.add_zero];exact hy,by rw[Nat.add_zero];omega,?_,?_,?_,?_⟩ <;> rw[Nat.add_zero]
  · rw[e1,(ab q0).1];exact b4
  · rw[e2,(ab p0).2];exact b5
  · rw[e3,(ab q1).2];exact b2
  · rw[e4,(ab p1).1];exact b1
end Rr

end
section
set_option linter.all false
set_option maxHeartbeats 1000000
namespace Rr
open Root
theorem Eu.fac {n:Nat}{a b x u0 v0 y u1 v1:Int} (h:Eu n a b x u0 v0 y u1 v1) (ha:a.natAbs<W n) (ha0:0≤a) (hba:b≤a):x.natAbs<W n∧u1.natAbs<W n∧v1.natAbs<W n∧y.natAbs<W n:=by
  obtain⟨hL,y0,yx,xk,e,p0,q0,p1,q1,he,h1,h2,h3,h4,h5,h6,e1,e2,e3,e4,e5,e6⟩:=h
  have hx0:0≤x:=by omega
  have k1:n / 2≤n:=Nat.div_le_self _ _
  have m1:=Int.mul_nonneg h1 y0
  have m2:=Int.mul_nonneg h4 y0
  have m3:=Int.mul_le_mul_of_nonneg_right h3 hx0
  have b1:=fac_lt (p:=p1) (by omega) (show p1*x≤a by omega) ha xk hx0 k1
  have b2:=fac_lt (p:=q1) h5 (show q1*x≤a by omega) ha xk hx0 k1
  have b3:=W_le (show n-n / 2≤n by omega)
  have xa:x≤a:=by omega
  have ab:∀ z:Int,(e*z).natAbs=z.natAbs∧(-e*z).natAbs=z.natAbs:=fun z=>by
    rcases he with h | h <;> rw[h] <;> omega
  refine⟨by omega,?_,?_,by omega⟩
  · rw[e3,(ab q1).2];omega
  · rw[e4,(ab p1).1];omega
def Bj (j:Nat):Nat:=100*2^j+8*j+40
theorem Bj_half {n j:Nat} (h:n≤Bj (j+1)):n-n / 2≤Bj j:=by
  unfold Bj at *
  rw[Nat.pow_succ] at h
  generalize 2^j=M at *
  omega
theorem Bj_next {n j L:Nat} (h:n≤Bj (j+1)) (hL:L≤n / 2+((n-n / 2)-(n-n / 2) / 2)+2*j+2):2*(L-n / 2)≤Bj j:=by
  unfold Bj at *
  rw[Nat.pow_succ] at h
  generalize 2^j=M at *
  omega
theorem two_div {x:Int}{h:Nat} (hx:0≤x):x / ((2^h:Nat):Int)=0↔x.natAbs<W h:=by
  have hS:=Nat.two_pow_pos h
  rw[W_is]
  constructor
  · intro e
    have:=Int.lt_ediv_add_one_mul_self x (show 0<((2^h:Nat):Int) by omega)
    rw[e] at this
    omega
  · intro e
    exact Int.ediv_eq_zero_of_lt hx (by omega)
theorem few_div {x:Int}{n h:Nat} (hx:0≤x) (h1:2^(n-1)≤x.natAbs) (h2:x.natAbs<2^n) (hh:h<n):2^(n-h-1)≤(x / ((2^h:Nat):Int)).natAbs∧(x / ((2^h:Nat):Int)).natAbs<2^(n-h):=by
  have hS:=Nat.two_pow_pos h
  have e1:2^(n-1)=2^(n-h-1)*2^h:=by rw[←Nat.pow_add];congr 1;omega
  have e2:2^n=2^(n-h)*2^h:=by rw[←Nat.pow_add];congr 1;omega
  have hq:0≤x / ((2^h:Nat):Int):=Int.ediv_nonneg hx (by omega)
  have k1:((2^(n-h-1):Nat):Int)≤x / ((2^h:Nat):Int):=(Int.le_ediv_iff_mul_le (by omega)).mpr (by
    rw[←Int.natCast_mul,←e1]
    omega)
  have k2:x / ((2^h:Nat):Int)<((2^(n-h):Nat):Int):=(Int.ediv_lt_iff_lt_mul (by omega)).mpr (by
    rw[←Int.natCast_mul,←e2]
    omega)
  generalize x / ((2^h:Nat):Int)=q at *
  generalize 2^(n-h-1)=A at *
  generalize 2^(n-h)=B at *
  omega
theorem gcdRow_few {l:List Int}{n:Nat} (h:∀ z∈l,z.natAbs<2^n):gcdRow l<2^n:=by
  by_cases h0:gcdRow l=0
  · rw[h0]
    exact Nat.two_pow_pos n
  · false_or_by_contra
    rename_i hn
    apply h0
    refine Nat.eq_zero_of_zero_dvd ((dvd_gcdRow l).mpr fun z hz=>?_)
    have h1:=gcdRow_dvd hz
    have h2:=h z hz
    rcases Nat.eq_zero_or_pos z.natAbs with e | e
    · rw[e];exact Nat.dvd_refl _
    · have:=Nat.le_of_dvd e h1
      omega
end Rr

end
section
set_option linter.all false
namespace Rr
open Root
theorem power_mul {c:List Int} (hc:1≤c.length) {a:Num} (ha:a.length=c.length) (m:Nat):∀ n:Nat,Cg c (fun x=>polyAt (Root.power c a m) x*polyAt (Root.power c a n) x) (polyAt (Root.power c a (m+n)))
  | 0=>Cg.of_eq fun x=>by
    show polyAt (Root.power c a m) x*polyAt (oneIn c.length) x=polyAt (Root.power c a m) x
    rw[oneIn_at hc]
    grind
  | n+1=>by
    have h1:=(times_cg hc (power_length hc ha n) ha).mul (Root.power c a m)
    have h2:=(power_mul hc ha m n).mul a
    have h3:=(times_cg hc (power_length hc ha (m+n)) ha).symm
    refine (Cg.of_eq fun x=>?_).trans (h1.trans ((Cg.of_eq fun x=>?_).trans (h2.trans h3)))
    · show polyAt (Root.power c a m) x*polyAt (Root.times c (Root.power c a n) a) x=polyAt (Root.times c (Root.power c a n) a) x*polyAt (Root.power c a m) x
      grind
    · grind
theorem power_twice {c:List Int} (hc:1≤c.length) {a:Num} (ha:a.length=c.length) (m:Nat):Root.times c (Root.power c a m) (Root.power c a m)=Root.power c a (m+m) :=
  times_unique hc (power_length hc ha m) (power_length hc ha m) (power_length hc ha (m+m)) (power_mul hc ha m m)
theorem inverse_dv {c:List Int} (h:refusal c=0) (hc:1≤c.length) {A G:List Int}{p D:Int} (hp:0<p) (hD:0<D) (hA:A.length=c.length) (hG:G.length=c.length) (hnz:isZero (dv p A)=false) (hcg:Cg c (fun x=>pI A x*pI G x) (fun _=>(p:Rat)*(D:Rat))):inverse c (dv p A)=dv D G:=by
  have hA':(dv p A).length=c.length:=by rw[dv_length];exact hA
  have hG':(dv D G).length=c.length:=by rw[dv_length];exact hG
  obtain⟨il,_⟩:=inverse_ok h hA' hnz
  have h1:=inverse_cg h hA' hnz
  have hp':(p:Rat)≠0:=fun z=>by have:=Rat.intCast_eq_zero_iff.mp z;omega
  have hD':(D:Rat)≠0:=fun z=>by have:=Rat.intCast_eq_zero_iff.mp z;omega
  have h2:Cg c (fun x=>polyAt (dv p A) x*polyAt (dv D G) x) (fun _=>1):=by
    obtain⟨Q,hQ⟩:=hcg
    refine⟨mulC (1 / ((p:Rat)*(D:Rat))) Q,fun x=>?_⟩
    have e:pI A x*pI G x-(p:Rat)*(D:Rat)=polyAt Q x*polyAt (polyOf c) x:=hQ x
    show polyAt (dv p A) x*polyAt (dv D G) x-1=_
    rw[dv_at hp,dv_at hD,mulC_at]
    have e2:polyAt (rI A) x*polyAt (rI G) x-(p:Rat)*(D:Rat)=polyAt Q x*polyAt (polyOf c) x:=e
    generalize polyAt (rI A) x=t1 at *
    generalize polyAt (rI G) x=t2 at *
    have e3:1 / ((p:Rat)*(D:Rat))*polyAt Q x*polyAt (polyOf c) x=1 / ((p:Rat)*(D:Rat))*(polyAt Q x*polyAt (polyOf c) x):=by grind
    rw[e3,←e2]
    clear hQ e e2 e3 h1
    grind
  refine Cg.unique il hG' ?_
  refine ((Cg.of_eq fun x=>?_).trans ((h2.mul (inverse c (dv p A))).symm)).trans ((Cg.of_eq fun x=>?_).trans ((h1.mul (dv D G)).trans (Cg.of_eq fun x=>?_)))
  · grind
  · show polyAt (dv p A) x*polyAt (dv D G) x*polyAt (inverse c (dv p A)) x=polyAt (dv p A) x*polyAt (inverse c (dv p A)) x*polyAt (dv D G) x
    grind
  · grind
end Rr

end
section
set_option linter.all false
namespace Rr
open Root
inductive Wd where | number | x | negate | raise_ | add | subtract | multiply | divide
abbrev Stp:=Wd×Int
def sk:List Int→Nat→Nat
  | [],p=>p
  | c::r,p=>if c=32 then sk r (p+1) else p
def nx (T:List Int) (p:Nat):Nat:=sk (T.drop p) p
def atT (T:List Int) (p:Nat):Int:=T.getD p 256
def dig (c:Int):Bool:=decide (48≤c) && decide (c≤57)
def dg (most:Nat):Nat→Int→List Int→Nat→Except Nat (Int×Nat)
  | _,n,[],p=>.ok (n,p)
  | k,n,c::r,p=>if dig c=true then (if k=most then .error p else dg most (k+1) (n*10+c-48) r (p+1)) else .ok (n,p)
def rdg (T:List Int) (most p:Nat):Except Nat (Int×Nat):=if dig (atT T (nx T p))=true then dg most 0 0 (T.drop (nx T p)) (nx T p) else .error (nx T p)
inductive Pt where | sum | prod | power | atom | sums | prods
def rd (T:List Int):Nat→Pt→Nat→Nat→Except Nat (List Stp×Nat)
  | 0,_,_,p=>.error p
  | f+1,.sum,d,p=>match rd T f .prod d p with
    | .error e=>.error e
    | .ok (S,p1)=>match rd T f .sums d p1 with
      | .error e=>.error e
      | .ok (S',p2)=>.ok (S++S',p2)
  | f+1,.prod,d,p=>match rd T f .power d p with
    | .error e=>.error e
    | .ok (S,p1)=>match rd T f .prods d p1 with
      | .error e=>.error e
      | .ok (S',p2)=>.ok (S++S',p2)
  | f+1,.sums,d,p=>if atT T (nx T p)=43∨atT T (nx T p)=45 then (match rd T f .prod d (nx T p+1) with
      | .error e=>.error e
      | .ok (S,p1)=>match rd T f .sums d p1 with
        | .error e=>.error e
        | .ok (S',p2)=>.ok (S++(if atT T (nx T p)=43 then Wd.add else Wd.subtract,0)::S',p2)) else .ok ([],nx T p)
  | f+1,.prods,d,p=>if atT T (nx T p)=42∨atT T (nx T p)=47 then (match rd T f .power d (nx T p+1) with
      | .error e=>.error e
      | .ok (S,p1)=>match rd T f .prods d p1 with
        | .error e=>.error e
        | .ok (S',p2)=>.ok (S++(if atT T (nx T p)=42 then Wd.multiply else Wd.divide,0)::S',p2)) else .ok ([],nx T p)
  | f+1,.power,d,p=>match rd T f .atom d p with
    | .error e=>.error e
    | .ok (S,p1)=>if atT T (nx T p1)=94 then (match rdg T 2 (nx T p1+1) with
        | .error e=>.error e
        | .ok (k,p2)=>.ok (S++[(Wd.raise_,k)],p2)) else .ok (S,nx T p1)
  | f+1,.atom,d,p =>
    if atT T (nx T p)=120 then .ok ([(Wd.x,0)],nx T p+1)
    else if atT T (nx T p)=40 then (if d=16 then .error (nx T p) else match rd T f .sum (d+1) (nx T p+1) with
      | .error e=>.error e
      | .ok (S,p1)=>if atT T (nx T p1)=41 then .ok (S,nx T p1+1) else .error (nx T p1))
    else if atT T (nx T p)=45 then (if d=16 then .error (nx T p) else match rd T f .atom (d+1) (nx T p+1) with
      | .error e=>.error e
      | .ok (S,p1)=>.ok (S++[(Wd.negate,0)],p1))
    else match rdg T 9 p with
      | .error e=>.error e
      | .ok (k,p1)=>.ok ([(Wd.number,k)],p1)
def rdAll (T:List Int):Except Nat (List Stp):=match rd T (6*T.length+12) .sum 0 0 with
  | .error e=>.error e
  | .ok (S,p)=>if atT T (nx T p)=256 then .ok S else .error (nx T p)
theorem sk_le:∀ (l:List Int) (p:Nat),p≤sk l p∧sk l p≤p+l.length
  | [],p=>⟨Nat.le_refl _,Nat.le_refl _⟩
  | c::r,p=>by
    unfold sk
    split
    · have:=sk_le r (p+1)
      rw[List.length_cons]
      lia
    · rw[List.length_cons]
      lia
theorem nx_le {T:List Int}{p:Nat} (h:p≤T.length):p≤nx T p∧nx T p≤T.length:=by
  have:=sk_le (T.drop p) p
  rw[List.length_drop] at this
  unfold nx
  lia
theorem dg_le (most:Nat):∀ (l:List Int) (k:Nat) (n:Int) (p:Nat) (r:Int×Nat),dg most k n l p=.ok r→p≤r.2∧r.2≤p+l.length
  | [],k,n,p,r,h=>by
    unfold dg at h
    cases h
    exact⟨Nat.le_refl _,Nat.le_refl _⟩
  | c::l,k,n,p,r,h=>by
    unfold dg at h
    rw[List.length_cons]
    split at h
    · split at h
      · cases h
      · have:=dg_le most l _ _ _ r h
        lia
    · cases h
      exact⟨Nat.le_refl _,by lia⟩
theorem atT_lt {T:List Int}{p:Nat} (h:atT T p≠256):p<T.length:=by
  false_or_by_contra
  exact h (by unfold atT;rw[List.getD_eq_getElem?_getD,List.getElem?_eq_none (by lia)];rfl)
theorem dig_ne {c:Int} (h:dig c=true):c≠256:=by
  unfold dig at h
  simp at h
  lia
theorem rdg_le {T:List Int}{most p:Nat}{r:Int×Nat} (hp:p≤T.length) (hm:1≤most) (h:rdg T most p=.ok r):p<r.2∧r.2≤T.length:=by
  unfold rdg at h
  split at h
  · rename_i hd
    have h1:=nx_le hp
    have h2:=atT_lt (dig_ne hd)
    have e:T.drop (nx T p)=atT T (nx T p)::T.drop (nx T p+1):=by
      rw[List.drop_eq_getElem_cons h2]
      unfold atT
      rw[List.getD_eq_getElem?_getD,List.getElem?_eq_getElem h2]
      rfl
    rw[e] at h
    unfold dg at h
    rw[if_pos hd,if_neg (by lia)] at h
    have:=dg_le most _ _ _ _ _ h
    rw[List.length_drop] at this
    lia
  · cases h
def PtOk (T:List Int) (P:Pt) (p p':Nat):Prop:=match P with
  | .sums=>p≤p'∧p'≤T.length
  | .prods=>p≤p'∧p'≤T.length
  | _=>p<p'∧p'≤T.length
theorem rd_le (T:List Int):∀ (f:Nat) (P:Pt) (d p:Nat) (S:List Stp) (p':Nat),p≤T.length→rd T f P d p=.ok (S,p')→PtOk T P p p'
  | 0,P,d,p,S,p',_,h=>by
    unfold rd at h
    cases h
  | f+1,.sum,d,p,S,p',hp,h=>by
    unfold rd at h
    cases e1:rd T f .prod d p with
    | error e=>rw[e1] at h;cases h
    | ok r =>
      obtain⟨S1,p1⟩:=r
      rw[e1] at h
      have a1:p<p1∧p1≤T.length:=rd_le T f .prod d p S1 p1 hp e1
      dsimp only at h
      cases e2:rd T f .sums d p1 with
      | error e=>rw[e2] at h;cases h
      | ok r2 =>
        obtain⟨S2,p2⟩:=r2
        rw[e2] at h
        cases h
        have a2:p1≤p'∧p'≤T.length:=rd_le T f .sums d p1 S2 p' a1.2 e2
        show p<p'∧p'≤T.length
        lia
  | f+1,.prod,d,p,S,p',hp,h=>by
    unfold rd at h
    cases e1:rd T f .power d p with
    | error e=>rw[e1] at h;cases h
    | ok r =>
      obtain⟨S1,p1⟩:=r
      rw[e1] at h
      have a1:p<p1∧p1≤T.length:=rd_le T f .power d p S1 p1 hp e1
      dsimp only at h
      cases e2:rd T f .prods d p1 with
      | error e=>rw[e2] at h;cases h
      | ok r2 =>
        obtain⟨S2,p2⟩:=r2
        rw[e2] at h
        cases h
        have a2:p1≤p'∧p'≤T.length:=rd_le T f .prods d p1 S2 p' a1.2 e2
        show p<p'∧p'≤T.length
        lia
  | f+1,.sums,d,p,S,p',hp,h=>by
    have h0:=nx_le hp
    unfold rd at h
    split at h
    · rename_i hc
      have hlt:nx T p<T.length:=atT_lt (by lia)
      cases e1:rd T f .prod d (nx T p+1) with
      | error e=>rw[e1] at h;cases h
      | ok r =>
        obtain⟨S1,p1⟩:=r
        rw[e1] at h
        have a1:nx T p+1<p1∧p1≤T.length:=rd_le T f .prod d _ S1 p1 hlt e1
        dsimp only at h
        cases e2:rd T f .sums d p1 with
        | error e=>rw[e2] at h;cases h
        | ok r2 =>
          obtain⟨S2,p2⟩:=r2
          rw[e2] at h
          cases h
          have a2:p1≤p'∧p'≤T.length:=rd_le T f .sums d p1 S2 p' a1.2 e2
          show p≤p'∧p'≤T.length
          lia
    · cases h
      exact h0
  | f+1,.prods,d,p,S,p',hp,h=>by
    have h0:=nx_le hp
    unfold rd at h
    split at h
    · rename_i hc
      have hlt:nx T p<T.length:=atT_lt (by lia)
      cases e1:rd T f .power d (nx T p+1) with
      | error e=>rw[e1] at h;cases h
      | ok r =>
        obtain⟨S1,p1⟩:=r
        rw[e1] at h
        have a1:nx T p+1<p1∧p1≤T.length:=rd_le T f .power d _ S1 p1 hlt e1
        dsimp only at h
        cases e2:rd T f .prods d p1 with
        | error e=>rw[e2] at h;cases h
        | ok r2 =>
          obtain⟨S2,p2⟩:=r2
          rw[e2] at h
          cases h
          have a2:p1≤p'∧p'≤T.length:=rd_le T f .prods d p1 S2 p' a1.2 e2
          show p≤p'∧p'≤T.length
          lia
    · cases h
      exact h0
  | f+1,.power,d,p,S,p',hp,h=>by
    unfold rd at h
    cases e1:rd T f .atom d p with
    | error e=>rw[e1] at h;cases h
    | ok r =>
      obtain⟨S1,p1⟩:=r
      rw[e1] at h
      have a1:p<p1∧p1≤T.length:=rd_le T f .atom d p S1 p1 hp e1
      have h0:=nx_le a1.2
      dsimp only at h
      split at h
      · rename_i hc
        have hlt:nx T p1<T.length:=atT_lt (by lia)
        cases e2:rdg T 2 (nx T p1+1) with
        | error e=>rw[e2] at h;cases h
        | ok r2 =>
          rw[e2] at h
          cases h
          have:=rdg_le (by lia) (by decide) e2
          show p<_∧_≤T.length
          lia
      · cases h
        show p<nx T p1∧nx T p1≤T.length
        lia
  | f+1,.atom,d,p,S,p',hp,h=>by
    have h0:=nx_le hp
    unfold rd at h
    split at h
    · rename_i hc
      have hlt:nx T p<T.length:=atT_lt (by lia)
      cases h
      show p<nx T p+1∧nx T p+1≤T.length
      lia
    · split at h
      · rename_i hc
        have hlt:nx T p<T.length:=atT_lt (by lia)
        split at h
        · cases h
        · cases e1:rd T f .sum (d+1) (nx T p+1) with
          | error e=>rw[e1] at h;cases h
          | ok r =>
            obtain⟨S1,p1⟩:=r
            rw[e1] at h
            have a1:nx T p+1<p1∧p1≤T.length:=rd_le T f .sum _ _ S1 p1 hlt e1
            have h1:=nx_le a1.2
            dsimp only at h
            split at h
            · rename_i hc2
              have hlt2:nx T p1<T.length:=atT_lt (by lia)
              cases h
              show p<nx T p1+1∧nx T p1+1≤T.length
              lia
            · cases h
      · split at h
        · rename_i hc
          have hlt:nx T p<T.length:=atT_lt (by lia)
          split at h
          · cases h
          · cases e1:rd T f .atom (d+1) (nx T p+1) with
            | error e=>rw[e1] at h;cases h
            | ok r =>
              obtain⟨S1,p1⟩:=r
              rw[e1] at h
              cases h
              have a1:nx T p+1<p'∧p'≤T.length:=rd_le T f .atom _ _ S1 p' hlt e1
              show p<p'∧p'≤T.length
              lia
        · cases e1:rdg T 9 p with
          | error e=>rw[e1] at h;cases h
          | ok r =>
            rw[e1] at h
            cases h
            exact rdg_le hp (by decide) e1
end Rr

end
section
set_option linter.all false
namespace Rr
open Root
theorem rd_len (T:List Int):∀ (f:Nat) (P:Pt) (d p:Nat) (S:List Stp) (p':Nat),p≤T.length→rd T f P d p=.ok (S,p')→S.length+p≤p'
  | 0,P,d,p,S,p',_,h=>by
    unfold rd at h
    cases h
  | f+1,.sum,d,p,S,p',hp,h=>by
    unfold rd at h
    cases e1:rd T f .prod d p with
    | error e=>rw[e1] at h;cases h
    | ok r =>
      obtain⟨S1,p1⟩:=r
      rw[e1] at h
      have a1:p<p1∧p1≤T.length:=rd_le T f .prod d p S1 p1 hp e1
      have a1l:=rd_len T f .prod d p S1 p1 hp e1
      dsimp only at h
      cases e2:rd T f .sums d p1 with
      | error e=>rw[e2] at h;cases h
      | ok r2 =>
        obtain⟨S2,p2⟩:=r2
        rw[e2] at h
        cases h
        have a2:p1≤p'∧p'≤T.length:=rd_le T f .sums d p1 S2 p' a1.2 e2
        have a2l:=rd_len T f .sums d p1 S2 p' a1.2 e2
        (try simp only[List.length_append,List.length_cons,List.length_nil])
        lia
  | f+1,.prod,d,p,S,p',hp,h=>by
    unfold rd at h
    cases e1:rd T f .power d p with
    | error e=>rw[e1] at h;cases h
    | ok r =>
      obtain⟨S1,p1⟩:=r
      rw[e1] at h
      have a1:p<p1∧p1≤T.length:=rd_le T f .power d p S1 p1 hp e1
      have a1l:=rd_len T f .power d p S1 p1 hp e1
      dsimp only at h
      cases e2:rd T f .prods d p1 with
      | error e=>rw[e2] at h;cases h
      | ok r2 =>
        obtain⟨S2,p2⟩:=r2
        rw[e2] at h
        cases h
        have a2:p1≤p'∧p'≤T.length:=rd_le T f .prods d p1 S2 p' a1.2 e2
        have a2l:=rd_len T f .prods d p1 S2 p' a1.2 e2
        (try simp only[List.length_append,List.length_cons,List.length_nil])
        lia
  | f+1,.sums,d,p,S,p',hp,h=>by
    have h0:=nx_le hp
    unfold rd at h
    split at h
    · rename_i hc
      have hlt:nx T p<T.length:=atT_lt (by lia)
      cases e1:rd T f .prod d (nx T p+1) with
      | error e=>rw[e1] at h;cases h
      | ok r =>
        obtain⟨S1,p1⟩:=r
        rw[e1] at h
        have a1:nx T p+1<p1∧p1≤T.length:=rd_le T f .prod d _ S1 p1 hlt e1
        have a1l:=rd_len T f .prod d _ S1 p1 hlt e1
        dsimp only at h
        cases e2:rd T f .sums d p1 with
        | error e=>rw[e2] at h;cases h
        | ok r2 =>
          obtain⟨S2,p2⟩:=r2
          rw[e2] at h
          cases h
          have a2:p1≤p'∧p'≤T.length:=rd_le T f .sums d p1 S2 p' a1.2 e2
          have a2l:=rd_len T f .sums d p1 S2 p' a1.2 e2
          (try simp only[List.length_append,List.length_cons,List.length_nil])
          lia
    · cases h
      simp only[List.length_nil];lia
  | f+1,.prods,d,p,S,p',hp,h=>by
    have h0:=nx_le hp
    unfold rd at h
    split at h
    · rename_i hc
      have hlt:nx T p<T.length:=atT_lt (by lia)
      cases e1:rd T f .power d (nx T p+1) with
      | error e=>rw[e1] at h;cases h
      | ok r =>
        obtain⟨S1,p1⟩:=r
        rw[e1] at h
        have a1:nx T p+1<p1∧p1≤T.length:=rd_le T f .power d _ S1 p1 hlt e1
        have a1l:=rd_len T f .power d _ S1 p1 hlt e1
        dsimp only at h
        cases e2:rd T f .prods d p1 with
        | error e=>rw[e2] at h;cases h
        | ok r2 =>
          obtain⟨S2,p2⟩:=r2
          rw[e2] at h
          cases h
          have a2:p1≤p'∧p'≤T.length:=rd_le T f .prods d p1 S2 p' a1.2 e2
          have a2l:=rd_len T f .prods d p1 S2 p' a1.2 e2
          (try simp only[List.length_append,List.length_cons,List.length_nil])
          lia
    · cases h
      simp only[List.length_nil];lia
  | f+1,.power,d,p,S,p',hp,h=>by
    unfold rd at h
    cases e1:rd T f .atom d p with
    | error e=>rw[e1] at h;cases h
    | ok r =>
      obtain⟨S1,p1⟩:=r
      rw[e1] at h
      have a1:p<p1∧p1≤T.length:=rd_le T f .atom d p S1 p1 hp e1
      have a1l:=rd_len T f .atom d p S1 p1 hp e1
      have h0:=nx_le a1.2
      dsimp only at h
      split at h
      · rename_i hc
        have hlt:nx T p1<T.length:=atT_lt (by lia)
        cases e2:rdg T 2 (nx T p1+1) with
        | error e=>rw[e2] at h;cases h
        | ok r2 =>
          rw[e2] at h
          cases h
          have:=rdg_le (by lia) (by decide) e2
          (try simp only[List.length_append,List.length_cons,List.length_nil])
          lia
      · cases h
        (try simp only[List.length_append,List.length_cons,List.length_nil])
        lia
  | f+1,.atom,d,p,S,p',hp,h=>by
    have h0:=nx_le hp
    unfold rd at h
    split at h
    · rename_i hc
      have hlt:nx T p<T.length:=atT_lt (by lia)
      cases h
      (try simp only[List.length_append,List.length_cons,List.length_nil])
      lia
    · split at h
      · rename_i hc
        have hlt:nx T p<T.length:=atT_lt (by lia)
        split at h
        · cases h
        · cases e1:rd T f .sum (d+1) (nx T p+1) with
          | error e=>rw[e1] at h;cases h
          | ok r =>
            obtain⟨S1,p1⟩:=r
            rw[e1] at h
            have a1:nx T p+1<p1∧p1≤T.length:=rd_le T f .sum _ _ S1 p1 hlt e1
            have a1l:=rd_len T f .sum _ _ S1 p1 hlt e1
            have h1:=nx_le a1.2
            dsimp only at h
            split at h
            · rename_i hc2
              have hlt2:nx T p1<T.length:=atT_lt (by lia)
              cases h
              (try simp only[List.length_append,List.length_cons,List.length_nil])
              lia
            · cases h
      · split at h
        · rename_i hc
          have hlt:nx T p<T.length:=atT_lt (by lia)
          split at h
          · cases h
          · cases e1:rd T f .atom (d+1) (nx T p+1) with
            | error e=>rw[e1] at h;cases h
            | ok r =>
              obtain⟨S1,p1⟩:=r
              rw[e1] at h
              cases h
              have a1:nx T p+1<p'∧p'≤T.length:=rd_le T f .atom _ _ S1 p' hlt e1
              have a1l:=rd_len T f .atom _ _ S1 p' hlt e1
              (try simp only[List.length_append,List.length_cons,List.length_nil])
              lia
        · cases e1:rdg T 9 p with
          | error e=>rw[e1] at h;cases h
          | ok r =>
            rw[e1] at h
            cases h
            have:=rdg_le hp (by decide) e1
            simp only[List.length_cons,List.length_nil];lia
end Rr

end
section
set_option linter.all false
namespace Rr
open Root
def wn:List Int→Nat
  | []=>0
  | a::r=>a.natAbs+1001*wn r
theorem wn_append:∀ l m:List Int,wn (l++m)=wn l+1001^l.length*wn m
  | [],m=>by
    show wn m=0+1*wn m
    lia
  | a::l,m=>by
    show a.natAbs+1001*wn (l++m)=a.natAbs+1001*wn l+1001^(l.length+1)*wn m
    rw[wn_append l m,Nat.pow_succ,Nat.mul_add,Nat.mul_comm (1001^l.length) 1001,Nat.mul_assoc,Nat.add_assoc]
theorem wn_mem:∀ {l:List Int}{z:Int},z∈l→z.natAbs≤wn l
  | a::l,z,h=>by
    show z.natAbs≤a.natAbs+1001*wn l
    rcases List.mem_cons.mp h with rfl | h
    · lia
    · have:=wn_mem h
      lia
theorem wn_zeros:∀ n:Nat,wn (List.replicate n 0)=0
  | 0=>rfl
  | n+1=>by
    rw[List.replicate_succ]
    show (0:Int).natAbs+1001*wn (List.replicate n 0)=0
    rw[wn_zeros n]
    rfl
theorem wn_add:∀ u w:List Int,wn (List.zipWith (fun (u w:Int)=>u+w) u w)≤wn u+wn w
  | [],_=>Nat.zero_le _
  | _::_,[]=>Nat.zero_le _
  | a::u,b::w=>by
    show (a+b).natAbs+1001*wn (List.zipWith (fun (u w:Int)=>u+w) u w)≤(a.natAbs+1001*wn u)+(b.natAbs+1001*wn w)
    have:=wn_add u w
    have:=Int.natAbs_add_le a b
    lia
theorem wn_smul (t:Int):∀ u:List Int,wn (u.map fun (z:Int)=>t*z)=t.natAbs*wn u
  | []=>rfl
  | a::u=>by
    show (t*a).natAbs+1001*wn (u.map fun (z:Int)=>t*z)=t.natAbs*(a.natAbs+1001*wn u)
    rw[wn_smul t u,Int.natAbs_mul,Nat.mul_add,Nat.mul_left_comm]
theorem wn_sub (h:Int):∀ u w:List Int,wn (List.zipWith (fun (u w:Int)=>u-h*w) u w)≤wn u+h.natAbs*wn w
  | [],_=>Nat.zero_le _
  | _::_,[]=>Nat.zero_le _
  | a::u,b::w=>by
    show (a-h*b).natAbs+1001*wn (List.zipWith (fun (u w:Int)=>u-h*w) u w)≤(a.natAbs+1001*wn u)+h.natAbs*(b.natAbs+1001*wn w)
    have h1:=wn_sub h u w
    have h2:(a-h*b).natAbs≤a.natAbs+h.natAbs*b.natAbs:=by
      rw[←Int.natAbs_mul]
      lia
    rw[Nat.mul_add,Nat.mul_left_comm]
    lia
theorem wn_field:∀ c:List Int,(∀ z∈c,z.natAbs≤1000)→wn c+1≤1001^c.length
  | [],_=>Nat.le_refl _
  | a::c,h=>by
    have h1:=wn_field c fun z hz=>h z (List.mem_cons.mpr (.inr hz))
    have h2:=h a (List.mem_cons.mpr (.inl rfl))
    show a.natAbs+1001*wn c+1≤1001^(c.length+1)
    rw[Nat.pow_succ]
    lia
theorem wn_xI {c v:List Int} (hc:∀ z∈c,z.natAbs≤1000) (h1:1≤c.length) (hl:v.length=c.length):wn (xI c v)≤1001*wn v:=by
  have hv:v≠[]:=by
    rintro rfl
    rw[List.length_nil] at hl
    lia
  obtain⟨n,h,rfl⟩:∃ n h,v=n++[h]:=⟨v.dropLast,v.getLast hv,(List.dropLast_concat_getLast hv).symm⟩
  rw[xI_snoc]
  refine Nat.le_trans (wn_sub h _ _) ?_
  have h2:=wn_field c hc
  rw[List.length_append,List.length_cons,List.length_nil] at hl
  rw[wn_append]
  show (0:Int).natAbs+1001*wn n+h.natAbs*wn c≤1001*(wn n+1001^n.length*(h.natAbs+1001*0))
  have h3:h.natAbs*wn c≤h.natAbs*1001^c.length:=Nat.mul_le_mul_left _ (by lia)
  have h4:1001^c.length=1001^n.length*1001:=by rw[←hl,Nat.pow_succ]
  rw[h4] at h3
  have h5:1001*(1001^n.length*(h.natAbs+1001*0))=h.natAbs*(1001^n.length*1001):=by
    rw[Nat.mul_zero,Nat.add_zero,Nat.mul_comm (1001^n.length) h.natAbs,Nat.mul_left_comm,Nat.mul_comm 1001 (1001^n.length)]
  rw[Nat.mul_add,h5]
  have h6:(0:Int).natAbs=0:=rfl
  lia
theorem wn_mulI {c:List Int} (hc:∀ z∈c,z.natAbs≤1000) (h1:1≤c.length):∀ (B A:List Int),A.length=c.length→wn (mulI c A B)≤wn A*wn B
  | [],A,_=>by
    rw[mulI_nil,wn_zeros]
    exact Nat.zero_le _
  | b::B,A,hA=>by
    rw[mulI_cons]
    refine Nat.le_trans (wn_add _ _) ?_
    rw[wn_smul]
    have h2:=wn_mulI hc h1 B (xI c A) (xI_length hA h1)
    have h3:=Nat.mul_le_mul_right (wn B) (wn_xI hc h1 hA)
    show b.natAbs*wn A+wn (mulI c (xI c A) B)≤wn A*(b.natAbs+1001*wn B)
    rw[Nat.mul_add,Nat.mul_comm (wn A) b.natAbs,Nat.mul_left_comm]
    rw[Nat.mul_assoc] at h3
    lia
theorem wn_at:∀ (v:List Int) (k:Nat),(v.getD k 0).natAbs*1001^k≤wn v
  | [],k=>by simp[wn]
  | a::v,0=>by
    show a.natAbs*1≤a.natAbs+1001*wn v
    lia
  | a::v,k+1=>by
    have:=wn_at v k
    show (v.getD k 0).natAbs*1001^(k+1)≤a.natAbs+1001*wn v
    rw[Nat.pow_succ,←Nat.mul_assoc]
    lia
theorem wn_colI {c v:List Int} (hc:∀ z∈c,z.natAbs≤1000) (h1:1≤c.length) (hl:v.length=c.length):∀ j:Nat,wn (colI c v j)≤1001^j*wn v
  | 0=>by
    show wn v≤1*wn v
    lia
  | j+1=>by
    show wn (xI c (colI c v j))≤_
    refine Nat.le_trans (wn_xI hc h1 (colI_length h1 hl j)) ?_
    have:=Nat.mul_le_mul_left 1001 (wn_colI hc h1 hl j)
    rw[Nat.pow_succ,Nat.mul_comm (1001^j) 1001,Nat.mul_assoc]
    exact this
theorem wn_trN {c v:List Int} (hc:∀ z∈c,z.natAbs≤1000) (h1:1≤c.length) (hl:v.length=c.length):∀ n:Nat,(trN c v n).natAbs≤n*wn v
  | 0=>by simp[trN]
  | n+1=>by
    have h2:=wn_trN hc h1 hl n
    have h3:=wn_at (colI c v n) n
    have h4:=wn_colI hc h1 hl n
    have h5:((colI c v n).getD n 0).natAbs≤wn v:=by
      have h6:1001^n*((colI c v n).getD n 0).natAbs≤1001^n*wn v:=by
        rw[Nat.mul_comm]
        lia
      exact Nat.le_of_mul_le_mul_left h6 (Nat.pow_pos (by decide))
    show (trN c v n+(colI c v n).getD n 0).natAbs≤_
    have:=Int.natAbs_add_le (trN c v n) ((colI c v n).getD n 0)
    rw[Nat.succ_mul]
    lia
theorem wn_less (v:List Int) (s:Int):wn (lessI v s)≤wn v+s.natAbs:=by
  unfold lessI
  cases v with
  | nil =>
    show ((0:Int)-s).natAbs+1001*0≤0+s.natAbs
    lia
  | cons a t =>
    show (a-s).natAbs+1001*wn t≤a.natAbs+1001*wn t+s.natAbs
    lia
theorem wn_flI {c A:List Int} (hc:∀ z∈c,z.natAbs≤1000) (h1:1≤c.length) (h4:c.length≤4) (hl:A.length=c.length):∀ n:Nat,wn (flI c A n)≤5^n*wn A^n
  | 0=>by
    unfold flI
    show (1:Int).natAbs+1001*wn (List.replicate (c.length-1) 0)≤1*1
    rw[wn_zeros]
    decide
  | n+1=>by
    have ih:=wn_flI hc h1 h4 hl n
    unfold flI
    have hB:(mulI c A (flI c A n)).length=c.length:=mulI_length h1 _ _ hl
    have e1:=wn_mulI hc h1 (flI c A n) A hl
    generalize mulI c A (flI c A n)=B at *
    refine Nat.le_trans (wn_less _ _) ?_
    have e2:(trI c B / ((n:Int)+1)).natAbs≤4*wn B:=by
      refine Nat.le_trans (Int.natAbs_ediv_le_natAbs _ _) ?_
      unfold trI
      exact Nat.le_trans (wn_trN hc h1 hB _) (Nat.mul_le_mul_right _ h4)
    have e3:wn A*wn (flI c A n)≤wn A*(5^n*wn A^n):=Nat.mul_le_mul_left _ ih
    have e4:5^(n+1)*wn A^(n+1)=5*(wn A*(5^n*wn A^n)):=by
      rw[Nat.pow_succ,Nat.pow_succ,Nat.mul_comm (5^n) 5,Nat.mul_assoc,Nat.mul_comm (wn A^n) (wn A),Nat.mul_left_comm (5^n)]
    rw[e4]
    generalize wn A*(5^n*wn A^n)=M at *
    lia
end Rr

end
section
set_option linter.all false
set_option maxHeartbeats 1000000
namespace Rr
open Root
def Pl (u:Rat→Rat):Prop:=∃ L:List Rat,∀ x,u x=polyAt L x
theorem Pl.at (L:List Rat):Pl (polyAt L):=⟨L,fun _=>rfl⟩
theorem Pl.pI (A:List Int):Pl (pI A):=⟨rI A,fun _=>rfl⟩
theorem Pl.mul {u v:Rat→Rat} (h:Pl u) (k:Pl v):Pl (fun x=>u x*v x):=let ⟨L,e⟩:=h;let ⟨M,f⟩:=k;⟨mulP L M,fun x=>by rw[mulP_at,←e,←f]⟩
theorem Cg.mulF {c:List Int}{u v w:Rat→Rat} (h:Cg c u v) (k:Pl w):Cg c (fun x=>u x*w x) (fun x=>v x*w x):=by
  obtain⟨L,e⟩:=k
  refine (Cg.of_eq fun x=>by rw[e x]).trans ((h.mul L).trans (Cg.of_eq fun x=>by rw[e x]))
theorem Cg.mul2 {c:List Int}{u v u' v':Rat→Rat} (h:Cg c u v) (h':Cg c u' v') (p:Pl u') (q:Pl v):Cg c (fun x=>u x*u' x) (fun x=>v x*v' x):=by
  refine (h.mulF p).trans ((Cg.of_eq fun x=>?_).trans ((h'.mulF q).trans (Cg.of_eq fun x=>?_)))
  · show v x*u' x=u' x*v x
    grind
  · grind
structure Meas (c:List Int) (v:Num) (q:Nat):Prop where
  len:v.length=c.length
  ex:∃ P Q:List Int,P.length=c.length∧Q.length=c.length∧wn P≤2^q∧wn Q≤2^q∧(∃ z∈Q,z≠0)∧Cg c (fun x=>pI Q x*polyAt v x) (pI P)
section
variable {c:List Int}
theorem not_zeros {A:List Int}{n:Nat} (hl:A.length=n) (h:A≠List.replicate n 0):∃ z∈A,z≠0:=by
  false_or_by_contra
  rename_i hn
  apply h
  refine List.eq_replicate_iff.mpr ⟨hl,fun b hb=>?_⟩
  false_or_by_contra
  rename_i hb0
  exact hn ⟨b,hb,hb0⟩
theorem mulI_nz (hc:refusal c=0) {A B:List Int} (hA:A.length=c.length) (hB:B.length=c.length) (ha:∃ z∈A,z≠0) (hb:∃ z∈B,z≠0):∃ z∈mulI c A B,z≠0:=by
  obtain⟨f1,f2,f3⟩:=ok_field hc
  refine not_zeros (mulI_length f1 B A hA) fun e=>?_
  have:=mulI_zero hc f1 hA hB ha e
  obtain⟨z,hz,hz0⟩:=hb
  rw[this] at hz
  exact hz0 (List.eq_of_mem_replicate hz)
theorem Meas.mono {v:Num}{q q':Nat} (h:Meas c v q) (e:q≤q'):Meas c v q':=by
  obtain⟨P,Q,h1,h2,h3,h4,h5,h6⟩:=h.ex
  have:=Nat.pow_le_pow_right (show 0<2 by decide) e
  exact⟨h.len,P,Q,h1,h2,by lia,by lia,h5,h6⟩
theorem Meas.mul (hc:refusal c=0) {v w:Num}{a b:Nat} (h:Meas c v a) (k:Meas c w b):Meas c (Root.times c v w) (a+b):=by
  obtain⟨f1,f2,f3⟩:=ok_field hc
  obtain⟨P,Q,p1,p2,p3,p4,p5,p6⟩:=h.ex
  obtain⟨P',Q',q1,q2,q3,q4,q5,q6⟩:=k.ex
  refine⟨times_length f1 h.len k.len,mulI c P P',mulI c Q Q',mulI_length f1 _ _ p1,mulI_length f1 _ _ p2,?_,?_,mulI_nz hc p2 q2 p5 q5,?_⟩
  · rw[Nat.pow_add]
    exact Nat.le_trans (wn_mulI f3 f1 _ _ p1) (Nat.mul_le_mul p3 q3)
  · rw[Nat.pow_add]
    exact Nat.le_trans (wn_mulI f3 f1 _ _ p2) (Nat.mul_le_mul p4 q4)
  · have e1:=Cg.mul2 (mulI_cg f1 Q' Q p2).symm (times_cg f1 h.len k.len) (Pl.at _) ((Pl.pI Q).mul (Pl.pI Q'))
    have e2:=Cg.mul2 p6 q6 ((Pl.pI Q').mul (Pl.at w)) (Pl.pI P)
    refine e1.trans ((Cg.of_eq fun x=>?_).trans (e2.trans (mulI_cg f1 P' P p1)))
    grind
theorem Meas.add (hc:refusal c=0) {v w:Num}{a b:Nat} (h:Meas c v a) (k:Meas c w b):Meas c (Root.plus v w) (a+b+1):=by
  obtain⟨f1,f2,f3⟩:=ok_field hc
  obtain⟨P,Q,p1,p2,p3,p4,p5,p6⟩:=h.ex
  obtain⟨P',Q',q1,q2,q3,q4,q5,q6⟩:=k.ex
  have l1:(mulI c P Q').length=c.length:=mulI_length f1 _ _ p1
  have l2:(mulI c P' Q).length=c.length:=mulI_length f1 _ _ q1
  refine⟨by rw[plus_length,h.len,k.len];lia,List.zipWith (fun (u w:Int)=>u+w) (mulI c P Q') (mulI c P' Q),mulI c Q Q',by rw[List.length_zipWith];lia,mulI_length f1 _ _ p2,?_,?_,mulI_nz hc p2 q2 p5 q5,?_⟩
  · refine Nat.le_trans (wn_add _ _) ?_
    have e1:=Nat.le_trans (wn_mulI f3 f1 Q' P p1) (Nat.mul_le_mul p3 q4)
    have e2:=Nat.le_trans (wn_mulI f3 f1 Q P' q1) (Nat.mul_le_mul q3 p4)
    rw[Nat.pow_succ,Nat.pow_add]
    rw[Nat.mul_comm (2^b) (2^a)] at e2
    lia
  · refine Nat.le_trans (Nat.le_trans (wn_mulI f3 f1 _ _ p2) (Nat.mul_le_mul p4 q4)) ?_
    rw[Nat.pow_succ,Nat.pow_add]
    lia
  · have e0:=(mulI_cg f1 Q' Q p2).symm.mulF (Pl.at (Root.plus v w))
    have e1:=p6.mulF (Pl.pI Q')
    have e2:=q6.mulF (Pl.pI Q)
    have e3:=(e1.add e2).trans ((mulI_cg f1 Q' P p1).add (mulI_cg f1 Q P' q1))
    refine e0.trans ((Cg.of_eq fun x=>?_).trans (e3.trans (Cg.of_eq fun x=>?_)))
    · rw[plus_at x v w (h.len.trans k.len.symm)]
      grind
    · rw[pI_add x _ _ (l1.trans l2.symm)]
theorem Meas.neg {v:Num}{a:Nat} (h:Meas c v a):Meas c (scaled (-1) v) a:=by
  obtain⟨P,Q,p1,p2,p3,p4,p5,p6⟩:=h.ex
  refine⟨by rw[scaled_length];exact h.len,P.map fun (z:Int)=>(-1)*z,Q,by rw[List.length_map];exact p1,p2,?_,p4,p5,?_⟩
  · rw[wn_smul]
    show 1*wn P≤_
    lia
  · obtain⟨L,hL⟩:=p6
    refine⟨mulC (-1) L,fun x=>?_⟩
    have:=hL x
    dsimp only at this ⊢
    rw[scaled_at,pI_smul,mulC_at]
    generalize polyAt (polyOf c) x=F at *
    rw[Rat.intCast_neg,Rat.intCast_one]
    grind
theorem Meas.one (hc:refusal c=0):Meas c (oneIn c.length) 0:=by
  obtain⟨f1,f2,f3⟩:=ok_field hc
  have hl:(1::List.replicate (c.length-1) (0:Int)).length=c.length:=by rw[List.length_cons,List.length_replicate];lia
  have hw:wn (1::List.replicate (c.length-1) (0:Int))≤2^0:=by
    show (1:Int).natAbs+1001*wn (List.replicate (c.length-1) 0)≤1
    rw[wn_zeros]
    decide
  refine⟨oneIn_length _,_,_,hl,hl,hw,hw,⟨1,List.mem_cons_self,by decide⟩,Cg.of_eq fun x=>?_⟩
  rw[oneIn_at f1]
  grind
theorem Meas.pow (hc:refusal c=0) {v:Num}{a:Nat} (h:Meas c v a):∀ k:Nat,Meas c (Root.power c v k) (k*a)
  | 0=>by
    rw[Nat.zero_mul]
    exact Meas.one hc
  | k+1=>by
    rw[Nat.succ_mul]
    exact (Meas.pow hc h k).mul hc h
theorem Meas.num (hc:refusal c=0) {n q:Nat} (h:n≤2^q):Meas c (scaled (n:Rat) (oneIn c.length)) q:=by
  obtain⟨f1,f2,f3⟩:=ok_field hc
  have hl:∀ z:Int,(z::List.replicate (c.length-1) (0:Int)).length=c.length:=fun z=>by rw[List.length_cons,List.length_replicate];lia
  have hw:∀ z:Int,wn (z::List.replicate (c.length-1) (0:Int))=z.natAbs:=fun z=>by
    show z.natAbs+1001*wn (List.replicate (c.length-1) 0)=_
    rw[wn_zeros]
    rfl
  refine⟨by rw[scaled_length];exact oneIn_length _,(n:Int)::List.replicate (c.length-1) 0,1::List.replicate (c.length-1) 0,hl _,hl _,?_,?_,⟨1,List.mem_cons_self,by decide⟩,Cg.of_eq fun x=>?_⟩
  · rw[hw,Int.natAbs_natCast]
    exact h
  · rw[hw]
    exact Nat.two_pow_pos q
  · rw[scaled_at,oneIn_at f1,pI_cons,pI_cons,pI_zeros]
    rw[Rat.intCast_one,Rat.intCast_natCast]
    grind
theorem Meas.x (hc:refusal c=0):Meas c (timesX c (oneIn c.length)) 10:=by
  obtain⟨f1,f2,f3⟩:=ok_field hc
  have hl:(1::List.replicate (c.length-1) (0:Int)).length=c.length:=by rw[List.length_cons,List.length_replicate];lia
  have hw:wn (1::List.replicate (c.length-1) (0:Int))=1:=by
    show (1:Int).natAbs+1001*wn (List.replicate (c.length-1) 0)=_
    rw[wn_zeros]
    rfl
  refine⟨timesX_length _ _,xI c (1::List.replicate (c.length-1) 0),1::List.replicate (c.length-1) 0,xI_length hl f1,hl,?_,?_,⟨1,List.mem_cons_self,by decide⟩,?_⟩
  · have:=wn_xI f3 f1 hl
    rw[hw] at this
    exact Nat.le_trans this (by decide)
  · rw[hw]
    exact Nat.two_pow_pos _
  · have e1:∀ x,pI (1::List.replicate (c.length-1) 0) x=1:=fun x=>by
      rw[pI_cons,pI_zeros,Rat.intCast_one]
      grind
    refine Cg.trans ?_ (xI_cg hl f1)
    refine⟨[-(oneIn c.length).getLastD 0],fun x=>?_⟩
    dsimp only
    rw[e1,timesX_at f1 (oneIn_length _),oneIn_at f1]
    have:polyAt [-(oneIn c.length).getLastD 0] x=-(oneIn c.length).getLastD 0:=by
      rw[polyAt_cons,polyAt_nil]
      grind
    rw[this]
    grind
end
end Rr

end
section
set_option linter.all false
set_option maxHeartbeats 1000000
namespace Rr
open Root
theorem Meas.inv {c:List Int} (hc:refusal c=0) {w:Num}{b:Nat} (k:Meas c w b) (hw:isZero w=false):Meas c (inverse c w) b:=by
  obtain⟨f1,f2,f3⟩:=ok_field hc
  obtain⟨P,Q,p1,p2,p3,p4,p5,p6⟩:=k.ex
  obtain⟨il,_⟩:=inverse_ok hc k.len hw
  have ic:=inverse_cg hc k.len hw
  have hP:∃ z∈P,z≠0:=by
    refine not_zeros p1 fun e=>?_
    have e1:(rI Q).length=c.length:=by unfold rI;rw[List.length_map];exact p2
    have h0:w=zeroIn c.length:=by
      refine cancel hc e1 (isZero_rI p5) k.len (zeroIn_length _) (Cg.trans (v:=pI P) p6 (Cg.of_eq fun x=>?_))
      rw[e,pI_zeros,zeroIn_at]
      grind
    have h1:isZero w=true:=isZero_of.mpr fun x=>by rw[h0];exact zeroIn_at _ x
    rw[hw] at h1
    cases h1
  refine⟨il,Q,P,p2,p1,p4,p3,hP,?_⟩
  have e1:=p6.symm.mulF (Pl.at (inverse c w))
  have e2:=ic.mulF (Pl.pI Q)
  refine e1.trans ((Cg.of_eq fun x=>?_).trans (e2.trans (Cg.of_eq fun x=>?_)))
  · grind
  · grind
theorem Meas.div {c:List Int} (hc:refusal c=0) {v w:Num}{a b:Nat} (h:Meas c v a) (k:Meas c w b) (hw:isZero w=false):Meas c (Root.over c v w) (a+b):=h.mul hc (k.inv hc hw)
theorem wn_div (g:Int):∀ l:List Int,wn (l.map fun (z:Int)=>z / g)≤wn l
  | []=>Nat.le_refl _
  | a::l=>by
    show (a / g).natAbs+1001*wn (l.map fun (z:Int)=>z / g)≤a.natAbs+1001*wn l
    have h1:=wn_div g l
    have h2:=Int.natAbs_ediv_le_natAbs a g
    lia
theorem Meas.less {c A:List Int}{p:Int}{q:Nat} (hc:refusal c=0) (hp:0<p) (hA:A.length=c.length) (h:Meas c (dv p A) q) :
    ∃ (B:List Int) (r:Int),lessRow (A++[p])=B++[r]∧B.length=c.length∧0<r∧dv r B=dv p A∧wn B≤2^(4*q+7)∧r.natAbs≤2^(4*q+7):=by
  obtain⟨f1,f2,f3⟩:=ok_field hc
  obtain⟨P,Q,p1,p2,p3,p4,p5,p6⟩:=h.ex
  obtain⟨D,d1,d2,d3⟩:=fl_whole hc f1 f2 p2 p5
  have hF:=flI_length f1 p2 (c.length-1)
  have hwF:=wn_flI f3 f1 f2 p2 (c.length-1)
  generalize flI c Q (c.length-1)=F at *
  have hQ1:1≤wn Q:=by
    obtain⟨z,hz,hz0⟩:=p5
    have:=wn_mem hz
    lia
  have hwF':wn F≤125*(2^q*2^q*2^q):=by
    refine Nat.le_trans hwF (Nat.mul_le_mul ?_ ?_)
    · exact Nat.le_trans (Nat.pow_le_pow_right (by decide) (show c.length-1≤3 by lia)) (by decide)
    · refine Nat.le_trans (Nat.pow_le_pow_right hQ1 (show c.length-1≤3 by lia)) ?_
      rw[Nat.pow_succ,Nat.pow_succ,Nat.pow_one]
      exact Nat.mul_le_mul (Nat.mul_le_mul p4 p4) p4
  have h128:2^q*(125*(2^q*2^q*2^q))≤2^(4*q+7):=by
    have e:2^(4*q+7)=128*(2^q*(2^q*2^q*2^q)):=by
      rw[Nat.pow_add,show 4*q=q+(q+q+q) by lia,Nat.pow_add,Nat.pow_add,Nat.pow_add]
      rw[Nat.mul_comm]
    rw[e,Nat.mul_left_comm]
    exact Nat.mul_le_mul_right _ (by decide)
  have hGw:wn (mulI c P F)≤2^(4*q+7):=Nat.le_trans (Nat.le_trans (wn_mulI f3 f1 F P p1) (Nat.mul_le_mul p3 hwF')) h128
  have hDw:D.natAbs≤2^(4*q+7):=by
    have e1:=wn_mulI f3 f1 F Q p2
    rw[d2] at e1
    have e2:D.natAbs≤wn (D::List.replicate (c.length-1) 0):=wn_mem List.mem_cons_self
    exact Nat.le_trans e2 (Nat.le_trans e1 (Nat.le_trans (Nat.mul_le_mul p4 hwF') h128))
  have hGl:(mulI c P F).length=c.length:=mulI_length f1 _ _ p1
  have key:Cg c (fun x=>(D:Rat)*polyAt (dv p A) x) (pI (mulI c P F)):=by
    have e1:=d3.symm.mulF (Pl.at (dv p A))
    have e2:=p6.mulF (Pl.pI F)
    refine e1.trans ((Cg.of_eq fun x=>?_).trans (e2.trans (mulI_cg f1 F P p1)))
    grind
  generalize mulI c P F=G at *
  have hs:∃ (G':List Int) (D':Int),0<D'∧G'.length=c.length∧wn G'≤2^(4*q+7)∧D'.natAbs≤2^(4*q+7)∧Cg c (fun x=>(D':Rat)*polyAt (dv p A) x) (pI G'):=by
    by_cases hD:0<D
    · exact⟨G,D,hD,hGl,hGw,hDw,key⟩
    · refine⟨G.map fun (z:Int)=>(-1)*z,-D,by lia,by rw[List.length_map];exact hGl,by rw[wn_smul];show 1*wn G≤_;lia,by lia,?_⟩
      obtain⟨L,hL⟩:=key
      refine⟨mulC (-1) L,fun x=>?_⟩
      have:=hL x
      dsimp only at this ⊢
      rw[pI_smul,mulC_at]
      rw[Rat.intCast_neg,Rat.intCast_neg,Rat.intCast_one]
      generalize polyAt (polyOf c) x=F at *
      grind
  obtain⟨G',D',hD',hG',w1,w2,k⟩:=hs
  have heq:dv p A=dv D' G':=by
    refine Cg.unique (c:=c) (by rw[dv_length];exact hA) (by rw[dv_length];exact hG') ?_
    obtain⟨L,hL⟩:=k
    refine⟨mulC (1 / (D':Rat)) L,fun x=>?_⟩
    have e:=hL x
    dsimp only at e
    rw[dv_at hD' G',mulC_at]
    have ne:(D':Rat)≠0:=fun z=>by have:=Rat.intCast_eq_zero_iff.mp z;lia
    have e1:=Rat.div_mul_cancel (a:=1) ne
    have e2:polyAt (rI G') x=pI G' x:=rfl
    rw[e2]
    generalize 1 / (D':Rat)=u at *
    generalize polyAt (dv p A) x=a at *
    generalize pI G' x=b at *
    generalize polyAt (polyOf c) x=F at *
    have e3:u*polyAt L x*F=u*(polyAt L x*F):=by grind
    rw[e3,←e]
    have e4:u*((D':Rat)*a-b)=(u*(D':Rat))*a-u*b:=by grind
    rw[e4,e1]
    grind
  obtain⟨B,r,b1,b2,b3,b4⟩:=dv_less (A:=G') hD'
  have hrow:lessRow (A++[p])=lessRow (G'++[D']):=by
    rw[←oneForm_row A hp,←oneForm_row G' hD']
    show oneForm (dv p A)=oneForm (dv D' G')
    rw[heq]
  refine⟨B,r,hrow.trans b1,b2.trans hG',b3,by rw[b4,heq],?_,?_⟩
  · have e:B=G'.map fun (z:Int)=>z / (gcdRow (G'++[D']):Int):=by
      have:B++[r]=(G'.map fun (z:Int)=>z / (gcdRow (G'++[D']):Int))++[D' / (gcdRow (G'++[D']):Int)]:=by
        rw[←b1]
        unfold lessRow
        rw[List.map_append]
        rfl
      exact (List.append_inj' this rfl).1
    rw[e]
    exact Nat.le_trans (wn_div _ _) w1
  · have e:r=D' / (gcdRow (G'++[D']):Int):=by
      have:B++[r]=(G'.map fun (z:Int)=>z / (gcdRow (G'++[D']):Int))++[D' / (gcdRow (G'++[D']):Int)]:=by
        rw[←b1]
        unfold lessRow
        rw[List.map_append]
        rfl
      exact List.singleton_inj.mp (List.append_inj' this rfl).2
    rw[e]
    exact Nat.le_trans (Int.natAbs_ediv_le_natAbs _ _) w2
end Rr

end
section
set_option linter.all false
set_option maxHeartbeats 1000000
namespace Rr
open Root
def valS (c:List Int):List Stp→List Num→Option (List Num)
  | [],π=>some π
  | (.number,n)::S,π=>valS c S (scaled (n.toNat:Rat) (oneIn c.length)::π)
  | (.x,_)::S,π=>valS c S (timesX c (oneIn c.length)::π)
  | (.negate,_)::S,v::π=>valS c S (scaled (-1) v::π)
  | (.raise_,k)::S,v::π=>valS c S (Root.power c v k.toNat::π)
  | (.add,_)::S,w::v::π=>valS c S (Root.plus v w::π)
  | (.subtract,_)::S,w::v::π=>valS c S (Root.minus v w::π)
  | (.multiply,_)::S,w::v::π=>valS c S (Root.times c v w::π)
  | (.divide,_)::S,w::v::π=>if isZero w=true then none else valS c S (Root.over c v w::π)
  | _,_=>none
def nq (n:Nat):Nat:=Nat.log2 n+1
def cst:List Stp→List Nat→Option (List Nat)
  | [],π=>some π
  | (.number,n)::S,π=>cst S (nq n.toNat::π)
  | (.x,_)::S,π=>cst S (10::π)
  | (.negate,_)::S,v::π=>cst S (v::π)
  | (.raise_,k)::S,v::π=>cst S ((max k.toNat 1*v)::π)
  | (.add,_)::S,w::v::π=>cst S ((v+w+3)::π)
  | (.subtract,_)::S,w::v::π=>cst S ((v+w+3)::π)
  | (.multiply,_)::S,w::v::π=>cst S ((v+w+3)::π)
  | (.divide,_)::S,w::v::π=>cst S ((v+w+3)::π)
  | _,_=>none
def Byt (T:List Int):Prop:=∀ z∈T,0≤z∧z<256
theorem byte_nat {z:Int} (h:0≤z∧z<256):(UInt8.ofNat z.toNat).toNat=z.toNat:=by
  rw[UInt8.toNat_ofNat']
  exact Nat.mod_eq_of_lt (by lia)
theorem text_cons (z:Int) (l:List Int):RootNeutral.text (z::l)=UInt8.ofNat z.toNat::RootNeutral.text l:=rfl
theorem text_drop {T:List Int}{p:Nat} (h:p<T.length):RootNeutral.text (T.drop p)=UInt8.ofNat (T.getD p 0).toNat::RootNeutral.text (T.drop (p+1)):=by
  rw[List.drop_eq_getElem_cons h,text_cons,List.getD_eq_getElem?_getD,List.getElem?_eq_getElem h]
  rfl
theorem text_end {T:List Int}{p:Nat} (h:T.length≤p):RootNeutral.text (T.drop p)=[]:=by
  rw[List.drop_eq_nil_of_le h]
  rfl
theorem skip_sk:∀ (l:List Int) (p:Nat),Byt l→skip (RootNeutral.text l) p=(RootNeutral.text (l.drop (sk l p-p)),sk l p)
  | [],p,_=>by
    show ([],p)=(RootNeutral.text (List.drop (p-p) []),p)
    rw[List.drop_nil]
    rfl
  | c::r,p,hb=>by
    have hc:=hb c (List.mem_cons.mpr (.inl rfl))
    have hr:Byt r:=fun z hz=>hb z (List.mem_cons.mpr (.inr hz))
    rw[text_cons]
    unfold skip
    rw[byte_nat hc]
    by_cases h:c=32
    · have e:sk (c::r) p=sk r (p+1):=by
        show (if c=32 then sk r (p+1) else p)=_
        rw[if_pos h]
      have h1:=(sk_le r (p+1)).1
      rw[if_pos (by rw[h];rfl),e,skip_sk r (p+1) hr,show sk r (p+1)-p=(sk r (p+1)-(p+1))+1 from by lia,List.drop_succ_cons]
    · have e:sk (c::r) p=p:=by
        show (if c=32 then sk r (p+1) else p)=_
        rw[if_neg h]
      rw[if_neg (by lia),e,Nat.sub_self,List.drop_zero,text_cons]
theorem Byt.drop {T:List Int} (h:Byt T) (p:Nat):Byt (T.drop p):=fun z hz=>h z (List.mem_of_mem_drop hz)
theorem skip_nx {T:List Int}{p:Nat} (hb:Byt T) (hp:p≤T.length):skip (RootNeutral.text (T.drop p)) p=(RootNeutral.text (T.drop (nx T p)),nx T p):=by
  rw[skip_sk _ _ (hb.drop p),List.drop_drop]
  have:=(nx_le hp).1
  unfold nx at this ⊢
  rw[show p+(sk (T.drop p) p-p)=sk (T.drop p) p from by lia]
theorem ahead_end {T:List Int}{q:Nat} (h:atT T q=256) (hb:Byt T):T.length≤q:=by
  false_or_by_contra
  rename_i hn
  have hlt:q<T.length:=by lia
  have e:atT T q=T[q]:=by
    unfold atT
    rw[List.getD_eq_getElem?_getD,List.getElem?_eq_getElem hlt]
    rfl
  have:=hb T[q] (List.getElem_mem hlt)
  lia
theorem ahead_is {T:List Int}{q:Nat} (hb:Byt T) (h:atT T q≠256):∃ k:UInt8,RootNeutral.text (T.drop q)=k::RootNeutral.text (T.drop (q+1))∧(k.toNat:Int)=atT T q:=by
  have hlt:=atT_lt h
  have e:atT T q=T.getD q 0:=by
    unfold atT
    rw[List.getD_eq_getElem?_getD,List.getD_eq_getElem?_getD,List.getElem?_eq_getElem hlt]
    rfl
  have hm:T.getD q 0∈T:=by
    rw[List.getD_eq_getElem?_getD,List.getElem?_eq_getElem hlt]
    exact List.getElem_mem hlt
  have h0:=hb _ hm
  refine⟨_,text_drop hlt,?_⟩
  rw[byte_nat h0,e]
  lia
theorem isDigit_dig {k:UInt8}{z:Int} (h:(k.toNat:Int)=z):isDigit k=dig z:=by
  unfold isDigit dig
  subst h
  congr 1 <;> (apply decide_eq_decide.mpr;lia)
theorem digitsAt_dg (most:Nat):∀ (l:List Int) (k n p:Nat),Byt l→k≤most→(k=0→n=0)→digitsAt most k n (RootNeutral.text l) p=match dg most k (n:Int) l p with
    | .error e=>.error e
    | .ok (n',p')=>.ok (n'.toNat,RootNeutral.text (l.drop (p'-p)),p')
  | [],k,n,p,_,_,h0=>by
    show digitsAt most k n [] p=_
    unfold digitsAt dg
    dsimp only
    rw[Int.toNat_natCast,List.drop_nil]
    by_cases hk:k=0
    · rw[if_pos hk,h0 hk]
      rfl
    · rw[if_neg hk]
      rfl
  | c::r,k,n,p,hb,hk,h0=>by
    have hc:=hb c (List.mem_cons.mpr (.inl rfl))
    have hr:Byt r:=fun z hz=>hb z (List.mem_cons.mpr (.inr hz))
    rw[text_cons]
    unfold digitsAt dg
    have hd:isDigit (UInt8.ofNat c.toNat)=dig c:=isDigit_dig (by rw[byte_nat hc];lia)
    rw[hd]
    by_cases h1:dig c=true
    · rw[h1,if_neg (by decide),if_pos rfl]
      by_cases h2:k=most
      · rw[if_pos (by lia),if_pos h2]
      · have hc48:48≤c:=by
          unfold dig at h1
          simp at h1
          lia
        rw[if_neg (by lia),if_neg h2,byte_nat hc,digitsAt_dg most r (k+1) (10*n+(c.toNat-48)) (p+1) hr (by lia) (fun z=>by lia)]
        have e:(((10*n+(c.toNat-48):Nat)):Int)=(n:Int)*10+c-48:=by lia
        rw[e]
        cases e3:dg most (k+1) ((n:Int)*10+c-48) r (p+1) with
        | error x=>rfl
        | ok x =>
          obtain⟨n',p'⟩:=x
          have h5:=dg_le most r _ _ _ _ e3
          dsimp only at h5 ⊢
          rw[show p'-p=(p'-(p+1))+1 from by lia,List.drop_succ_cons]
    · have h1':dig c=false:=by
        cases z:dig c with
        | true=>exact absurd z h1
        | false=>rfl
      rw[h1',if_pos rfl,if_neg (by decide)]
      dsimp only
      rw[Nat.sub_self,List.drop_zero,Int.toNat_natCast,text_cons]
end Rr

end
section
set_option linter.all false
set_option maxHeartbeats 2000000
namespace Rr
open Root
def R0 (c T:List Int) (x:Except Nat Got) (y:Except Nat (List Stp×Nat)):Prop:=match y with
  | .error e=>x=.error e
  | .ok (S,p')=>∃ val:Option Num,x=.ok ⟨val,RootNeutral.text (T.drop p'),p'⟩∧∀ rest π,valS c (S++rest) π=val.bind fun v=>valS c rest (v::π)
def R1 (c T:List Int) (a:Option Num) (x:Except Nat Got) (y:Except Nat (List Stp×Nat)):Prop:=match y with
  | .error e=>x=.error e
  | .ok (S,p')=>∃ val:Option Num,x=.ok ⟨val,RootNeutral.text (T.drop p'),p'⟩∧(a=none→val=none)∧∀ v,a=some v→∀ rest π,valS c (S++rest) (v::π)=val.bind fun w=>valS c rest (w::π)
structure Linked (c T:List Int) (f:Nat):Prop where
  sum:∀ d p,p≤T.length→d≤16→R0 c T (part c f .sum d (RootNeutral.text (T.drop p)) p) (rd T f .sum d p)
  prod:∀ d p,p≤T.length→d≤16→R0 c T (part c f .prod d (RootNeutral.text (T.drop p)) p) (rd T f .prod d p)
  power:∀ d p,p≤T.length→d≤16→R0 c T (part c f .power d (RootNeutral.text (T.drop p)) p) (rd T f .power d p)
  atom:∀ d p,p≤T.length→d≤16→R0 c T (part c f .atom d (RootNeutral.text (T.drop p)) p) (rd T f .atom d p)
  sums:∀ a d p,p≤T.length→d≤16→R1 c T a (part c f (.sums a) d (RootNeutral.text (T.drop p)) p) (rd T f .sums d p)
  prods:∀ a d p,p≤T.length→d≤16→R1 c T a (part c f (.prods a) d (RootNeutral.text (T.drop p)) p) (rd T f .prods d p)
theorem linked_sum {c T:List Int}{f:Nat} (L:Linked c T f) (d p:Nat) (hp:p≤T.length) (hd:d≤16):R0 c T (part c (f+1) .sum d (RootNeutral.text (T.drop p)) p) (rd T (f+1) .sum d p):=by
  have h1:=L.prod d p hp hd
  unfold part rd
  cases e1:rd T f .prod d p with
  | error e =>
    rw[e1] at h1
    have h1:part c f .prod d (RootNeutral.text (T.drop p)) p=.error e:=h1
    rw[h1]
    rfl
  | ok q =>
    obtain⟨S,p1⟩:=q
    have g1:p<p1∧p1≤T.length:=rd_le T f .prod d p S p1 hp e1
    rw[e1] at h1
    obtain⟨val,h1,h2⟩:=h1
    rw[h1]
    dsimp only
    have h3:=L.sums val d p1 g1.2 hd
    cases e2:rd T f .sums d p1 with
    | error e =>
      rw[e2] at h3
      exact h3
    | ok q2 =>
      obtain⟨S2,p2⟩:=q2
      rw[e2] at h3
      obtain⟨val2,h3,h4,h5⟩:=h3
      refine⟨val2,h3,fun rest π=>?_⟩
      rw[List.append_assoc,h2]
      cases val with
      | none=>rw[h4 rfl];rfl
      | some v=>exact h5 v rfl rest π
theorem linked_prod {c T:List Int}{f:Nat} (L:Linked c T f) (d p:Nat) (hp:p≤T.length) (hd:d≤16):R0 c T (part c (f+1) .prod d (RootNeutral.text (T.drop p)) p) (rd T (f+1) .prod d p):=by
  have h1:=L.power d p hp hd
  unfold part rd
  cases e1:rd T f .power d p with
  | error e =>
    rw[e1] at h1
    have h1:part c f .power d (RootNeutral.text (T.drop p)) p=.error e:=h1
    rw[h1]
    rfl
  | ok q =>
    obtain⟨S,p1⟩:=q
    have g1:p<p1∧p1≤T.length:=rd_le T f .power d p S p1 hp e1
    rw[e1] at h1
    obtain⟨val,h1,h2⟩:=h1
    rw[h1]
    dsimp only
    have h3:=L.prods val d p1 g1.2 hd
    cases e2:rd T f .prods d p1 with
    | error e =>
      rw[e2] at h3
      exact h3
    | ok q2 =>
      obtain⟨S2,p2⟩:=q2
      rw[e2] at h3
      obtain⟨val2,h3,h4,h5⟩:=h3
      refine⟨val2,h3,fun rest π=>?_⟩
      rw[List.append_assoc,h2]
      cases val with
      | none=>rw[h4 rfl];rfl
      | some v=>exact h5 v rfl rest π
theorem linked_sums {c T:List Int}{f:Nat} (hb:Byt T) (L:Linked c T f) (a:Option Num) (d p:Nat) (hp:p≤T.length) (hd:d≤16):R1 c T a (part c (f+1) (.sums a) d (RootNeutral.text (T.drop p)) p) (rd T (f+1) .sums d p):=by
  unfold part rd
  rw[skip_nx hb hp]
  dsimp only
  have stay:R1 c T a (.ok ⟨a,RootNeutral.text (T.drop (nx T p)),nx T p⟩) (.ok ([],nx T p)):=⟨a,rfl,id,fun v hv rest π=>by rw[hv];rfl⟩
  by_cases hE:atT T (nx T p)=256
  · rw[text_end (ahead_end hE hb),if_neg (by lia)]
    rw[text_end (ahead_end hE hb)] at stay
    exact stay
  · obtain⟨k,hk1,hk2⟩:=ahead_is hb hE
    have hlt:=atT_lt hE
    rw[hk1]
    dsimp only
    by_cases hc:atT T (nx T p)=43∨atT T (nx T p)=45
    · rw[if_pos (by lia),if_pos hc]
      have h1:=L.prod d (nx T p+1) hlt hd
      cases e1:rd T f .prod d (nx T p+1) with
      | error e =>
        rw[e1] at h1
        have h1:part c f .prod d (RootNeutral.text (T.drop (nx T p+1))) (nx T p+1)=.error e:=h1
        rw[h1]
        rfl
      | ok q =>
        obtain⟨S,p1⟩:=q
        have g1:nx T p+1<p1∧p1≤T.length:=rd_le T f .prod d _ S p1 hlt e1
        rw[e1] at h1
        obtain⟨val,h1,h2⟩:=h1
        rw[h1]
        dsimp only
        have h3:=L.sums (both (fun (u v:Num)=>some (if k.toNat=43 then Root.plus u v else Root.minus u v)) a val) d p1 g1.2 hd
        cases e2:rd T f .sums d p1 with
        | error e =>
          rw[e2] at h3
          exact h3
        | ok q2 =>
          obtain⟨S2,p2⟩:=q2
          rw[e2] at h3
          obtain⟨val2,h3,h4,h5⟩:=h3
          refine⟨val2,h3,fun ha=>h4 (by rw[ha];rfl),fun v hv rest π=>?_⟩
          rw[List.append_assoc,h2]
          cases val with
          | none =>
            rw[h4 (by rw[hv];rfl)]
            rfl
          | some w =>
            have h6:=h5 (if k.toNat=43 then Root.plus v w else Root.minus v w) (by rw[hv];rfl) rest π
            rw[←h6]
            by_cases h43:atT T (nx T p)=43
            · rw[if_pos h43,if_pos (by lia)]
              rfl
            · rw[if_neg h43,if_neg (by lia)]
              rfl
    · rw[if_neg (by lia),if_neg hc]
      rw[hk1] at stay
      exact stay
theorem linked_prods {c T:List Int}{f:Nat} (hb:Byt T) (L:Linked c T f) (a:Option Num) (d p:Nat) (hp:p≤T.length) (hd:d≤16):R1 c T a (part c (f+1) (.prods a) d (RootNeutral.text (T.drop p)) p) (rd T (f+1) .prods d p):=by
  unfold part rd
  rw[skip_nx hb hp]
  dsimp only
  have stay:R1 c T a (.ok ⟨a,RootNeutral.text (T.drop (nx T p)),nx T p⟩) (.ok ([],nx T p)):=⟨a,rfl,id,fun v hv rest π=>by rw[hv];rfl⟩
  by_cases hE:atT T (nx T p)=256
  · rw[text_end (ahead_end hE hb),if_neg (by lia)]
    rw[text_end (ahead_end hE hb)] at stay
    exact stay
  · obtain⟨k,hk1,hk2⟩:=ahead_is hb hE
    have hlt:=atT_lt hE
    rw[hk1]
    dsimp only
    by_cases hc:atT T (nx T p)=42∨atT T (nx T p)=47
    · rw[if_pos (by lia),if_pos hc]
      have h1:=L.power d (nx T p+1) hlt hd
      cases e1:rd T f .power d (nx T p+1) with
      | error e =>
        rw[e1] at h1
        have h1:part c f .power d (RootNeutral.text (T.drop (nx T p+1))) (nx T p+1)=.error e:=h1
        rw[h1]
        rfl
      | ok q =>
        obtain⟨S,p1⟩:=q
        have g1:nx T p+1<p1∧p1≤T.length:=rd_le T f .power d _ S p1 hlt e1
        rw[e1] at h1
        obtain⟨val,h1,h2⟩:=h1
        rw[h1]
        dsimp only
        have h3:=L.prods (both (fun (u v:Num)=>if k.toNat=42 then some (Root.times c u v) else if isZero v=true then none else some (Root.over c u v)) a val) d p1 g1.2 hd
        cases e2:rd T f .prods d p1 with
        | error e =>
          rw[e2] at h3
          exact h3
        | ok q2 =>
          obtain⟨S2,p2⟩:=q2
          rw[e2] at h3
          obtain⟨val2,h3,h4,h5⟩:=h3
          refine⟨val2,h3,fun ha=>h4 (by rw[ha];rfl),fun v hv rest π=>?_⟩
          rw[List.append_assoc,h2]
          cases val with
          | none =>
            rw[h4 (by rw[hv];rfl)]
            rfl
          | some w =>
            by_cases h42:atT T (nx T p)=42
            · have h6:=h5 (Root.times c v w) (by rw[hv];show (if k.toNat=42 then _ else _)=_;rw[if_pos (by lia)]) rest π
              rw[←h6,if_pos h42]
              rfl
            · rw[if_neg h42]
              show (if isZero w=true then none else valS c (S2++rest) (Root.over c v w::π))=_
              by_cases hz:isZero w=true
              · rw[if_pos hz,h4 (by rw[hv];show (if k.toNat=42 then _ else _)=_;rw[if_neg (by lia),if_pos hz])]
                rfl
              · rw[if_neg hz]
                exact h5 (Root.over c v w) (by rw[hv];show (if k.toNat=42 then _ else _)=_;rw[if_neg (by lia),if_neg hz]) rest π
    · rw[if_neg (by lia),if_neg hc]
      rw[hk1] at stay
      exact stay
end Rr

end
section
set_option linter.all false
set_option maxHeartbeats 2000000
namespace Rr
open Root
theorem dg_nonneg (most:Nat):∀ (l:List Int) (k:Nat) (n:Int) (p:Nat) (r:Int×Nat),0≤n→dg most k n l p=.ok r→0≤r.1
  | [],k,n,p,r,hn,h=>by
    unfold dg at h
    cases h
    exact hn
  | c::l,k,n,p,r,hn,h=>by
    unfold dg at h
    split at h
    · rename_i hd
      split at h
      · cases h
      · refine dg_nonneg most l _ _ _ r ?_ h
        unfold dig at hd
        simp at hd
        lia
    · cases h
      exact hn
theorem linked_power {c T:List Int}{f:Nat} (hb:Byt T) (L:Linked c T f) (d p:Nat) (hp:p≤T.length) (hd:d≤16):R0 c T (part c (f+1) .power d (RootNeutral.text (T.drop p)) p) (rd T (f+1) .power d p):=by
  have h1:=L.atom d p hp hd
  unfold part rd
  cases e1:rd T f .atom d p with
  | error e =>
    rw[e1] at h1
    have h1:part c f .atom d (RootNeutral.text (T.drop p)) p=.error e:=h1
    rw[h1]
    rfl
  | ok q =>
    obtain⟨S,p1⟩:=q
    have g1:p<p1∧p1≤T.length:=rd_le T f .atom d p S p1 hp e1
    rw[e1] at h1
    obtain⟨val,h1,h2⟩:=h1
    rw[h1]
    dsimp only
    rw[skip_nx hb g1.2]
    dsimp only
    have stay:R0 c T (.ok ⟨val,RootNeutral.text (T.drop (nx T p1)),nx T p1⟩) (.ok (S,nx T p1)):=⟨val,rfl,h2⟩
    by_cases hE:atT T (nx T p1)=256
    · rw[text_end (ahead_end hE hb),if_neg (by lia)]
      rw[text_end (ahead_end hE hb)] at stay
      exact stay
    · obtain⟨k,hk1,hk2⟩:=ahead_is hb hE
      have hlt:=atT_lt hE
      rw[hk1]
      dsimp only
      by_cases hc:atT T (nx T p1)=94
      · rw[if_pos (by lia),if_pos hc,skip_nx hb hlt]
        dsimp only
        unfold rdg
        by_cases hE2:atT T (nx T (nx T p1+1))=256
        · rw[text_end (ahead_end hE2 hb),hE2,if_neg (by decide)]
          rfl
        · obtain⟨g,hg1,hg2⟩:=ahead_is hb hE2
          rw[hg1]
          dsimp only
          rw[isDigit_dig hg2]
          by_cases hd2:dig (atT T (nx T (nx T p1+1)))=true
          · rw[hd2,if_neg (by decide),if_pos rfl,←hg1,digitsAt_dg 2 _ 0 0 _ (hb.drop _) (by decide) (fun _=>rfl)]
            have e0:((0:Nat):Int)=0:=rfl
            rw[e0]
            cases e3:dg 2 0 0 (T.drop (nx T (nx T p1+1))) (nx T (nx T p1+1)) with
            | error x=>rfl
            | ok x =>
              obtain⟨n',p'⟩:=x
              have g3:=dg_le 2 _ _ _ _ _ e3
              dsimp only at g3 ⊢
              refine⟨val.map fun (u:Num)=>Root.power c u n'.toNat,?_,fun rest π=>?_⟩
              · rw[List.drop_drop,show nx T (nx T p1+1)+(p'-nx T (nx T p1+1))=p' from by lia]
              · rw[List.append_assoc,h2]
                cases val with
                | none=>rfl
                | some v=>rfl
          · have hd3:dig (atT T (nx T (nx T p1+1)))=false:=by
              cases z:dig (atT T (nx T (nx T p1+1))) with
              | true=>exact absurd z hd2
              | false=>rfl
            rw[hd3,if_pos rfl,if_neg (by decide)]
            rfl
      · rw[if_neg (by lia),if_neg hc]
        rw[hk1] at stay
        exact stay
theorem linked_atom {c T:List Int}{f:Nat} (hb:Byt T) (L:Linked c T f) (d p:Nat) (hp:p≤T.length) (hd:d≤16):R0 c T (part c (f+1) .atom d (RootNeutral.text (T.drop p)) p) (rd T (f+1) .atom d p):=by
  unfold part rd
  rw[skip_nx hb hp]
  dsimp only
  by_cases hE:atT T (nx T p)=256
  · rw[text_end (ahead_end hE hb),hE,if_neg (by decide),if_neg (by decide),if_neg (by decide)]
    unfold rdg
    rw[hE,if_neg (by decide)]
    rfl
  · obtain⟨k,hk1,hk2⟩:=ahead_is hb hE
    have hlt:=atT_lt hE
    rw[hk1]
    dsimp only
    rw[isDigit_dig hk2]
    by_cases h120:atT T (nx T p)=120
    · rw[if_pos (by lia),if_pos h120]
      exact⟨_,rfl,fun rest π=>rfl⟩
    · rw[if_neg (by lia),if_neg h120]
      by_cases hdg:dig (atT T (nx T p))=true
      · have hr:48≤atT T (nx T p)∧atT T (nx T p)≤57:=by
          unfold dig at hdg
          simpa using hdg
        rw[hdg,if_pos rfl,if_neg (by lia),if_neg (by lia),←hk1,digitsAt_dg 9 _ 0 0 _ (hb.drop _) (by decide) (fun _=>rfl)]
        unfold rdg
        rw[hdg,if_pos rfl]
        have e0:((0:Nat):Int)=0:=rfl
        rw[e0]
        cases e3:dg 9 0 0 (T.drop (nx T p)) (nx T p) with
        | error x=>rfl
        | ok x =>
          obtain⟨n',p'⟩:=x
          have g3:=dg_le 9 _ _ _ _ _ e3
          dsimp only at g3 ⊢
          refine⟨some (scaled (n'.toNat:Rat) (oneIn c.length)),?_,fun rest π=>rfl⟩
          rw[List.drop_drop,show nx T p+(p'-nx T p)=p' from by lia]
      · have hdg':dig (atT T (nx T p))=false:=by
          cases z:dig (atT T (nx T p)) with
          | true=>exact absurd z hdg
          | false=>rfl
        rw[hdg',if_neg (by decide)]
        by_cases h40:atT T (nx T p)=40
        · rw[if_pos (by lia),if_pos h40]
          by_cases h16:d=16
          · rw[if_pos (by show 16≤d;lia),if_pos h16]
            rfl
          · rw[if_neg (by show ¬ 16≤d;lia),if_neg h16]
            have h1:=L.sum (d+1) (nx T p+1) hlt (by lia)
            cases e1:rd T f .sum (d+1) (nx T p+1) with
            | error e =>
              rw[e1] at h1
              have h1:part c f .sum (d+1) (RootNeutral.text (T.drop (nx T p+1))) (nx T p+1)=.error e:=h1
              rw[h1]
              rfl
            | ok q =>
              obtain⟨S,p1⟩:=q
              have g1:nx T p+1<p1∧p1≤T.length:=rd_le T f .sum _ _ S p1 hlt e1
              rw[e1] at h1
              obtain⟨val,h1,h2⟩:=h1
              rw[h1]
              dsimp only
              rw[skip_nx hb g1.2]
              dsimp only
              by_cases hE2:atT T (nx T p1)=256
              · rw[text_end (ahead_end hE2 hb),hE2,if_neg (by decide)]
                rfl
              · obtain⟨g,hg1,hg2⟩:=ahead_is hb hE2
                rw[hg1]
                dsimp only
                by_cases h41:atT T (nx T p1)=41
                · rw[if_pos (by lia),if_pos h41]
                  exact⟨val,rfl,h2⟩
                · rw[if_neg (by lia),if_neg h41]
                  rfl
        · rw[if_neg (by lia),if_neg h40]
          by_cases h45:atT T (nx T p)=45
          · rw[if_pos (by lia),if_pos h45]
            by_cases h16:d=16
            · rw[if_pos (by show 16≤d;lia),if_pos h16]
              rfl
            · rw[if_neg (by show ¬ 16≤d;lia),if_neg h16]
              have h1:=L.atom (d+1) (nx T p+1) hlt (by lia)
              cases e1:rd T f .atom (d+1) (nx T p+1) with
              | error e =>
                rw[e1] at h1
                have h1:part c f .atom (d+1) (RootNeutral.text (T.drop (nx T p+1))) (nx T p+1)=.error e:=h1
                rw[h1]
                rfl
              | ok q =>
                obtain⟨S,p1⟩:=q
                rw[e1] at h1
                obtain⟨val,h1,h2⟩:=h1
                rw[h1]
                refine⟨val.map (scaled (-1)),rfl,fun rest π=>?_⟩
                rw[List.append_assoc,h2]
                cases val with
                | none=>rfl
                | some v=>rfl
          · rw[if_neg (by lia),if_neg h45]
            unfold rdg
            rw[hdg',if_neg (by decide)]
            rfl
theorem linked {c T:List Int} (hb:Byt T):∀ f:Nat,Linked c T f
  | 0=>⟨fun _ _ _ _=>rfl,fun _ _ _ _=>rfl,fun _ _ _ _=>rfl,fun _ _ _ _=>rfl,fun _ _ _ _ _=>rfl,fun _ _ _ _ _=>rfl⟩
  | f+1=>⟨linked_sum (linked hb f),linked_prod (linked hb f),linked_power hb (linked hb f),linked_atom hb (linked hb f),linked_sums hb (linked hb f),linked_prods hb (linked hb f)⟩
theorem readText_is {c T:List Int} (hb:Byt T):match rdAll T with
    | .error e=>readText c (RootNeutral.text T)=.error e
    | .ok S=>readText c (RootNeutral.text T)=.ok ((valS c S []).bind fun π=>π.head?)∧∀ v,valS c S []=some v→∃ w,v=[w]:=by
  have h1:=(linked (c:=c) hb (6*T.length+12)).sum 0 0 (Nat.zero_le _) (by decide)
  have hl:(RootNeutral.text T).length=T.length:=by unfold RootNeutral.text;rw[List.length_map]
  unfold rdAll readText
  rw[hl]
  rw[List.drop_zero] at h1
  cases e1:rd T (6*T.length+12) .sum 0 0 with
  | error e =>
    rw[e1] at h1
    have h1:part c (6*T.length+12) .sum 0 (RootNeutral.text T) 0=.error e:=h1
    rw[h1]
  | ok q =>
    obtain⟨S,p1⟩:=q
    have g1:0<p1∧p1≤T.length:=rd_le T _ .sum 0 0 S p1 (Nat.zero_le _) e1
    rw[e1] at h1
    obtain⟨val,h1,h2⟩:=h1
    rw[h1]
    dsimp only
    rw[skip_nx hb g1.2]
    dsimp only
    have h3:=h2 [] []
    rw[List.append_nil] at h3
    by_cases hE:atT T (nx T p1)=256
    · rw[text_end (ahead_end hE hb),if_pos hE]
      dsimp only
      rw[if_pos (by rfl),h3]
      cases val with
      | none=>exact⟨rfl,fun v hv=>by cases hv⟩
      | some w=>exact⟨rfl,fun v hv=>⟨w,by cases hv;rfl⟩⟩
    · obtain⟨k,hk1,hk2⟩:=ahead_is hb hE
      rw[hk1,if_neg hE]
      rfl
end Rr
#print axioms Rr.readText_is

end
section
set_option linter.all false
set_option maxHeartbeats 2000000
namespace Rr
open Root
def Fx (T:List Int) (p:Nat):List Int:=(T.drop p).filter fun (z:Int)=>z != 32
theorem fl_sk:∀ (l:List Int) (p:Nat),l.filter (fun (z:Int)=>z != 32)=(l.drop (sk l p-p)).filter fun (z:Int)=>z != 32
  | [],p=>by rw[List.drop_nil]
  | c::r,p=>by
    by_cases h:c=32
    · have e:sk (c::r) p=sk r (p+1):=by
        show (if c=32 then sk r (p+1) else p)=_
        rw[if_pos h]
      have h1:=(sk_le r (p+1)).1
      rw[e,show sk r (p+1)-p=(sk r (p+1)-(p+1))+1 from by lia,List.drop_succ_cons,List.filter_cons,if_neg (by simp[h])]
      exact fl_sk r (p+1)
    · have e:sk (c::r) p=p:=by
        show (if c=32 then sk r (p+1) else p)=_
        rw[if_neg h]
      rw[e,Nat.sub_self,List.drop_zero]
theorem Fx_nx {T:List Int}{p:Nat} (hp:p≤T.length):Fx T p=Fx T (nx T p):=by
  unfold Fx
  have:=fl_sk (T.drop p) p
  have h1:=(nx_le hp).1
  unfold nx at h1 ⊢
  rw[List.drop_drop,show p+(sk (T.drop p) p-p)=sk (T.drop p) p from by lia] at this
  exact this
theorem Fx_cons {T:List Int}{q:Nat} (h:atT T q≠256) (h32:atT T q≠32):Fx T q=atT T q::Fx T (q+1):=by
  have hlt:=atT_lt h
  have e:atT T q=T[q]:=by
    unfold atT
    rw[List.getD_eq_getElem?_getD,List.getElem?_eq_getElem hlt]
    rfl
  unfold Fx
  rw[List.drop_eq_getElem_cons hlt,List.filter_cons,←e,if_pos (by simpa using h32)]
theorem pw_other {P M:Nat}{c z:Int}{r:List Int} (h:z≠94):RootNeutral.powers P M c (z::r)=RootNeutral.powers P M z r:=by
  rw[RootNeutral.powers]
  intro h'
  exact absurd h' h
theorem at_dig {T:List Int}{q:Nat} (h:q<T.length):atT T q=T[q]:=by
  unfold atT
  rw[List.getD_eq_getElem?_getD,List.getElem?_eq_getElem h]
  rfl
theorem dig_is {z:Int} (h:dig z=true):48≤z∧z≤57:=by
  unfold dig at h
  simpa using h
theorem pw_digits {T:List Int}{most:Nat}:∀ (m q k:Nat) (n:Int) (r:Int×Nat),T.length-q≤m→k≤most→dg most k n (T.drop q) q=.ok r→∀ c:Int,∃ c':Int,(∀ P M:Nat,RootNeutral.powers P M c (Fx T q)=RootNeutral.powers P M c' (Fx T r.2))∧(q<r.2∨c≠41→c'≠41)∧r.1+1≤(n+1)*10^(r.2-q)∧q≤r.2∧r.2-q+k≤most
  | m,q,k,n,r,hm,hkm,h,c=>by
    by_cases hlt:q<T.length
    · rw[List.drop_eq_getElem_cons hlt] at h
      unfold dg at h
      by_cases hd:dig T[q]=true
      · rw[if_pos hd] at h
        have hd':=dig_is hd
        by_cases hk:k=most
        · rw[if_pos hk] at h
          cases h
        · rw[if_neg hk] at h
          cases m with
          | zero=>lia
          | succ m =>
            obtain⟨c',h1,h2,h3,h4,h5⟩:=pw_digits m (q+1) (k+1) _ r (by lia) (by lia) h T[q]
            have ea:=at_dig hlt
            refine⟨c',?_,fun _=>?_,?_,by lia,by lia⟩
            · intro P M
              rw[Fx_cons (by lia) (by lia),pw_other (by lia),ea]
              exact h1 P M
            · exact h2 (.inr (by lia))
            · have e:r.2-q=(r.2-(q+1))+1:=by lia
              rw[e,Int.pow_succ]
              have h6:(n*10+T[q]-48+1)≤(n+1)*10:=by lia
              have h7:(0:Int)≤10^(r.2-(q+1)):=Int.le_of_lt (Int.pow_pos (by decide))
              have h8:=Int.mul_le_mul_of_nonneg_right h6 h7
              have h9:(n+1)*10*10^(r.2-(q+1))=(n+1)*(10^(r.2-(q+1))*10):=by grind
              lia
      · rw[if_neg hd] at h
        cases h
        exact⟨c,fun _ _=>rfl,fun z=>z.resolve_left (Nat.lt_irrefl _),by rw[Nat.sub_self,Int.pow_zero];lia,Nat.le_refl _,by lia⟩
    · rw[List.drop_eq_nil_of_le (by lia)] at h
      unfold dg at h
      cases h
      exact⟨c,fun _ _=>rfl,fun z=>z.resolve_left (Nat.lt_irrefl _),by rw[Nat.sub_self,Int.pow_zero];lia,Nat.le_refl _,by lia⟩
theorem pw_read {T:List Int}{q:Nat}{k:Int}{p':Nat} (hd:dig (atT T q)=true) (h:dg 2 0 0 (T.drop q) q=.ok (k,p')) :
    k.toNat≤(((Fx T q).takeWhile fun (z:Int)=>decide (48≤z) && decide (z≤57)).take 2).foldl (fun (k:Nat) (z:Int)=>10*k+(z-48).toNat) 0:=by
  have h0:=dig_is hd
  have hlt:=atT_lt (dig_ne hd)
  have ea:=at_dig hlt
  rw[List.drop_eq_getElem_cons hlt,←ea] at h
  unfold dg at h
  rw[if_pos hd,if_neg (by decide)] at h
  rw[Fx_cons (by lia) (by lia),List.takeWhile_cons,if_pos (by simpa using h0)]
  by_cases hlt2:q+1<T.length
  · have ea2:=at_dig hlt2
    rw[List.drop_eq_getElem_cons hlt2,←ea2] at h
    unfold dg at h
    by_cases hd2:dig (atT T (q+1))=true
    · have h2:=dig_is hd2
      rw[if_pos hd2,if_neg (by decide)] at h
      rw[Fx_cons (by lia) (by lia),List.takeWhile_cons,if_pos (by simpa using h2)]
      show k.toNat≤10*(10*0+(atT T q-48).toNat)+(atT T (q+1)-48).toNat
      have e:k=(0*10+atT T q-48)*10+atT T (q+1)-48:=by
        by_cases hlt3:q+1+1<T.length
        · rw[List.drop_eq_getElem_cons hlt3] at h
          unfold dg at h
          split at h
          · rw[if_pos rfl] at h
            cases h
          · cases h
            rfl
        · rw[List.drop_eq_nil_of_le (by lia)] at h
          unfold dg at h
          cases h
          rfl
      rw[e]
      lia
    · rw[if_neg hd2] at h
      cases h
      cases ((Fx T (q+1)).takeWhile fun (z:Int)=>decide (48≤z) && decide (z≤57)) with
      | nil =>
        show _≤10*0+(atT T q-48).toNat
        lia
      | cons y ys =>
        show _≤10*(10*0+(atT T q-48).toNat)+(y-48).toNat
        lia
  · rw[List.drop_eq_nil_of_le (by lia)] at h
    unfold dg at h
    cases h
    cases ((Fx T (q+1)).takeWhile fun (z:Int)=>decide (48≤z) && decide (z≤57)) with
    | nil =>
      show _≤10*0+(atT T q-48).toNat
      lia
    | cons y ys =>
      show _≤10*(10*0+(atT T q-48).toNat)+(y-48).toNat
      lia
theorem pw_caret {P M:Nat}{c:Int}{r:List Int}:RootNeutral.powers P M c (94::r)=if c=41 then RootNeutral.powers (P*max 1 (((r.takeWhile fun (z:Int)=>decide (48≤z) && decide (z≤57)).take 2).foldl (fun (k:Nat) (z:Int)=>10*k+(z-48).toNat) 0)) M 94 r
    else RootNeutral.powers P (max M (((r.takeWhile fun (z:Int)=>decide (48≤z) && decide (z≤57)).take 2).foldl (fun (k:Nat) (z:Int)=>10*k+(z-48).toNat) 0)) 94 r:=by
  rw[RootNeutral.powers]
theorem nq_le {n m:Nat} (hm:1≤m) (h:n<10^m):nq n≤4*m:=by
  unfold nq
  by_cases h0:n=0
  · rw[h0]
    have:Nat.log2 0=0:=by decide
    lia
  · have h1:n<2^(4*m):=by
      refine Nat.lt_of_lt_of_le h ?_
      rw[Nat.pow_mul]
      exact Nat.pow_le_pow_left (by decide) m
    have:=(Nat.log2_lt h0).mpr h1
    lia
end Rr

end
section
set_option linter.all false
set_option maxHeartbeats 2000000
namespace Rr
open Root
def Ct (T:List Int) (S:List Stp) (p p':Nat) (c0:Int) (q Pw Mx:Nat) (c1:Int):Prop :=
  (∀ rest qs,cst (S++rest) qs=cst rest (q::qs))∧1≤Pw∧1≤Mx∧1≤q∧q≤(7*(p'-p)+4)*(Pw*Mx)∧∀ P M:Nat,1≤M→RootNeutral.powers P M c0 (Fx T p)=RootNeutral.powers (P*Pw) (max M Mx) c1 (Fx T p')
def Cs (T:List Int) (S:List Stp) (p p':Nat) (c0:Int) (q Pw Mx:Nat) (c1:Int):Prop :=
  (∀ rest q0 qs,cst (S++rest) (q0::qs)=cst rest ((q0+q)::qs))∧1≤Pw∧1≤Mx∧q≤7*(p'-p)*(Pw*Mx)∧∀ P M:Nat,1≤M→RootNeutral.powers P M c0 (Fx T p)=RootNeutral.powers (P*Pw) (max M Mx) c1 (Fx T p')
theorem x_le {P1 M1 P2 M2:Nat} (h1:1≤P1) (h2:1≤P2):P1*M1≤P1*P2*max M1 M2∧P2*M2≤P1*P2*max M1 M2:=by
  constructor
  · exact Nat.mul_le_mul (by have:=Nat.mul_le_mul_left P1 h2;lia) (Nat.le_max_left _ _)
  · exact Nat.mul_le_mul (by have:=Nat.mul_le_mul_right P2 h1;lia) (Nat.le_max_right _ _)
theorem pw_join {P P1 P2 M M1 M2:Nat}{c:Int}{l:List Int}:RootNeutral.powers (P*P1*P2) (max (max M M1) M2) c l=RootNeutral.powers (P*(P1*P2)) (max M (max M1 M2)) c l:=by
  rw[Nat.mul_assoc,Nat.max_assoc]
theorem one_le_mul {a b:Nat} (h1:1≤a) (h2:1≤b):1≤a*b:=Nat.mul_le_mul h1 h2
theorem ct_join {T:List Int}{S S2:List Stp}{p p1 p2:Nat}{c0 c1 c2:Int}{q q2 P1 M1 P2 M2:Nat} (h:Ct T S p p1 c0 q P1 M1 c1) (k:Cs T S2 p1 p2 c1 q2 P2 M2 c2) (g1:p≤p1) (g2:p1≤p2):Ct T (S++S2) p p2 c0 (q+q2) (P1*P2) (max M1 M2) c2:=by
  obtain⟨a1,a2,a3,a4,a5,a6⟩:=h
  obtain⟨b1,b2,b3,b4,b5⟩:=k
  refine⟨fun rest qs=>by rw[List.append_assoc,a1,b1],one_le_mul a2 b2,Nat.le_trans a3 (Nat.le_max_left _ _),by lia,?_,fun P M hM=>?_⟩
  · obtain⟨x1,x2⟩:=x_le (M1:=M1) (M2:=M2) a2 b2
    have y1:=Nat.mul_le_mul_left (7*(p1-p)+4) x1
    have y2:=Nat.mul_le_mul_left (7*(p2-p1)) x2
    have e:(7*(p2-p)+4)*(P1*P2*max M1 M2)=(7*(p1-p)+4)*(P1*P2*max M1 M2)+7*(p2-p1)*(P1*P2*max M1 M2):=by
      rw[←Nat.add_mul]
      congr 1
      lia
    rw[e]
    lia
  · rw[a6 P M hM,b5 _ _ (Nat.le_trans hM (Nat.le_max_left _ _)),pw_join]
theorem cs_join {T:List Int}{S S2:List Stp}{p q0 p1 p2:Nat}{c0 c1 c2:Int}{q q2 P1 M1 P2 M2:Nat}{w:Wd} (hw:w=.add∨w=.subtract∨w=.multiply∨w=.divide) (hF:∀ P M:Nat,RootNeutral.powers P M c0 (Fx T p)=RootNeutral.powers P M (atT T q0) (Fx T (q0+1)))
    (h:Ct T S (q0+1) p1 (atT T q0) q P1 M1 c1) (k:Cs T S2 p1 p2 c1 q2 P2 M2 c2) (g0:p≤q0) (g1:q0+1≤p1) (g2:p1≤p2):Cs T (S++(w,0)::S2) p p2 c0 (q+3+q2) (P1*P2) (max M1 M2) c2:=by
  obtain⟨a1,a2,a3,a4,a5,a6⟩:=h
  obtain⟨b1,b2,b3,b4,b5⟩:=k
  refine⟨fun rest r0 qs=>?_,one_le_mul a2 b2,Nat.le_trans a3 (Nat.le_max_left _ _),?_,fun P M hM=>?_⟩
  · rw[List.append_assoc,a1]
    have e:cst ((w,0)::S2++rest) (q::r0::qs)=cst (S2++rest) ((r0+q+3)::qs):=by
      rcases hw with rfl | rfl | rfl | rfl <;> rfl
    rw[e,b1]
    congr 2
    lia
  · obtain⟨x1,x2⟩:=x_le (M1:=M1) (M2:=M2) a2 b2
    have hX:1≤P1*P2*max M1 M2:=one_le_mul (one_le_mul a2 b2) (Nat.le_trans a3 (Nat.le_max_left _ _))
    have y1:=Nat.mul_le_mul_left (7*(p1-(q0+1))+4) x1
    have y2:=Nat.mul_le_mul_left (7*(p2-p1)) x2
    have e:(7*(p1-(q0+1))+4)*(P1*P2*max M1 M2)+3*(P1*P2*max M1 M2)+7*(p2-p1)*(P1*P2*max M1 M2)=(7*(p2-q0))*(P1*P2*max M1 M2):=by
      rw[←Nat.add_mul,←Nat.add_mul]
      congr 1
      lia
    have e2:=Nat.mul_le_mul_right (P1*P2*max M1 M2) (show 7*(p2-q0)≤7*(p2-p) by lia)
    lia
  · rw[hF,a6 P M hM,b5 _ _ (Nat.le_trans hM (Nat.le_max_left _ _)),pw_join]
structure Costs (T:List Int) (f:Nat):Prop where
  sum:∀ d p S p',p≤T.length→rd T f .sum d p=.ok (S,p')→∀ c0,∃ q Pw Mx c1,Ct T S p p' c0 q Pw Mx c1
  prod:∀ d p S p',p≤T.length→rd T f .prod d p=.ok (S,p')→∀ c0,∃ q Pw Mx c1,Ct T S p p' c0 q Pw Mx c1
  power:∀ d p S p',p≤T.length→rd T f .power d p=.ok (S,p')→∀ c0,∃ q Pw Mx c1,Ct T S p p' c0 q Pw Mx c1
  atom:∀ d p S p',p≤T.length→rd T f .atom d p=.ok (S,p')→∀ c0,∃ q Pw Mx c1,Ct T S p p' c0 q Pw Mx c1∧(c1=41∨(Pw=1∧Mx=1))
  sums:∀ d p S p',p≤T.length→rd T f .sums d p=.ok (S,p')→∀ c0,∃ q Pw Mx c1,Cs T S p p' c0 q Pw Mx c1
  prods:∀ d p S p',p≤T.length→rd T f .prods d p=.ok (S,p')→∀ c0,∃ q Pw Mx c1,Cs T S p p' c0 q Pw Mx c1
theorem cs_nil {T:List Int}{p:Nat}{c0:Int} (hp:p≤T.length):Cs T [] p (nx T p) c0 0 1 1 c0 :=
  ⟨fun rest q0 qs=>rfl,Nat.le_refl _,Nat.le_refl _,Nat.zero_le _,fun P M hM=>by rw[←Fx_nx hp,Nat.mul_one,Nat.max_eq_left hM]⟩
theorem costs {T:List Int} (hb:Byt T):∀ f:Nat,Costs T f
  | 0=>by
    refine⟨fun _ _ _ _ _ h=>?_,fun _ _ _ _ _ h=>?_,fun _ _ _ _ _ h=>?_,fun _ _ _ _ _ h=>?_,fun _ _ _ _ _ h=>?_,fun _ _ _ _ _ h=>?_⟩ <;> (unfold rd at h;cases h)
  | f+1=>by
    have L:=costs hb f
    refine⟨fun d p S p' hp h c0=>?_,fun d p S p' hp h c0=>?_,fun d p S p' hp h c0=>?_,fun d p S p' hp h c0=>?_,fun d p S p' hp h c0=>?_,fun d p S p' hp h c0=>?_⟩
    · unfold rd at h
      cases e1:rd T f .prod d p with
      | error e=>rw[e1] at h;cases h
      | ok r =>
        obtain⟨S1,p1⟩:=r
        rw[e1] at h
        dsimp only at h
        have a1:p<p1∧p1≤T.length:=rd_le T f .prod d p S1 p1 hp e1
        cases e2:rd T f .sums d p1 with
        | error e=>rw[e2] at h;cases h
        | ok r2 =>
          obtain⟨S2,p2⟩:=r2
          rw[e2] at h
          cases h
          have a2:p1≤p'∧p'≤T.length:=rd_le T f .sums d p1 S2 p' a1.2 e2
          obtain⟨q1,P1,M1,c1,k1⟩:=L.prod d p S1 p1 hp e1 c0
          obtain⟨q2,P2,M2,c2,k2⟩:=L.sums d p1 S2 p' a1.2 e2 c1
          exact⟨_,_,_,_,ct_join k1 k2 (by lia) a2.1⟩
    · unfold rd at h
      cases e1:rd T f .power d p with
      | error e=>rw[e1] at h;cases h
      | ok r =>
        obtain⟨S1,p1⟩:=r
        rw[e1] at h
        dsimp only at h
        have a1:p<p1∧p1≤T.length:=rd_le T f .power d p S1 p1 hp e1
        cases e2:rd T f .prods d p1 with
        | error e=>rw[e2] at h;cases h
        | ok r2 =>
          obtain⟨S2,p2⟩:=r2
          rw[e2] at h
          cases h
          have a2:p1≤p'∧p'≤T.length:=rd_le T f .prods d p1 S2 p' a1.2 e2
          obtain⟨q1,P1,M1,c1,k1⟩:=L.power d p S1 p1 hp e1 c0
          obtain⟨q2,P2,M2,c2,k2⟩:=L.prods d p1 S2 p' a1.2 e2 c1
          exact⟨_,_,_,_,ct_join k1 k2 (by lia) a2.1⟩
    · unfold rd at h
      cases e1:rd T f .atom d p with
      | error e=>rw[e1] at h;cases h
      | ok r =>
        obtain⟨S1,p1⟩:=r
        rw[e1] at h
        dsimp only at h
        have a1:p<p1∧p1≤T.length:=rd_le T f .atom d p S1 p1 hp e1
        have a0:=nx_le a1.2
        obtain⟨q1,P1,M1,c1,⟨k1,k2,k3,k4,k5,k6⟩,k7⟩:=L.atom d p S1 p1 hp e1 c0
        split at h
        · rename_i hc
          have hlt:nx T p1<T.length:=atT_lt (by lia)
          unfold rdg at h
          split at h
          · rename_i r2 e2
            cases h
          · rename_i r2 kk p2 e2
            cases h
            by_cases hdg:dig (atT T (nx T (nx T p1+1)))=true
            · rw[if_pos hdg] at e2
              have b0:=nx_le (T:=T) (p:=nx T p1+1) hlt
              have hread:=pw_read hdg e2
              have hnn:0≤kk:=dg_nonneg 2 _ _ _ _ _ (by decide) e2
              have eF1:Fx T p1=94::Fx T (nx T p1+1):=by rw[Fx_nx a1.2,Fx_cons (by lia) (by lia),hc]
              have eF2:Fx T (nx T p1+1)=Fx T (nx T (nx T p1+1)):=Fx_nx hlt
              rw[←eF2] at hread
              generalize hN:((((Fx T (nx T p1+1)).takeWhile fun (z:Int)=>decide (48≤z) && decide (z≤57)).take 2).foldl (fun (k:Nat) (z:Int)=>10*k+(z-48).toNat) 0)=N at hread
              obtain⟨c2,w1,w2,w3,w4,w5⟩:=pw_digits (T.length) (nx T (nx T p1+1)) 0 0 (kk,p') (by lia) (by decide) e2 94
              have hmk:max kk.toNat 1≤max 1 N:=by lia
              have hcs:∀ rest qs,cst (S1++[(Wd.raise_,kk)]++rest) qs=cst rest ((max kk.toNat 1*q1)::qs):=fun rest qs=>by
                rw[List.append_assoc,k1]
                rfl
              have hq1:1≤max kk.toNat 1*q1:=one_le_mul (by lia) k4
              have hlen:7*(p1-p)+4≤7*(p'-p)+4:=by dsimp only at w4;lia
              by_cases h41:c1=41
              · refine⟨max kk.toNat 1*q1,P1*max 1 N,M1,c2,hcs,one_le_mul k2 (by lia),k3,hq1,?_,fun P M hM=>?_⟩
                · have y1:=Nat.mul_le_mul hmk k5
                  have y2:max 1 N*((7*(p1-p)+4)*(P1*M1))=(7*(p1-p)+4)*(P1*max 1 N*M1):=by grind
                  rw[y2] at y1
                  exact Nat.le_trans y1 (Nat.mul_le_mul_right _ hlen)
                · rw[k6 P M hM,eF1,pw_caret,if_pos h41,hN,eF2,w1,Nat.mul_assoc]
              · obtain⟨rfl,rfl⟩:=k7.resolve_left h41
                refine⟨max kk.toNat 1*q1,1,max 1 N,c2,hcs,Nat.le_refl _,by lia,hq1,?_,fun P M hM=>?_⟩
                · have y1:=Nat.mul_le_mul hmk k5
                  have y2:max 1 N*((7*(p1-p)+4)*(1*1))=(7*(p1-p)+4)*(1*max 1 N):=by grind
                  rw[y2] at y1
                  exact Nat.le_trans y1 (Nat.mul_le_mul_right _ hlen)
                · rw[k6 P M hM,eF1,pw_caret,if_neg h41,hN,eF2,w1,Nat.max_assoc]
            · rw[if_neg hdg] at e2
              cases e2
        · cases h
          refine⟨q1,P1,M1,c1,k1,k2,k3,k4,?_,fun P M hM=>?_⟩
          · exact Nat.le_trans k5 (Nat.mul_le_mul_right _ (by lia))
          · rw[k6 P M hM,Fx_nx a1.2]
    · unfold rd at h
      have a0:=nx_le hp
      by_cases h120:atT T (nx T p)=120
      · rw[if_pos h120] at h
        cases h
        refine⟨10,1,1,120,⟨fun rest qs=>rfl,Nat.le_refl _,Nat.le_refl _,by decide,?_,fun P M hM=>?_⟩,.inr ⟨rfl,rfl⟩⟩
        · rw[Nat.mul_one]
          lia
        · rw[Fx_nx hp,Fx_cons (by lia) (by lia),pw_other (by lia),h120,Nat.mul_one,Nat.max_eq_left hM]
      · rw[if_neg h120] at h
        by_cases h40:atT T (nx T p)=40
        · rw[if_pos h40] at h
          have hlt:nx T p<T.length:=atT_lt (by lia)
          by_cases h16:d=16
          · rw[if_pos h16] at h
            cases h
          · rw[if_neg h16] at h
            cases e1:rd T f .sum (d+1) (nx T p+1) with
            | error e=>rw[e1] at h;cases h
            | ok r =>
              obtain⟨S1,p1⟩:=r
              rw[e1] at h
              dsimp only at h
              have a1:nx T p+1<p1∧p1≤T.length:=rd_le T f .sum _ _ S1 p1 hlt e1
              have a2:=nx_le a1.2
              by_cases h41:atT T (nx T p1)=41
              · rw[if_pos h41] at h
                cases h
                obtain⟨q1,P1,M1,c1,k1,k2,k3,k4,k5,k6⟩:=L.sum _ _ S p1 hlt e1 40
                refine⟨q1,P1,M1,41,⟨k1,k2,k3,k4,?_,fun P M hM=>?_⟩,.inl rfl⟩
                · exact Nat.le_trans k5 (Nat.mul_le_mul_right _ (by lia))
                · rw[Fx_nx hp,Fx_cons (by lia) (by lia),pw_other (by lia),h40,k6 P M hM,Fx_nx a1.2,Fx_cons (by lia) (by lia),pw_other (by lia),h41]
              · rw[if_neg h41] at h
                cases h
        · rw[if_neg h40] at h
          by_cases h45:atT T (nx T p)=45
          · rw[if_pos h45] at h
            have hlt:nx T p<T.length:=atT_lt (by lia)
            by_cases h16:d=16
            · rw[if_pos h16] at h
              cases h
            · rw[if_neg h16] at h
              cases e1:rd T f .atom (d+1) (nx T p+1) with
              | error e=>rw[e1] at h;cases h
              | ok r =>
                obtain⟨S1,p1⟩:=r
                rw[e1] at h
                cases h
                obtain⟨q1,P1,M1,c1,⟨k1,k2,k3,k4,k5,k6⟩,k7⟩:=L.atom _ _ S1 p' hlt e1 45
                refine⟨q1,P1,M1,c1,⟨fun rest qs=>by rw[List.append_assoc,k1];rfl,k2,k3,k4,?_,fun P M hM=>?_⟩,k7⟩
                · exact Nat.le_trans k5 (Nat.mul_le_mul_right _ (by lia))
                · rw[Fx_nx hp,Fx_cons (by lia) (by lia),pw_other (by lia),h45,k6 P M hM]
          · rw[if_neg h45] at h
            unfold rdg at h
            by_cases hdg:dig (atT T (nx T p))=true
            · rw[if_pos hdg] at h
              cases e2:dg 9 0 0 (T.drop (nx T p)) (nx T p) with
              | error e=>rw[e2] at h;cases h
              | ok r =>
                obtain⟨kk,p2⟩:=r
                rw[e2] at h
                cases h
                have hnn:0≤kk:=dg_nonneg 9 _ _ _ _ _ (by decide) e2
                obtain⟨c2,w1,w2,w3,w4,w5⟩:=pw_digits (T.length) (nx T p) 0 0 (kk,p') (by lia) (by decide) e2 c0
                dsimp only at w2 w3 w4 w5
                have hlt:nx T p<p':=by
                  have hl:=atT_lt (dig_ne hdg)
                  have ea:=at_dig hl
                  rw[List.drop_eq_getElem_cons hl,←ea] at e2
                  unfold dg at e2
                  rw[if_pos hdg,if_neg (by decide)] at e2
                  exact (dg_le 9 _ _ _ _ _ e2).1
                have hk10:kk.toNat<10^(p'-nx T p):=by
                  have e:((10^(p'-nx T p):Nat):Int)=10^(p'-nx T p):=by push_cast;rfl
                  have:kk<((10^(p'-nx T p):Nat):Int):=by rw[e];lia
                  lia
                have hnq:=nq_le (by lia) hk10
                refine⟨nq kk.toNat,1,1,c2,⟨fun rest qs=>rfl,Nat.le_refl _,Nat.le_refl _,by unfold nq;lia,?_,fun P M hM=>?_⟩,.inr ⟨rfl,rfl⟩⟩
                · rw[Nat.mul_one]
                  lia
                · rw[Fx_nx hp,w1,Nat.mul_one,Nat.max_eq_left hM]
            · rw[if_neg hdg] at h
              cases h
    · unfold rd at h
      have a0:=nx_le hp
      split at h
      · rename_i hc
        have hlt:nx T p<T.length:=atT_lt (by lia)
        cases e1:rd T f .prod d (nx T p+1) with
        | error e=>rw[e1] at h;cases h
        | ok r =>
          obtain⟨S1,p1⟩:=r
          rw[e1] at h
          dsimp only at h
          have a1:nx T p+1<p1∧p1≤T.length:=rd_le T f .prod d _ S1 p1 hlt e1
          cases e2:rd T f .sums d p1 with
          | error e=>rw[e2] at h;cases h
          | ok r2 =>
            obtain⟨S2,p2⟩:=r2
            rw[e2] at h
            cases h
            have a2:p1≤p'∧p'≤T.length:=rd_le T f .sums d p1 S2 p' a1.2 e2
            obtain⟨q1,P1,M1,c1,k1⟩:=L.prod d _ S1 p1 hlt e1 (atT T (nx T p))
            obtain⟨q2,P2,M2,c2,k2⟩:=L.sums d p1 S2 p' a1.2 e2 c1
            refine⟨_,_,_,_,cs_join (by split <;> simp) (fun P M=>?_) k1 k2 a0.1 (by lia) a2.1⟩
            rw[Fx_nx hp,Fx_cons (by lia) (by lia),pw_other (by lia)]
      · cases h
        exact⟨_,_,_,_,cs_nil hp⟩
    · unfold rd at h
      have a0:=nx_le hp
      split at h
      · rename_i hc
        have hlt:nx T p<T.length:=atT_lt (by lia)
        cases e1:rd T f .power d (nx T p+1) with
        | error e=>rw[e1] at h;cases h
        | ok r =>
          obtain⟨S1,p1⟩:=r
          rw[e1] at h
          dsimp only at h
          have a1:nx T p+1<p1∧p1≤T.length:=rd_le T f .power d _ S1 p1 hlt e1
          cases e2:rd T f .prods d p1 with
          | error e=>rw[e2] at h;cases h
          | ok r2 =>
            obtain⟨S2,p2⟩:=r2
            rw[e2] at h
            cases h
            have a2:p1≤p'∧p'≤T.length:=rd_le T f .prods d p1 S2 p' a1.2 e2
            obtain⟨q1,P1,M1,c1,k1⟩:=L.power d _ S1 p1 hlt e1 (atT T (nx T p))
            obtain⟨q2,P2,M2,c2,k2⟩:=L.prods d p1 S2 p' a1.2 e2 c1
            refine⟨_,_,_,_,cs_join (by split <;> simp) (fun P M=>?_) k1 k2 a0.1 (by lia) a2.1⟩
            rw[Fx_nx hp,Fx_cons (by lia) (by lia),pw_other (by lia)]
      · cases h
        exact⟨_,_,_,_,cs_nil hp⟩
end Rr

end
section
set_option linter.all false
set_option maxHeartbeats 2000000
namespace Rr
open Root
theorem ten_mono {k m:Nat} (h:k≤m):(10:Int)^k≤10^m:=by
  have:=Nat.pow_le_pow_right (show 0<10 by decide) h
  have:=Int.ofNat_le.mpr this
  push_cast at this
  exact this
theorem dg_small (most:Nat):∀ (l:List Int) (k:Nat) (n:Int) (p:Nat) (r:Int×Nat),dg most k n l p=.ok r→0≤n→n+1≤10^k→k≤most→0≤r.1∧r.1+1≤10^most
  | [],k,n,p,r,h,h0,h1,hk=>by
    unfold dg at h
    cases h
    have:=ten_mono hk
    exact⟨h0,by dsimp only;lia⟩
  | c::l,k,n,p,r,h,h0,h1,hk=>by
    unfold dg at h
    split at h
    · rename_i hd
      have hd:=dig_is hd
      split at h
      · cases h
      · exact dg_small most l (k+1) _ _ r h (by lia) (by rw[Int.pow_succ];lia) (by lia)
    · cases h
      have:=ten_mono hk
      exact⟨h0,by dsimp only;lia⟩
theorem rdg_small {T:List Int}{most p:Nat}{r:Int×Nat} (h:rdg T most p=.ok r):0≤r.1∧r.1+1≤10^most:=by
  unfold rdg at h
  split at h
  · exact dg_small most _ 0 0 _ r h (by decide) (by decide) (Nat.zero_le _)
  · cases h
def StOk (S:List Stp):Prop:=∀ s∈S,0≤s.2∧s.2<2^30∧(s.1=Wd.raise_→s.2≤99)
theorem StOk.app {S S':List Stp} (h:StOk S) (h':StOk S'):StOk (S++S'):=fun s hs=>(List.mem_append.mp hs).elim (h s) (h' s)
theorem StOk.nil:StOk []:=fun _ h=>nomatch h
theorem StOk.cons {s:Stp}{S:List Stp} (h:0≤s.2∧s.2<2^30∧(s.1=Wd.raise_→s.2≤99)) (h':StOk S):StOk (s::S):=fun t ht=>(List.mem_cons.mp ht).elim (fun e=>e ▸ h) (h' t)
theorem StOk.word {w:Wd}{S:List Stp} (hw:w≠Wd.raise_) (h':StOk S):StOk ((w,0)::S):=StOk.cons ⟨Int.le_refl 0,(by decide:(0:Int)<2^30),fun z=>absurd z hw⟩ h'
theorem rd_ok (T:List Int):∀ (f:Nat) (P:Pt) (d p:Nat) (S:List Stp) (p':Nat),rd T f P d p=.ok (S,p')→StOk S
  | 0,P,d,p,S,p',h=>by
    unfold rd at h
    cases h
  | f+1,.sum,d,p,S,p',h=>by
    unfold rd at h
    cases e1:rd T f .prod d p with
    | error e=>rw[e1] at h;cases h
    | ok r =>
      obtain⟨S1,p1⟩:=r
      rw[e1] at h
      dsimp only at h
      cases e2:rd T f .sums d p1 with
      | error e=>rw[e2] at h;cases h
      | ok r2 =>
        obtain⟨S2,p2⟩:=r2
        rw[e2] at h
        cases h
        exact (rd_ok T f _ _ _ _ _ e1).app (rd_ok T f _ _ _ _ _ e2)
  | f+1,.prod,d,p,S,p',h=>by
    unfold rd at h
    cases e1:rd T f .power d p with
    | error e=>rw[e1] at h;cases h
    | ok r =>
      obtain⟨S1,p1⟩:=r
      rw[e1] at h
      dsimp only at h
      cases e2:rd T f .prods d p1 with
      | error e=>rw[e2] at h;cases h
      | ok r2 =>
        obtain⟨S2,p2⟩:=r2
        rw[e2] at h
        cases h
        exact (rd_ok T f _ _ _ _ _ e1).app (rd_ok T f _ _ _ _ _ e2)
  | f+1,.sums,d,p,S,p',h=>by
    unfold rd at h
    split at h
    · cases e1:rd T f .prod d (nx T p+1) with
      | error e=>rw[e1] at h;cases h
      | ok r =>
        obtain⟨S1,p1⟩:=r
        rw[e1] at h
        dsimp only at h
        cases e2:rd T f .sums d p1 with
        | error e=>rw[e2] at h;cases h
        | ok r2 =>
          obtain⟨S2,p2⟩:=r2
          rw[e2] at h
          cases h
          refine (rd_ok T f _ _ _ _ _ e1).app (StOk.word ?_ (rd_ok T f _ _ _ _ _ e2))
          split <;> (intro z;cases z)
    · cases h
      exact StOk.nil
  | f+1,.prods,d,p,S,p',h=>by
    unfold rd at h
    split at h
    · cases e1:rd T f .power d (nx T p+1) with
      | error e=>rw[e1] at h;cases h
      | ok r =>
        obtain⟨S1,p1⟩:=r
        rw[e1] at h
        dsimp only at h
        cases e2:rd T f .prods d p1 with
        | error e=>rw[e2] at h;cases h
        | ok r2 =>
          obtain⟨S2,p2⟩:=r2
          rw[e2] at h
          cases h
          refine (rd_ok T f _ _ _ _ _ e1).app (StOk.word ?_ (rd_ok T f _ _ _ _ _ e2))
          split <;> (intro z;cases z)
    · cases h
      exact StOk.nil
  | f+1,.power,d,p,S,p',h=>by
    unfold rd at h
    cases e1:rd T f .atom d p with
    | error e=>rw[e1] at h;cases h
    | ok r =>
      obtain⟨S1,p1⟩:=r
      rw[e1] at h
      dsimp only at h
      have k1:=rd_ok T f _ _ _ _ _ e1
      split at h
      · cases e2:rdg T 2 (nx T p1+1) with
        | error e=>rw[e2] at h;cases h
        | ok r2 =>
          rw[e2] at h
          cases h
          have:=rdg_small e2
          refine k1.app (StOk.cons ⟨this.1,?_,fun _=>?_⟩ StOk.nil)
          · dsimp only
            lia
          · dsimp only
            lia
      · cases h
        exact k1
  | f+1,.atom,d,p,S,p',h=>by
    unfold rd at h
    split at h
    · cases h
      exact StOk.word (fun z=>nomatch z) StOk.nil
    · split at h
      · split at h
        · cases h
        · cases e1:rd T f .sum (d+1) (nx T p+1) with
          | error e=>rw[e1] at h;cases h
          | ok r =>
            obtain⟨S1,p1⟩:=r
            rw[e1] at h
            dsimp only at h
            split at h
            · cases h
              exact rd_ok T f _ _ _ _ _ e1
            · cases h
      · split at h
        · split at h
          · cases h
          · cases e1:rd T f .atom (d+1) (nx T p+1) with
            | error e=>rw[e1] at h;cases h
            | ok r =>
              obtain⟨S1,p1⟩:=r
              rw[e1] at h
              cases h
              exact (rd_ok T f _ _ _ _ _ e1).app (StOk.word (fun z=>nomatch z) StOk.nil)
        · cases e1:rdg T 9 p with
          | error e=>rw[e1] at h;cases h
          | ok r =>
            rw[e1] at h
            cases h
            have:=rdg_small e1
            refine StOk.cons ⟨this.1,?_,fun z=>nomatch z⟩ StOk.nil
            dsimp only
            lia
theorem cst_le:∀ (S:List Stp) (qs:List Nat) (Q:Nat),cst S qs=some [Q]→∀ q∈qs,q≤Q
  | [],qs,Q,h,q,hq=>by
    cases h
    rw[List.mem_singleton.mp hq]
    exact Nat.le_refl _
  | (.number,n)::S,qs,Q,h,q,hq=>cst_le S _ Q h q (List.mem_cons_of_mem _ hq)
  | (.x,n)::S,qs,Q,h,q,hq=>cst_le S _ Q h q (List.mem_cons_of_mem _ hq)
  | (.negate,_)::S,v::qs,Q,h,q,hq=>cst_le S (v::qs) Q h q hq
  | (.raise_,k)::S,v::qs,Q,h,q,hq=>by
    have h:cst S ((max k.toNat 1*v)::qs)=some [Q]:=h
    rcases List.mem_cons.mp hq with e | e
    · have:=cst_le S _ Q h _ List.mem_cons_self
      have h2:1*v≤max k.toNat 1*v:=Nat.mul_le_mul_right v (Nat.le_max_right _ _)
      lia
    · exact cst_le S _ Q h q (List.mem_cons_of_mem _ e)
  | (.add,_)::S,w::v::qs,Q,h,q,hq=>cst_le2 S w v qs Q (fun z=>cst_le S _ Q h z) q hq
  | (.subtract,_)::S,w::v::qs,Q,h,q,hq=>cst_le2 S w v qs Q (fun z=>cst_le S _ Q h z) q hq
  | (.multiply,_)::S,w::v::qs,Q,h,q,hq=>cst_le2 S w v qs Q (fun z=>cst_le S _ Q h z) q hq
  | (.divide,_)::S,w::v::qs,Q,h,q,hq=>cst_le2 S w v qs Q (fun z=>cst_le S _ Q h z) q hq
where
  cst_le2 (S:List Stp) (w v:Nat) (qs:List Nat) (Q:Nat) (h:∀ q∈(v+w+3)::qs,q≤Q) (q:Nat) (hq:q∈w::v::qs):q≤Q:=by
    have:=h _ List.mem_cons_self
    rcases List.mem_cons.mp hq with e | e
    · lia
    · rcases List.mem_cons.mp e with e | e
      · lia
      · exact h q (List.mem_cons_of_mem _ e)
theorem Fx_end {T:List Int}{p:Nat} (hp:p≤T.length) (h:atT T (nx T p)=256) (hb:Byt T):Fx T p=[]:=by
  rw[Fx_nx hp]
  have:=ahead_end h hb
  unfold Fx
  rw[List.drop_eq_nil_of_le this]
  rfl
theorem rdAll_cost {T:List Int}{S:List Stp} (hb:Byt T) (hl:T.length≤512) (hm:RootNeutral.modest T=true) (h:rdAll T=.ok S):StOk S∧∃ Q,cst S []=some [Q]∧Q≤3588000:=by
  unfold rdAll at h
  cases e1:rd T (6*T.length+12) .sum 0 0 with
  | error e=>rw[e1] at h;cases h
  | ok r =>
    obtain⟨S1,p⟩:=r
    rw[e1] at h
    dsimp only at h
    split at h
    · rename_i h256
      cases h
      refine⟨rd_ok T _ _ _ _ _ _ e1,?_⟩
      have a1:0<p∧p≤T.length:=rd_le T _ .sum 0 0 S p (Nat.zero_le _) e1
      obtain⟨q,Pw,Mx,c1,k1,k2,k3,k4,k5,k6⟩:=(costs hb _).sum 0 0 S p (Nat.zero_le _) e1 0
      have k1:=k1 [] []
      rw[List.append_nil] at k1
      refine⟨q,k1,?_⟩
      have k6:=k6 1 1 (Nat.le_refl _)
      rw[Fx_end a1.2 h256 hb] at k6
      have k6:RootNeutral.powers 1 1 0 (Fx T 0)=(1*Pw,max 1 Mx):=k6
      have hm2:Pw*Mx≤1000:=by
        unfold RootNeutral.modest at hm
        have e0:Fx T 0=T.filter fun (z:Int)=>z != 32:=rfl
        rw[←e0,k6] at hm
        have hm:=of_decide_eq_true hm
        dsimp only at hm
        rw[Nat.one_mul,Nat.max_eq_right k3] at hm
        exact hm
      have h1:(7*(p-0)+4)*(Pw*Mx)≤3588*1000:=Nat.mul_le_mul (by lia) hm2
      lia
    · cases h
structure Elm (c:List Int) (v:Num) (q:Nat) (A:List Int) (p:Int):Prop where
  len:A.length=c.length
  pos:0<p
  val:dv p A=v
  wa:wn A≤2^(16*q)
  wp:p.natAbs≤2^(16*q)
  meas:Meas c v q
  one:1≤q
end Rr

end
section
set_option linter.all false
set_option maxHeartbeats 2000000
namespace Rr
open Root
section
variable {c:List Int}
theorem pow16 {a b:Nat} (h:a≤b):(2:Nat)^a≤2^b:=Nat.pow_le_pow_right (by decide) h
theorem nq_pow (n:Nat):n≤2^nq n:=by
  unfold nq
  exact Nat.le_of_lt Nat.lt_log2_self
theorem dv_num (hc:refusal c=0) {n:Int} (h:0≤n):dv 1 (n::List.replicate (c.length-1) 0)=scaled (n.toNat:Rat) (oneIn c.length):=by
  obtain⟨f1,f2,f3⟩:=ok_field hc
  refine Cg.unique (c:=c) (by rw[dv_length,List.length_cons,List.length_replicate];lia) (by rw[scaled_length,oneIn_length]) (Cg.of_eq fun x=>?_)
  have e:=rI_at (show (0:Int)<1 by decide) (n::List.replicate (c.length-1) 0) x
  rw[Rat.intCast_one,Rat.one_mul] at e
  rw[←e,scaled_at,oneIn_at f1]
  have e2:polyAt (rI (n::List.replicate (c.length-1) 0)) x=pI (n::List.replicate (c.length-1) 0) x:=rfl
  rw[e2,pI_cons,pI_zeros]
  have e3:((n.toNat:Nat):Rat)=(n:Rat):=by
    have:((n.toNat:Nat):Int)=n:=Int.toNat_of_nonneg h
    conv=>rhs;rw[←this]
    rw[Rat.intCast_natCast]
  rw[e3]
  grind
theorem wn_num (n:Int) (m:Nat):wn (n::List.replicate m 0)=n.natAbs:=by
  show n.natAbs+1001*wn (List.replicate m 0)=_
  rw[wn_zeros]
  rfl
theorem Elm.num (hc:refusal c=0) {n:Int} (h:0≤n):Elm c (scaled (n.toNat:Rat) (oneIn c.length)) (nq n.toNat) (n::List.replicate (c.length-1) 0) 1:=by
  obtain⟨f1,f2,f3⟩:=ok_field hc
  have h1:=nq_pow n.toNat
  have h2:(2:Nat)^nq n.toNat≤2^(16*nq n.toNat):=pow16 (by lia)
  refine⟨by rw[List.length_cons,List.length_replicate];lia,by decide,dv_num hc h,?_,Nat.two_pow_pos _,Meas.num hc h1,by unfold nq;lia⟩
  rw[wn_num]
  lia
theorem Elm.x (hc:refusal c=0) {P R:List Int} (hR:R.length=c.length) (hP:∀ x,pI P x=x) (h:Cg c (pI P) (pI R)):Elm c (timesX c (oneIn c.length)) 10 R 1:=by
  obtain⟨f1,f2,f3⟩:=ok_field hc
  have hl:(1::List.replicate (c.length-1) (0:Int)).length=c.length:=by rw[List.length_cons,List.length_replicate];lia
  have e1:∀ x,pI (1::List.replicate (c.length-1) 0) x=1:=fun x=>by
    rw[pI_cons,pI_zeros,Rat.intCast_one]
    grind
  have hx:Cg c (fun x=>x*pI (1::List.replicate (c.length-1) 0) x) (pI R):=Cg.trans (Cg.of_eq fun x=>by rw[e1,hP];grind) h
  have eR:=xI_is f1 hl hR hx
  have hw:=wn_xI f3 f1 hl
  rw[wn_num,←eR] at hw
  refine⟨hR,by decide,?_,Nat.le_trans hw (by decide),Nat.two_pow_pos _,Meas.x hc,by decide⟩
  refine Cg.unique (c:=c) (by rw[dv_length,hR]) (timesX_length _ _) ?_
  have e2:∀ x,polyAt (dv 1 R) x=pI R x:=fun x=>by
    have e:=rI_at (show (0:Int)<1 by decide) R x
    rw[Rat.intCast_one,Rat.one_mul] at e
    exact e.symm
  refine (Cg.of_eq e2).trans (h.symm.trans ?_)
  refine⟨[(oneIn c.length).getLastD 0],fun x=>?_⟩
  rw[hP,timesX_at f1 (oneIn_length _),oneIn_at f1]
  have:polyAt [(oneIn c.length).getLastD 0] x=(oneIn c.length).getLastD 0:=by
    rw[polyAt_cons,polyAt_nil]
    grind
  rw[this]
  grind
theorem wn_neg (A:List Int):wn (A.map fun (z:Int)=>-z)=wn A:=by
  have e:(A.map fun (z:Int)=>-z)=A.map fun (z:Int)=>(-1)*z:=List.map_congr_left fun z _=>by lia
  rw[e,wn_smul]
  exact Nat.one_mul _
theorem Elm.neg {v:Num}{q:Nat}{A:List Int}{p:Int} (h:Elm c v q A p):Elm c (scaled (-1) v) q (A.map fun (z:Int)=>-z) p :=
  ⟨by rw[List.length_map];exact h.len,h.pos,by rw[dv_neg,h.val],by rw[wn_neg];exact h.wa,h.wp,h.meas.neg,h.one⟩
theorem wn_lin (p q:Int):∀ A B:List Int,wn (List.zipWith (fun (m n:Int)=>m*q+n*p) A B)≤q.natAbs*wn A+p.natAbs*wn B
  | [],_=>by rw[List.zipWith_nil_left];exact Nat.zero_le _
  | _::_,[]=>by rw[List.zipWith_nil_right];exact Nat.zero_le _
  | a::A,b::B=>by
    have ih:=wn_lin p q A B
    show (a*q+b*p).natAbs+1001*wn (List.zipWith (fun (m n:Int)=>m*q+n*p) A B)≤q.natAbs*(a.natAbs+1001*wn A)+p.natAbs*(b.natAbs+1001*wn B)
    have h1:(a*q+b*p).natAbs≤a.natAbs*q.natAbs+b.natAbs*p.natAbs:=by
      rw[←Int.natAbs_mul,←Int.natAbs_mul]
      exact Int.natAbs_add_le _ _
    rw[Nat.mul_add,Nat.mul_add,Nat.mul_comm q.natAbs a.natAbs,Nat.mul_comm p.natAbs b.natAbs]
    have e1:q.natAbs*(1001*wn A)=1001*(q.natAbs*wn A):=Nat.mul_left_comm _ _ _
    have e2:p.natAbs*(1001*wn B)=1001*(p.natAbs*wn B):=Nat.mul_left_comm _ _ _
    rw[e1,e2]
    lia
theorem Elm.add (hc:refusal c=0) {v w:Num}{a b:Nat}{A B:List Int}{p q:Int} (h:Elm c v a A p) (k:Elm c w b B q):Elm c (Root.plus v w) (a+b+3) (List.zipWith (fun (m n:Int)=>m*q+n*p) A B) (p*q):=by
  refine⟨by rw[List.length_zipWith,h.len,k.len,Nat.min_self],Int.mul_pos h.pos k.pos,by rw[←plus_dv h.pos k.pos,h.val,k.val],?_,?_,(h.meas.add hc k.meas).mono (by lia),by lia⟩
  · have h1:=wn_lin p q A B
    have h2:=Nat.mul_le_mul k.wp h.wa
    have h3:=Nat.mul_le_mul h.wp k.wa
    rw[←Nat.pow_add] at h2 h3
    have h4:2^(16*b+16*a)*2≤2^(16*(a+b+3)):=by
      rw[←Nat.pow_succ]
      exact pow16 (by lia)
    rw[Nat.add_comm (16*a)] at h3
    lia
  · rw[Int.natAbs_mul]
    have h3:=Nat.mul_le_mul h.wp k.wp
    rw[←Nat.pow_add] at h3
    exact Nat.le_trans h3 (pow16 (by lia))
theorem minus_neg:∀ {v w:Num},v.length=w.length→Root.minus v w=Root.plus v (scaled (-1) w)
  | [],[],_=>rfl
  | a::v,b::w,h=>by
    have h0:scaled (-1) (b::w)=((-1:Rat)*b)::scaled (-1) w:=rfl
    rw[minus_cons,h0,plus_cons,minus_neg (by simpa using h)]
    congr 1
    grind
theorem Elm.sub (hc:refusal c=0) {v w:Num}{a b:Nat}{A B:List Int}{p q:Int} (h:Elm c v a A p) (k:Elm c w b B q):Elm c (Root.minus v w) (a+b+3) (List.zipWith (fun (m n:Int)=>m*q+n*p) A (B.map fun (z:Int)=>-z)) (p*q):=by
  rw[minus_neg (h.meas.len.trans k.meas.len.symm)]
  exact h.add hc k.neg
theorem wn_prod (hc:refusal c=0) {A B R:List Int}{u v:Nat} (hA:A.length=c.length) (hR:R.length=c.length) (h1:wn A≤2^u) (h2:wn B≤2^v) (hcg:Cg c (fun x=>pI A x*pI B x) (pI R)):wn R≤2^(u+v):=by
  obtain⟨f1,f2,f3⟩:=ok_field hc
  rw[mulI_is f1 hA hR hcg,Nat.pow_add]
  exact Nat.le_trans (wn_mulI f3 f1 B A hA) (Nat.mul_le_mul h1 h2)
theorem Elm.mul (hc:refusal c=0) {v w:Num}{a b:Nat}{A B R:List Int}{p q:Int} (h:Elm c v a A p) (k:Elm c w b B q) (hR:R.length=c.length) (hcg:Cg c (fun x=>pI A x*pI B x) (pI R)):Elm c (Root.times c v w) (a+b+3) R (p*q):=by
  obtain⟨f1,f2,f3⟩:=ok_field hc
  refine⟨hR,Int.mul_pos h.pos k.pos,?_,?_,?_,(h.meas.mul hc k.meas).mono (by lia),by lia⟩
  · rw[←times_dv f1 h.pos k.pos h.len k.len hR hcg,h.val,k.val]
  · exact Nat.le_trans (wn_prod hc h.len hR h.wa k.wa hcg) (pow16 (by lia))
  · rw[Int.natAbs_mul]
    have h3:=Nat.mul_le_mul h.wp k.wp
    rw[←Nat.pow_add] at h3
    exact Nat.le_trans h3 (pow16 (by lia))
theorem Elm.less (hc:refusal c=0) {v:Num}{q:Nat}{A:List Int}{p:Int} (h:Elm c v q A p):∃ (B:List Int) (r:Int),lessRow (A++[p])=B++[r]∧B.length=c.length∧0<r∧dv r B=v∧wn B≤2^(4*q+7)∧r.natAbs≤2^(4*q+7):=by
  have hm:=h.meas
  rw[←h.val] at hm
  obtain⟨B,r,h1,h2,h3,h4,h5,h6⟩:=Meas.less hc h.pos h.len hm
  exact⟨B,r,h1,h2,h3,h4.trans h.val,h5,h6⟩
theorem inv_size {B G:List Int}{r D:Int}{u d:Nat} (hd:d≤4) (hw:wn B≤2^u) (hr:r.natAbs≤2^u) (hG:wn G≤r.natAbs*(5^(d-1)*wn B^(d-1))) (hD:D.natAbs≤wn B*(5^(d-1)*wn B^(d-1))):wn G≤2^(4*u+7)∧D.natAbs≤2^(4*u+7):=by
  have h1:5^(d-1)≤2^7:=Nat.le_trans (Nat.pow_le_pow_right (by decide) (show d-1≤3 by lia)) (by decide)
  have h2:wn B^(d-1)≤2^(3*u):=by
    refine Nat.le_trans (Nat.pow_le_pow_left hw _) ?_
    rw[←Nat.pow_mul]
    refine pow16 ?_
    rw[Nat.mul_comm]
    exact Nat.mul_le_mul_right _ (by lia)
  have h3:=Nat.mul_le_mul h1 h2
  have h4:=Nat.mul_le_mul hr h3
  have h5:=Nat.mul_le_mul hw h3
  rw[←Nat.pow_add,←Nat.pow_add,show u+(7+3*u)=4*u+7 by lia] at h4 h5
  exact⟨Nat.le_trans hG h4,Nat.le_trans hD h5⟩
theorem Elm.div (hc:refusal c=0) {v w:Num}{a b:Nat}{A G R:List Int}{p D:Int} (h:Elm c v a A p) (k:Meas c w b) (h0:isZero w=false) (hD:0<D) (hG:G.length=c.length) (hv:dv D G=inverse c w) (w1:wn G≤2^(4*(4*b+7)+7)) (w2:D.natAbs≤2^(4*(4*b+7)+7)) (hR:R.length=c.length) (hcg:Cg c (fun x=>pI A x*pI G x) (pI R)):Elm c (Root.over c v w) (a+b+3) R (p*D):=by
  obtain⟨f1,f2,f3⟩:=ok_field hc
  refine⟨hR,Int.mul_pos h.pos hD,?_,?_,?_,(h.meas.div hc k h0).mono (by lia),by lia⟩
  · show dv (p*D) R=Root.times c v (inverse c w)
    rw[←times_dv f1 h.pos hD h.len hG hR hcg,h.val,hv]
  · exact Nat.le_trans (wn_prod hc h.len hR h.wa w1 hcg) (pow16 (by lia))
  · rw[Int.natAbs_mul]
    have h3:=Nat.mul_le_mul h.wp w2
    rw[←Nat.pow_add] at h3
    exact Nat.le_trans h3 (pow16 (by lia))
theorem Elm.pow (hc:refusal c=0) {v:Num}{q u k:Nat}{R:List Int}{r:Int} (h:Meas c v q) (h1:1≤q) (hu:k*u≤k*(16*q)) (hR:R.length=c.length) (hr:0<r) (hv:dv r R=Root.power c v k) (w1:wn R≤2^(k*u)) (w2:r.natAbs≤2^(k*u)):Elm c (Root.power c v k) (max k 1*q) R r:=by
  have e1:k*q≤max k 1*q:=Nat.mul_le_mul_right q (Nat.le_max_left _ _)
  have e2:1*q≤max k 1*q:=Nat.mul_le_mul_right q (Nat.le_max_right _ _)
  have e3:k*(16*q)=16*(k*q):=Nat.mul_left_comm _ _ _
  have e4:(2:Nat)^(k*u)≤2^(16*(max k 1*q)):=pow16 (by lia)
  exact⟨hR,hr,hv,Nat.le_trans w1 e4,Nat.le_trans w2 e4,(h.pow hc k).mono e1,by lia⟩
end
end Rr

end
section
set_option linter.all false
set_option maxHeartbeats 2000000
namespace Rr
open Root
theorem read_is {c T:List Int} (hb:Byt T):PyWqaqaw.read c T=if refusal c=0 then (if 512<T.length then [-3] else match rdAll T with
    | .error p=>[-6,(p:Int)]
    | .ok S=>match valS c S [] with
      | none=>[-5]
      | some π=>0::oneForm (π.headD [])) else [refusal c]:=by
  show told_ (ofField c fun (_:Unit)=>if LONG<(RootNeutral.text T).length then says (-3) else match readText c (RootNeutral.text T) with
    | .error p=>⟨-6,[(p:Int)]⟩
    | .ok none=>says (-5)
    | .ok (some x)=>toldNum x)=_
  rw[ofField_is]
  by_cases h:refusal c=0
  · rw[if_pos h,if_pos h]
    have hl:(RootNeutral.text T).length=T.length:=by unfold RootNeutral.text;rw[List.length_map]
    by_cases h1:512<T.length
    · rw[if_pos h1,if_pos (show LONG<(RootNeutral.text T).length from by rw[hl];exact h1)]
      rfl
    · rw[if_neg h1,if_neg (show ¬ LONG<(RootNeutral.text T).length from by rw[hl];exact h1)]
      have e:=readText_is (c:=c) hb
      cases e1:rdAll T with
      | error p =>
        rw[e1] at e
        have e:readText c (RootNeutral.text T)=.error p:=e
        rw[e]
        rfl
      | ok S =>
        rw[e1] at e
        have e:=e
        obtain⟨e2,e3⟩:=e
        rw[e2]
        dsimp only
        cases e4:valS c S [] with
        | none=>rfl
        | some π =>
          obtain⟨w,rfl⟩:=e3 π e4
          rfl
  · rw[if_neg h,if_neg h]
    rfl
theorem asked_modest {c T:List Int} (h:PyWqaqaw.read_asked c T=true):RootNeutral.modest T=true:=by
  have h:(true && (true && ((c.all RootNeutral.long && (T.all (fun (z:Int)=>RootNeutral.natural z 8) && RootNeutral.modest T)) && true)))=true:=h
  simp only[Bool.and_eq_true] at h
  exact h.2.2.1.2.2
end Rr

end
set_option Elab.async false
set_option linter.all false
set_option maxRecDepth 100000
set_option maxHeartbeats 4000000
namespace Rr
open PySem PySem.Spec PyProof.Rows L2
open PySem.W (Codec)
def IL (K:PySem.W.Frag) (H:Hp) (v:V) (l:List Int):Prop:=∃ a,v=.ref a∧SqL K H a (l.map V.int)
def OL (H:Hp) (v:V) (l:List Int):Prop:=∃ a,v=.ref a∧H a=some (.lst (l.map V.int))
theorem OL.il {K:PySem.W.Frag}{H:Hp}{v:V}{l:List Int} (h:OL H v l):IL K H v l:=let ⟨a,e,q⟩:=h;⟨a,e,SqL.of q⟩
theorem same_upd {H:Hp}{p:Addr}{o:HO} (h:H p=none):Same H (upd H p o):=fun b u e=>by
  rw[upd_ne (ne_of_none e h)]
  exact e
theorem same_upd2 {H H':Hp}{p:Addr}{o:HO} (s:Same H H') (h:H p=none):Same H (upd H' p o):=fun b u e=>by
  rw[upd_ne (ne_of_none e h)]
  exact s b u e
theorem args1 {α:Type}{us:List α} (h:us.length=1):∃ a,us=[a]:=match us,h with | [a],_=>⟨a,rfl⟩
theorem args2 {α:Type}{us:List α} (h:us.length=2):∃ a b,us=[a,b]:=match us,h with | [a,b],_=>⟨a,b,rfl⟩
theorem args3 {α:Type}{us:List α} (h:us.length=3):∃ a b c,us=[a,b,c]:=match us,h with | [a,b,c],_=>⟨a,b,c,rfl⟩
theorem args4 {α:Type}{us:List α} (h:us.length=4):∃ a b c d,us=[a,b,c,d]:=match us,h with | [a,b,c,d],_=>⟨a,b,c,d,rfl⟩
structure Cal (P:Program) (w:World) (K:PySem.W.Frag) (mg:Str→Option Value) (base:Heap) (k:Nat) (x:Str) (ps:List Str) (sp:Sp):Prop where
  ex:∃ (f:Addr) (fd:FuncData),FnOk P w K mg base CX0 k f fd ps sp∧mg x=some (.ref f)∧PySem.W.keepIn K (.ref f)=true∧Binds K fd ps []
theorem pe_cal {X:Cx}{k:Nat}{x:Str}{ps:List Str}{sp:Sp}{e:Expr}{es:List Expr}{t:TA}{p pos:Pos} (C:Cal X.prog X.w X.K X.mg X.base k x ps sp) (hr:Room k X.A) (hg:Gl X x) (ha:PA X (e::es) t)
    (hdb:(x == ("__debug__":Str))=false:=by decide) (he:starEach (e::es) X.env=(false,eval e X.env)::starEach es X.env:=by rfl) (hpl:(backTo pos (starEach es X.env)).any (·.1)=false:=by rfl) :
    PE X (.Call (.Name x p) (e::es) [] pos) (tCall sp [] E0 t):=by
  obtain⟨f,fd,F,hm,hk,hb⟩:=C.ex
  exact pe_call F hr hg hm hk hb .nil pass0 ha hdb he hpl
theorem op_fdivW {X:Cx}:OpR X (binaryOp .FloorDiv) (L2.rI (fun _ j=>0<j∧j.natAbs.log2<9000) fun i j=>.int (i / j)):=opI fun i j _ _ _ _ _ hc q=>by
  have h1:(0:Int)<j:=hc.1
  exact floordiv_int (by lia) (by rw[Int.fdiv_eq_ediv_of_nonneg i (by lia)];exact q) (.inl (PyProof.noPylong_of_log2 hc.2))
theorem op_mulW {X:Cx}:OpR X (binaryOp .Mult) (L2.rI IntMulOk fun i j=>.int (i*j)):=opI fun _ _ _ _ _ _ _ hc q=>mul_int q hc
theorem op_shlW {X:Cx}:OpR X (binaryOp .LShift) (L2.rI (fun i j=>0≤j∧(Builtin.Int.intBits i:Int)+j≤2^27) fun i j=>.int (i*2^j.toNat)):=opI fun _ _ _ _ _ _ _ hc q=>lshift_int hc.1 hc.2 q
theorem abs_is (i:Int):(if i<0 then -i else i)=(i.natAbs:Int):=by split <;> lia
structure Own (mg:Str→Option Value):Prop where
  abs_:mg "abs"=none
  len_:mg "len"=none
  all_:mg "all"=none
  any_:mg "any"=none
  list_:mg "list"=none
  reversed_:mg "reversed"=none
  range_:mg "range"=none
  max_:mg "max"=none
  min_:mg "min"=none
  zip_:mg "zip"=none
  ord_:mg "ord"=none
  str_:mg "str"=none
theorem bt_abs:bootBuiltins "abs"=some (.builtin "abs"):=by decide +kernel
theorem bt_len:bootBuiltins "len"=some (.builtin "len"):=by decide +kernel
theorem bt_all:bootBuiltins "all"=some (.builtin "all"):=by decide +kernel
theorem bt_any:bootBuiltins "any"=some (.builtin "any"):=by decide +kernel
theorem bt_max:bootBuiltins "max"=some (.builtin "max"):=by decide +kernel
theorem bt_min:bootBuiltins "min"=some (.builtin "min"):=by decide +kernel
theorem bt_list:bootBuiltins "list"=some (.type "list"):=by decide +kernel
def Kst (mg:Str→Option Value) (x:Str) (v:Int):Prop:=∃ t:Tok,mg x=some (.int v t)
theorem pe_globK {X:Cx}{x:Str}{v:Int}{pos:Pos} (hg:Gl X x) (c:Kst X.mg x v) (hd:(x == ("__debug__":Str))=false:=by decide):PE X (.Name x pos) (tC (.int v)):=by
  obtain⟨t,e⟩:=c
  exact pe_glob (v:=.int v) hg e ⟨_,rfl⟩ hd
def tBits (to:TE):TE:=fun σ H Q=>to σ H fun x H1=>∃ a,x=.int a∧Q (.int (Builtin.Int.intBits a)) H1
theorem pe_bits {X:Cx}{o:Expr}{to:TE}{apos pos:Pos} (ho:PE X o to) (hbase:attributeBase o "bit_length" X.env (eval o X.env)=eval o X.env:=by rfl) (hline:(apos.endLine == pos.line)=true:=by rfl) :
    PE X (.Call (.Attribute o "bit_length" apos) [] [] pos) (tBits to):=by
  intro pins s σ H Q I h
  refine PySem.Call_method0 hbase hline (thn (ho pins s σ H _ I h) fun v s1 ⟨x,H1,I1,r1,q1⟩=>?_)
  obtain⟨a,rfl,q1⟩:=q1
  obtain⟨t,rfl⟩:=_root_.id r1
  exact⟨"int",_,F.plainAttrs_int,F.slot_int_bit_length,F.type_int_bit_length,typeIs_int _ _ _,(fun _ e=>nomatch e),Calls.callWith_builtin rfl (PySem.evalArgs_none (call_int_bit_length ⟨.int _,H1,I1.tok _,⟨_,rfl⟩,q1⟩))⟩
theorem int_eq {x y:Int} (h:decide (V.int x=V.int y)=true):x=y:=V.int.inj (of_decide_eq_true h)
theorem int_ne {x y:Int} (h:¬ decide (V.int x=V.int y)=true):x≠y:=fun e=>h (decide_eq_true (by rw[e]))
theorem dec_int (x y:Int):decide (V.int x=V.int y)=decide (x=y):=by
  by_cases h:x=y
  · rw[h];simp
  · have:¬ V.int x=V.int y:=fun e=>h (V.int.inj e)
    rw[decide_eq_false h,decide_eq_false this]
theorem nq_ne {x y:Int} (h:(!decide (V.int x=V.int y))=true):x≠y:=fun e=>by
  rw[e,decide_eq_true rfl] at h
  cases h
theorem nq_eq {x y:Int} (h:¬ (!decide (V.int x=V.int y))=true):x=y:=by
  false_or_by_contra
  rename_i e
  exact h (by rw[decide_eq_false (fun z=>e (V.int.inj z))];rfl)
theorem call_lenK {X:Cx}{K:PySem.W.Frag} (h:X.K=K):CallR X (.builtin "len") (fun xs H Q=>∃ p ys,xs=[.ref p]∧(SqL K H p ys∨SqT K H p ys)∧Q (.int ys.length) H):=by
  subst h
  exact call_len_seq
theorem ix_listK {X:Cx}{K:PySem.W.Frag} (h:X.K=K):IxR X (rIxL K):=by
  subst h
  exact ix_list
theorem sl_listK {X:Cx}{K:PySem.W.Frag} (h:X.K=K):SlR X (rSlL K):=by
  subst h
  exact sl_list
theorem cr_allK {X:Cx}{K:PySem.W.Frag} (h:X.K=K) (hc:X.calm=true):CallR X (.builtin "all") (rAll K):=by
  subst h
  exact cr_all hc
theorem cr_anyK {X:Cx}{K:PySem.W.Frag} (h:X.K=K) (hc:X.calm=true):CallR X (.builtin "any") (rAny K):=by
  subst h
  exact cr_any hc
theorem call_list_ofK {X:Cx}{K:PySem.W.Frag} (h:X.K=K):CallR X (.type "list") (fun xs H Q=>∃ p ys,xs=[.ref p]∧(SqL K H p ys∨SqT K H p ys)∧∀ l,H l=none→Q (.ref l) (upd H l (.lst ys))):=by
  subst h
  exact call_list_of
theorem pg_tupK {X:Cx}{K:PySem.W.Frag}{es:List Expr}{k:Nat}{t:TGs}{n:Nat}{pos:Pos} (hK:X.K=K) (hc:X.calm=true) (h:PGs X es t)
    (hn:(assignEach es X.env).length=n:=by rfl) (hst:(assignEach es X.env).findIdx? (·.1)=none:=by rfl):PG X (.Tuple es k pos) (gTup K n t):=by
  subst hK
  exact pg_tup hc h hn hst
def top (i:Nat):Stmt:=PySem.Challenge.pw_rootrows_s09_read.main.body.getD i (.Pass ⟨0,0,0,0⟩)
def inCls (s:Stmt) (k:Nat):Stmt:=match s with | .ClassDef _ _ _ body _ _ _ _ _ _ _=>body.getD k (.Pass ⟨0,0,0,0⟩) | _=>.Pass ⟨0,0,0,0⟩
abbrev s_without_divisor:Stmt:=top 3
abbrev s_common_divisor:Stmt:=top 4
abbrev s_halved:Stmt:=top 5
abbrev s_divided:Stmt:=top 6
abbrev s_shortened:Stmt:=top 7
abbrev s_carried_over:Stmt:=top 8
abbrev s_one_form:Stmt:=top 10
abbrev s_whole_row:Stmt:=top 11
abbrev s_root_row:Stmt:=top 12
abbrev s_is_zero:Stmt:=top 13
abbrev s_added:Stmt:=top 14
abbrev s_negated:Stmt:=top 15
abbrev s_multiplied:Stmt:=top 16
abbrev s_raised:Stmt:=top 17
abbrev s_inverse_of:Stmt:=top 18
abbrev s_cofactor_of:Stmt:=top 19
abbrev s_trace_of:Stmt:=top 20
abbrev s_product_of:Stmt:=top 21
abbrev s_remainder_of:Stmt:=top 22
abbrev s_Fault___init__:Stmt:=inCls (top 39) 0
abbrev s_Reader___init__:Stmt:=inCls (top 40) 0
abbrev s_Reader_read_text:Stmt:=inCls (top 40) 1
abbrev s_Reader_read_sum:Stmt:=inCls (top 40) 2
abbrev s_Reader_read_product:Stmt:=inCls (top 40) 3
abbrev s_Reader_read_power:Stmt:=inCls (top 40) 4
abbrev s_Reader_read_atom:Stmt:=inCls (top 40) 5
abbrev s_Reader_go_deeper:Stmt:=inCls (top 40) 6
abbrev s_Reader_read_digits:Stmt:=inCls (top 40) 7
abbrev s_Reader_ahead:Stmt:=inCls (top 40) 8
abbrev s_is_digit:Stmt:=top 41
abbrev s_steps_of:Stmt:=top 42
abbrev s_row_after:Stmt:=top 43
abbrev s_power_of:Stmt:=top 44
abbrev s_joined:Stmt:=top 45
abbrev s_field_refusal:Stmt:=top 49
abbrev s_is_told_rightly:Stmt:=top 50
abbrev s_is_product:Stmt:=top 51
abbrev s_has_whole_root:Stmt:=top 52
abbrev s_is_product_of_quadratics:Stmt:=top 53
abbrev s_polynomial_of:Stmt:=top 54
abbrev s_value_at:Stmt:=top 55
abbrev s_divisors_of:Stmt:=top 56
abbrev s_square_root_floor:Stmt:=top 57
abbrev s_read:Stmt:=top 60
theorem take_snoc' {α:Type}{l:List α}{i:Nat}{x:α} (h:l[i]?=some x):l.take (i+1)=l.take i++[x]:=by
  rw[List.take_add_one,h]
  rfl
theorem lc_any {α:Type} (emb:α→V) {K:PySem.W.Frag}{a:Addr}{ns:List α}{j:Nat}{tt:TT}{te:TE}{vs:List Nat}{σ:L2.St}{H1:Hp}{D:Addr}{Q:Hp→Prop} (p:α→Bool) (g:α→V)
    (ha:SqL K H1 a (ns.map emb)) (hn:ns.length<sizeLine) (hD:H1 D=none) (hw:∀ z:α,wipe ((wipe σ vs).set j (some (emb z))) vs=wipe σ vs)
    (step:∀ z∈ns,∀ (H:Hp) (Rv:V→Hp→Prop) (R:Hp→Prop),Same H1 H→(∀ H',Same H H'→if p z=true then Rv (g z) H' else R H') →
      tt ((wipe σ vs).set j (some (emb z))) H fun b H3=>if b=true then te ((wipe σ vs).set j (some (emb z))) H3 Rv else R H3)
    (fin:∀ H',Same H1 H'→H' D=some (.lst ((ns.filter p).map g))→Q H') :
    ∃ W:Nat→Nat→Hp→Prop,(∃ m,W 0 m (upd H1 D (.lst [])))∧∀ i m H,W i m H →
      ((Itl K a).stop i H∧Q H)∨((Itl K a).go i H∧∃ Nx:Hp→Prop,(∀ H',Nx H'→∃ m',m'<m∧W (i+1) m' H')∧∀ x H',(Itl K a).yld i H x H'→gName j x (wipe σ vs) H' fun σ2 H2=>wipe σ2 vs=wipe σ vs∧tt σ2 H2 fun b H3 =>
        if b=true then te σ2 H3 fun y H4=>∃ acc,H4 D=some (.lst acc)∧acc.length<sizeLine∧Nx (upd H4 D (.lst (acc++[y]))) else Nx H3):=by
  refine lc_list (K:=K) (a:=a) (xs:=ns.map emb) (fun i H=>Same H1 H∧H D=some (.lst (((ns.take i).filter p).map g))) ⟨same_upd hD,upd_same⟩ (fun i H _ h=>h.1.seq ha) (fun i x H hx h=>?_) (fun H h=>?_)
  · obtain⟨s,e⟩:=h
    rw[List.getElem?_map] at hx
    obtain⟨z,hz,rfl⟩:=Option.map_eq_some_iff.mp hx
    refine⟨hw z,step z (List.mem_of_getElem? hz) H _ _ s fun H' s'=>?_⟩
    have e':=s' _ _ e
    have ht:(ns.take (i+1)).filter p=(ns.take i).filter p++[z].filter p:=by rw[take_snoc' hz,List.filter_append]
    by_cases hp:p z=true
    · rw[if_pos hp]
      have hp1:[z].filter p=[z]:=by rw[List.filter_cons,if_pos hp,List.filter_nil]
      refine⟨_,e',?_,same_upd2 (s.trans s') hD,?_⟩
      · rw[List.length_map]
        exact Nat.lt_of_le_of_lt (Nat.le_trans (List.length_filter_le _ _) (by rw[List.length_take];exact Nat.min_le_right _ _)) hn
      · rw[upd_same,ht,hp1,List.map_append]
        rfl
    · rw[if_neg hp]
      have hp1:[z].filter p=[]:=by rw[List.filter_cons,if_neg hp,List.filter_nil]
      refine⟨s.trans s',?_⟩
      rw[ht,hp1,List.append_nil]
      exact e'
  · obtain⟨s,e⟩:=h
    rw[List.length_map,List.take_length] at e
    exact fin H s e
theorem lc_ints {K:PySem.W.Frag}{a:Addr}{ns:List Int}{j:Nat}{tt:TT}{te:TE}{vs:List Nat}{σ:L2.St}{H1:Hp}{D:Addr}{Q:Hp→Prop} (p:Int→Bool) (g:Int→V)
    (ha:SqL K H1 a (ns.map V.int)) (hn:ns.length<sizeLine) (hD:H1 D=none) (hw:∀ z:Int,wipe ((wipe σ vs).set j (some (.int z))) vs=wipe σ vs)
    (step:∀ z∈ns,∀ (H:Hp) (Rv:V→Hp→Prop) (R:Hp→Prop),Same H1 H→(∀ H',Same H H'→if p z=true then Rv (g z) H' else R H') →
      tt ((wipe σ vs).set j (some (.int z))) H fun b H3=>if b=true then te ((wipe σ vs).set j (some (.int z))) H3 Rv else R H3)
    (fin:∀ H',Same H1 H'→H' D=some (.lst ((ns.filter p).map g))→Q H') :
    ∃ W:Nat→Nat→Hp→Prop,(∃ m,W 0 m (upd H1 D (.lst [])))∧∀ i m H,W i m H →
      ((Itl K a).stop i H∧Q H)∨((Itl K a).go i H∧∃ Nx:Hp→Prop,(∀ H',Nx H'→∃ m',m'<m∧W (i+1) m' H')∧∀ x H',(Itl K a).yld i H x H'→gName j x (wipe σ vs) H' fun σ2 H2=>wipe σ2 vs=wipe σ vs∧tt σ2 H2 fun b H3 =>
        if b=true then te σ2 H3 fun y H4=>∃ acc,H4 D=some (.lst acc)∧acc.length<sizeLine∧Nx (upd H4 D (.lst (acc++[y]))) else Nx H3) :=
  lc_any V.int p g ha hn hD hw step fin
theorem lc_rng {lo:Int}{n:Nat}{j:Nat}{tt:TT}{te:TE}{vs:List Nat}{σ:L2.St}{H1:Hp}{D:Addr}{Q:Hp→Prop} (p:Int→Bool) (g:Int→V)
    (hn:n<sizeLine) (hD:H1 D=none) (hw:∀ z:Int,wipe ((wipe σ vs).set j (some (.int z))) vs=wipe σ vs)
    (step:∀ i:Nat,i<n→∀ (H:Hp) (Rv:V→Hp→Prop) (R:Hp→Prop),Same H1 H→(∀ H',Same H H'→if p (lo+i)=true then Rv (g (lo+i)) H' else R H') →
      tt ((wipe σ vs).set j (some (.int (lo+i)))) H fun b H3=>if b=true then te ((wipe σ vs).set j (some (.int (lo+i)))) H3 Rv else R H3)
    (fin:∀ H',Same H1 H'→H' D=some (.lst ((((List.range n).map fun (i:Nat)=>lo+(i:Int)).filter p).map g))→Q H') :
    ∃ W:Nat→Nat→Hp→Prop,(∃ m,W 0 m (upd H1 D (.lst [])))∧∀ i m H,W i m H →
      ((Itr lo n).stop i H∧Q H)∨((Itr lo n).go i H∧∃ Nx:Hp→Prop,(∀ H',Nx H'→∃ m',m'<m∧W (i+1) m' H')∧∀ x H',(Itr lo n).yld i H x H'→gName j x (wipe σ vs) H' fun σ2 H2=>wipe σ2 vs=wipe σ vs∧tt σ2 H2 fun b H3 =>
        if b=true then te σ2 H3 fun y H4=>∃ acc,H4 D=some (.lst acc)∧acc.length<sizeLine∧Nx (upd H4 D (.lst (acc++[y]))) else Nx H3):=by
  refine lc_range (lo:=lo) (n:=n) (fun i H=>Same H1 H∧H D=some (.lst ((((List.range i).map fun (i:Nat)=>lo+(i:Int)).filter p).map g))) ⟨same_upd hD,upd_same⟩ (fun i H hi h=>?_) (fun H h=>fin H h.1 h.2)
  obtain⟨s,e⟩:=h
  refine⟨hw (lo+i),step i hi H _ _ s fun H' s'=>?_⟩
  have e':=s' _ _ e
  have ht:((List.range (i+1)).map fun (i:Nat)=>lo+(i:Int)).filter p=((List.range i).map fun (i:Nat)=>lo+(i:Int)).filter p++[lo+(i:Int)].filter p:=by
    rw[List.range_succ,List.map_append,List.filter_append]
    rfl
  by_cases hp:p (lo+i)=true
  · rw[if_pos hp]
    have hp1:[lo+(i:Int)].filter p=[lo+(i:Int)]:=by rw[List.filter_cons,if_pos hp,List.filter_nil]
    refine⟨_,e',?_,same_upd2 (s.trans s') hD,?_⟩
    · rw[List.length_map]
      refine Nat.lt_of_le_of_lt (Nat.le_trans (List.length_filter_le _ _) ?_) hn
      rw[List.length_map,List.length_range]
      exact Nat.le_of_lt hi
    · rw[upd_same,ht,hp1,List.map_append]
      rfl
  · rw[if_neg hp]
    have hp1:[lo+(i:Int)].filter p=[]:=by rw[List.filter_cons,if_neg hp,List.filter_nil]
    refine⟨s.trans s',?_⟩
    rw[ht,hp1,List.append_nil]
    exact e'
theorem filter_yes {α:Type} (l:List α):l.filter (fun _=>true)=l:=List.filter_eq_self.mpr fun _ _=>rfl
theorem for_rev {K:PySem.W.Frag}{a:Addr}{xs:List V}{g:TG}{tb:TS}{D:Ends}{σ:L2.St}{H:Hp} (Pv:Nat→L2.St→Hp→Prop) (h0:Pv 0 σ H) (hl:∀ i σ H,i≤xs.length→Pv i σ H→SqL K H a xs)
    (hs:∀ i x σ H,xs.reverse[i]?=some x→Pv i σ H→g x σ H fun σ2 H2=>tb { D with nx:=Pv (i+1),ct:=Pv (i+1),bk:=D.nx } σ2 H2) (hd:∀ σ H,Pv xs.length σ H→D.nx σ H) :
    ∃ W:Nat→Nat→L2.St→Hp→Prop,(∃ m,W 0 m σ H)∧∀ i m σ H,W i m σ H →
      ((Itv K a xs.length).stop i H∧D.nx σ H)∨((Itv K a xs.length).go i H∧∃ N:L2.St→Hp→Prop,(∀ σ' H',N σ' H'→∃ m',m'<m∧W (i+1) m' σ' H')∧∀ x H',(Itv K a xs.length).yld i H x H'→g x σ H' fun σ2 H2=>tb { D with nx:=N,ct:=N,bk:=D.nx } σ2 H2):=by
  refine⟨fun i m σ H=>m=xs.length-i∧i≤xs.length∧Pv i σ H,⟨xs.length,by simp,Nat.zero_le _,h0⟩,?_⟩
  rintro i m σ H ⟨rfl,hi,p⟩
  have q:=hl i σ H hi p
  by_cases hlt:i<xs.length
  · refine .inr ⟨⟨hlt,xs,xs[xs.length-1-i],q,by simp[show xs.length-1-i<xs.length by lia]⟩,Pv (i+1),fun σ' H' p'=>⟨xs.length-(i+1),by lia,rfl,hlt,p'⟩,fun x H' y=>?_⟩
    obtain⟨e,y⟩:=y
    subst e
    refine hs i x σ _ ?_ p
    rw[List.getElem?_reverse hlt]
    exact y xs q
  · have e:i=xs.length:=by lia
    subst e
    exact .inl ⟨Nat.le_refl _,hd σ H p⟩
theorem lc_zip2 {K:PySem.W.Frag}{a b:Addr}{ms ns:List Int}{j1 j2:Nat}{te:TE}{vs:List Nat}{σ:L2.St}{H1:Hp}{D:Addr}{Q:Hp→Prop} (g:Int→Int→V)
    (ha:SqL K H1 a (ms.map V.int)) (hb:SqL K H1 b (ns.map V.int)) (hn:ms.length=ns.length) (hlen:ms.length<sizeLine) (hD:H1 D=none)
    (hw:∀ x y:Int,wipe (((wipe σ vs).set j1 (some (.int x))).set j2 (some (.int y))) vs=wipe σ vs)
    (step:∀ x∈ms,∀ y∈ns,∀ (H:Hp) (Rv:V→Hp→Prop),Same H1 H→(∀ H',Same H H'→Rv (g x y) H')→te (((wipe σ vs).set j1 (some (.int x))).set j2 (some (.int y))) H Rv)
    (fin:∀ H',Same H1 H'→H' D=some (.lst (List.zipWith g ms ns))→Q H') :
    ∃ W:Nat→Nat→Hp→Prop,(∃ m,W 0 m (upd H1 D (.lst [])))∧∀ i m H,W i m H →
      ((Itz K a b).stop i H∧Q H)∨((Itz K a b).go i H∧∃ Nx:Hp→Prop,(∀ H',Nx H'→∃ m',m'<m∧W (i+1) m' H')∧∀ x H',(Itz K a b).yld i H x H'→gTup K 2 (gCons (gName j1) (gCons (gName j2) gNil)) x (wipe σ vs) H' fun σ2 H2=>wipe σ2 vs=wipe σ vs∧tYes σ2 H2 fun b H3 =>
        if b=true then te σ2 H3 fun y H4=>∃ acc,H4 D=some (.lst acc)∧acc.length<sizeLine∧Nx (upd H4 D (.lst (acc++[y]))) else Nx H3):=by
  have hz:(List.zipWith g ms ns).length=ms.length:=by rw[List.length_zipWith];lia
  refine⟨fun i m H=>m=ms.length-i∧i≤ms.length∧Same H1 H∧H D=some (.lst ((List.zipWith g ms ns).take i)),⟨ms.length,by simp,Nat.zero_le _,same_upd hD,upd_same⟩,?_⟩
  rintro i m H ⟨rfl,hi,s,e⟩
  by_cases hlt:i<ms.length
  · have gx:(ms.map V.int)[i]?=some (V.int ms[i]):=by rw[List.getElem?_map,List.getElem?_eq_getElem hlt];rfl
    have hlt2:i<ns.length:=by lia
    have gy:(ns.map V.int)[i]?=some (V.int ns[i]):=by rw[List.getElem?_map,List.getElem?_eq_getElem hlt2];rfl
    refine .inr ⟨⟨_,_,_,_,s.seq ha,s.seq hb,gx,gy⟩,fun H'=>Same H1 H'∧H' D=some (.lst ((List.zipWith g ms ns).take (i+1))),fun H' p'=>⟨ms.length-(i+1),by lia,rfl,hlt,p'.1,p'.2⟩,fun x H' y=>?_⟩
    obtain⟨T,x1,y1,rfl,hT,rfl,q1,q2⟩:=y
    have ex:x1=V.int ms[i]:=Option.some.inj ((q1 _ (s.seq ha)).symm.trans gx)
    have ey:y1=V.int ns[i]:=Option.some.inj ((q2 _ (s.seq hb)).symm.trans gy)
    subst ex ey
    have sT:Same H (upd H T (.tup [V.int ms[i],V.int ns[i]])):=same_upd hT
    refine⟨T,_,rfl,SqT.of upd_same,rfl,_,_,rfl,_,_,rfl,rfl,hw _ _,?_⟩
    refine step ms[i] (List.getElem_mem hlt) ns[i] (List.getElem_mem hlt2) _ _ (s.trans sT) fun H' s'=>?_
    refine⟨_,s' _ _ (sT _ _ e),?_,same_upd2 ((s.trans sT).trans s') hD,?_⟩
    · rw[List.length_take]
      lia
    · have gz:(List.zipWith g ms ns)[i]?=some (g ms[i] ns[i]):=by
        rw[List.getElem?_zipWith,List.getElem?_eq_getElem hlt,List.getElem?_eq_getElem hlt2]
      rw[upd_same,take_snoc' gz]
  · have e':i=ms.length:=by lia
    subst e'
    rw[List.take_of_length_le (by rw[hz];exact Nat.le_refl _)] at e
    exact .inl ⟨⟨_,_,s.seq ha,s.seq hb,.inl (by rw[List.length_map];exact Nat.le_refl _)⟩,fin H s e⟩
theorem cut_last (l:List Int) (z:Int):cutV ((l++[z]).map V.int) none (some (-1))=l.map V.int:=by
  unfold cutV
  have e:((l++[z]).map V.int).length=l.length+1:=by simp
  have e1:HT.sIx (l.length+1) (l.length+1) (some (-1))=l.length:=by
    unfold HT.sIx
    dsimp only
    rw[if_pos (by decide)]
    lia
  rw[e,e1,HT.sIx_none,List.drop_zero,Nat.sub_zero,List.map_append]
  exact List.take_left' (by simp)
theorem at_end (l:List Int) (z:Int):atI ((l++[z]).map V.int) (-1)=some (.int z):=by
  rw[List.map_append]
  exact atI_last (l.map V.int) (V.int z)
theorem good_at {c:List Int}{i:Nat} (h:i<c.length):atI (c.map V.int) (i:Int)=some (.int (c.getD i 0)):=by
  refine atI_nat (j:=i) ?_
  rw[List.getElem?_map,List.getElem?_eq_getElem h,List.getD_eq_getElem?_getD,List.getElem?_eq_getElem h]
  rfl
theorem get_listK {X:Cx}{K:PySem.W.Frag} (h:X.K=K):PGet X (rIxL K):=by
  subst h
  intro pins s σ H x y v u Q I rx ry h
  obtain⟨p,xs,i,z,rfl,rfl,hq,he,q⟩:=h
  cases rx
  obtain⟨t,rfl⟩:=ry
  obtain⟨its,r,pl,hz⟩:=I.list hq
  obtain⟨j,h1,h2,h3,h4,h5⟩:=atI_get he
  obtain⟨w,ew,rw'⟩:=r.get h2
  have hl:=r.length
  have hn:=line63
  have fin:EP X pins σ Q w s:=⟨z,H,I,rw',q⟩
  by_cases h0:0≤i
  · have hj:i.toNat=j:=by
      rw[seqIndex_of h0 h5] at h1
      exact Option.some.inj h1
    exact wpAny_getItem_list pl.isList h0 (by lia) (by rw[hj];simpa using ew) fin
  · have hj:(i+(its.toArray.size:Int)).toNat=j:=by
      rw[seqIndex_neg (by lia) h4] at h1
      rw[List.size_toArray,←hl]
      exact Option.some.inj h1
    exact wpAny_getItem_list_neg pl.isList (by lia) (by rw[List.size_toArray] <;> lia) (by lia) (by rw[hj];simpa using ew) fin
theorem bits_few {z:Int}{n:Nat} (h:z.natAbs<2^n):Builtin.Int.intBits z≤n:=by
  unfold Builtin.Int.intBits
  split
  · exact Nat.zero_le _
  · rename_i hz
    rcases Nat.eq_zero_or_pos z.natAbs with h0 | hp
    · exact absurd (Int.natAbs_eq_zero.mp h0) (by simpa using hz)
    · have:=(Nat.log2_lt (Nat.ne_of_gt hp)).mpr h
      lia
theorem good_atI {c:List Int}{i:Int} (h0:0≤i) (h:i.toNat<c.length):atI (c.map V.int) i=some (.int (c.getD i.toNat 0)):=by
  obtain⟨n,rfl⟩:∃ n:Nat,i=(n:Int):=⟨i.toNat,by lia⟩
  exact good_at (by simpa using h)
def FewI (n:Nat) (l:List Int):Prop:=∀ z∈l,z.natAbs<2^n
theorem pow2_mono {m n:Nat} (h:m≤n):2^m≤2^n:=Nat.pow_le_pow_right (by decide) h
theorem lt_up {a m n:Nat} (h:a<2^m) (e:m≤n):a<2^n:=Nat.lt_of_lt_of_le h (pow2_mono e)
theorem FewI.mono {m n:Nat}{l:List Int} (h:FewI m l) (e:m≤n):FewI n l:=fun z hz=>lt_up (h z hz) e
theorem FewI.left {m:Nat}{l r:List Int} (h:FewI m (l++r)):FewI m l:=fun z hz=>h z (List.mem_append.mpr (.inl hz))
theorem FewI.last {m:Nat}{l:List Int}{z:Int} (h:FewI m (l++[z])):z.natAbs<2^m:=h z (List.mem_append.mpr (.inr (by simp)))
theorem FewI.app {m:Nat}{l:List Int}{z:Int} (h:FewI m l) (hz:z.natAbs<2^m):FewI m (l++[z]):=fun y hy=>by
  rcases List.mem_append.mp hy with h1 | h1
  · exact h y h1
  · have:y=z:=by simpa using h1
    rw[this]
    exact hz
theorem FewI.getD {m:Nat}{l:List Int} (h:FewI m l) (i:Nat):(l.getD i 0).natAbs<2^m:=by
  rw[List.getD_eq_getElem?_getD]
  cases e:l[i]? with
  | none=>exact Nat.two_pow_pos m
  | some z=>exact h z (List.mem_of_getElem? e)
theorem mul_lt2 {a b:Int}{m n:Nat} (ha:a.natAbs<2^m) (hb:b.natAbs<2^n):(a*b).natAbs<2^(m+n):=by
  rw[Int.natAbs_mul,Nat.pow_add]
  exact Nat.mul_lt_mul_of_lt_of_lt ha hb
theorem add_lt2 {a b:Int}{m:Nat} (ha:a.natAbs<2^m) (hb:b.natAbs<2^m):(a+b).natAbs<2^(m+1):=by
  rw[Nat.pow_succ]
  lia
theorem mul_big {a b:Int}{m n:Nat} (ha:a.natAbs<2^m) (hb:b.natAbs<2^n) (h:m+n≤134217728):IntMulOk a b:=IntMulOk.of_le (bits_few ha) (bits_few hb) h
theorem at_ix {α:Type}{xs:List α}{i:Int}{j:Nat}{v:α} (e:i=(j:Int)) (h:xs[j]?=some v):atI xs i=some v:=e ▸ atI_nat h
theorem ix_nat {n j:Nat}{k:Int} (e:k=(j:Int)) (h:j<n):ixN n k=some j:=by
  unfold ixN
  rw[if_pos (by lia),if_pos (by lia),e]
  simp
theorem at_getD {l:List Int}{i:Int}{j:Nat} (e:i=(j:Int)) (h:j<l.length):atI (l.map V.int) i=some (.int (l.getD j 0)):=by
  refine at_ix e ?_
  rw[List.getElem?_map,List.getElem?_eq_getElem h,List.getD_eq_getElem?_getD,List.getElem?_eq_getElem h]
  rfl
def FieldOk (c:List Int):Prop:=1≤c.length∧c.length≤4∧∀ z∈c,z.natAbs≤1000
theorem FieldOk.at {c:List Int} (h:FieldOk c) (i:Nat):(c.getD i 0).natAbs≤1000:=by
  rw[List.getD_eq_getElem?_getD]
  cases e:c[i]? with
  | none=>exact Nat.zero_le _
  | some z=>exact h.2.2 z (List.mem_of_getElem? e)
theorem getD_set_ne {l:List Int}{i j:Nat}{v:Int} (h:i≠j):(l.set i v).getD j 0=l.getD j 0:=by
  rw[List.getD_eq_getElem?_getD,List.getD_eq_getElem?_getD,List.getElem?_set_ne h]
theorem FewI.set {n:Nat}{l:List Int}{i:Nat}{v:Int} (h:FewI n l) (hv:v.natAbs<2^n):FewI n (l.set i v):=fun z hz=>by
  rcases List.mem_or_eq_of_mem_set hz with h1 | h1
  · exact h z h1
  · rw[h1];exact hv
theorem asg_if {t:TT}{ta tb:TE}{i:Nat}{rest:TS}{D:Ends}{σ:L2.St}{H:Hp}{x:V} (h:∀ R:VK,R x H→tIf t ta tb σ H R) (q:rest D (σ.set i (some x)) H):tSeq (tAsg (tIf t ta tb) (gName i)) rest D σ H:=h _ q
theorem ints_at:∀ {its:List Value}{ns:List Int},IntsAre its ns→∀ {i:Nat}{v:Value},its[i]?=some v→∃ (n:Int) (t:Tok),v=.int n t∧ns.getD i 0=n
  | _,_,.nil,i,v,h=>by simp at h
  | _,_,.cons n t h,0,v,hv=>by
    simp at hv
    exact⟨n,t,hv.symm,rfl⟩
  | _,_,.cons n t h,i+1,v,hv=>by
    simp at hv
    obtain⟨m,u,e1,e2⟩:=ints_at h hv
    exact⟨m,u,e1,by rw[List.getD_cons_succ];exact e2⟩
theorem truth_ints {prog:Program}{w:World}{A:Around}{ns:List Int}{its:List Value} (e:IntsAre its ns) :
    TruthOf prog w A (fun i v=>its.toArray[i]?=some v) (fun i=>ns.getD i 0 != 0):=fun i v s Q E hv hq=>by
  have hv':its[i]?=some v:=by simpa using hv
  obtain⟨n,t,rfl,hn⟩:=ints_at e hv'
  have hq':Q (ns.getD i 0 != 0) s:=hq
  rw[hn] at hq'
  exact truthy_int hq'
theorem any_rangeI:∀ ns:List Int,(List.range ns.length).any (fun i=>ns.getD i 0 != 0)=ns.any fun (z:Int)=>z != 0
  | []=>rfl
  | b::bs=>by
    rw[List.length_cons,List.range_succ_eq_map,List.any_cons,List.any_map,List.any_cons,←any_rangeI bs]
    all_goals rfl
def rAnyI (K:PySem.W.Frag):List V→Hp→VK→Prop:=fun vs H Q=>∃ (a:Addr) (ns:List Int),vs=[V.ref a]∧SqL K H a (ns.map V.int)∧Q (.bl (ns.any fun (z:Int)=>z != 0)) H
theorem cr_anyIK {X:Cx}{K:PySem.W.Frag} (h:X.K=K) (hc:X.calm=true):CallR X (.builtin "any") (rAnyI K):=by
  subst h
  intro pins s σ H vs us Q I r h
  obtain⟨a,ns,rfl,hs,q⟩:=h
  obtain⟨its,rv,hl,_⟩:=I.list hs
  rw[Vals.ref1 r]
  have hb:=rv.ints
  refine call_any_walk (iter_any hl.isList fun s₂ e2 st hne=>?_)
  subst e2
  refine⟨_,_,_,_,_,_,_,rfl,Walks.list (A:=X.A.in1) (I.ok.hd hc) _ a hne its.toArray,st,truth_ints hb,fun h' tk hk=>?_⟩
  refine⟨.bl _,H,I.kept fun b o eo=>hk b o (fun hmem=>?_) (Heap.get?_push_of_some _ eo),?_,q⟩
  · rcases List.mem_cons.mp hmem with e1 | hmem
    · exact absurd (e1 ▸ Heap.lt_size eo) (Nat.lt_irrefl _)
    · cases hmem
  · show Value.bool _=Value.bool _
    have hlen:its.length=ns.length:=by
      have:=rv.length
      rw[List.length_map] at this
      exact this.symm
    rw[←any_rangeI,List.size_toArray,hlen]
theorem field_ok {c:List Int} (h:refusal c=0):FieldOk c:=ok_field h
def Mono (t:TT):Prop:=∀ (σ:L2.St) (H:Hp) (Q Q':Bool→Hp→Prop),(∀ b H1,Q b H1→Q' b H1)→t σ H Q→t σ H Q'
def MonoE (t:TE):Prop:=∀ (σ:L2.St) (H:Hp) (Q Q':VK),(∀ x H1,Q x H1→Q' x H1)→t σ H Q→t σ H Q'
def MonoA (t:TA):Prop:=∀ (σ:L2.St) (H:Hp) (Q Q':List V→Hp→Prop),(∀ x H1,Q x H1→Q' x H1)→t σ H Q→t σ H Q'
def MonoR (r:R2):Prop:=∀ (x y:V) (H:Hp) (Q Q':VK),(∀ v H1,Q v H1→Q' v H1)→r x y H Q→r x y H Q'
def MonoL (r:List V→Hp→VK→Prop):Prop:=∀ (xs:List V) (H:Hp) (Q Q':VK),(∀ v H1,Q v H1→Q' v H1)→r xs H Q→r xs H Q'
theorem Mono.and {t u:TT} (ht:Mono t) (hu:Mono u):Mono (tAnd t u):=fun σ H Q Q' hq h=>ht σ H _ _ (fun c H1 h1=>by
  cases c with
  | true=>exact iteT (hu σ H1 Q Q' hq (by simpa using h1))
  | false=>exact iteF (hq _ _ (by simpa using h1))) h
theorem Mono.test {t:TE} (h:MonoE t):Mono (tTest t):=fun σ H Q Q' hq k=>h σ H _ _ (fun x H1 ⟨b,e,g⟩=>⟨b,e,hq _ _ g⟩) k
theorem MonoE.var {i:Nat}:MonoE (tVar i):=fun _ _ _ _ hq ⟨v,e,h⟩=>⟨v,e,hq _ _ h⟩
theorem MonoE.c {v:V}:MonoE (tC v):=fun _ _ _ _ hq h=>hq _ _ h
theorem MonoE.op {r:R2}{ta tb:TE} (hr:MonoR r) (ha:MonoE ta) (hb:MonoE tb):MonoE (tOp r ta tb):=fun σ H Q Q' hq h=>ha σ H _ _ (fun x H1 h1=>hb σ H1 _ _ (fun y H2 h2=>hr x y H2 Q Q' hq h2) h1) h
theorem MonoE.cb {r:List V→Hp→VK→Prop}{t:TA} (hr:MonoL r) (ht:MonoA t):MonoE (tCB r t):=fun σ H Q Q' hq h=>ht σ H _ _ (fun xs H1 h1=>hr xs H1 Q Q' hq h1) h
theorem MonoA.nil:MonoA tNil:=fun _ _ _ _ hq h=>hq _ _ h
theorem MonoA.cons {ta:TE}{tr:TA} (ha:MonoE ta) (hr:MonoA tr):MonoA (tCons ta tr):=fun σ H Q Q' hq h=>ha σ H _ _ (fun x H1 h1=>hr σ H1 _ _ (fun xs H2 h2=>hq _ _ h2) h1) h
theorem MonoR.i0 {g:Int→Int→V}:MonoR (rI0 g):=fun _ _ _ _ _ hq ⟨i,j,e1,e2,h⟩=>⟨i,j,e1,e2,hq _ _ h⟩
theorem MonoR.eq:MonoR rEq:=fun _ _ _ _ _ hq ⟨e,h⟩=>⟨e,hq _ _ h⟩
theorem MonoR.ix {K:PySem.W.Frag}:MonoR (rIxL K):=fun _ _ _ _ _ hq ⟨p,xs,i,v,e1,e2,e3,e4,h⟩=>⟨p,xs,i,v,e1,e2,e3,e4,hq _ _ h⟩
theorem MonoL.len {K:PySem.W.Frag}:MonoL (fun xs H Q=>∃ p ys,xs=[.ref p]∧(SqL K H p ys∨SqT K H p ys)∧Q (.int ys.length) H):=fun _ _ _ _ hq ⟨p,ys,e1,e2,h⟩=>⟨p,ys,e1,e2,hq _ _ h⟩
theorem MonoE.call {sp:Sp}{dvs:List V}{E:XK}{t:TA} (hs:∀ (vs:List V) (H:Hp) (Q Q':VK),(∀ v H1,Q v H1→Q' v H1)→sp vs H Q E→sp vs H Q' E) (ht:MonoA t):MonoE (tCall sp dvs E t):=fun σ H Q Q' hq h=>ht σ H _ _ (fun vs H1 h1=>hs _ H1 Q Q' hq h1) h
abbrev T3:=Int×Int×Int
def trL (r:T3):List V:=[V.int r.1,V.int r.2.1,V.int r.2.2]
def LN (H:Hp) (v:V) (r s:T3):Prop:=∃ p a b:Addr,v=.ref p∧H p=some (.lst [V.ref a,V.ref b])∧H a=some (.lst (trL r))∧H b=some (.lst (trL s))
theorem op_fdivP {X:Cx} (hN:X.base.NoSeer) (ht:X.prog.given.tree=none) (hr:Room 32 X.A) {env:Env}{l:List Env} (hst:X.stack=env::l:=by rfl) (hg:env.scope.isGenerator=false:=by rfl) (hc:env.scope.isCoroutine=false:=by rfl) (hb:env.builtins=builtinsNs:=by rfl) (hgl:env.globals=mainGlobals:=by rfl) :
    OpR X (binaryOp .FloorDiv) (L2.rI (fun _ j=>0<j) fun i j=>.int (i / j)):=by
  intro pins s σ H x y u v Q I rx ry h
  obtain⟨i,j,rfl,rfl,hj,q⟩:=h
  obtain⟨t,rfl⟩:=(show ∃ t,u=Value.int i t from rx)
  obtain⟨t',rfl⟩:=(show ∃ t',v=Value.int j t' from ry)
  have hj':(0:Int)<j:=hj
  have hd:X.A.depth+Builtin.pylongFrames<recursionLimit:=by
    have:=hr.dp
    show X.A.depth+100<recursionLimit
    lia
  have hfr:X.A.frames=some (env::l):=hst ▸ I.ok.frames
  have room:PylongRoom (model X.prog X.w) X.A s:=PylongRoom.of I.nolimit hd (SeerAt.of (hN.keeps I.bk) ht hfr hg hc hb hgl)
  exact floordiv_int (by lia) (by rw[Int.fdiv_eq_ediv_of_nonneg i (by lia)];exact⟨.int (i / j),H,I.tok _,⟨_,rfl⟩,q⟩) (.inr room)
def nd:Nat:=60000000
theorem nd_add:nd+nd≤134217728:=by decide
theorem le_nd {m:Nat} (h:m≤60000000):m≤nd:=h
def sp_divided:Sp:=fun vs H Q _=>∃ (v:V) (r s:T3),vs=[v]∧LN H v r s∧0<s.1∧r.1.natAbs<2^nd∧s.1.natAbs<2^nd∧s.2.1.natAbs<2^nd∧s.2.2.natAbs<2^nd ∧
  ∀ (H':Hp) (u:V),Same H H'→LN H' u s (r.1-r.1 / s.1*s.1,r.2.1-r.1 / s.1*s.2.1,r.2.2-r.1 / s.1*s.2.2)→Q u H'
theorem sc_divided:FnScope ["lines","quotient","m","n"] ["lines"] (defScope s_divided):=⟨rfl,rfl,rfl,by decide +kernel,rfl,by decide +kernel,by decide +kernel⟩
theorem ok_divided {P:Program}{w:World}{K:PySem.W.Frag}{mg:Str→Option Value}{base:Heap}{f:Addr}{fd:FuncData} (F:Fun K "divided" "divided" s_divided f fd) (O:Own mg) (hN:base.NoSeer) (ht:P.given.tree=none):FnOk P w K mg base CX0 33 f fd ["lines"] sp_divided:=by
  refine F.ok sc_divided (fun vs H Q E h=>?_) (fun cdv A outer s H vs Q E hr h=>?_)
  · obtain⟨v,r,s,rfl,_⟩:=h
    rfl
  · obtain⟨v,⟨x,u0,v0⟩,⟨y,u1,v1⟩,rfl,⟨p,a,b,rfl,hp,ha,hb⟩,hy,hx,hyb,hu,hv,k⟩:=h
    have hr32:=hr
    refine⟨_,(pss_cons (ps_set (i:=1) sc_divided.nd rfl (by first | exact Or.inl rfl | exact Or.inr rfl) (pe_op (op_fdivP hN ht hr32) (pe_ix (ix_listK (K:=K) rfl) (pe_ix (ix_listK (K:=K) rfl) (pv 0) pe_int (fun _ _=>rfl)) pe_int (fun _ _=>rfl)) (pe_ix (ix_listK (K:=K) rfl) (pe_ix (ix_listK (K:=K) rfl) (pv 0) pe_int (fun _ _=>rfl)) pe_int (fun _ _=>rfl))))
      (pss_one (ps_ret (pe_lst (pa_cons (pe_ix (ix_listK (K:=K) rfl) (pv 0) pe_int (fun _ _=>rfl)) (pa_cons (pe_lc (own:=[("m",2),("n",3)]) rfl sc_divided.nd (pi_zip (by rfl) O.zip_ (pa_cons (pe_ix (ix_listK (K:=K) rfl) (pv 0) pe_int (fun _ _=>rfl)) (pa_cons (pe_ix (ix_listK (K:=K) rfl) (pv 0) pe_int (fun _ _=>rfl)) pa_nil))) (show BlkOk ["lines","quotient","m","n"] (defScope s_divided) _ _ from⟨rfl,by decide +kernel,by decide +kernel,by decide +kernel,by decide +kernel⟩) (fun _ _ _ _ _=>(pg_tupK (K:=K) (n:=2) rfl rfl (pgs_cons (pg_name (i:=2) sc_divided.nd rfl (by first | exact Or.inl rfl | exact Or.inr rfl)) (pgs_cons (pg_name (i:=3) sc_divided.nd rfl (by first | exact Or.inl rfl | exact Or.inr rfl)) pgs_nil)))) (fun _ _ _ _ _=>pts_nil) (fun _ _ _ _ _=>(pe_op op_sub (pv 2) (pe_op op_mulW (pv 1) (pv 3))))) pa_nil)))))),?_⟩
    have ha':H a=some (.lst ([x,u0,v0].map V.int)):=ha
    have hb':H b=some (.lst ([y,u1,v1].map V.int)):=hb
    have hq:(x / y).natAbs<2^nd:=Nat.lt_of_le_of_lt (Int.natAbs_ediv_le_natAbs x y) hx
    refine⟨_,rfl,p,_,_,_,rfl,rfl,SqL.of hp,at_ix (j:=0) rfl rfl,a,_,_,_,rfl,rfl,SqL.of ha',at_ix (j:=0) rfl rfl,_,rfl,p,_,_,_,rfl,rfl,SqL.of hp,at_ix (j:=1) rfl rfl,b,_,_,_,rfl,rfl,SqL.of hb',at_ix (j:=0) rfl rfl,_,_,rfl,rfl,hy,?_⟩
    refine⟨_,rfl,p,_,_,_,rfl,rfl,SqL.of hp,at_ix (j:=1) rfl rfl,_,rfl,p,_,_,_,rfl,rfl,SqL.of hp,at_ix (j:=0) rfl rfl,_,rfl,p,_,_,_,rfl,rfl,SqL.of hp,at_ix (j:=1) rfl rfl,a,b,_,_,rfl,SqL.of ha',SqL.of hb',fun D hD=>?_⟩
    refine lc_zip2 (K:=K) (a:=a) (b:=b) (ms:=[x,u0,v0]) (ns:=[y,u1,v1]) (fun m n=>V.int (m-x / y*n)) (SqL.of ha') (SqL.of hb') rfl (by show 3<sizeLine;decide) hD (fun _ _=>rfl) (fun m hm n hn H3 Rv s3 hR=>?_) (fun H3 s3 e3=>?_)
    · have hn2:n.natAbs<2^nd:=by
        have:n=y∨n=u1∨n=v1:=by simpa using hn
        rcases this with rfl | rfl | rfl
        · exact hyb
        · exact hu
        · exact hv
      exact⟨_,rfl,_,rfl,_,rfl,_,_,rfl,rfl,mul_big hq hn2 nd_add,_,_,rfl,rfl,hR H3 (Same.refl H3)⟩
    · refine⟨(by show 2≤sizeLine;decide),fun q hq=>?_⟩
      have s4:=same_upd (o:=.lst [V.ref b,V.ref D]) hq
      refine k _ _ (s3.trans s4) ⟨q,b,D,rfl,upd_same,s4 _ _ (s3 _ _ hb),?_⟩
      rw[s4 _ _ e3]
      rfl
theorem and_mask {x:Int} (h:0≤x) (s:Nat):Builtin.bitAnd x (((2^s:Nat):Int)-1)=x % ((2^s:Nat):Int):=by
  have h2:=Nat.two_pow_pos s
  unfold Builtin.bitAnd
  rw[decide_eq_true h,decide_eq_true (show (0:Int)≤((2^s:Nat):Int)-1 by lia)]
  dsimp only
  rw[show (((2^s:Nat):Int)-1).toNat=2^s-1 by lia,Nat.and_two_pow_sub_one_eq_mod,Int.natCast_emod,Int.toNat_of_nonneg h]
theorem mod_few (x:Int) {n m:Nat} (h:n≤m):(x % ((2^n:Nat):Int)).natAbs<2^m:=by
  have hS:=Nat.two_pow_pos n
  have h1:=Int.emod_nonneg x (show ((2^n:Nat):Int)≠0 by lia)
  have h2:=Int.emod_lt_of_pos x (show 0<((2^n:Nat):Int) by lia)
  refine lt_up (m:=n) ?_ h
  lia
theorem carry_z {x y l m S:Int}:(l*(x / S)+m*(y / S))*S+l*(x % S)+m*(y % S)=l*x+m*y:=by
  have h1:=Int.mul_ediv_add_emod x S
  have h2:=Int.mul_ediv_add_emod y S
  generalize x / S=x1 at *
  generalize y / S=y1 at *
  generalize x % S=x2 at *
  generalize y % S=y2 at *
  rw[←h1,←h2]
  grind
def big:Nat:=65000000
theorem le_big {m:Nat} (h:m≤65000000):m≤big:=h
theorem big_add {m:Nat} (h:m≤big):m≤65000000:=h
def Few3 (n:Nat) (r:T3):Prop:=r.1.natAbs<2^n∧r.2.1.natAbs<2^n∧r.2.2.natAbs<2^n
def sp_carried_over:Sp:=fun vs H Q _=>∃ (v:V) (g:Addr) (r s:T3) (X l m:Int) (n:Nat),vs=[v,.int n,.ref g]∧LN H v r s∧H g=some (.lst (trL (X,l,m)))∧0≤r.1∧0≤s.1∧n≤60000000∧X=l*(r.1 / ((2^n:Nat):Int))+m*(s.1 / ((2^n:Nat):Int)) ∧
  Few3 big (X,l,m)∧Few3 big r∧Few3 big s ∧
  ∀ (H':Hp) (w:Addr),Same H H'→H' w=some (.lst (trL (flipR (l*r.1+m*s.1,l*r.2.1+m*s.2.1,l*r.2.2+m*s.2.2))))→Q (.ref w) H'
theorem sc_carried_over:FnScope ["lines","shift","step","u","v","last_digits","number","line","part"] ["lines","shift","step"] (defScope s_carried_over):=⟨rfl,rfl,rfl,by decide +kernel,rfl,by decide +kernel,by decide +kernel⟩
theorem ok_carried_over {P:Program}{w:World}{K:PySem.W.Frag}{mg:Str→Option Value}{base:Heap}{f:Addr}{fd:FuncData} (F:Fun K "carried_over" "carried_over" s_carried_over f fd) (O:Own mg) :
    FnOk P w K mg base CX0 1 f fd ["lines","shift","step"] sp_carried_over:=by
  refine F.ok sc_carried_over (fun vs H Q E h=>?_) (fun cdv A outer s H vs Q E hr h=>?_)
  · obtain⟨v,g,r,s,X,l,m,n,rfl,_⟩:=h
    rfl
  · obtain⟨v,g,⟨x,u0,v0⟩,⟨y,u1,v1⟩,X,l,m,n,rfl,⟨p,a,b,rfl,hp,ha,hb⟩,hg,hx0,hy0,hn,hX,⟨bX,bl,bm⟩,⟨_,b0,b1⟩,⟨_,b2,b3⟩,k⟩:=h
    refine⟨_,(pss_cons (ps_set (i:=3) sc_carried_over.nd rfl (by first | exact Or.inl rfl | exact Or.inr rfl) (pe_ix (ix_listK (K:=K) rfl) (pv 2) pe_int (fun _ _=>rfl)))
      (pss_cons (ps_set (i:=4) sc_carried_over.nd rfl (by first | exact Or.inl rfl | exact Or.inr rfl) (pe_ix (ix_listK (K:=K) rfl) (pv 2) pe_int (fun _ _=>rfl)))
      (pss_cons (ps_set (i:=5) sc_carried_over.nd rfl (by first | exact Or.inl rfl | exact Or.inr rfl) (pe_op op_sub (pe_op op_shlW pe_int (pv 1)) pe_int))
      (pss_cons (ps_set (i:=6) sc_carried_over.nd rfl (by first | exact Or.inl rfl | exact Or.inr rfl) (pe_op op_add (pe_op op_add (pe_op op_shlW (pe_ix (ix_listK (K:=K) rfl) (pv 2) pe_int (fun _ _=>rfl)) (pv 1)) (pe_op op_mulW (pv 3) (pe_op op_and (pe_ix (ix_listK (K:=K) rfl) (pe_ix (ix_listK (K:=K) rfl) (pv 0) pe_int (fun _ _=>rfl)) pe_int (fun _ _=>rfl)) (pv 5)))) (pe_op op_mulW (pv 4) (pe_op op_and (pe_ix (ix_listK (K:=K) rfl) (pe_ix (ix_listK (K:=K) rfl) (pv 0) pe_int (fun _ _=>rfl)) pe_int (fun _ _=>rfl)) (pv 5)))))
      (pss_cons (ps_set (i:=7) sc_carried_over.nd rfl (by first | exact Or.inl rfl | exact Or.inr rfl) (pe_lst (pa_cons (pv 6) (pa_cons (pe_op op_add (pe_op op_mulW (pv 3) (pe_ix (ix_listK (K:=K) rfl) (pe_ix (ix_listK (K:=K) rfl) (pv 0) pe_int (fun _ _=>rfl)) pe_int (fun _ _=>rfl))) (pe_op op_mulW (pv 4) (pe_ix (ix_listK (K:=K) rfl) (pe_ix (ix_listK (K:=K) rfl) (pv 0) pe_int (fun _ _=>rfl)) pe_int (fun _ _=>rfl)))) (pa_cons (pe_op op_add (pe_op op_mulW (pv 3) (pe_ix (ix_listK (K:=K) rfl) (pe_ix (ix_listK (K:=K) rfl) (pv 0) pe_int (fun _ _=>rfl)) pe_int (fun _ _=>rfl))) (pe_op op_mulW (pv 4) (pe_ix (ix_listK (K:=K) rfl) (pe_ix (ix_listK (K:=K) rfl) (pv 0) pe_int (fun _ _=>rfl)) pe_int (fun _ _=>rfl)))) pa_nil)))))
      (pss_cons (ps_if (pt_cmpR op_lt (pv 6) pe_int (nomark _)) (pss_one (ps_ret (pe_lc (own:=[("part",8)]) rfl sc_carried_over.nd (pi_list (pv 7)) (show BlkOk ["lines","shift","step","u","v","last_digits","number","line","part"] (defScope s_carried_over) _ _ from⟨rfl,by decide +kernel,by decide +kernel,by decide +kernel,by decide +kernel⟩) (fun _ _ _ _ _=>(pg_name (i:=8) sc_carried_over.nd rfl (by first | exact Or.inl rfl | exact Or.inr rfl))) (fun _ _ _ _ _=>pts_nil) (fun _ _ _ _ _=>(pe_un un_neg (pv 8)))))) pss_nil)
      (pss_one (ps_ret (pv 7))))))))),?_⟩
    dsimp only at bX bl bm b0 b1 b2 b3 hx0 hy0 hX k
    have ha':H a=some (.lst ([x,u0,v0].map V.int)):=ha
    have hb':H b=some (.lst ([y,u1,v1].map V.int)):=hb
    have hg':H g=some (.lst ([X,l,m].map V.int)):=hg
    have e2:(1:Int)*2^((n:Int)).toNat=((2^n:Nat):Int):=by
      rw[Int.one_mul,Int.toNat_natCast]
      push_cast
      rfl
    have e3:X*2^((n:Int)).toNat=X*((2^n:Nat):Int):=by
      rw[Int.toNat_natCast]
      push_cast
      rfl
    have hb1:((Builtin.Int.intBits 1:Nat):Int)+(n:Int)≤2^27:=by
      have:Builtin.Int.intBits 1=1:=by decide
      rw[this]
      clear bX bl bm b0 b1 b2 b3 hX
      lia
    have hbX:((Builtin.Int.intBits X:Nat):Int)+(n:Int)≤2^27:=by
      have h1:=big_add (bits_few bX)
      clear bX bl bm b0 b1 b2 b3 hX
      lia
    have hla:=mod_few x (m:=big) (le_big (Nat.le_trans hn (by decide)))
    have hlb:=mod_few y (m:=big) (le_big (Nat.le_trans hn (by decide)))
    have hmm:big+big≤134217728:=by decide
    have ez:X*((2^n:Nat):Int)+l*(x % ((2^n:Nat):Int))+m*(y % ((2^n:Nat):Int))=l*x+m*y:=by
      rw[hX]
      exact carry_z
    refine⟨_,rfl,g,_,_,_,rfl,rfl,SqL.of hg',at_ix (j:=1) rfl rfl,_,rfl,g,_,_,_,rfl,rfl,SqL.of hg',at_ix (j:=2) rfl rfl,_,rfl,_,_,rfl,rfl,⟨Int.natCast_nonneg n,hb1⟩,_,_,rfl,rfl,?_⟩
    rw[e2]
    refine⟨_,rfl,g,_,_,_,rfl,rfl,SqL.of hg',at_ix (j:=0) rfl rfl,_,rfl,_,_,rfl,rfl,⟨Int.natCast_nonneg n,hbX⟩,?_⟩
    refine⟨_,rfl,_,rfl,p,_,_,_,rfl,rfl,SqL.of hp,at_ix (j:=0) rfl rfl,a,_,_,_,rfl,rfl,SqL.of ha',at_ix (j:=0) rfl rfl,_,rfl,_,_,rfl,rfl,?_⟩
    dsimp only
    rw[and_mask hx0]
    refine⟨_,_,rfl,rfl,mul_big bl hla hmm,_,_,rfl,rfl,?_⟩
    refine⟨_,rfl,_,rfl,p,_,_,_,rfl,rfl,SqL.of hp,at_ix (j:=1) rfl rfl,b,_,_,_,rfl,rfl,SqL.of hb',at_ix (j:=0) rfl rfl,_,rfl,_,_,rfl,rfl,?_⟩
    dsimp only
    rw[and_mask hy0]
    refine⟨_,_,rfl,rfl,mul_big bm hlb hmm,_,_,rfl,rfl,?_⟩
    rw[e3]
    dsimp only
    rw[ez]
    refine⟨_,rfl,_,rfl,_,rfl,p,_,_,_,rfl,rfl,SqL.of hp,at_ix (j:=0) rfl rfl,a,_,_,_,rfl,rfl,SqL.of ha',at_ix (j:=1) rfl rfl,_,_,rfl,rfl,mul_big bl b0 hmm,?_⟩
    refine⟨_,rfl,_,rfl,p,_,_,_,rfl,rfl,SqL.of hp,at_ix (j:=1) rfl rfl,b,_,_,_,rfl,rfl,SqL.of hb',at_ix (j:=1) rfl rfl,_,_,rfl,rfl,mul_big bm b2 hmm,_,_,rfl,rfl,?_⟩
    refine⟨_,rfl,_,rfl,p,_,_,_,rfl,rfl,SqL.of hp,at_ix (j:=0) rfl rfl,a,_,_,_,rfl,rfl,SqL.of ha',at_ix (j:=2) rfl rfl,_,_,rfl,rfl,mul_big bl b1 hmm,?_⟩
    refine⟨_,rfl,_,rfl,p,_,_,_,rfl,rfl,SqL.of hp,at_ix (j:=1) rfl rfl,b,_,_,_,rfl,rfl,SqL.of hb',at_ix (j:=2) rfl rfl,_,_,rfl,rfl,mul_big bm b3 hmm,_,_,rfl,rfl,?_⟩
    refine⟨(by show 3≤sizeLine;decide),fun t ht=>?_⟩
    have s1:=same_upd (o:=.lst ([l*x+m*y,l*u0+m*u1,l*v0+m*v1].map V.int)) ht
    unfold flipR at k
    dsimp only at k
    refine⟨_,rfl,_,_,rfl,rfl,_,rfl,?_⟩
    refine ite2 (fun h1=>?_) (fun h1=>?_)
    · rw[if_pos (of_decide_eq_true h1)] at k
      refine⟨_,rfl,t,rfl,⟨_,SqL.of upd_same⟩,fun D hD=>?_⟩
      refine lc_ints (K:=K) (a:=t) (ns:=[l*x+m*y,l*u0+m*u1,l*v0+m*v1]) (fun _=>true) (fun z=>V.int (-z)) (SqL.of upd_same) (small1000 (by show 3≤1000;decide)) hD (fun z=>rfl) (fun z hz H5 Rv R' s5 hR'=>?_) (fun H5 s5 e5=>?_)
      · have hR2:=hR' H5 (Same.refl H5)
        rw[if_pos rfl] at hR2
        exact⟨_,rfl,_,rfl,hR2⟩
      · rw[filter_yes] at e5
        refine k _ _ (s1.trans s5) ?_
        rw[e5]
        rfl
    · rw[if_neg (fun z=>h1 (decide_eq_true z))] at k
      exact⟨_,rfl,k _ _ s1 upd_same⟩
def sp_halved (j:Nat):Sp:=fun vs H Q _=>∃ (a b:Int),vs=[.int a,.int b]∧0≤b∧b≤a∧0<a∧Builtin.Int.intBits a≤Bj j∧j≤20∧Builtin.Int.intBits a≤59000000 ∧
  ∀ (H':Hp) (v:V) (x u0 v0 y u1 v1:Int),Same H H'→LN H' v (x,u0,v0) (y,u1,v1)→Hv (2*j) (Builtin.Int.intBits a) a b x u0 v0 y u1 v1→Q v H'
def sp_shortened:Nat→Sp
  | 0=>fun _ _ _ _=>False
  | j+1=>fun vs H Q _=>∃ (v:V) (r s:T3) (n:Nat),vs=[v,.int n]∧LN H v r s∧0≤s.1∧s.1≤r.1∧0<r.1 / ((2^n:Nat):Int)∧Builtin.Int.intBits (r.1 / ((2^n:Nat):Int))≤Bj j∧j≤20∧Builtin.Int.intBits (r.1 / ((2^n:Nat):Int))≤59000000∧n≤60000000∧Few3 big r∧Few3 big s ∧
    ∀ (H':Hp) (u:V) (X l0 m0 Y l1 m1:Int),Same H H'→Hv (2*j) (Builtin.Int.intBits (r.1 / ((2^n:Nat):Int))) (r.1 / ((2^n:Nat):Int)) (s.1 / ((2^n:Nat):Int)) X l0 m0 Y l1 m1 →
      LN H' u (inOrder (flipR (l0*r.1+m0*s.1,l0*r.2.1+m0*s.2.1,l0*r.2.2+m0*s.2.2)) (flipR (l1*r.1+m1*s.1,l1*r.2.1+m1*s.2.1,l1*r.2.2+m1*s.2.2))).1
        (inOrder (flipR (l0*r.1+m0*s.1,l0*r.2.1+m0*s.2.1,l0*r.2.2+m0*s.2.2)) (flipR (l1*r.1+m1*s.1,l1*r.2.1+m1*s.2.1,l1*r.2.2+m1*s.2.2))).2→Q u H'
theorem Hv.few {j n:Nat}{a b x u0 v0 y u1 v1:Int} (h:Hv (2*j) n a b x u0 v0 y u1 v1) (hj:j≤20) (hn:n≤59000000):Few3 big (x,u0,v0)∧Few3 big (y,u1,v1):=by
  obtain⟨_,_,_,h1,h2,h3,h4,h5,h6⟩:=h
  simp only[W_is] at h1 h2 h3 h4 h5 h6
  exact⟨⟨lt_up h2 (le_big (by lia)),lt_up h3 (le_big (by lia)),lt_up h4 (le_big (by lia))⟩,lt_up h1 (le_big (by lia)),lt_up h5 (le_big (by lia)),lt_up h6 (le_big (by lia))⟩
theorem sc_shortened:FnScope ["lines","shift","steps","first","second"] ["lines","shift"] (defScope s_shortened):=⟨rfl,rfl,rfl,by decide +kernel,rfl,by decide +kernel,by decide +kernel⟩
theorem ok_shortened0 {P:Program}{w:World}{K:PySem.W.Frag}{mg:Str→Option Value}{base:Heap}{f:Addr}{fd:FuncData} (F:Fun K "shortened" "shortened" s_shortened f fd) {k:Nat}:FnOk P w K mg base CX0 (k+1) f fd ["lines","shift"] (sp_shortened 0):=by
  refine F.ok sc_shortened (fun vs H Q E h=>?_) (fun cdv A outer s H vs Q E hr h=>?_)
  · exact h.elim
  · exact h.elim
theorem ok_shortened {P:Program}{w:World}{K:PySem.W.Frag}{mg:Str→Option Value}{base:Heap}{f:Addr}{fd:FuncData} (F:Fun K "shortened" "shortened" s_shortened f fd) (O:Own mg) {k j:Nat} (hk:1≤k) (C_carried_over:Cal P w K mg base 1 "carried_over" ["lines","shift","step"] sp_carried_over) (C_halved:Cal P w K mg base k "halved" ["a","b"] (sp_halved j)) :
    FnOk P w K mg base CX0 (k+1) f fd ["lines","shift"] (sp_shortened (j+1)):=by
  refine F.ok sc_shortened (fun vs H Q E h=>?_) (fun cdv A outer s H vs Q E hr h=>?_)
  · obtain⟨v,r,s,n,rfl,_⟩:=h
    rfl
  · obtain⟨v,⟨x,u0,v0⟩,⟨y,u1,v1⟩,n,rfl,⟨p,a,b,rfl,hp,ha,hb⟩,hy0,hyx,hpos,hbits,hj,hb59,hn,f0,f1,k⟩:=h
    refine⟨_,(pss_cons (ps_set (i:=2) sc_shortened.nd rfl (by first | exact Or.inl rfl | exact Or.inr rfl) (pe_cal C_halved (hr.mono (by lia)) (by rfl) (pa_cons (pe_op op_shr (pe_ix (ix_listK (K:=K) rfl) (pe_ix (ix_listK (K:=K) rfl) (pv 0) pe_int (fun _ _=>rfl)) pe_int (fun _ _=>rfl)) (pv 1)) (pa_cons (pe_op op_shr (pe_ix (ix_listK (K:=K) rfl) (pe_ix (ix_listK (K:=K) rfl) (pv 0) pe_int (fun _ _=>rfl)) pe_int (fun _ _=>rfl)) (pv 1)) pa_nil))))
      (pss_cons (ps_set (i:=3) sc_shortened.nd rfl (by first | exact Or.inl rfl | exact Or.inr rfl) (pe_cal C_carried_over (hr.mono (by lia)) (by rfl) (pa_cons (pv 0) (pa_cons (pv 1) (pa_cons (pe_ix (ix_listK (K:=K) rfl) (pv 2) pe_int (fun _ _=>rfl)) pa_nil)))))
      (pss_cons (ps_set (i:=4) sc_shortened.nd rfl (by first | exact Or.inl rfl | exact Or.inr rfl) (pe_cal C_carried_over (hr.mono (by lia)) (by rfl) (pa_cons (pv 0) (pa_cons (pv 1) (pa_cons (pe_ix (ix_listK (K:=K) rfl) (pv 2) pe_int (fun _ _=>rfl)) pa_nil)))))
      (pss_cons (ps_if (pt_cmpR op_lt (pe_ix (ix_listK (K:=K) rfl) (pv 3) pe_int (fun _ _=>rfl)) (pe_ix (ix_listK (K:=K) rfl) (pv 4) pe_int (fun _ _=>rfl)) (nomark _)) (pss_one (ps_ret (pe_lst (pa_cons (pv 4) (pa_cons (pv 3) pa_nil))))) pss_nil)
      (pss_one (ps_ret (pe_lst (pa_cons (pv 3) (pa_cons (pv 4) pa_nil))))))))),?_⟩
    have ha':H a=some (.lst ([x,u0,v0].map V.int)):=ha
    have hb':H b=some (.lst ([y,u1,v1].map V.int)):=hb
    have e2:(2:Int)^((n:Int)).toNat=((2^n:Nat):Int):=by
      rw[Int.toNat_natCast]
      push_cast
      rfl
    have hS:(0:Int)<((2^n:Nat):Int):=by
      have:=Nat.two_pow_pos n
      lia
    refine⟨_,rfl,p,_,_,_,rfl,rfl,SqL.of hp,at_ix (j:=0) rfl rfl,a,_,_,_,rfl,rfl,SqL.of ha',at_ix (j:=0) rfl rfl,_,rfl,_,_,rfl,rfl,(by lia),?_⟩
    refine⟨_,rfl,p,_,_,_,rfl,rfl,SqL.of hp,at_ix (j:=1) rfl rfl,b,_,_,_,rfl,rfl,SqL.of hb',at_ix (j:=0) rfl rfl,_,rfl,_,_,rfl,rfl,(by lia),?_⟩
    refine⟨x / ((2^n:Nat):Int),y / ((2^n:Nat):Int),?_,?_,?_,hpos,hbits,hj,hb59,fun H1 v1' X l0 m0 Y l1 m1 s1 hln hhv=>?_⟩
    · rw[←e2]
      rfl
    · exact Int.ediv_nonneg hy0 (Int.le_of_lt hS)
    · exact Int.ediv_le_ediv hS hyx
    obtain⟨q,c0,c1,rfl,hq,hc0,hc1⟩:=hln
    obtain⟨g0,g1⟩:=hhv.few hj hb59
    have hx0:0≤x:=Int.le_trans hy0 hyx
    refine⟨_,rfl,_,rfl,_,rfl,q,_,_,_,rfl,rfl,SqL.of hq,at_ix (j:=0) rfl rfl,?_⟩
    refine⟨_,c0,(x,u0,v0),(y,u1,v1),X,l0,m0,n,rfl,⟨p,a,b,rfl,s1 _ _ hp,s1 _ _ ha,s1 _ _ hb⟩,hc0,hx0,hy0,hn,hhv.ls.ex,g0,f0,f1,fun H2 w0 s2 hw0=>?_⟩
    have s12:=s1.trans s2
    refine⟨_,rfl,_,rfl,_,rfl,q,_,_,_,rfl,rfl,SqL.of (s2 _ _ hq),at_ix (j:=1) rfl rfl,?_⟩
    refine⟨_,c1,(x,u0,v0),(y,u1,v1),Y,l1,m1,n,rfl,⟨p,a,b,rfl,s12 _ _ hp,s12 _ _ ha,s12 _ _ hb⟩,s2 _ _ hc1,hx0,hy0,hn,hhv.ls.ey,g1,f0,f1,fun H3 w1 s3 hw1=>?_⟩
    have hw0':=s3 _ _ hw0
    have fin:=fun H' u=>k H' u X l0 m0 Y l1 m1
    dsimp only at fin hw0' hw1
    generalize hR0:flipR (l0*x+m0*y,l0*u0+m0*u1,l0*v0+m0*v1)=R0 at *
    generalize hR1:flipR (l1*x+m1*y,l1*u0+m1*u1,l1*v0+m1*v1)=R1 at *
    have hw0'':H3 w0=some (.lst ([R0.1,R0.2.1,R0.2.2].map V.int)):=hw0'
    have hw1'':H3 w1=some (.lst ([R1.1,R1.2.1,R1.2.2].map V.int)):=hw1
    refine⟨_,rfl,w0,_,_,_,rfl,rfl,SqL.of hw0'',at_ix (j:=0) rfl rfl,_,rfl,w1,_,_,_,rfl,rfl,SqL.of hw1'',at_ix (j:=0) rfl rfl,_,_,rfl,rfl,_,rfl,?_⟩
    unfold inOrder at fin
    refine ite2 (fun h1=>?_) (fun h1=>?_)
    · have h2:R0.1<R1.1:=of_decide_eq_true h1
      rw[if_pos h2] at fin
      refine⟨_,rfl,_,rfl,(by show 2≤sizeLine;decide),fun z hz=>?_⟩
      have s4:=same_upd (o:=.lst [V.ref w1,V.ref w0]) hz
      exact fin _ _ ((s12.trans s3).trans s4) hhv ⟨z,w1,w0,rfl,upd_same,s4 _ _ hw1,s4 _ _ hw0'⟩
    · have h2:¬ R0.1<R1.1:=fun z=>h1 (decide_eq_true z)
      rw[if_neg h2] at fin
      refine⟨_,rfl,_,rfl,(by show 2≤sizeLine;decide),fun z hz=>?_⟩
      have s4:=same_upd (o:=.lst [V.ref w0,V.ref w1]) hz
      exact fin _ _ ((s12.trans s3).trans s4) hhv ⟨z,w0,w1,rfl,upd_same,s4 _ _ hw0',s4 _ _ hw1⟩
theorem bits_lt (z:Int):z.natAbs<2^(Builtin.Int.intBits z):=by
  unfold Builtin.Int.intBits
  split
  · rename_i hz
    have:z=0:=by simpa using hz
    subst this
    decide
  · exact Nat.lt_log2_self
theorem bits_ge {z:Int} (h:z≠0):2^(Builtin.Int.intBits z-1)≤z.natAbs∧1≤Builtin.Int.intBits z:=by
  unfold Builtin.Int.intBits
  split
  · rename_i hz
    exact absurd (by simpa using hz) h
  · rw[Nat.add_sub_cancel]
    exact⟨Nat.log2_self_le (by lia),by lia⟩
theorem bits_eq {z:Int}{n:Nat} (hn:1≤n) (h1:2^(n-1)≤z.natAbs) (h2:z.natAbs<2^n):Builtin.Int.intBits z=n:=by
  have g1:=bits_few h2
  have hz:z≠0:=fun e=>by
    rw[e] at h1
    have:=Nat.two_pow_pos (n-1)
    have e0:(0:Int).natAbs=0:=rfl
    lia
  have g2:=bits_lt z
  false_or_by_contra
  have g3:2^(Builtin.Int.intBits z)≤2^(n-1):=pow2_mono (by lia)
  lia
def yAt (σ:L2.St) (H:Hp):Nat:=match σ with
  | [_,_,_,some (.ref p)]=>match H p with
    | some (.lst [_,.ref b])=>match H b with
      | some (.lst (.int y::_))=>y.toNat
      | _=>0
    | _=>0
  | _=>0
theorem yAt_is {H:Hp}{v0 v1 v2:Option V}{p a b:Addr}{r s:T3} (hp:H p=some (.lst [V.ref a,V.ref b])) (hb:H b=some (.lst (trL s))):yAt [v0,v1,v2,some (.ref p)] H=s.1.toNat:=by
  unfold yAt
  dsimp only
  rw[hp]
  dsimp only
  rw[hb]
  rfl
theorem few135 {z:Int}{n:Nat} (h:z.natAbs<W n) (hn:n≤60000000):z.natAbs<2^nd:=lt_up (by rw[W_is] at h;exact h) (le_nd hn)
theorem fewbig {z:Int}{n:Nat} (h:z.natAbs<W n) (hn:n≤65000000):z.natAbs<2^big:=lt_up (by rw[W_is] at h;exact h) (le_big hn)
theorem pow_int (n:Nat):(2:Int)^((n:Int)).toNat=((2^n:Nat):Int):=by
  rw[Int.toNat_natCast]
  push_cast
  rfl
theorem sh_ne {y:Int}{h:Nat} (hy:0≤y) (e:y / 2^((h:Int)).toNat≠0):W h≤y.natAbs:=by
  rw[pow_int] at e
  false_or_by_contra
  exact e ((two_div hy).mpr (by lia))
theorem sh_eq {y:Int}{h:Nat} (hy:0≤y) (e:y / 2^((h:Int)).toNat=0):y.natAbs<W h:=by
  rw[pow_int] at e
  exact (two_div hy).mp e
theorem bit_le20 {n j L:Nat} (hn:200<n) (hj:j≤20) (hL:L≤n / 2+((n-n / 2)-(n-n / 2) / 2)+2*j+2):L≤2*(n / 2):=by lia
theorem sc_halved:FnScope ["a","b","half","lines"] ["a","b"] (defScope s_halved):=⟨rfl,rfl,rfl,by decide +kernel,rfl,by decide +kernel,by decide +kernel⟩
theorem ok_halved {P:Program}{w:World}{K:PySem.W.Frag}{mg:Str→Option Value}{base:Heap}{f:Addr}{fd:FuncData} (F:Fun K "halved" "halved" s_halved f fd) (O:Own mg) (c_SHORT_TO_HALVE:Kst mg "SHORT_TO_HALVE" 200) {k j:Nat} (hk:33≤k) (C_divided:Cal P w K mg base 33 "divided" ["lines"] sp_divided) (C_shortened:Cal P w K mg base k "shortened" ["lines","shift"] (sp_shortened j)) :
    FnOk P w K mg base CX0 (k+1) f fd ["a","b"] (sp_halved j):=by
  refine F.ok sc_halved (fun vs H Q E h=>?_) (fun cdv A outer s H vs Q E hr h=>?_)
  · obtain⟨a,b,rfl,_⟩:=h
    rfl
  · obtain⟨a,b,rfl,hb0,hba,ha0,hbits,hj,hBn,k⟩:=h
    refine⟨_,(pss_cons (ps_set (i:=2) sc_halved.nd rfl (by first | exact Or.inl rfl | exact Or.inr rfl) (pe_op op_fdiv (pe_bits (pv 0)) pe_int))
      (pss_cons (ps_set (i:=3) sc_halved.nd rfl (by first | exact Or.inl rfl | exact Or.inr rfl) (pe_lst (pa_cons (pe_lst (pa_cons (pv 0) (pa_cons pe_int (pa_cons pe_int pa_nil)))) (pa_cons (pe_lst (pa_cons (pv 1) (pa_cons pe_int (pa_cons pe_int pa_nil)))) pa_nil))))
      (pss_cons (ps_if (pt_cmpR op_le (pe_bits (pv 0)) (pe_globK (by rfl) c_SHORT_TO_HALVE) (nomark _)) (pss_cons (ps_while PassesOwn.never (pt_cmpR op_ne (pe_op op_shr (pe_ix (ix_listK (K:=K) rfl) (pe_ix (ix_listK (K:=K) rfl) (pv 3) pe_int (fun _ _=>rfl)) pe_int (fun _ _=>rfl)) (pv 2)) pe_int (nomark _)) (pss_one (ps_set (i:=3) sc_halved.nd rfl (by first | exact Or.inl rfl | exact Or.inr rfl) (pe_cal C_divided (hr.mono (by lia)) (by rfl) (pa_cons (pv 3) pa_nil)))))
      (pss_one (ps_ret (pv 3)))) pss_nil)
      (pss_cons (ps_set (i:=3) sc_halved.nd rfl (by first | exact Or.inl rfl | exact Or.inr rfl) (pe_cal C_shortened (hr.mono (by lia)) (by rfl) (pa_cons (pv 3) (pa_cons (pv 2) pa_nil))))
      (pss_cons (ps_if (pt_cmpR op_ne (pe_op op_shr (pe_ix (ix_listK (K:=K) rfl) (pe_ix (ix_listK (K:=K) rfl) (pv 3) pe_int (fun _ _=>rfl)) pe_int (fun _ _=>rfl)) (pv 2)) pe_int (nomark _)) (pss_one (ps_set (i:=3) sc_halved.nd rfl (by first | exact Or.inl rfl | exact Or.inr rfl) (pe_cal C_divided (hr.mono (by lia)) (by rfl) (pa_cons (pv 3) pa_nil)))) pss_nil)
      (pss_cons (ps_if (pt_cmpR op_ne (pe_op op_shr (pe_ix (ix_listK (K:=K) rfl) (pe_ix (ix_listK (K:=K) rfl) (pv 3) pe_int (fun _ _=>rfl)) pe_int (fun _ _=>rfl)) (pv 2)) pe_int (nomark _)) (pss_one (ps_set (i:=3) sc_halved.nd rfl (by first | exact Or.inl rfl | exact Or.inr rfl) (pe_cal C_shortened (hr.mono (by lia)) (by rfl) (pa_cons (pv 3) (pa_cons (pe_callB (call_max2 rfl) (by rfl) O.max_ bt_max (pa_cons (pe_op op_sub (pe_op op_mul pe_int (pv 2)) (pe_bits (pe_ix (ix_listK (K:=K) rfl) (pe_ix (ix_listK (K:=K) rfl) (pv 3) pe_int (fun _ _=>rfl)) pe_int (fun _ _=>rfl)))) (pa_cons pe_int pa_nil))) pa_nil))))) pss_nil)
      (pss_one (ps_ret (pv 3))))))))),?_⟩
    have ha1:=bits_lt a
    obtain⟨ha2,hn1⟩:=bits_ge (show a≠0 by lia)
    generalize hn:Builtin.Int.intBits a=n at *
    have haW:a.natAbs<W n:=by rw[W_is];exact ha1
    have ehalf:(n:Int) / 2=((n / 2:Nat):Int):=by lia
    have hakW:W (n / 2)≤a.natAbs:=by
      rw[W_is]
      exact Nat.le_trans (pow2_mono (by lia)) ha2
    refine⟨_,rfl,_,rfl,_,_,rfl,rfl,⟨by decide,by decide⟩,?_⟩
    rw[hn]
    dsimp only
    rw[ehalf]
    refine⟨_,rfl,(by show 3≤sizeLine;decide),fun r0 hr0=>⟨_,rfl,(by show 3≤sizeLine;decide),fun r1 hr1=>⟨(by show 2≤sizeLine;decide),fun p hp=>?_⟩⟩⟩
    have s1:=same_upd (o:=.lst (trL (a,1,0))) hr0
    have s2:=same_upd (o:=.lst (trL (b,0,1))) hr1
    have s3:=same_upd (o:=.lst [V.ref r0,V.ref r1]) hp
    have s123:Same H (upd (upd (upd H r0 (.lst (trL (a,1,0)))) r1 (.lst (trL (b,0,1)))) p (.lst [V.ref r0,V.ref r1])):=(s1.trans s2).trans s3
    have hLN:LN (upd (upd (upd H r0 (.lst (trL (a,1,0)))) r1 (.lst (trL (b,0,1)))) p (.lst [V.ref r0,V.ref r1])) (.ref p) (a,1,0) (b,0,1):=⟨p,r0,r1,rfl,upd_same,s3 _ _ (s2 _ _ upd_same),s3 _ _ upd_same⟩
    generalize hH:upd (upd (upd H r0 (.lst (trL (a,1,0)))) r1 (.lst (trL (b,0,1)))) p (.lst [V.ref r0,V.ref r1])=H0 at *
    have hH':upd (upd (upd H r0 (HO.lst [V.int a,V.int 1,V.int 0])) r1 (HO.lst [V.int b,V.int 0,V.int 1])) p (HO.lst [V.ref r0,V.ref r1])=H0:=hH
    rw[hH']
    refine⟨_,rfl,_,rfl,_,_,rfl,rfl,_,rfl,?_⟩
    rw[hn]
    refine ite2 (fun h1=>?_) (fun h1=>?_)
    · have h2:n≤200:=by
        have:=of_decide_eq_true h1
        lia
      refine while_by (fun σ H'=>∃ (v:Addr) (r s:T3),σ=[some (.int a),some (.int b),some (.int ((n / 2:Nat):Int)),some (.ref v)]∧LN H' (.ref v) r s∧Eu n a b r.1 r.2.1 r.2.2 s.1 s.2.1 s.2.2∧Same H0 H') yAt
        ⟨p,(a,1,0),(b,0,1),rfl,hLN,Eu.start hb0 hba hakW,Same.refl _⟩ ?_ ?_
      · rintro σ H1 ⟨v,⟨x,u0,v0⟩,⟨y,u1,v1⟩,rfl,⟨p',c0,c1,e',hp',hc0,hc1⟩,hEu,s4⟩
        cases e'
        have hc1':H1 c1=some (.lst ([y,u1,v1].map V.int)):=hc1
        have hy0:=hEu.y0
        refine⟨_,rfl,v,_,_,_,rfl,rfl,SqL.of hp',at_ix (j:=1) rfl rfl,c1,_,_,_,rfl,rfl,SqL.of hc1',at_ix (j:=0) rfl rfl,_,rfl,_,_,rfl,rfl,(by lia),rfl,_,rfl,?_⟩
        refine ite2 (fun h3=>?_) (fun h3=>?_)
        · have hyk:=sh_ne hy0 (nq_ne h3)
          obtain⟨g1,g2,g3,g4⟩:=hEu.fac haW (by lia) hba
          have hyp:0<y:=by
            have:=W_pos (n / 2)
            have hy00:0≤y:=hy0
            clear g1 g2 g3 g4 haW hakW ha1 ha2
            lia
          refine⟨_,rfl,_,(x,u0,v0),(y,u1,v1),rfl,⟨v,c0,c1,rfl,hp',hc0,hc1⟩,hyp,few135 g1 (by lia),few135 g4 (by lia),few135 g2 (by lia),few135 g3 (by lia),fun H2 u2 s5 hln=>?_⟩
          obtain⟨p2,d0,d1,rfl,hp2,hd0,hd1⟩:=hln
          refine⟨⟨p2,_,_,rfl,⟨p2,d0,d1,rfl,hp2,hd0,hd1⟩,hEu.step hyk,s4.trans s5⟩,?_⟩
          show yAt [_,_,_,some (.ref p2)] H2<yAt [_,_,_,some (.ref v)] H1
          rw[yAt_is (r:=(y,u1,v1)) hp2 hd1,yAt_is (r:=(x,u0,v0)) hp' hc1]
          show (x-x / y*y).toNat<y.toNat
          have h5:=Int.emod_lt_of_pos x hyp
          have h6:x-x / y*y=x % y:=by
            have:=Int.mul_ediv_add_emod x y
            rw[Int.mul_comm] at this
            clear g1 g2 g3 g4 haW hakW ha1 ha2
            lia
          rw[h6]
          clear g1 g2 g3 g4 haW hakW ha1 ha2
          lia
        · have hyk:=sh_eq hy0 (nq_eq h3)
          exact⟨_,rfl,k _ _ x u0 v0 y u1 v1 (s123.trans s4) ⟨v,c0,c1,rfl,hp',hc0,hc1⟩ ((hEu.done hn1 haW (by lia) hba hyk).up (Nat.zero_le _))⟩
      · rintro σ H' Q1 Q2 hq ⟨w0,f0,g,xs,i,v,e1,e2,e3,e4,g',xs',i',v',e1',e2',e3',e4',w1,f1,i2,j2,e5,e6,c6,r1,b,e7,h⟩
        exact⟨w0,f0,g,xs,i,v,e1,e2,e3,e4,g',xs',i',v',e1',e2',e3',e4',w1,f1,i2,j2,e5,e6,c6,r1,b,e7,hq _ _ h⟩
    have h2:200<n:=by
      false_or_by_contra
      exact h1 (decide_eq_true (by lia))
    obtain⟨j',rfl⟩:∃ j',j=j'+1:=by
      cases j with
      | zero =>
        have:Bj 0=140:=by decide
        lia
      | succ j'=>exact⟨j',rfl⟩
    have hj':j'≤20:=by lia
    have ht:2*j'≤40:=by lia
    obtain⟨q1,q2⟩:=few_div (h:=n / 2) (show 0≤a by lia) ha2 ha1 (by lia)
    have hbd:=bits_eq (show 1≤n-n / 2 by lia) q1 q2
    have hpos:0<a / ((2^(n / 2):Nat):Int):=by
      have h3:0≤a / ((2^(n / 2):Nat):Int):=Int.ediv_nonneg (by lia) (Int.natCast_nonneg _)
      have h4:=Nat.two_pow_pos (n-n / 2-1)
      generalize a / ((2^(n / 2):Nat):Int)=z at *
      generalize 2^(n-n / 2-1)=M at *
      clear haW hakW ha1 ha2
      lia
    have hbig1:(1:Int).natAbs<2^big:=Nat.one_lt_two_pow (by decide)
    have hbig0:(0:Int).natAbs<2^big:=Nat.two_pow_pos _
    have hbW:b.natAbs<W n:=by clear hakW ha1 ha2 q1 q2 hbig1 hbig0;lia
    refine⟨_,rfl,_,rfl,_,(a,1,0),(b,0,1),n / 2,rfl,hLN,hb0,hba,hpos,?_,hj',?_,by lia,⟨fewbig haW (by lia),hbig1,hbig0⟩,⟨fewbig hbW (by lia),hbig0,hbig1⟩,fun H4 u4 X l0 m0 Y l1 m1 s4 hhv hln=>?_⟩
    · show Builtin.Int.intBits (a / ((2^(n / 2):Nat):Int))≤Bj j'
      rw[hbd]
      exact Bj_half hbits
    · show Builtin.Int.intBits (a / ((2^(n / 2):Nat):Int))≤59000000
      rw[hbd]
      clear haW hakW ha1 ha2 q1 q2 hbig1 hbig0 hbW
      lia
    dsimp only at hhv hln
    rw[hbd] at hhv
    simp only[Int.mul_one,Int.mul_zero,Int.add_zero,Int.zero_add] at hln
    rw[←W_is] at hhv
    obtain⟨x,u0,v0,y,u1,v1,e1,hL,y0,yx,yb,xb,c0,c1,c2,c3⟩:=stage1 h2 ht haW hb0 (by lia) hhv
    rw[e1] at hln
    obtain⟨p5,r5,t5,rfl,hp5,hr5,ht5⟩:=hln
    dsimp only at hr5 ht5
    have ht5':H4 t5=some (.lst ([y,u1,v1].map V.int)):=ht5
    have hr5':H4 r5=some (.lst ([x,u0,v0].map V.int)):=hr5
    have hLe:n / 2+((n-n / 2)-(n-n / 2) / 2)+2*j'+2≤60000000:=by clear haW hakW ha1 ha2 q1 q2 hbig1 hbig0 hbW yb xb c0 c1 c2 c3;lia
    refine⟨_,rfl,p5,_,_,_,rfl,rfl,SqL.of hp5,at_ix (j:=1) rfl rfl,t5,_,_,_,rfl,rfl,SqL.of ht5',at_ix (j:=0) rfl rfl,_,rfl,_,_,rfl,rfl,(by lia),rfl,_,rfl,?_⟩
    refine ite2 (fun h3=>?_) (fun h3=>?_)
    · have hyk:=sh_ne y0 (nq_ne h3)
      obtain⟨hD,d0,d1,d2,d3⟩:=divide (t:=2*j') h2 haW (by clear hakW ha1 ha2 q1 q2 hbig1 hbig0 hbW yb xb c0 c1 c2 c3 haW hyk;lia) hL hyk y0 yx c2 c3
      have hyp:0<y:=by
        have h9:=W_pos (n / 2)
        clear hakW ha1 ha2 q1 q2 hbig1 hbig0 hbW yb xb c0 c1 c2 c3 haW d0 d1 d2 d3
        lia
      have hxe:n+2*j'+2≤60000000:=by clear hakW ha1 ha2 q1 q2 hbig1 hbig0 hbW yb xb c0 c1 c2 c3 haW d0 d1 d2 d3 hyk;lia
      have hce:(n-n / 2)-(n-n / 2) / 2+2*j'≤60000000:=by clear hakW ha1 ha2 q1 q2 hbig1 hbig0 hbW yb xb c0 c1 c2 c3 haW d0 d1 d2 d3 hyk;lia
      have hde:n-n / 2+2*j'+1≤60000000:=by clear hakW ha1 ha2 q1 q2 hbig1 hbig0 hbW yb xb c0 c1 c2 c3 haW d0 d1 d2 d3 hyk;lia
      have hba':b.natAbs≤a.natAbs:=by clear hakW ha1 ha2 q1 q2 hbig1 hbig0 hbW yb xb c0 c1 c2 c3 haW d0 d1 d2 d3 hyk;lia
      refine⟨_,rfl,_,(x,u0,v0),(y,u1,v1),rfl,⟨p5,r5,t5,rfl,hp5,hr5,ht5⟩,hyp,few135 xb hxe,few135 yb hLe,few135 c2 hce,few135 c3 hce,fun H6 u6 s6 hln6=>?_⟩
      dsimp only at hln6
      generalize x-x / y*y=y2 at *
      generalize u0-x / y*u1=u2 at *
      generalize v0-x / y*v1=v2 at *
      obtain⟨p6,r6,t6,rfl,hp6,hr6,ht6⟩:=hln6
      have ht6':H6 t6=some (.lst ([y2,u2,v2].map V.int)):=ht6
      have hr6':H6 r6=some (.lst ([y,u1,v1].map V.int)):=hr6
      refine⟨_,rfl,p6,_,_,_,rfl,rfl,SqL.of hp6,at_ix (j:=1) rfl rfl,t6,_,_,_,rfl,rfl,SqL.of ht6',at_ix (j:=0) rfl rfl,_,rfl,_,_,rfl,rfl,(by lia),rfl,_,rfl,?_⟩
      refine ite2 (fun h4=>?_) (fun h4=>?_)
      · have hy2k:=sh_ne d0 (nq_ne h4)
        have hb1:=bits_lt y
        obtain⟨hb2,hb3⟩:=bits_ge (show y≠0 from Int.ne_of_gt hyp)
        have hLm:Builtin.Int.intBits y≤n / 2+((n-n / 2)-(n-n / 2) / 2)+2*j'+2:=bits_few (by rw[←W_is];exact yb)
        have hLk:n / 2<Builtin.Int.intBits y:=by
          false_or_by_contra
          rename_i hc
          have h9:=W_le (Nat.le_of_not_lt hc)
          rw[W_is (Builtin.Int.intBits y)] at h9
          generalize 2^Builtin.Int.intBits y=M at *
          clear hakW ha1 ha2 q1 q2 hbig1 hbig0 hbW yb xb c0 c1 c2 c3 haW d0 d1 d2 d3 hb2
          lia
        refine⟨_,rfl,_,rfl,_,_,rfl,rfl,.inl ⟨by decide,by decide⟩,_,rfl,p6,_,_,_,rfl,rfl,SqL.of hp6,at_ix (j:=0) rfl rfl,r6,_,_,_,rfl,rfl,SqL.of hr6',at_ix (j:=0) rfl rfl,_,rfl,_,_,rfl,rfl,_,_,rfl,?_⟩
        generalize hL0:Builtin.Int.intBits y=L at *
        have hL2:=bit_le20 h2 hj' hLm
        have emax:(if (0:Int) > 2*((n / 2:Nat):Int)-(L:Int) then (0:Int) else 2*((n / 2:Nat):Int)-(L:Int))=((2*(n / 2)-L:Nat):Int):=by
          clear hakW ha1 ha2 q1 q2 hbig1 hbig0 hbW yb xb c0 c1 c2 c3 haW d0 d1 d2 d3 hb1 hb2 hyk hy2k
          rw[if_neg (by lia)]
          lia
        rw[emax]
        have hsh:2*(n / 2)-L<L:=by clear hakW ha1 ha2 q1 q2 hbig1 hbig0 hbW yb xb c0 c1 c2 c3 haW d0 d1 d2 d3 hb1 hb2 hyk hy2k;lia
        have hexp:L-(2*(n / 2)-L)=2*(L-n / 2):=by clear hakW ha1 ha2 q1 q2 hbig1 hbig0 hbW yb xb c0 c1 c2 c3 haW d0 d1 d2 d3 hb1 hb2 hyk hy2k;lia
        have he1:1≤2*(L-n / 2):=by clear hakW ha1 ha2 q1 q2 hbig1 hbig0 hbW yb xb c0 c1 c2 c3 haW d0 d1 d2 d3 hb1 hb2 hyk hy2k;lia
        have hn20:2*(n / 2)-L≤60000000:=by clear hakW ha1 ha2 q1 q2 hbig1 hbig0 hbW yb xb c0 c1 c2 c3 haW d0 d1 d2 d3 hb1 hb2 hyk hy2k;lia
        obtain⟨q3,q4⟩:=few_div (Int.le_of_lt hyp) hb2 hb1 hsh
        rw[hexp] at q3 q4
        have hbd2:=bits_eq he1 q3 q4
        have hpos2:0<y / ((2^(2*(n / 2)-L):Nat):Int):=by
          have h3:0≤y / ((2^(2*(n / 2)-L):Nat):Int):=Int.ediv_nonneg (Int.le_of_lt hyp) (Int.natCast_nonneg _)
          have h9:=Nat.two_pow_pos (2*(L-n / 2)-1)
          generalize y / ((2^(2*(n / 2)-L):Nat):Int)=z at *
          generalize 2^(2*(L-n / 2)-1)=M at *
          clear hakW ha1 ha2 q1 q2 hbig1 hbig0 hbW yb xb c0 c1 c2 c3 haW d0 d1 d2 d3 hb1 hb2 hyk hy2k q4
          lia
        have hy2b:y2.natAbs<W (n / 2+((n-n / 2)-(n-n / 2) / 2)+2*j'+2):=by
          clear hakW ha1 ha2 q1 q2 hbig1 hbig0 hbW xb c0 c1 c2 c3 haW d2 d3 hb1 hb2 hyk hy2k q3 q4
          lia
        refine⟨_,(y,u1,v1),(y2,u2,v2),2*(n / 2)-L,rfl,⟨p6,r6,t6,rfl,hp6,hr6,ht6⟩,d0,d1,hpos2,?_,hj',?_,hn20,⟨fewbig yb (Nat.le_trans hLe (by decide)),fewbig c2 (Nat.le_trans hce (by decide)),fewbig c3 (Nat.le_trans hce (by decide))⟩,⟨fewbig hy2b (Nat.le_trans hLe (by decide)),fewbig d2 (Nat.le_trans hde (by decide)),fewbig d3 (Nat.le_trans hde (by decide))⟩,fun H7 u7 X' l0' m0' Y' l1' m1' s7 hhv2 hln7=>?_⟩
        · show Builtin.Int.intBits (y / ((2^(2*(n / 2)-L):Nat):Int))≤Bj j'
          rw[hbd2]
          exact Bj_next hbits hLm
        · show Builtin.Int.intBits (y / ((2^(2*(n / 2)-L):Nat):Int))≤59000000
          rw[hbd2]
          clear hakW ha1 ha2 q1 q2 hbig1 hbig0 hbW yb xb c0 c1 c2 c3 haW d0 d1 d2 d3 hb1 hb2 hyk hy2k q3 q4 hy2b
          lia
        dsimp only at hhv2 hln7
        rw[hbd2,←W_is] at hhv2
        obtain⟨x',u0',v0',y',u1',v1',e7,hfin⟩:=stage2 h2 ht haW hba' hD d0 d1 (by rw[W_is];exact hb2) (by rw[W_is];exact hb1) hLk hLm c2 c3 hhv2
        rw[e7] at hln7
        exact⟨_,rfl,k _ _ x' u0' v0' y' u1' v1' (((s123.trans s4).trans s6).trans s7) hln7 hfin⟩
      · have hy2k:=sh_eq d0 (nq_eq h4)
        exact⟨_,rfl,k _ _ y u1 v1 y2 u2 v2 ((s123.trans s4).trans s6) ⟨p6,r6,t6,rfl,hp6,hr6,ht6⟩ (ret2 h2 ht hD d0 d1 yb hy2k c2 c3 d2 d3)⟩
    · have hyk:=sh_eq y0 (nq_eq h3)
      refine⟨_,rfl,p5,_,_,_,rfl,rfl,SqL.of hp5,at_ix (j:=1) rfl rfl,t5,_,_,_,rfl,rfl,SqL.of ht5',at_ix (j:=0) rfl rfl,_,rfl,_,_,rfl,rfl,(by lia),rfl,_,rfl,?_⟩
      refine ite2 (fun h4=>absurd (nq_eq h3) (nq_ne h4)) (fun h4=>?_)
      exact⟨_,rfl,k _ _ x u0 v0 y u1 v1 (s123.trans s4) ⟨p5,r5,t5,rfl,hp5,hr5,ht5⟩ (ret1 h2 hL y0 yx xb hyk c0 c1 c2 c3)⟩
theorem cal_halved {P:Program}{w:World}{K:PySem.W.Frag}{mg:Str→Option Value}{base:Heap}{f g:Addr}{fd gd:FuncData} (F:Fun K "halved" "halved" s_halved f fd) (G:Fun K "shortened" "shortened" s_shortened g gd) (O:Own mg) (c_SHORT_TO_HALVE:Kst mg "SHORT_TO_HALVE" 200)
    (C_divided:Cal P w K mg base 33 "divided" ["lines"] sp_divided) (C_carried_over:Cal P w K mg base 1 "carried_over" ["lines","shift","step"] sp_carried_over)
    (m1:mg "halved"=some (.ref f)) (k1:PySem.W.keepIn K (.ref f)=true) (b1:Binds K fd ["a","b"] []) (m2:mg "shortened"=some (.ref g)) (k2:PySem.W.keepIn K (.ref g)=true) (b2:Binds K gd ["lines","shift"] []) :
    ∀ j:Nat,Cal P w K mg base (2*j+36) "halved" ["a","b"] (sp_halved j)
  | 0=>⟨f,fd,ok_halved F O c_SHORT_TO_HALVE (k:=35) (by decide) C_divided ⟨g,gd,ok_shortened0 G,m2,k2,b2⟩,m1,k1,b1⟩
  | j+1=>⟨f,fd,ok_halved F O c_SHORT_TO_HALVE (k:=2*j+37) (by lia) C_divided ⟨g,gd,ok_shortened G O (by lia) C_carried_over (cal_halved F G O c_SHORT_TO_HALVE C_divided C_carried_over m1 k1 b1 m2 k2 b2 j),m2,k2,b2⟩,m1,k1,b1⟩
def nb:Nat:=58000000
theorem nb_le {m:Nat} (h:m≤nb):m≤58000000:=h
def sp_common_divisor:Sp:=fun vs H Q _=>∃ m n:Int,vs=[.int m,.int n]∧m.natAbs<2^nb∧n.natAbs<2^nb∧∀ H':Hp,Same H H'→Q (.int (Nat.gcd m.natAbs n.natAbs:Nat)) H'
theorem max_is (a b:Int) (m n:Nat) (ha:a=m) (hb:b=n):(if b > a then b else a)=((max m n:Nat):Int):=by
  subst ha hb
  rw[Nat.max_def]
  split <;> split <;> lia
theorem min_is (a b:Int) (m n:Nat) (ha:a=m) (hb:b=n):(if b<a then b else a)=((min m n:Nat):Int):=by
  subst ha hb
  rw[Nat.min_def]
  split <;> split <;> lia
theorem gcd_max_min (m n:Nat):Nat.gcd (max m n) (min m n)=Nat.gcd m n:=by
  rw[Nat.max_def,Nat.min_def]
  split
  · exact Nat.gcd_comm n m
  · rfl
theorem min_few' {m n k:Nat} (h:m<k):min m n<k:=Nat.lt_of_le_of_lt (Nat.min_le_left _ _) h
theorem sc_common_divisor:FnScope ["m","n","left","right","lines","rest"] ["m","n"] (defScope s_common_divisor):=⟨rfl,rfl,rfl,by decide +kernel,rfl,by decide +kernel,by decide +kernel⟩
theorem ok_common_divisor {P:Program}{w:World}{K:PySem.W.Frag}{mg:Str→Option Value}{base:Heap}{f:Addr}{fd:FuncData} (F:Fun K "common_divisor" "common_divisor" s_common_divisor f fd) (O:Own mg) (c_SHORT_TO_DIVIDE:Kst mg "SHORT_TO_DIVIDE" 2000) (C_halved:Cal P w K mg base 76 "halved" ["a","b"] (sp_halved 20)) :
    FnOk P w K mg base CX0 77 f fd ["m","n"] sp_common_divisor:=by
  refine F.ok sc_common_divisor (fun vs H Q E h=>?_) (fun cdv A outer s H vs Q E hr h=>?_)
  · obtain⟨m,n,rfl,_⟩:=h
    rfl
  · obtain⟨m,n,rfl,hm,_,k⟩:=h
    refine⟨_,(pss_cons (ps_set (i:=2) sc_common_divisor.nd rfl (by first | exact Or.inl rfl | exact Or.inr rfl) (pe_callB (call_max2 rfl) (by rfl) O.max_ bt_max (pa_cons (pe_callB call_abs (by rfl) O.abs_ bt_abs (pa_cons (pv 0) pa_nil)) (pa_cons (pe_callB call_abs (by rfl) O.abs_ bt_abs (pa_cons (pv 1) pa_nil)) pa_nil))))
      (pss_cons (ps_set (i:=3) sc_common_divisor.nd rfl (by first | exact Or.inl rfl | exact Or.inr rfl) (pe_callB (call_min2 rfl) (by rfl) O.min_ bt_min (pa_cons (pe_callB call_abs (by rfl) O.abs_ bt_abs (pa_cons (pv 0) pa_nil)) (pa_cons (pe_callB call_abs (by rfl) O.abs_ bt_abs (pa_cons (pv 1) pa_nil)) pa_nil))))
      (pss_cons (ps_while PassesOwn.never (pt_cmpR op_gt (pe_bits (pv 3)) (pe_globK (by rfl) c_SHORT_TO_DIVIDE) (nomark _)) (pss_cons (ps_set (i:=4) sc_common_divisor.nd rfl (by first | exact Or.inl rfl | exact Or.inr rfl) (pe_cal C_halved (hr.mono (by decide)) (by rfl) (pa_cons (pv 3) (pa_cons (pe_op op_mod (pv 2) (pv 3)) pa_nil))))
      (pss_cons (ps_set (i:=2) sc_common_divisor.nd rfl (by first | exact Or.inl rfl | exact Or.inr rfl) (pe_ix (ix_listK (K:=K) rfl) (pe_ix (ix_listK (K:=K) rfl) (pv 4) pe_int (fun _ _=>rfl)) pe_int (fun _ _=>rfl)))
      (pss_one (ps_set (i:=3) sc_common_divisor.nd rfl (by first | exact Or.inl rfl | exact Or.inr rfl) (pe_ix (ix_listK (K:=K) rfl) (pe_ix (ix_listK (K:=K) rfl) (pv 4) pe_int (fun _ _=>rfl)) pe_int (fun _ _=>rfl)))))))
      (pss_cons (ps_while PassesOwn.never (pt_cmpR op_ne (pv 3) pe_int (nomark _)) (pss_cons (ps_set (i:=5) sc_common_divisor.nd rfl (by first | exact Or.inl rfl | exact Or.inr rfl) (pe_op op_mod (pv 2) (pv 3)))
      (pss_cons (ps_set (i:=2) sc_common_divisor.nd rfl (by first | exact Or.inl rfl | exact Or.inr rfl) (pv 3))
      (pss_one (ps_set (i:=3) sc_common_divisor.nd rfl (by first | exact Or.inl rfl | exact Or.inr rfl) (pv 5))))))
      (pss_one (ps_ret (pv 2))))))),?_⟩
    refine⟨_,rfl,m,rfl,_,rfl,n,rfl,_,_,rfl,_,rfl,m,rfl,_,rfl,n,rfl,_,_,rfl,?_⟩
    rw[max_is _ _ m.natAbs n.natAbs (abs_is _) (abs_is _),min_is _ _ m.natAbs n.natAbs (abs_is _) (abs_is _)]
    refine while_by (fun σ H'=>∃ (a b:Nat) (v:Option V),σ=[some (.int m),some (.int n),some (.int a),some (.int b),v,none]∧Nat.gcd a b=Nat.gcd m.natAbs n.natAbs∧b<2^nb∧Same H H')
      (fun σ H'=>match σ with | [_,_,_,some (.int b),_,_]=>b.toNat | _=>0) ⟨_,_,none,rfl,gcd_max_min _ _,min_few' hm,Same.refl H⟩ ?_ ?_
    · rintro σ H' ⟨a0,b0,v,rfl,hg,hbb,hs'⟩
      refine⟨_,rfl,_,rfl,_,_,rfl,rfl,_,rfl,?_⟩
      refine ite2 (fun h1=>?_) (fun h1=>?_)
      · have hbits:2000<Builtin.Int.intBits (b0:Int):=by
          have:=of_decide_eq_true h1
          lia
        have hle:Builtin.Int.intBits (b0:Int)≤58000000:=nb_le (bits_few (by rw[Int.natAbs_natCast];exact hbb))
        have hb0:0<(b0:Int):=by
          false_or_by_contra
          have e:(b0:Int)=0:=by clear hbb hm;lia
          rw[e] at hbits
          exact absurd hbits (by decide)
        have hmod0:=Int.emod_nonneg (a0:Int) (Int.ne_of_gt hb0)
        have hmod1:=Int.emod_lt_of_pos (a0:Int) hb0
        refine⟨_,rfl,_,rfl,_,rfl,_,_,rfl,rfl,hb0,(b0:Int),(a0:Int) % (b0:Int),rfl,hmod0,Int.le_of_lt hmod1,hb0,Nat.le_trans hle (by decide),by decide,Nat.le_trans hle (by decide),fun H2 v2 x u0 v0 y u1 v1 s2 hln hhv=>?_⟩
        obtain⟨p,c,d,rfl,hp,hc,hd⟩:=hln
        have hc':H2 c=some (.lst ([x,u0,v0].map V.int)):=hc
        have hd':H2 d=some (.lst ([y,u1,v1].map V.int)):=hd
        refine⟨_,rfl,p,_,_,_,rfl,rfl,SqL.of hp,at_ix (j:=0) rfl rfl,c,_,_,_,rfl,rfl,SqL.of hc',at_ix (j:=0) rfl rfl,?_⟩
        refine⟨_,rfl,p,_,_,_,rfl,rfl,SqL.of hp,at_ix (j:=1) rfl rfl,d,_,_,_,rfl,rfl,SqL.of hd',at_ix (j:=0) rfl rfl,?_⟩
        have y0:=hhv.y0
        have yx:=hhv.yx
        have hgc:=hhv.ls.gcd
        have hyb:=hhv.yb
        rw[W_is] at hyb
        obtain⟨hb2,_⟩:=bits_ge (Int.ne_of_gt hb0)
        have hyl:y.natAbs<2^(Builtin.Int.intBits (b0:Int)-1):=lt_up hyb (by clear hbb hm hyb hb2;lia)
        have ex:x=((x.toNat:Nat):Int):=by clear hbb hm hyb hb2 hyl;lia
        have ey:y=((y.toNat:Nat):Int):=by clear hbb hm hyb hb2 hyl;lia
        refine⟨⟨x.toNat,y.toNat,some (.ref p),?_,?_,?_,hs'.trans s2⟩,?_⟩
        · rw[←ex,←ey]
          rfl
        · rw[←hg,Nat.gcd_comm a0 b0]
          have e1:x.toNat=x.natAbs:=by clear hbb hm hyb hb2 hyl;lia
          have e2:y.toNat=y.natAbs:=by clear hbb hm hyb hb2 hyl;lia
          rw[e1,e2,hgc,Int.natAbs_natCast]
          have e3:((a0:Int) % (b0:Int)).natAbs=a0 % b0:=by
            rw[←Int.natCast_emod,Int.natAbs_natCast]
          rw[e3,Nat.gcd_rec b0 a0,Nat.gcd_comm]
        · have e2:y.toNat=y.natAbs:=by clear hbb hm hyb hb2 hyl;lia
          rw[e2]
          exact lt_up hyl (show Builtin.Int.intBits (b0:Int)-1≤58000000 by clear hbb hm hyb hb2 hyl;lia)
        · show y.toNat<((b0:Int)).toNat
          rw[Int.natAbs_natCast] at hb2
          have e2:y.toNat=y.natAbs:=by clear hbb hm hyb hb2 hyl;lia
          rw[e2,Int.toNat_natCast]
          exact Nat.lt_of_lt_of_le hyl hb2
      refine while_by (fun σ H'=>∃ (a b:Nat) (v w:Option V),σ=[some (.int m),some (.int n),some (.int a),some (.int b),v,w]∧Nat.gcd a b=Nat.gcd m.natAbs n.natAbs∧Same H H')
        (fun σ H'=>match σ with | [_,_,_,some (.int b),_,_]=>b.toNat | _=>0) ⟨_,_,_,none,rfl,hg,hs'⟩ ?_ ?_
      · rintro σ H' ⟨a,b,v,w',rfl,hg,hs⟩
        refine⟨_,rfl,rfl,_,rfl,?_⟩
        refine ite2 (fun hb=>?_) (fun hb=>?_)
        · have hb':¬ (b:Int)=0:=by simpa using hb
          have hbp:(0:Int)<b:=by clear hbb hm;lia
          refine⟨_,rfl,_,rfl,_,_,rfl,rfl,hbp,_,rfl,_,rfl,?_⟩
          refine⟨⟨b,a % b,_,_,rfl,?_,hs⟩,?_⟩
          · rw[←hg,Nat.gcd_comm a b,Nat.gcd_rec b a,Nat.gcd_comm]
          · show ((a:Int) % (b:Int)).toNat<((b:Int)).toNat
            have:a % b<b:=Nat.mod_lt _ (by clear hbb hm;lia)
            rw[←Int.natCast_emod]
            clear hbb hm
            lia
        · have hb':(b:Int)=0:=by simpa using hb
          have hb0:b=0:=by clear hbb hm;lia
          subst hb0
          refine⟨_,rfl,?_⟩
          rw[Nat.gcd_zero_right] at hg
          rw[hg]
          exact k H' hs
      · rintro σ H' Q1 Q2 hq ⟨v,e,h⟩
        exact⟨v,e,by
          obtain⟨h1,k,h2,h3⟩:=h
          exact⟨h1,k,h2,hq _ _ h3⟩⟩
    · rintro σ H' Q1 Q2 hq ⟨v,e,a,ea,i,j,e1,e2,b,eb,h⟩
      exact⟨v,e,a,ea,i,j,e1,e2,b,eb,hq _ _ h⟩
theorem lessRow_id {l:List Int} (h:gcdRow l=0):lessRow l=l:=by
  unfold lessRow
  rw[h]
  have hz:∀ z∈l,z=0:=fun z hz=>by
    have:=gcdRow_dvd hz
    rw[h] at this
    have:=Nat.eq_zero_of_zero_dvd this
    lia
  have e:l.map (fun (z:Int)=>z / ((0:Nat):Int))=l.map id:=List.map_congr_left fun z hz'=>by
    rw[hz z hz']
    rfl
  rw[e,List.map_id]
theorem gcdRow_rev (l:List Int):gcdRow l.reverse=gcdRow l:=by
  apply Nat.dvd_antisymm
  · exact (dvd_gcdRow l).mpr fun z hz=>gcdRow_dvd (by simpa using hz)
  · exact (dvd_gcdRow l.reverse).mpr fun z hz=>gcdRow_dvd (by simpa using hz)
theorem gcdRow_one {l:List Int}{i:Nat} (h:gcdRow (l.reverse.take i)=1):gcdRow l=1:=by
  have:gcdRow l ∣ gcdRow (l.reverse.take i):=(dvd_gcdRow _).mpr fun z hz=>gcdRow_dvd (by
    have:=List.mem_of_mem_take hz
    simpa using this)
  rw[h] at this
  exact Nat.dvd_one.mp this
theorem lessRow_one {l:List Int} (h:gcdRow l=1):lessRow l=l:=by
  unfold lessRow
  rw[h]
  have e:l.map (fun (z:Int)=>z / ((1:Nat):Int))=l.map id:=List.map_congr_left fun z _=>Int.ediv_one z
  rw[e,List.map_id]
def Divs (l:List Int):Prop:=∀ z∈l,z.natAbs<2^nb
theorem Divs.of {n:Nat}{l:List Int} (h:FewI n l) (hn:n≤nb):Divs l:=h.mono hn
def sp_without_divisor (K:PySem.W.Frag):Sp:=fun vs H Q _=>∃ (v:V) (l:List Int),vs=[v]∧IL K H v l∧l.length≤1000∧Divs l∧∀ (H':Hp) (u:V),Same H H'→OL H' u (lessRow l)→Q u H'
theorem sc_without_divisor:FnScope ["values","divisor","number"] ["values"] (defScope s_without_divisor):=⟨rfl,rfl,rfl,by decide +kernel,rfl,by decide +kernel,by decide +kernel⟩
theorem ok_without_divisor {P:Program}{w:World}{K:PySem.W.Frag}{mg:Str→Option Value}{base:Heap}{f:Addr}{fd:FuncData} (F:Fun K "without_divisor" "without_divisor" s_without_divisor f fd) (O:Own mg) (hN:base.NoSeer) (ht:P.given.tree=none) (C_common_divisor:Cal P w K mg base 77 "common_divisor" ["m","n"] sp_common_divisor):FnOk P w K mg base CX0 78 f fd ["values"] (sp_without_divisor K):=by
  refine F.ok sc_without_divisor (fun vs H Q E h=>?_) (fun cdv A outer s H vs Q E hr h=>?_)
  · obtain⟨v,l,rfl,_⟩:=h
    rfl
  · obtain⟨v,l,rfl,⟨a,rfl,hc⟩,hl,hb,k⟩:=h
    have hr32:=hr.mono (show 32≤77 by decide)
    refine⟨_,(pss_cons (ps_set (i:=1) sc_without_divisor.nd rfl (by first | exact Or.inl rfl | exact Or.inr rfl) pe_int)
      (pss_cons (ps_for PassesOwn.never rfl (pi_reversed (by rfl) O.reversed_ (pa_cons (pv 0) pa_nil)) (pg_name (i:=2) sc_without_divisor.nd rfl (by first | exact Or.inl rfl | exact Or.inr rfl)) (pss_cons (ps_set (i:=1) sc_without_divisor.nd rfl (by first | exact Or.inl rfl | exact Or.inr rfl) (pe_cal C_common_divisor (hr.mono (by decide)) (by rfl) (pa_cons (pv 1) (pa_cons (pv 2) pa_nil))))
      (pss_one (ps_if (pt_cmpR op_eq (pv 1) pe_int (nomark _)) (pss_one (ps_ret (pe_callTy (call_list_ofK (K:=K) rfl) (by rfl) O.list_ bt_list (pa_cons (pv 0) pa_nil)))) pss_nil))))
      (pss_cons (ps_if (pt_cmpR op_eq (pv 1) pe_int (nomark _)) (pss_one (ps_ret (pe_callTy (call_list_ofK (K:=K) rfl) (by rfl) O.list_ bt_list (pa_cons (pv 0) pa_nil)))) pss_nil)
      (pss_one (ps_ret (pe_lc (own:=[("number",2)]) rfl sc_without_divisor.nd (pi_list (pv 0)) (show BlkOk ["values","divisor","number"] (defScope s_without_divisor) _ _ from⟨rfl,by decide +kernel,by decide +kernel,by decide +kernel,by decide +kernel⟩) (fun _ _ _ _ _=>(pg_name (i:=2) sc_without_divisor.nd rfl (by first | exact Or.inl rfl | exact Or.inr rfl))) (fun _ _ _ _ _=>pts_nil) (fun _ _ _ _ _=>(pe_op (op_fdivP hN ht hr32) (pv 2) (pv 1))))))))),?_⟩
    refine⟨_,rfl,a,_,rfl,hc,for_rev (K:=K) (a:=a) (xs:=l.map V.int) (fun i σ H'=>∃ v2:Option V,σ=[some (.ref a),some (.int (gcdRow (l.reverse.take i):Nat)),v2]∧Same H H')
      ⟨none,rfl,Same.refl H⟩ (fun i σ H' _ h=>?_) ?_ ?_⟩
    · obtain⟨_,_,s⟩:=h
      exact s.seq hc
    · rintro i x σ H' hx ⟨v2,rfl,s1⟩
      rw[←List.map_reverse,List.getElem?_map] at hx
      obtain⟨z,hz,rfl⟩:=Option.map_eq_some_iff.mp hx
      have hzl:z∈l:=by simpa using List.mem_of_getElem? hz
      have e:gcdRow (l.reverse.take (i+1))=Nat.gcd (gcdRow (l.reverse.take i)) z.natAbs:=by
        unfold gcdRow
        rw[take_snoc' hz,List.foldl_append]
        rfl
      refine⟨_,rfl,_,rfl,_,z,rfl,by rw[Int.natAbs_natCast];exact gcdRow_few fun y hy=>hb y (by simpa using List.mem_of_mem_take hy),hb z hzl,fun H2 s2=>?_⟩
      rw[Int.natAbs_natCast,←e]
      refine⟨_,rfl,rfl,_,rfl,?_⟩
      refine ite2 (fun h1=>?_) (fun h1=>?_)
      · have h1':((gcdRow (l.reverse.take (i+1)):Nat):Int)=1:=int_eq h1
        refine⟨_,rfl,a,_,rfl,.inl ((s1.trans s2).seq hc),fun p hp=>k _ _ ((s1.trans s2).trans (same_upd hp)) ⟨p,rfl,?_⟩⟩
        rw[upd_same,lessRow_one (gcdRow_one (i:=i+1) (by lia))]
      · exact⟨some (.int z),rfl,s1.trans s2⟩
    · rintro σ H' ⟨v2,rfl,s1⟩
      have el:l.reverse.take (l.map V.int).length=l.reverse:=List.take_of_length_le (by rw[List.length_map,List.length_reverse];exact Nat.le_refl _)
      rw[el,gcdRow_rev]
      refine⟨_,rfl,rfl,_,rfl,?_⟩
      refine ite2 (fun h1=>?_) (fun h1=>?_)
      · have h1':((gcdRow l:Nat):Int)=0:=int_eq h1
        refine⟨_,rfl,a,_,rfl,.inl (s1.seq hc),fun p hp=>k _ _ (s1.trans (same_upd hp)) ⟨p,rfl,?_⟩⟩
        rw[upd_same,lessRow_id (by lia)]
      · have h1':((gcdRow l:Nat):Int)≠0:=int_ne h1
        refine⟨_,rfl,a,rfl,⟨_,s1.seq hc⟩,fun D hD=>?_⟩
        refine lc_ints (K:=K) (a:=a) (ns:=l) (fun _=>true) (fun z=>V.int (z / ((gcdRow l:Nat):Int))) (s1.seq hc) (small1000 hl) hD (fun z=>rfl) (fun z hz H2 Rv R s2 hR=>?_) (fun H2 s2 e4=>?_)
        · have hR':=hR H2 (Same.refl H2)
          rw[if_pos rfl] at hR'
          exact⟨_,rfl,_,rfl,_,_,rfl,rfl,(by lia),hR'⟩
        · rw[filter_yes] at e4
          refine k _ _ (s1.trans s2) ⟨D,rfl,?_⟩
          rw[e4]
          unfold lessRow
          rw[List.map_map]
          rfl
theorem sc_one_form:FnScope ["a"] ["a"] (defScope s_one_form):=⟨rfl,rfl,rfl,by decide +kernel,rfl,by decide +kernel,by decide +kernel⟩
theorem ok_one_form {P:Program}{w:World}{K:PySem.W.Frag}{mg:Str→Option Value}{base:Heap}{f:Addr}{fd:FuncData} (F:Fun K "one_form" "one_form" s_one_form f fd) (O:Own mg) (C_without_divisor:Cal P w K mg base 78 "without_divisor" ["values"] (sp_without_divisor K)) :
    FnOk P w K mg base CX0 79 f fd ["a"] (sp_without_divisor K):=by
  refine F.ok sc_one_form (fun vs H Q E h=>?_) (fun cdv A outer s H vs Q E hr h=>?_)
  · obtain⟨v,l,rfl,_⟩:=h
    rfl
  · obtain⟨v,l,rfl,hc,hl,hb,k⟩:=h
    refine⟨_,(pss_one (ps_ret (pe_cal C_without_divisor (hr.mono (by decide)) (by rfl) (pa_cons (pv 0) pa_nil)))),?_⟩
    exact⟨_,rfl,v,l,rfl,hc,hl,hb,k⟩
def sp_remainder_of (K:PySem.W.Frag):Sp:=fun vs H Q _=>∃ (v u:V) (c P:List Int) (b:Nat),vs=[v,u]∧IL K H v c∧IL K H u P∧FieldOk c∧c.length≤P.length∧P.length≤20∧FewI b P∧b≤100000000 ∧
  ∀ (H':Hp) (y:V) (R:List Int),Same H H'→OL H' y R→R.length=c.length→Cg c (pI P) (pI R)→FewI (b+10*(P.length-c.length)) R→Q y H'
theorem sc_remainder_of:FnScope ["field","polynomial","rest","highest","shift","k"] ["field","polynomial"] (defScope s_remainder_of):=⟨rfl,rfl,rfl,by decide +kernel,rfl,by decide +kernel,by decide +kernel⟩
theorem ok_remainder_of {P:Program}{w:World}{K:PySem.W.Frag}{mg:Str→Option Value}{base:Heap}{f:Addr}{fd:FuncData} (F:Fun K "remainder_of" "remainder_of" s_remainder_of f fd) (O:Own mg) :
    FnOk P w K mg base CX0 1 f fd ["field","polynomial"] (sp_remainder_of K):=by
  refine F.ok sc_remainder_of (fun vs H Q E h=>?_) (fun cdv A outer s H vs Q E hr h=>?_)
  · obtain⟨v,u,c,P,b,rfl,_⟩:=h
    rfl
  · obtain⟨v,u,c,P,b,rfl,⟨ca,rfl,hC⟩,⟨pa,rfl,hP⟩,hf,hl1,hl2,hb,hbb,k⟩:=h
    obtain⟨f1,f2,f3⟩:=hf
    refine⟨_,(pss_cons (ps_set (i:=2) sc_remainder_of.nd rfl (by first | exact Or.inl rfl | exact Or.inr rfl) (pe_callTy (call_list_ofK (K:=K) rfl) (by rfl) O.list_ bt_list (pa_cons (pv 1) pa_nil)))
      (pss_cons (ps_while PassesOwn.never (pt_cmpR op_gt (pe_callB (call_lenK (K:=K) rfl) (by rfl) O.len_ bt_len (pa_cons (pv 2) pa_nil)) (pe_callB (call_lenK (K:=K) rfl) (by rfl) O.len_ bt_len (pa_cons (pv 0) pa_nil)) (nomark _)) (pss_cons (ps_set (i:=3) sc_remainder_of.nd rfl (by first | exact Or.inl rfl | exact Or.inr rfl) (pe_bm0 PySem.F.plainAttrs_list PySem.F.slot_list_pop PySem.F.type_list_pop mt_pop (pv 2)))
      (pss_cons (ps_set (i:=4) sc_remainder_of.nd rfl (by first | exact Or.inl rfl | exact Or.inr rfl) (pe_op op_sub (pe_callB (call_lenK (K:=K) rfl) (by rfl) O.len_ bt_len (pa_cons (pv 2) pa_nil)) (pe_callB (call_lenK (K:=K) rfl) (by rfl) O.len_ bt_len (pa_cons (pv 0) pa_nil))))
      (pss_one (ps_for PassesOwn.never rfl (pi_range1 (by rfl) O.range_ (pa_cons (pe_callB (call_lenK (K:=K) rfl) (by rfl) O.len_ bt_len (pa_cons (pv 0) pa_nil)) pa_nil)) (pg_name (i:=5) sc_remainder_of.nd rfl (by first | exact Or.inl rfl | exact Or.inr rfl)) (pss_one (ps_augS (pv 2) (pe_op op_add (pv 4) (pv 5)) (get_listK (K:=K) rfl) (pe_op op_mulW (pv 3) (pe_ix (ix_listK (K:=K) rfl) (pv 0) (pv 5) (fun _ _=>rfl))) ip_sub set_list)))))))
      (pss_one (ps_ret (pv 2))))),?_⟩
    refine⟨_,rfl,pa,_,rfl,.inl hP,fun D hD=>?_⟩
    refine while_by (fun σ H'=>∃ (r:List Int) (v3 v4 v5:Option V),σ=[some (.ref ca),some (.ref pa),some (.ref D),v3,v4,v5]∧H' D=some (.lst (r.map V.int))∧c.length≤r.length∧r.length≤P.length∧Cg c (pI P) (pI r)∧FewI (b+10*(P.length-r.length)) r∧Same H H')
      (fun σ H'=>match H' D with | some (.lst xs)=>xs.length | _=>0)
      ⟨P,none,none,none,rfl,upd_same,hl1,Nat.le_refl _,Cg.refl _,hb.mono (by lia),same_upd hD⟩ ?_ ?_
    · rintro σ H1 ⟨r,v3,v4,v5,rfl,hr1,hr2,hr3,hcg,hfew,s1⟩
      refine⟨_,rfl,D,_,rfl,.inl (SqL.of hr1),_,rfl,ca,_,rfl,.inl (s1.seq hC),_,_,rfl,rfl,_,rfl,?_⟩
      rw[List.length_map,List.length_map]
      refine ite2 (fun h1=>?_) (fun h1=>?_)
      · have h1':c.length<r.length:=by
          have:=of_decide_eq_true h1
          lia
        have hrne:r≠[]:=by
          rintro rfl
          simp at h1'
        obtain⟨r',h0,rfl⟩:=snoc_of hrne
        rw[List.length_append] at hr2 hr3 h1' hfew
        have hl':(r'.length+[h0].length)=r'.length+1:=rfl
        rw[hl'] at hr2 hr3 h1' hfew
        generalize hB:b+10*(P.length-(r'.length+1))=B at hfew
        have hB':B≤100000200:=by lia
        have hh0:h0.natAbs<2^B:=hfew.last
        refine⟨_,rfl,.inl ⟨rfl,_,SqL.of hr1⟩,D,_,V.int h0,rfl,rfl,hr1,?_,?_⟩
        · rw[List.map_append,List.length_append,List.map_cons,List.map_nil,List.length_cons,List.length_nil]
          simp
        have edl:((r'++[h0]).map V.int).dropLast=r'.map V.int:=by rw[List.map_append,List.map_cons,List.map_nil,List.dropLast_concat]
        rw[edl]
        have s2:Same H (upd H1 D (.lst (r'.map V.int))):=same_upd2 s1 hD
        refine⟨_,rfl,D,_,rfl,.inl (SqL.of upd_same),_,rfl,ca,_,rfl,.inl (s2.seq hC),_,_,rfl,rfl,?_⟩
        rw[List.length_map,List.length_map]
        have hnC:(((c.map V.int).length:Nat):Int).toNat=c.length:=by rw[List.length_map];lia
        refine⟨_,rfl,ca,_,rfl,.inl (s2.seq hC),_,rfl,by lia,by rw[List.length_map];lia,?_⟩
        refine for_range (lo:=0) (n:=(((c.map V.int).length:Nat):Int).toNat) (fun i σ H'=>∃ (R:List Int) (v5:Option V),σ=[some (.ref ca),some (.ref pa),some (.ref D),some (.int h0),some (.int ((r'.length:Int)-(c.length:Int))),v5]∧H' D=some (.lst (R.map V.int))∧R.length=r'.length ∧
            (∀ x,pI R x=pI r' x-(h0:Rat)*x^(r'.length-c.length)*pI (c.take i) x)∧FewI (B+10) R∧(∀ j,r'.length-c.length+i≤j→(R.getD j 0).natAbs<2^B)∧Same H H')
          ⟨r',v5,rfl,upd_same,rfl,fun x=>by rw[List.take_zero,pI_nil];grind,hfew.left.mono (by lia),fun j _=>hfew.left.getD j,s2⟩ ?_ ?_
        · rintro i σ H3 hi ⟨R,w5,rfl,hR1,hR2,hR3,hR4,hR5,s3⟩
          rw[hnC] at hi
          have hix:(r'.length:Int)-(c.length:Int)+(0+(i:Int))=((r'.length-c.length+i:Nat):Int):=by lia
          have hlt:r'.length-c.length+i<R.length:=by lia
          have hci:(c.getD i 0).natAbs<2^10:=Nat.lt_of_le_of_lt (FieldOk.at ⟨f1,f2,f3⟩ i) (by decide)
          refine⟨_,rfl,_,rfl,_,rfl,_,_,rfl,rfl,D,_,_,_,rfl,rfl,SqL.of hR1,at_getD hix hlt,_,rfl,_,rfl,_,rfl,ca,_,_,_,rfl,rfl,s3.seq hC,at_getD (j:=i) (by lia) hi,_,_,rfl,rfl,?_,_,_,rfl,rfl,D,_,_,_,rfl,rfl,hR1,ix_nat hix (by rw[List.length_map];lia),?_⟩
          · exact mul_big hh0 hci (by lia)
          · refine⟨R.set (r'.length-c.length+i) (R.getD (r'.length-c.length+i) 0-h0*c.getD i 0),_,rfl,?_,by rw[List.length_set];exact hR2,fun x=>?_,?_,fun j hj=>?_,same_upd2 s3 hD⟩
            · rw[upd_same,List.map_set]
            · rw[pI_set x _ _ _ hlt,hR3,pI_take x _ _ hi,ratpow_add,Rat.intCast_sub,Rat.intCast_mul]
              grind
            · refine hR4.set ?_
              have e1:=hR5 (r'.length-c.length+i) (Nat.le_refl _)
              have e2:(h0*c.getD i 0).natAbs≤2^B*1000:=by
                rw[Int.natAbs_mul]
                exact Nat.mul_le_mul (Nat.le_of_lt hh0) (FieldOk.at ⟨f1,f2,f3⟩ i)
              rw[Nat.pow_add]
              have:(2:Nat)^10=1024:=by decide
              lia
            · rw[getD_set_ne (by lia)]
              exact hR5 j (by lia)
        · rintro σ H3 ⟨R,w5,rfl,hR1,hR2,hR3,hR4,hR5,s3⟩
          rw[hnC,List.take_length] at hR3
          refine⟨⟨R,_,_,_,rfl,hR1,by lia,by lia,hcg.trans (rem_step (by lia) hR3),hR4.mono (by lia),s3⟩,?_⟩
          show (match H3 D with | some (HO.lst xs)=>xs.length | _=>0)<(match H1 D with | some (HO.lst xs)=>xs.length | _=>0)
          rw[hR1,hr1]
          show (List.map V.int _).length<(List.map V.int _).length
          rw[List.length_map,List.length_map,List.length_append,hR2]
          exact Nat.lt_succ_self _
      · have h1':r.length=c.length:=by
          have:¬ c.length<r.length:=fun z=>h1 (decide_eq_true (by lia))
          lia
        exact⟨_,rfl,k H1 _ r s1 ⟨D,rfl,hr1⟩ h1' hcg (hfew.mono (by lia))⟩
    · rintro σ H' Q1 Q2 hq h
      obtain⟨w0,f0,p,xs,g1,g2,w1,f1,p',xs',g3,g4,i,j,g5,g6,b,g7,g8⟩:=h
      exact⟨w0,f0,p,xs,g1,g2,w1,f1,p',xs',g3,g4,i,j,g5,g6,b,g7,hq _ _ g8⟩
theorem rep_zeros:∀ n:Nat,(List.replicate n [V.int 0]).flatten=(List.replicate n (0:Int)).map V.int
  | 0=>rfl
  | n+1=>by
    rw[List.replicate_succ,List.flatten_cons,rep_zeros n,List.replicate_succ]
    rfl
def UpTo (n M:Nat) (l:List Int):Prop:=∀ z∈l,z.natAbs≤n*M
theorem UpTo.set {n M:Nat}{l:List Int}{i:Nat}{z:Int} (h:UpTo n M l) (hz:z.natAbs≤M):UpTo (n+1) M (l.set i (l.getD i 0+z)):=fun y hy=>by
  rw[Nat.succ_mul]
  rcases List.mem_or_eq_of_mem_set hy with h1 | h1
  · have:=h y h1
    lia
  · have h2:(l.getD i 0).natAbs≤n*M:=by
      rw[List.getD_eq_getElem?_getD]
      cases e:l[i]? with
      | none=>exact Nat.zero_le _
      | some w=>exact h w (List.mem_of_getElem? e)
    rw[h1]
    lia
def sp_product_of (K:PySem.W.Frag):Sp:=fun vs H Q _=>∃ (v u t:V) (c A B:List Int) (a b:Nat),vs=[v,u,t]∧IL K H v c∧IL K H u A∧IL K H t B∧FieldOk c∧A.length=c.length∧B.length=c.length∧FewI a A∧FewI b B∧a+b≤90000000 ∧
  ∀ (H':Hp) (y:V) (R:List Int),Same H H'→OL H' y R→R.length=c.length→Cg c (fun x=>pI A x*pI B x) (pI R)→FewI (a+b+35) R→Q y H'
theorem sc_product_of:FnScope ["field","p","q","product","i","k"] ["field","p","q"] (defScope s_product_of):=⟨rfl,rfl,rfl,by decide +kernel,rfl,by decide +kernel,by decide +kernel⟩
theorem ok_product_of {P:Program}{w:World}{K:PySem.W.Frag}{mg:Str→Option Value}{base:Heap}{f:Addr}{fd:FuncData} (F:Fun K "product_of" "product_of" s_product_of f fd) (O:Own mg) (C_remainder_of:Cal P w K mg base 1 "remainder_of" ["field","polynomial"] (sp_remainder_of K)) :
    FnOk P w K mg base CX0 2 f fd ["field","p","q"] (sp_product_of K):=by
  refine F.ok sc_product_of (fun vs H Q E h=>?_) (fun cdv A outer s H vs Q E hr h=>?_)
  · obtain⟨v,u,t,c,A,B,a,b,rfl,_⟩:=h
    rfl
  · obtain⟨v,u,t,c,A,B,a,b,rfl,⟨ca,rfl,hC⟩,⟨pa,rfl,hP⟩,⟨qa,rfl,hQ⟩,hf,hl1,hl2,hb1,hb2,hbb,k⟩:=h
    obtain⟨f1,f2,f3⟩:=id hf
    refine⟨_,(pss_cons (ps_set (i:=3) sc_product_of.nd rfl (by first | exact Or.inl rfl | exact Or.inr rfl) (pe_op op_rep (pe_lst (pa_cons pe_int pa_nil)) (pe_op op_sub (pe_op op_add (pe_callB (call_lenK (K:=K) rfl) (by rfl) O.len_ bt_len (pa_cons (pv 1) pa_nil)) (pe_callB (call_lenK (K:=K) rfl) (by rfl) O.len_ bt_len (pa_cons (pv 2) pa_nil))) pe_int)))
      (pss_cons (ps_for PassesOwn.never rfl (pi_range1 (by rfl) O.range_ (pa_cons (pe_callB (call_lenK (K:=K) rfl) (by rfl) O.len_ bt_len (pa_cons (pv 1) pa_nil)) pa_nil)) (pg_name (i:=4) sc_product_of.nd rfl (by first | exact Or.inl rfl | exact Or.inr rfl)) (pss_one (ps_for PassesOwn.never rfl (pi_range1 (by rfl) O.range_ (pa_cons (pe_callB (call_lenK (K:=K) rfl) (by rfl) O.len_ bt_len (pa_cons (pv 2) pa_nil)) pa_nil)) (pg_name (i:=5) sc_product_of.nd rfl (by first | exact Or.inl rfl | exact Or.inr rfl)) (pss_one (ps_augS (pv 3) (pe_op op_add (pv 4) (pv 5)) (get_listK (K:=K) rfl) (pe_op op_mulW (pe_ix (ix_listK (K:=K) rfl) (pv 1) (pv 4) (fun _ _=>rfl)) (pe_ix (ix_listK (K:=K) rfl) (pv 2) (pv 5) (fun _ _=>rfl))) ip_add set_list)))))
      (pss_one (ps_ret (pe_cal C_remainder_of (hr.mono (by decide)) (by rfl) (pa_cons (pv 0) (pa_cons (pv 3) pa_nil))))))),?_⟩
    refine⟨(by show 1≤sizeLine;decide),fun l hl=>?_⟩
    have s1:Same H (upd H l (.lst [V.int 0])):=same_upd hl
    refine⟨_,rfl,pa,_,rfl,.inl (s1.seq hP),_,rfl,qa,_,rfl,.inl (s1.seq hQ),_,_,rfl,rfl,_,_,rfl,rfl,l,_,_,rfl,rfl,upd_same,?_⟩
    rw[List.length_map,List.length_map,hl1,hl2]
    refine⟨by lia,by lia,?_,fun D hD=>?_⟩
    · show 1*_≤sizeLine
      exact Nat.le_trans (show 1*((c.length:Int)+(c.length:Int)-1).toNat≤7 by lia) (by decide)
    rw[rep_zeros]
    have hDH:H D=none:=by
      cases e:H D with
      | none=>rfl
      | some o =>
        have:=s1 _ _ e
        rw[hD] at this
        cases this
    have s2:Same H (upd (upd H l (.lst [V.int 0])) D (.lst ((List.replicate ((c.length:Int)+(c.length:Int)-1).toNat (0:Int)).map V.int))):=s1.trans (same_upd hD)
    have hnA:(((A.map V.int).length:Nat):Int).toNat=c.length:=by rw[List.length_map];lia
    have hnB:(((B.map V.int).length:Nat):Int).toNat=c.length:=by rw[List.length_map];lia
    refine⟨_,rfl,pa,_,rfl,.inl (s2.seq hP),_,rfl,by lia,by rw[List.length_map];lia,?_⟩
    refine for_range (lo:=0) (n:=(((A.map V.int).length:Nat):Int).toNat) (fun i σ H'=>∃ (R:List Int) (v5 v6:Option V),σ=[some (.ref ca),some (.ref pa),some (.ref qa),some (.ref D),v5,v6]∧H' D=some (.lst (R.map V.int))∧R.length=2*c.length-1 ∧
        (∀ x,pI R x=pI (A.take i) x*pI B x)∧UpTo (i*c.length) (2^(a+b)) R∧Same H H')
      ⟨_,none,none,rfl,upd_same,by rw[List.length_replicate];lia,fun x=>by rw[List.take_zero,pI_nil,pI_zeros];grind,fun z hz=>?_,s2⟩ ?_ ?_
    · rw[List.eq_of_mem_replicate hz]
      exact Nat.zero_le _
    · rintro i σ H3 hi ⟨R,w5,w6,rfl,hR1,hR2,hR3,hR4,s3⟩
      rw[hnA] at hi
      refine⟨_,rfl,qa,_,rfl,.inl (s3.seq hQ),_,rfl,by lia,by rw[List.length_map];lia,?_⟩
      refine for_range (lo:=0) (n:=(((B.map V.int).length:Nat):Int).toNat) (fun j σ H'=>∃ (R:List Int) (v6:Option V),σ=[some (.ref ca),some (.ref pa),some (.ref qa),some (.ref D),some (.int (0+(i:Int))),v6]∧H' D=some (.lst (R.map V.int))∧R.length=2*c.length-1 ∧
          (∀ x,pI R x=pI (A.take i) x*pI B x+(A.getD i 0:Rat)*x^i*pI (B.take j) x)∧UpTo (i*c.length+j) (2^(a+b)) R∧Same H H')
        ⟨R,_,rfl,hR1,hR2,fun x=>by rw[hR3,List.take_zero,pI_nil];grind,hR4,s3⟩ ?_ ?_
      · rintro j σ H4 hj ⟨R',w7,rfl,gR1,gR2,gR3,gR4,s4⟩
        rw[hnB] at hj
        have hix:(0+(i:Int))+(0+(j:Int))=((i+j:Nat):Int):=by lia
        have hlt:i+j<R'.length:=by lia
        refine⟨_,rfl,_,rfl,_,rfl,_,_,rfl,rfl,D,_,_,_,rfl,rfl,SqL.of gR1,at_getD hix hlt,_,rfl,_,rfl,pa,_,_,_,rfl,rfl,s4.seq hP,at_getD (j:=i) (by lia) (by lia),_,rfl,_,rfl,qa,_,_,_,rfl,rfl,s4.seq hQ,at_getD (j:=j) (by lia) (by lia),_,_,rfl,rfl,?_,_,_,rfl,rfl,D,_,_,_,rfl,rfl,gR1,ix_nat hix (by rw[List.length_map];lia),?_⟩
        · exact mul_big (hb1.getD i) (hb2.getD j) (by lia)
        · refine⟨R'.set (i+j) (R'.getD (i+j) 0+A.getD i 0*B.getD j 0),_,rfl,?_,by rw[List.length_set];exact gR2,fun x=>?_,?_,same_upd2 s4 hDH⟩
          · rw[upd_same,List.map_set]
          · rw[pI_set x _ _ _ hlt,gR3,pI_take x B _ (by lia),ratpow_add,Rat.intCast_add,Rat.intCast_mul]
            grind
          · exact gR4.set (Nat.le_of_lt (mul_lt2 (hb1.getD i) (hb2.getD j)))
      · rintro σ H4 ⟨R',w7,rfl,gR1,gR2,gR3,gR4,s4⟩
        rw[hnB] at gR3 gR4
        refine⟨R',_,_,rfl,gR1,gR2,fun x=>?_,?_,s4⟩
        · rw[gR3,pI_take x A _ (by lia),List.take_of_length_le (l:=B) (by lia)]
          grind
        · rw[Nat.succ_mul]
          exact gR4
    · rintro σ H3 ⟨R,w5,w6,rfl,hR1,hR2,hR3,hR4,s3⟩
      rw[hnA,List.take_of_length_le (by lia)] at hR3
      have hfew:FewI (a+b+5) R:=fun z hz=>by
        have e1:=hR4 z hz
        rw[hnA] at e1
        have e2:c.length*c.length≤4*4:=Nat.mul_le_mul f2 f2
        have e3:c.length*c.length*2^(a+b)≤16*2^(a+b):=Nat.mul_le_mul_right _ e2
        have e4:0<2^(a+b):=Nat.two_pow_pos _
        have e5:2^(a+b+5)=2^(a+b)*32:=Nat.pow_add _ _ _
        lia
      refine⟨_,rfl,_,rfl,_,_,c,R,a+b+5,rfl,⟨ca,rfl,s3.seq hC⟩,⟨D,rfl,SqL.of hR1⟩,hf,by lia,by lia,hfew,by lia,fun H4 y R' s4 hy hl hcg hfw=>?_⟩
      exact k H4 y R' (s3.trans s4) hy hl ((Cg.of_eq fun x=>by rw[hR3]).trans hcg) (hfw.mono (by lia))
theorem getD_le {n:Nat}{l:List Int} (h:FewI n l) (i:Nat):(l.getD i 0).natAbs≤2^n:=Nat.le_of_lt (h.getD i)
def sp_trace_of (K:PySem.W.Frag):Sp:=fun vs H Q _=>∃ (v u:V) (c A:List Int) (b:Nat),vs=[v,u]∧IL K H v c∧IL K H u A∧FieldOk c∧A.length=c.length∧FewI b A∧b≤90000000 ∧
  ∀ H':Hp,Same H H'→(trI c A).natAbs<2^(b+43)→Q (.int (trI c A)) H'
theorem sc_trace_of:FnScope ["field","numerators","total","image","k"] ["field","numerators"] (defScope s_trace_of):=⟨rfl,rfl,rfl,by decide +kernel,rfl,by decide +kernel,by decide +kernel⟩
theorem ok_trace_of {P:Program}{w:World}{K:PySem.W.Frag}{mg:Str→Option Value}{base:Heap}{f:Addr}{fd:FuncData} (F:Fun K "trace_of" "trace_of" s_trace_of f fd) (O:Own mg) (C_remainder_of:Cal P w K mg base 1 "remainder_of" ["field","polynomial"] (sp_remainder_of K)) :
    FnOk P w K mg base CX0 2 f fd ["field","numerators"] (sp_trace_of K):=by
  refine F.ok sc_trace_of (fun vs H Q E h=>?_) (fun cdv A outer s H vs Q E hr h=>?_)
  · obtain⟨v,u,c,A,b,rfl,_⟩:=h
    rfl
  · obtain⟨v,u,c,A,b,rfl,⟨ca,rfl,hC⟩,⟨na,rfl,hN⟩,hf,hl,hb,hbb,k⟩:=h
    obtain⟨f1,f2,f3⟩:=id hf
    refine⟨_,(pss_cons (ps_set (i:=2) sc_trace_of.nd rfl (by first | exact Or.inl rfl | exact Or.inr rfl) pe_int)
      (pss_cons (ps_set (i:=3) sc_trace_of.nd rfl (by first | exact Or.inl rfl | exact Or.inr rfl) (pe_callTy (call_list_ofK (K:=K) rfl) (by rfl) O.list_ bt_list (pa_cons (pv 1) pa_nil)))
      (pss_cons (ps_for PassesOwn.never rfl (pi_range1 (by rfl) O.range_ (pa_cons (pe_callB (call_lenK (K:=K) rfl) (by rfl) O.len_ bt_len (pa_cons (pv 0) pa_nil)) pa_nil)) (pg_name (i:=4) sc_trace_of.nd rfl (by first | exact Or.inl rfl | exact Or.inr rfl)) (pss_cons (ps_aug (i:=2) sc_trace_of.nd rfl (by first | exact Or.inl rfl | exact Or.inr rfl) (pe_ix (ix_listK (K:=K) rfl) (pv 3) (pv 4) (fun _ _=>rfl)) ip_add)
      (pss_one (ps_set (i:=3) sc_trace_of.nd rfl (by first | exact Or.inl rfl | exact Or.inr rfl) (pe_cal C_remainder_of (hr.mono (by decide)) (by rfl) (pa_cons (pv 0) (pa_cons (pe_op op_cat (pe_lst (pa_cons pe_int pa_nil)) (pv 3)) pa_nil)))))))
      (pss_one (ps_ret (pv 2)))))),?_⟩
    refine⟨_,rfl,na,_,rfl,.inl hN,fun D hD=>?_⟩
    have s1:Same H (upd H D (.lst (A.map V.int))):=same_upd hD
    have hnC:(((c.map V.int).length:Nat):Int).toNat=c.length:=by rw[List.length_map];lia
    refine⟨_,rfl,ca,_,rfl,.inl (s1.seq hC),_,rfl,by lia,by rw[List.length_map];lia,?_⟩
    refine for_range (lo:=0) (n:=(((c.map V.int).length:Nat):Int).toNat) (fun i σ H'=>∃ (p:Addr) (v4:Option V),σ=[some (.ref ca),some (.ref na),some (.int (trN c A i)),some (.ref p),v4]∧H' p=some (.lst ((colI c A i).map V.int))∧FewI (b+10*i) (colI c A i)∧(trN c A i).natAbs≤i*2^(b+40)∧Same H H')
      ⟨D,none,rfl,upd_same,hb,by show (0:Int).natAbs≤_;exact Nat.zero_le _,s1⟩ ?_ ?_
    · rintro i σ H3 hi ⟨p,w4,rfl,hp,hfw,htr,s3⟩
      rw[hnC] at hi
      have hlc:=colI_length f1 hl i
      refine⟨_,rfl,_,rfl,_,rfl,p,_,_,_,rfl,rfl,SqL.of hp,at_getD (j:=i) (by lia) (by lia),_,_,rfl,rfl,?_⟩
      refine⟨_,rfl,(by show 1≤sizeLine;decide),fun z hz=>?_⟩
      have s4:Same H3 (upd H3 z (.lst [V.int 0])):=same_upd hz
      refine⟨_,rfl,z,p,_,_,rfl,rfl,upd_same,s4 _ _ hp,?_,fun q hq=>?_⟩
      · rw[List.length_map,hlc]
        exact Nat.le_trans (Nat.add_le_add_left f2 1) (by decide)
      have s5:=s4.trans (same_upd (o:=.lst ([V.int 0]++(colI c A i).map V.int)) hq)
      refine⟨_,_,c,0::colI c A i,b+10*i,rfl,⟨ca,rfl,(s3.trans s5).seq hC⟩,⟨q,rfl,SqL.of ?_⟩,hf,by rw[List.length_cons];lia,by rw[List.length_cons];lia,fun y hy=>?_,by lia,fun H6 y R s6 hy hR hcg hfR=>?_⟩
      · rw[upd_same]
        rfl
      · rcases List.mem_cons.mp hy with h1 | h1
        · rw[h1]
          exact Nat.two_pow_pos _
        · exact hfw y h1
      obtain⟨g,rfl,hg⟩:=hy
      have eR:R=colI c A (i+1):=xI_is f1 hlc hR ((Cg.of_eq fun x=>by rw[pI_cons];grind).trans hcg)
      subst eR
      refine⟨g,_,rfl,hg,hfR.mono (by rw[List.length_cons];lia),?_,(s3.trans s5).trans s6⟩
      have e1:=getD_le hfw i
      have e2:2^(b+10*i)≤2^(b+40):=pow2_mono (by lia)
      show (trN c A i+(colI c A i).getD i 0).natAbs≤_
      rw[Nat.succ_mul]
      lia
    · rintro σ H3 ⟨p,w4,rfl,hp,hfw,htr,s3⟩
      rw[hnC] at htr
      have e:=k H3 s3 (by
        show (trN c A c.length).natAbs<_
        have e1:c.length*2^(b+40)≤4*2^(b+40):=Nat.mul_le_mul_right _ f2
        have e2:2^(b+43)=2^(b+40)*8:=by rw[show b+43=b+40+3 by lia,Nat.pow_add]
        have e3:=Nat.two_pow_pos (b+40)
        lia)
      refine⟨_,?_,e⟩
      rw[hnC]
      rfl
theorem oneForm_dv {p:Int} (hp:0<p) (A:List Int):Root.oneForm (dv p A)=lessRow (A++[p]):=oneForm_row A hp
theorem len_less {l:List Int} (h:l.length≤100):1+(lessRow l).length≤sizeLine:=by
  unfold lessRow
  rw[List.length_map]
  exact Nat.le_trans (Nat.add_le_add_left h 1) (by decide)
def sp_multiplied (K:PySem.W.Frag):Sp:=fun vs H Q _=>∃ (v u t:V) (c A B:List Int) (p q:Int) (a b:Nat),vs=[v,u,t]∧IL K H v c∧IL K H u (A++[p])∧IL K H t (B++[q])∧FieldOk c∧A.length=c.length∧B.length=c.length∧FewI a (A++[p])∧FewI b (B++[q])∧a+b≤90000000 ∧
  ∀ (H':Hp) (y:V) (R:List Int),Same H H'→OL H' y (R++[p*q])→R.length=c.length→Cg c (fun x=>pI A x*pI B x) (pI R)→FewI (a+b+35) (R++[p*q])→Q y H'
theorem sc_multiplied:FnScope ["field","a","b"] ["field","a","b"] (defScope s_multiplied):=⟨rfl,rfl,rfl,by decide +kernel,rfl,by decide +kernel,by decide +kernel⟩
theorem ok_multiplied {P:Program}{w:World}{K:PySem.W.Frag}{mg:Str→Option Value}{base:Heap}{f:Addr}{fd:FuncData} (F:Fun K "multiplied" "multiplied" s_multiplied f fd) (O:Own mg) (C_product_of:Cal P w K mg base 2 "product_of" ["field","p","q"] (sp_product_of K)) :
    FnOk P w K mg base CX0 3 f fd ["field","a","b"] (sp_multiplied K):=by
  refine F.ok sc_multiplied (fun vs H Q E h=>?_) (fun cdv A outer s H vs Q E hr h=>?_)
  · obtain⟨v,u,t,c,A,B,p,q,a,b,rfl,_⟩:=h
    rfl
  · obtain⟨v,u,t,c,A,B,p,q,a,b,rfl,⟨ca,rfl,hC⟩,⟨pa,rfl,hP⟩,⟨qa,rfl,hQ⟩,hf,hl1,hl2,hb1,hb2,hbb,k⟩:=h
    obtain⟨f1,f2,f3⟩:=id hf
    refine⟨_,(pss_one (ps_ret (pe_op op_cat (pe_cal C_product_of (hr.mono (by decide)) (by rfl) (pa_cons (pv 0) (pa_cons (pe_slice (sl_listK (K:=K) rfl) (pv 1) po_none (po_some (pe_un un_neg pe_int))) (pa_cons (pe_slice (sl_listK (K:=K) rfl) (pv 2) po_none (po_some (pe_un un_neg pe_int))) pa_nil)))) (pe_lst (pa_cons (pe_op op_mulW (pe_ix (ix_listK (K:=K) rfl) (pv 1) (pe_un un_neg pe_int) (fun _ _=>rfl)) (pe_ix (ix_listK (K:=K) rfl) (pv 2) (pe_un un_neg pe_int) (fun _ _=>rfl))) pa_nil))))),?_⟩
    refine⟨_,rfl,_,rfl,_,rfl,_,rfl,pa,_,rfl,hP,fun x hx=>?_⟩
    rw[cut_last]
    have s1:Same H (upd H x (.lst (A.map V.int))):=same_upd hx
    refine⟨_,rfl,_,rfl,_,rfl,qa,_,rfl,s1.seq hQ,fun y hy=>?_⟩
    rw[cut_last]
    have s2:Same (upd H x (.lst (A.map V.int))) (upd (upd H x (.lst (A.map V.int))) y (.lst (B.map V.int))):=same_upd hy
    refine⟨_,_,_,c,A,B,a,b,rfl,⟨ca,rfl,(s1.trans s2).seq hC⟩,⟨x,rfl,SqL.of (s2 _ _ upd_same)⟩,⟨y,rfl,SqL.of upd_same⟩,hf,hl1,hl2,hb1.left,hb2.left,hbb,fun H3 z R s3 hz hl hcg hfw=>?_⟩
    obtain⟨g,rfl,hg⟩:=hz
    have s4:=(s1.trans s2).trans s3
    refine⟨_,rfl,_,rfl,pa,_,_,_,rfl,rfl,s4.seq hP,at_end _ _,_,rfl,_,rfl,qa,_,_,_,rfl,rfl,s4.seq hQ,at_end _ _,_,_,rfl,rfl,mul_big hb1.last hb2.last (by lia),(by show 1≤sizeLine;decide),fun w hw=>?_⟩
    have s5:Same H3 (upd H3 w (.lst [V.int (p*q)])):=same_upd hw
    refine⟨g,w,_,_,rfl,rfl,s5 _ _ hg,upd_same,?_,fun r hr'=>k _ _ R (s4.trans (s5.trans (same_upd hr'))) ⟨r,rfl,?_⟩ hl hcg (hfw.app (lt_up (mul_lt2 hb1.last hb2.last) (by lia)))⟩
    · rw[List.length_map,hl]
      exact Nat.le_trans (Nat.add_le_add_right f2 1) (by decide)
    · rw[upd_same,List.map_append]
      rfl
theorem cut_from (l:List Int):cutV (l.map V.int) (some 1) none=(l.drop 1).map V.int:=by
  cases l with
  | nil=>rfl
  | cons a l =>
    unfold cutV
    have e1:HT.sIx (List.map V.int (a::l)).length 0 (some 1)=1:=by
      unfold HT.sIx
      dsimp only
      rw[if_neg (by lia),List.length_map,List.length_cons]
      lia
    rw[e1,HT.sIx_none,List.map_drop,List.take_of_length_le (by rw[List.length_drop];lia)]
def sp_cofactor_of (K:PySem.W.Frag):Sp:=fun vs H Q _=>∃ (v u:V) (c A:List Int) (b:Nat),vs=[v,u]∧IL K H v c∧IL K H u A∧FieldOk c∧A.length=c.length∧FewI b A∧b≤15000000 ∧
  ∀ (H':Hp) (y:V),Same H H'→OL H' y (flI c A (c.length-1))→FewI (1+(c.length-1)*(b+79)) (flI c A (c.length-1))→Q y H'
theorem sc_cofactor_of:FnScope ["field","numerators","cofactor","step","product","part"] ["field","numerators"] (defScope s_cofactor_of):=⟨rfl,rfl,rfl,by decide +kernel,rfl,by decide +kernel,by decide +kernel⟩
theorem ok_cofactor_of {P:Program}{w:World}{K:PySem.W.Frag}{mg:Str→Option Value}{base:Heap}{f:Addr}{fd:FuncData} (F:Fun K "cofactor_of" "cofactor_of" s_cofactor_of f fd) (O:Own mg) (C_product_of:Cal P w K mg base 2 "product_of" ["field","p","q"] (sp_product_of K)) (C_trace_of:Cal P w K mg base 2 "trace_of" ["field","numerators"] (sp_trace_of K)) :
    FnOk P w K mg base CX0 3 f fd ["field","numerators"] (sp_cofactor_of K):=by
  refine F.ok sc_cofactor_of (fun vs H Q E h=>?_) (fun cdv A outer s H vs Q E hr h=>?_)
  · obtain⟨v,u,c,A,b,rfl,_⟩:=h
    rfl
  · obtain⟨v,u,c,A,b,rfl,⟨ca,rfl,hC⟩,⟨na,rfl,hN⟩,hf,hl,hb,hbb,k⟩:=h
    obtain⟨f1,f2,f3⟩:=id hf
    refine⟨_,(pss_cons (ps_set (i:=2) sc_cofactor_of.nd rfl (by first | exact Or.inl rfl | exact Or.inr rfl) (pe_op op_cat (pe_lst (pa_cons pe_int pa_nil)) (pe_op op_rep (pe_lst (pa_cons pe_int pa_nil)) (pe_op op_sub (pe_callB (call_lenK (K:=K) rfl) (by rfl) O.len_ bt_len (pa_cons (pv 0) pa_nil)) pe_int))))
      (pss_cons (ps_for PassesOwn.never rfl (pi_range2 (by rfl) O.range_ (pa_cons pe_int (pa_cons (pe_callB (call_lenK (K:=K) rfl) (by rfl) O.len_ bt_len (pa_cons (pv 0) pa_nil)) pa_nil))) (pg_name (i:=3) sc_cofactor_of.nd rfl (by first | exact Or.inl rfl | exact Or.inr rfl)) (pss_cons (ps_set (i:=4) sc_cofactor_of.nd rfl (by first | exact Or.inl rfl | exact Or.inr rfl) (pe_cal C_product_of (hr.mono (by decide)) (by rfl) (pa_cons (pv 0) (pa_cons (pv 1) (pa_cons (pv 2) pa_nil)))))
      (pss_cons (ps_set (i:=5) sc_cofactor_of.nd rfl (by first | exact Or.inl rfl | exact Or.inr rfl) (pe_op op_fdivW (pe_cal C_trace_of (hr.mono (by decide)) (by rfl) (pa_cons (pv 0) (pa_cons (pv 4) pa_nil))) (pv 3)))
      (pss_one (ps_set (i:=2) sc_cofactor_of.nd rfl (by first | exact Or.inl rfl | exact Or.inr rfl) (pe_op op_cat (pe_lst (pa_cons (pe_op op_sub (pe_ix (ix_listK (K:=K) rfl) (pv 4) pe_int (fun _ _=>rfl)) (pv 5)) pa_nil)) (pe_slice (sl_listK (K:=K) rfl) (pv 4) (po_some pe_int) po_none)))))))
      (pss_one (ps_ret (pv 2))))),?_⟩
    refine⟨(by show 1≤sizeLine;decide),fun l1 hl1=>⟨(by show 1≤sizeLine;decide),fun l2 hl2=>?_⟩⟩
    have s1:Same H (upd H l1 (.lst [V.int 1])):=same_upd hl1
    have s2:Same (upd H l1 (.lst [V.int 1])) (upd (upd H l1 (.lst [V.int 1])) l2 (.lst [V.int 0])):=same_upd hl2
    refine⟨_,rfl,ca,_,rfl,.inl ((s1.trans s2).seq hC),_,_,rfl,rfl,l2,_,_,rfl,rfl,upd_same,?_⟩
    rw[List.length_map]
    refine⟨by lia,by lia,?_,fun l3 hl3=>?_⟩
    · show 1*_≤sizeLine
      exact Nat.le_trans (show 1*((c.length:Int)-1).toNat≤7 by lia) (by decide)
    rw[rep_zeros]
    have e1:((c.length:Int)-1).toNat=c.length-1:=by lia
    rw[e1]
    have s3:=same_upd (o:=.lst ((List.replicate (c.length-1) (0:Int)).map V.int)) hl3
    refine⟨l1,l3,_,_,rfl,rfl,s3 _ _ (s2 _ _ upd_same),upd_same,?_,fun D hD=>?_⟩
    · rw[List.length_map,List.length_replicate]
      exact Nat.le_trans (show 1+(c.length-1)≤7 by lia) (by decide)
    have s4:=(s1.trans s2).trans (s3.trans (same_upd (o:=.lst ([V.int 1]++(List.replicate (c.length-1) (0:Int)).map V.int)) hD))
    refine⟨_,rfl,ca,_,rfl,.inl (s4.seq hC),?_⟩
    rw[List.length_map]
    have hn:((c.length:Int)-1).toNat=c.length-1:=by lia
    refine⟨_,_,rfl,⟨by lia,by lia,by lia,by lia⟩,?_⟩
    refine for_range (lo:=1) (n:=((c.length:Int)-1).toNat) (fun i σ H'=>∃ (p:Addr) (v3 v4 v5:Option V),σ=[some (.ref ca),some (.ref na),some (.ref p),v3,v4,v5]∧H' p=some (.lst ((flI c A i).map V.int))∧FewI (1+i*(b+79)) (flI c A i)∧Same H H')
      ⟨D,none,none,none,rfl,?_,?_,s4⟩ ?_ ?_
    · rw[upd_same]
      rfl
    · intro z hz
      rcases List.mem_cons.mp hz with h1 | h1
      · rw[h1,Nat.zero_mul]
        decide
      · rw[List.eq_of_mem_replicate h1,Nat.zero_mul]
        decide
    · rintro i σ H3 hi ⟨p,w3,w4,w5,rfl,hp,hfw,s5⟩
      rw[hn] at hi
      have hfl:=flI_length f1 hl i
      have hbi:i*(b+79)≤3*(b+79):=Nat.mul_le_mul_right _ (by lia)
      refine⟨_,rfl,_,rfl,_,rfl,_,_,_,c,A,flI c A i,b,1+i*(b+79),rfl,⟨ca,rfl,s5.seq hC⟩,⟨na,rfl,s5.seq hN⟩,⟨p,rfl,SqL.of hp⟩,hf,hl,hfl,hb,hfw,by lia,fun H6 y R s6 hy hR hcg hfR=>?_⟩
      obtain⟨g,rfl,hg⟩:=hy
      have eR:R=mulI c A (flI c A i):=mulI_is f1 hl hR hcg
      have s7:=s5.trans s6
      refine⟨_,rfl,_,rfl,_,_,c,R,_,rfl,⟨ca,rfl,s7.seq hC⟩,⟨g,rfl,SqL.of hg⟩,hf,hR,hfR,by lia,fun H8 s8 htr=>?_⟩
      have s9:=s7.trans s8
      have hg8:=s8 _ _ hg
      refine⟨_,rfl,_,_,rfl,rfl,⟨by lia,?_⟩,?_⟩
      · have:(1+(i:Int)).natAbs.log2<9000:=by
          have:(1+(i:Int)).natAbs≤4:=by lia
          rcases Nat.eq_zero_or_pos (1+(i:Int)).natAbs with z | z
          · rw[z];decide
          · refine (Nat.log2_lt (by lia)).mpr (Nat.lt_of_le_of_lt this (Nat.lt_of_lt_of_le (show 4<2^3 by decide) (Nat.pow_le_pow_right (by decide) (by decide))))
        exact this
      refine⟨_,rfl,g,_,_,_,rfl,rfl,SqL.of hg8,at_getD (j:=0) rfl (by lia),_,rfl,_,_,rfl,rfl,(by show 1≤sizeLine;decide),fun m hm=>?_⟩
      have s10:Same H8 (upd H8 m (.lst [V.int (R.getD 0 0-trI c R / (1+(i:Int)))])):=same_upd hm
      refine⟨_,rfl,_,rfl,g,_,rfl,SqL.of (s10 _ _ hg8),fun n hn'=>?_⟩
      rw[cut_from]
      have s11:=same_upd (o:=.lst ((R.drop 1).map V.int)) hn'
      refine⟨m,n,_,_,rfl,rfl,s11 _ _ upd_same,upd_same,?_,fun q hq=>?_⟩
      · rw[List.length_map,List.length_drop]
        exact Nat.le_trans (show 1+(R.length-1)≤7 by lia) (by decide)
      have hRe:R=R.getD 0 0::R.drop 1:=by
        cases R with
        | nil=>simp at hR;lia
        | cons a l=>rfl
      have efl:flI c A (i+1)=(R.getD 0 0-trI c R / (1+(i:Int)))::R.drop 1:=by
        show lessI (mulI c A (flI c A i)) (trI c (mulI c A (flI c A i)) / ((i:Int)+1))=_
        rw[←eR,Int.add_comm (i:Int) 1]
        cases R with
        | nil=>simp at hR;lia
        | cons a l=>rfl
      refine⟨q,_,_,_,rfl,?_,?_,(s9.trans (s10.trans s11)).trans (same_upd hq)⟩
      · rw[upd_same,efl]
        rfl
      · rw[efl]
        have hq1:(trI c R / (1+(i:Int))).natAbs≤(trI c R).natAbs:=Int.natAbs_ediv_le_natAbs _ _
        have hB:1+(i+1)*(b+79)=b+(1+i*(b+79))+35+43+1:=by rw[Nat.succ_mul];lia
        rw[hB]
        intro z hz
        rcases List.mem_cons.mp hz with h1 | h1
        · rw[h1]
          have e2:=hfR.getD 0
          have e3:(R.getD 0 0).natAbs<2^(b+(1+i*(b+79))+35+43):=lt_up e2 (by lia)
          have e4:(-(trI c R / (1+(i:Int)))).natAbs<2^(b+(1+i*(b+79))+35+43):=by
            rw[Int.natAbs_neg]
            exact Nat.lt_of_le_of_lt hq1 htr
          rw[Int.sub_eq_add_neg]
          exact add_lt2 e3 e4
        · exact lt_up (hfR z (List.mem_of_mem_drop h1)) (by lia)
    · rintro σ H3 ⟨p,w3,w4,w5,rfl,hp,hfw,s5⟩
      rw[hn] at hp hfw
      exact⟨_,rfl,k H3 _ s5 ⟨p,rfl,hp⟩ hfw⟩
def sp_inverse_of (K:PySem.W.Frag):Sp:=fun vs H Q _=>∃ (v u:V) (c A:List Int) (p:Int) (b:Nat),vs=[v,u]∧IL K H v c∧IL K H u (A++[p])∧refusal c=0∧A.length=c.length∧0<p∧(∃ z∈A,z≠0)∧FewI b (A++[p])∧b≤15000000 ∧
  ∀ (H':Hp) (y:V) (G:List Int) (D:Int),Same H H'→OL H' y (G++[D])→0<D→G.length=c.length→Cg c (fun x=>pI A x*pI G x) (fun _=>(p:Rat)*(D:Rat))→wn G≤p.natAbs*(5^(c.length-1)*wn A^(c.length-1))→D.natAbs≤wn A*(5^(c.length-1)*wn A^(c.length-1))→Q y H'
theorem sc_inverse_of:FnScope ["field","a","cofactor","divisor","factor","number"] ["field","a"] (defScope s_inverse_of):=⟨rfl,rfl,rfl,by decide +kernel,rfl,by decide +kernel,by decide +kernel⟩
theorem ok_inverse_of {P:Program}{w:World}{K:PySem.W.Frag}{mg:Str→Option Value}{base:Heap}{f:Addr}{fd:FuncData} (F:Fun K "inverse_of" "inverse_of" s_inverse_of f fd) (O:Own mg) (C_cofactor_of:Cal P w K mg base 3 "cofactor_of" ["field","numerators"] (sp_cofactor_of K)) (C_product_of:Cal P w K mg base 2 "product_of" ["field","p","q"] (sp_product_of K)) :
    FnOk P w K mg base CX0 4 f fd ["field","a"] (sp_inverse_of K):=by
  refine F.ok sc_inverse_of (fun vs H Q E h=>?_) (fun cdv A outer s H vs Q E hr h=>?_)
  · obtain⟨v,u,c,A,p,b,rfl,_⟩:=h
    rfl
  · obtain⟨v,u,c,A,p,b,rfl,⟨ca,rfl,hC⟩,⟨na,rfl,hN⟩,hc0,hl,hp,hnz,hb,hbb,k⟩:=h
    have hf:=field_ok hc0
    obtain⟨f1,f2,f3⟩:=id hf
    obtain⟨D,hD0,hD1,hD2⟩:=fl_whole hc0 f1 f2 hl hnz
    have hFl:=flI_length f1 hl (c.length-1)
    refine⟨_,(pss_cons (ps_set (i:=2) sc_inverse_of.nd rfl (by first | exact Or.inl rfl | exact Or.inr rfl) (pe_cal C_cofactor_of (hr.mono (by decide)) (by rfl) (pa_cons (pv 0) (pa_cons (pe_slice (sl_listK (K:=K) rfl) (pv 1) po_none (po_some (pe_un un_neg pe_int))) pa_nil))))
      (pss_cons (ps_set (i:=3) sc_inverse_of.nd rfl (by first | exact Or.inl rfl | exact Or.inr rfl) (pe_ix (ix_listK (K:=K) rfl) (pe_cal C_product_of (hr.mono (by decide)) (by rfl) (pa_cons (pv 0) (pa_cons (pe_slice (sl_listK (K:=K) rfl) (pv 1) po_none (po_some (pe_un un_neg pe_int))) (pa_cons (pv 2) pa_nil)))) pe_int (fun _ _=>rfl)))
      (pss_cons (ps_set (i:=4) sc_inverse_of.nd rfl (by first | exact Or.inl rfl | exact Or.inr rfl) (pe_ifExp (pt_cmpR op_gt (pv 3) pe_int (nomark _)) (pe_ix (ix_listK (K:=K) rfl) (pv 1) (pe_un un_neg pe_int) (fun _ _=>rfl)) (pe_un un_neg (pe_ix (ix_listK (K:=K) rfl) (pv 1) (pe_un un_neg pe_int) (fun _ _=>rfl)))))
      (pss_one (ps_ret (pe_op op_cat (pe_lc (own:=[("number",5)]) rfl sc_inverse_of.nd (pi_list (pv 2)) (show BlkOk ["field","a","cofactor","divisor","factor","number"] (defScope s_inverse_of) _ _ from⟨rfl,by decide +kernel,by decide +kernel,by decide +kernel,by decide +kernel⟩) (fun _ _ _ _ _=>(pg_name (i:=5) sc_inverse_of.nd rfl (by first | exact Or.inl rfl | exact Or.inr rfl))) (fun _ _ _ _ _=>pts_nil) (fun _ _ _ _ _=>(pe_op op_mulW (pv 4) (pv 5)))) (pe_lst (pa_cons (pe_callB call_abs (by rfl) O.abs_ bt_abs (pa_cons (pv 3) pa_nil)) pa_nil)))))))),?_⟩
    refine⟨_,rfl,_,rfl,_,rfl,_,rfl,na,_,rfl,hN,fun x hx=>?_⟩
    rw[cut_last]
    have s1:Same H (upd H x (.lst (A.map V.int))):=same_upd hx
    refine⟨_,_,c,A,b,rfl,⟨ca,rfl,s1.seq hC⟩,⟨x,rfl,SqL.of upd_same⟩,hf,hl,hb.left,hbb,fun H2 y s2 hy hfw=>?_⟩
    obtain⟨fa,rfl,hfa⟩:=hy
    have s3:=s1.trans s2
    have hwF:=wn_flI f3 f1 f2 hl (c.length-1)
    generalize hF:flI c A (c.length-1)=F at *
    have hbi:(c.length-1)*(b+79)≤3*(b+79):=Nat.mul_le_mul_right _ (by lia)
    have hfw':FewI (3*b+238) F:=hfw.mono (by lia)
    refine⟨_,rfl,_,rfl,_,rfl,_,rfl,na,_,rfl,s3.seq hN,fun x2 hx2=>?_⟩
    rw[cut_last]
    have s4:Same H2 (upd H2 x2 (.lst (A.map V.int))):=same_upd hx2
    refine⟨_,rfl,_,_,_,c,A,F,b,3*b+238,rfl,⟨ca,rfl,(s3.trans s4).seq hC⟩,⟨x2,rfl,SqL.of upd_same⟩,⟨fa,rfl,SqL.of (s4 _ _ hfa)⟩,hf,hl,hFl,hb.left,hfw',by lia,fun H5 y R s5 hy hR hcg hfR=>?_⟩
    obtain⟨ra,rfl,hra⟩:=hy
    have s6:=(s3.trans s4).trans s5
    have eR:R=D::List.replicate (c.length-1) 0:=(mulI_is f1 hl hR hcg).trans hD1
    have hDb:D.natAbs<2^(4*b+273):=lt_up (hfR D (by rw[eR];simp)) (by lia)
    refine⟨ra,_,_,V.int D,rfl,rfl,SqL.of hra,?_,?_⟩
    · rw[eR]
      exact at_ix (j:=0) rfl rfl
    dsimp only [gName]
    refine asg_if (x:=.int (if 0<D then p else -p)) (fun R hR=>?_) ?_
    · refine⟨_,rfl,_,_,rfl,rfl,_,rfl,?_⟩
      refine ite2 (fun hb=>?_) (fun hb=>?_)
      · rw[if_pos (of_decide_eq_true hb)] at hR
        exact⟨_,rfl,_,rfl,na,_,_,_,rfl,rfl,s6.seq hN,at_end _ _,hR⟩
      · rw[if_neg (fun z=>hb (decide_eq_true z))] at hR
        exact⟨_,rfl,_,rfl,na,_,_,_,rfl,rfl,s6.seq hN,at_end _ _,_,rfl,hR⟩
    generalize hq:(if 0<D then p else -p)=q
    have hqb:q.natAbs<2^b:=by
      have:=hb.last
      rw[←hq]
      split <;> lia
    have hqD:q*D=p*(D.natAbs:Int):=by
      rw[←hq]
      split
      · rw[show ((D.natAbs:Nat):Int)=D by lia]
      · rw[show ((D.natAbs:Nat):Int)=-D by lia]
        grind
    have hfa5:=s5 _ _ (s4 _ _ hfa)
    refine⟨_,rfl,fa,rfl,⟨_,SqL.of hfa5⟩,fun E hE=>?_⟩
    refine lc_ints (K:=K) (a:=fa) (ns:=F) (fun _=>true) (fun z=>V.int (q*z)) (SqL.of hfa5) (small1000 (by lia)) hE (fun z=>rfl) (fun z hz H7 Rv R7 s7 hR7=>?_) (fun H7 s7 e7=>?_)
    · have hR':=hR7 H7 (Same.refl H7)
      rw[if_pos rfl] at hR'
      exact⟨_,rfl,_,rfl,_,_,rfl,rfl,mul_big hqb (hfw' z hz) (by lia),hR'⟩
    rw[filter_yes] at e7
    have e8:H7 E=some (.lst ((F.map fun (z:Int)=>q*z).map V.int)):=by
      rw[e7,List.map_map]
      rfl
    refine⟨_,rfl,_,rfl,(by show 1≤sizeLine;decide),fun t ht=>?_⟩
    rw[abs_is]
    have s8:Same H7 (upd H7 t (.lst [V.int (D.natAbs:Int)])):=same_upd ht
    refine⟨E,t,_,_,rfl,rfl,s8 _ _ e8,upd_same,?_,fun r hr'=>?_⟩
    · rw[List.length_map,List.length_map]
      exact Nat.le_trans (show F.length+1≤7 by lia) (by decide)
    refine k _ _ (F.map fun (z:Int)=>q*z) (D.natAbs:Int) ((s6.trans s7).trans (s8.trans (same_upd hr'))) ⟨r,rfl,?_⟩ (by lia) (by rw[List.length_map];exact hFl) ?_ ?_ ?_
    · rw[upd_same,List.map_append]
      rfl
    · obtain⟨W,hW⟩:=hD2
      refine⟨mulC (q:Rat) W,fun x=>?_⟩
      have h1:pI A x*pI F x-(D:Rat)=Root.polyAt W x*Root.polyAt (Root.polyOf c) x:=hW x
      have h2:(q:Rat)*(D:Rat)=(p:Rat)*((D.natAbs:Int):Rat):=by
        rw[←Rat.intCast_mul,hqD,Rat.intCast_mul]
      show pI A x*pI _ x-(p:Rat)*((D.natAbs:Int):Rat)=_
      rw[pI_smul,mulC_at,←h2]
      grind
    · rw[wn_smul]
      have e:q.natAbs=p.natAbs:=by
        rw[←hq]
        split <;> lia
      rw[e]
      exact Nat.mul_le_mul_left _ hwF
    · rw[Int.natAbs_natCast]
      have e1:=wn_mulI f3 f1 F A hl
      rw[hD1] at e1
      have e2:D.natAbs≤wn (D::List.replicate (c.length-1) 0):=wn_mem List.mem_cons_self
      exact Nat.le_trans e2 (Nat.le_trans e1 (Nat.mul_le_mul_left _ hwF))
def sp_added (K:PySem.W.Frag):Sp:=fun vs H Q _=>∃ (v u:V) (ms ns:List Int) (p q:Int) (bm bn:Nat),vs=[v,u]∧IL K H v (ms++[p])∧IL K H u (ns++[q])∧ms.length=ns.length∧ms.length≤100 ∧
  FewI bm (ms++[p])∧FewI bn (ns++[q])∧bm+bn≤134217728∧∀ (H':Hp) (y:V),Same H H'→OL H' y (addRow ms p ns q)→Q y H'
theorem sc_added:FnScope ["a","b","numerators","m","n"] ["a","b"] (defScope s_added):=⟨rfl,rfl,rfl,by decide +kernel,rfl,by decide +kernel,by decide +kernel⟩
theorem ok_added {P:Program}{w:World}{K:PySem.W.Frag}{mg:Str→Option Value}{base:Heap}{f:Addr}{fd:FuncData} (F:Fun K "added" "added" s_added f fd) (O:Own mg) :
    FnOk P w K mg base CX0 1 f fd ["a","b"] (sp_added K):=by
  refine F.ok sc_added (fun vs H Q E h=>?_) (fun cdv A outer s H vs Q E hr h=>?_)
  · obtain⟨v,u,ms,ns,p,q,bm,bn,rfl,_⟩:=h
    rfl
  · obtain⟨v,u,ms,ns,p,q,bm,bn,rfl,⟨a,rfl,ha⟩,⟨b,rfl,hb⟩,hl,hl2,hm,hn,hbb,k⟩:=h
    have hp:=hm.last
    have hq:=hn.last
    refine⟨_,(pss_cons (ps_setLc (i:=2) (own:=[("m",3),("n",4)]) rfl sc_added.nd rfl rfl rfl (pi_zip (by rfl) O.zip_ (pa_cons (pe_slice (sl_listK (K:=K) rfl) (pv 0) po_none (po_some (pe_un un_neg pe_int))) (pa_cons (pe_slice (sl_listK (K:=K) rfl) (pv 1) po_none (po_some (pe_un un_neg pe_int))) pa_nil))) (show BlkOk ["a","b","numerators","m","n"] (defScope s_added) _ _ from⟨rfl,by decide +kernel,by decide +kernel,by decide +kernel,by decide +kernel⟩) (fun _ _ _ _ _=>(pg_tupK (K:=K) (n:=2) rfl rfl (pgs_cons (pg_name (i:=3) sc_added.nd rfl (by first | exact Or.inl rfl | exact Or.inr rfl)) (pgs_cons (pg_name (i:=4) sc_added.nd rfl (by first | exact Or.inl rfl | exact Or.inr rfl)) pgs_nil)))) (fun _ _ _ _ _=>pts_nil) (fun _ _ _ _ _=>(pe_op op_add (pe_op op_mulW (pv 3) (pe_ix (ix_listK (K:=K) rfl) (pv 1) (pe_un un_neg pe_int) (fun _ _=>rfl))) (pe_op op_mulW (pv 4) (pe_ix (ix_listK (K:=K) rfl) (pv 0) (pe_un un_neg pe_int) (fun _ _=>rfl))))))
      (pss_one (ps_ret (pe_op op_cat (pv 2) (pe_lst (pa_cons (pe_op op_mulW (pe_ix (ix_listK (K:=K) rfl) (pv 0) (pe_un un_neg pe_int) (fun _ _=>rfl)) (pe_ix (ix_listK (K:=K) rfl) (pv 1) (pe_un un_neg pe_int) (fun _ _=>rfl))) pa_nil)))))),?_⟩
    refine⟨_,rfl,_,rfl,_,rfl,a,_,rfl,ha,fun x hx=>?_⟩
    rw[cut_last]
    have s1:Same H (upd H x (.lst (ms.map V.int))):=same_upd hx
    refine⟨_,rfl,_,rfl,_,rfl,b,_,rfl,s1.seq hb,fun y hy=>?_⟩
    rw[cut_last]
    have s2:Same (upd H x (.lst (ms.map V.int))) (upd (upd H x (.lst (ms.map V.int))) y (.lst (ns.map V.int))):=same_upd hy
    refine⟨x,y,_,_,rfl,SqL.of (s2 _ _ upd_same),SqL.of upd_same,fun D hD=>?_⟩
    refine lc_zip2 (K:=K) (a:=x) (b:=y) (ms:=ms) (ns:=ns) (fun m n=>V.int (m*q+n*p)) (SqL.of (s2 _ _ upd_same)) (SqL.of upd_same) hl (small1000 (by lia)) hD (fun _ _=>rfl) (fun m hm' n hn' H2 Rv s3 hR=>?_) (fun H2 s3 e=>?_)
    · have s4:=(s1.trans s2).trans s3
      have hm1:=hm m (by simp[hm'])
      have hn1:=hn n (by simp[hn'])
      exact⟨_,rfl,_,rfl,_,rfl,b,_,_,_,rfl,rfl,s4.seq hb,at_end _ _,_,_,rfl,rfl,mul_big hm1 hq hbb,_,rfl,_,rfl,_,rfl,a,_,_,_,rfl,rfl,s4.seq ha,at_end _ _,_,_,rfl,rfl,mul_big hn1 hp (by lia),_,_,rfl,rfl,hR H2 (Same.refl H2)⟩
    · have s4:=(s1.trans s2).trans s3
      have e':H2 D=some (.lst ((List.zipWith (fun (m n:Int)=>m*q+n*p) ms ns).map V.int)):=by
        rw[e,List.map_zipWith]
      refine⟨_,rfl,_,rfl,_,rfl,a,_,_,_,rfl,rfl,s4.seq ha,at_end _ _,_,rfl,_,rfl,b,_,_,_,rfl,rfl,s4.seq hb,at_end _ _,_,_,rfl,rfl,mul_big hp hq hbb,(by show 1≤sizeLine;decide),fun t ht=>?_⟩
      have s5:Same H2 (upd H2 t (.lst [V.int (p*q)])):=same_upd ht
      refine⟨D,t,_,_,rfl,rfl,s5 _ _ e',upd_same,?_,fun r hr'=>?_⟩
      · rw[List.length_map,List.length_zipWith]
        exact Nat.le_trans (Nat.add_le_add_right (Nat.le_trans (Nat.min_le_left _ _) hl2) 1) (by decide)
      · have s6:=s5.trans (same_upd (o:=.lst ((List.zipWith (fun (m n:Int)=>m*q+n*p) ms ns).map V.int++[V.int (p*q)])) hr')
        refine k _ _ (s4.trans s6) ⟨r,rfl,?_⟩
        rw[upd_same]
        unfold addRow
        rw[List.map_append]
        rfl
def sp_negated (K:PySem.W.Frag):Sp:=fun vs H Q _=>∃ (v:V) (ns:List Int) (q:Int),vs=[v]∧IL K H v (ns++[q])∧ns.length≤100∧∀ (H':Hp) (y:V),Same H H'→OL H' y ((ns.map fun (z:Int)=>-z)++[q])→Q y H'
theorem sc_negated:FnScope ["a","number"] ["a"] (defScope s_negated):=⟨rfl,rfl,rfl,by decide +kernel,rfl,by decide +kernel,by decide +kernel⟩
theorem ok_negated {P:Program}{w:World}{K:PySem.W.Frag}{mg:Str→Option Value}{base:Heap}{f:Addr}{fd:FuncData} (F:Fun K "negated" "negated" s_negated f fd) (O:Own mg) :
    FnOk P w K mg base CX0 1 f fd ["a"] (sp_negated K):=by
  refine F.ok sc_negated (fun vs H Q E h=>?_) (fun cdv A outer s H vs Q E hr h=>?_)
  · obtain⟨v,ns,q,rfl,_⟩:=h
    rfl
  · obtain⟨v,ns,q,rfl,⟨a,rfl,ha⟩,hl,k⟩:=h
    refine⟨_,(pss_one (ps_ret (pe_op op_cat (pe_lc (own:=[("number",1)]) rfl sc_negated.nd (pi_list (pe_slice (sl_listK (K:=K) rfl) (pv 0) po_none (po_some (pe_un un_neg pe_int)))) (show BlkOk ["a","number"] (defScope s_negated) _ _ from⟨rfl,by decide +kernel,by decide +kernel,by decide +kernel,by decide +kernel⟩) (fun _ _ _ _ _=>(pg_name (i:=1) sc_negated.nd rfl (by first | exact Or.inl rfl | exact Or.inr rfl))) (fun _ _ _ _ _=>pts_nil) (fun _ _ _ _ _=>(pe_un un_neg (pv 1)))) (pe_lst (pa_cons (pe_ix (ix_listK (K:=K) rfl) (pv 0) (pe_un un_neg pe_int) (fun _ _=>rfl)) pa_nil))))),?_⟩
    refine⟨_,rfl,_,rfl,_,rfl,a,_,rfl,ha,fun x hx=>?_⟩
    rw[cut_last]
    have s1:Same H (upd H x (.lst (ns.map V.int))):=same_upd hx
    refine⟨x,rfl,⟨_,SqL.of upd_same⟩,fun D hD=>?_⟩
    refine lc_ints (K:=K) (a:=x) (ns:=ns) (fun _=>true) (fun z=>V.int (-z)) (SqL.of upd_same) (small1000 (by lia)) hD (fun z=>rfl) (fun z hz H2 Rv R s2 hR=>?_) (fun H2 s2 e4=>?_)
    · have hR':=hR H2 (Same.refl H2)
      rw[if_pos rfl] at hR'
      exact⟨_,rfl,_,rfl,hR'⟩
    · rw[filter_yes] at e4
      have s3:=s1.trans s2
      refine⟨_,rfl,_,rfl,a,_,_,_,rfl,rfl,s3.seq ha,at_end _ _,(by show 1≤sizeLine;decide),fun t ht=>?_⟩
      have s5:Same H2 (upd H2 t (.lst [V.int q])):=same_upd ht
      refine⟨D,t,_,_,rfl,rfl,s5 _ _ e4,upd_same,?_,fun r hr'=>k _ _ (s3.trans (s5.trans (same_upd hr'))) ⟨r,rfl,?_⟩⟩
      · rw[List.length_map]
        exact Nat.le_trans (Nat.add_le_add_right hl 1) (by decide)
      · rw[upd_same,List.map_append,List.map_map]
        rfl
def sp_is_zero (K:PySem.W.Frag):Sp:=fun vs H Q _=>∃ (v:V) (A:List Int) (p:Int),vs=[v]∧IL K H v (A++[p])∧∀ H':Hp,Same H H'→Q (.bl (!(A.any fun (z:Int)=>z != 0))) H'
theorem sc_is_zero:FnScope ["a"] ["a"] (defScope s_is_zero):=⟨rfl,rfl,rfl,by decide +kernel,rfl,by decide +kernel,by decide +kernel⟩
theorem ok_is_zero {P:Program}{w:World}{K:PySem.W.Frag}{mg:Str→Option Value}{base:Heap}{f:Addr}{fd:FuncData} (F:Fun K "is_zero" "is_zero" s_is_zero f fd) (O:Own mg) :
    FnOk P w K mg base CX0 1 f fd ["a"] (sp_is_zero K):=by
  refine F.ok sc_is_zero (fun vs H Q E h=>?_) (fun cdv A outer s H vs Q E hr h=>?_)
  · obtain⟨v,A,p,rfl,_⟩:=h
    rfl
  · obtain⟨v,A,p,rfl,⟨a,rfl,ha⟩,k⟩:=h
    refine⟨_,(pss_one (ps_ret (pe_not (pe_callB (cr_anyIK (K:=K) rfl rfl) (by rfl) O.any_ bt_any (pa_cons (pe_slice (sl_listK (K:=K) rfl) (pv 0) po_none (po_some (pe_un un_neg pe_int))) pa_nil))))),?_⟩
    refine⟨_,rfl,_,rfl,_,rfl,a,_,rfl,ha,fun x hx=>?_⟩
    rw[cut_last]
    refine⟨x,A,rfl,SqL.of upd_same,?_⟩
    exact⟨_,rfl,k _ (same_upd hx)⟩
theorem rep_zeros':∀ n:Nat,(List.replicate n [V.int 0]).flatten=(List.replicate n (0:Int)).map V.int
  | 0=>rfl
  | n+1=>by
    rw[List.replicate_succ,List.flatten_cons,rep_zeros' n,List.replicate_succ]
    rfl
def wholeRow (z:Int) (d:Nat):List Int:=z::List.replicate (d-1) 0
def sp_whole_row:Sp:=fun vs H Q _=>∃ (z:Int) (d:Nat),vs=[.int z,.int d]∧1≤d∧d≤10∧∀ (H':Hp) (y:V),Same H H'→OL H' y (wholeRow z d++[1])→Q y H'
theorem sc_whole_row:FnScope ["number","degree"] ["number","degree"] (defScope s_whole_row):=⟨rfl,rfl,rfl,by decide +kernel,rfl,by decide +kernel,by decide +kernel⟩
theorem ok_whole_row {P:Program}{w:World}{K:PySem.W.Frag}{mg:Str→Option Value}{base:Heap}{f:Addr}{fd:FuncData} (F:Fun K "whole_row" "whole_row" s_whole_row f fd) (O:Own mg) :
    FnOk P w K mg base CX0 1 f fd ["number","degree"] sp_whole_row:=by
  refine F.ok sc_whole_row (fun vs H Q E h=>?_) (fun cdv A outer s H vs Q E hr h=>?_)
  · obtain⟨z,d,rfl,_⟩:=h
    rfl
  · obtain⟨z,d,rfl,h1,h2,k⟩:=h
    refine⟨_,(pss_one (ps_ret (pe_op op_cat (pe_op op_cat (pe_lst (pa_cons (pv 0) pa_nil)) (pe_op op_rep (pe_lst (pa_cons pe_int pa_nil)) (pe_op op_sub (pv 1) pe_int))) (pe_lst (pa_cons pe_int pa_nil))))),?_⟩
    refine⟨_,rfl,(by show 1≤sizeLine;decide),fun l1 hl1=>⟨(by show 1≤sizeLine;decide),fun l2 hl2=>?_⟩⟩
    have s1:Same H (upd H l1 (.lst [V.int z])):=same_upd hl1
    have s2:Same (upd H l1 (.lst [V.int z])) (upd (upd H l1 (.lst [V.int z])) l2 (.lst [V.int 0])):=same_upd hl2
    refine⟨_,rfl,_,_,rfl,rfl,l2,_,_,rfl,rfl,upd_same,by lia,by lia,?_,fun l3 hl3=>?_⟩
    · show 1*_≤sizeLine
      exact Nat.le_trans (show 1*((d:Int)-1).toNat≤10 by lia) (by decide)
    have e1:((d:Int)-1).toNat=d-1:=by lia
    rw[rep_zeros',e1]
    have s3:=same_upd (o:=.lst ((List.replicate (d-1) (0:Int)).map V.int)) hl3
    refine⟨l1,l3,_,_,rfl,rfl,s3 _ _ (s2 _ _ upd_same),upd_same,?_,fun D hD=>?_⟩
    · rw[List.length_map,List.length_replicate]
      exact Nat.le_trans (show 1+(d-1)≤10 by lia) (by decide)
    have s4:=same_upd (o:=.lst ([V.int z]++(List.replicate (d-1) (0:Int)).map V.int)) hD
    refine⟨(by show 1≤sizeLine;decide),fun l5 hl5=>?_⟩
    have s5:=same_upd (o:=.lst [V.int 1]) hl5
    refine⟨D,l5,_,_,rfl,rfl,s5 _ _ upd_same,upd_same,?_,fun r hr'=>k _ _ (((s1.trans s2).trans (s3.trans s4)).trans (s5.trans (same_upd hr'))) ⟨r,rfl,?_⟩⟩
    · rw[List.length_append,List.length_map,List.length_replicate]
      exact Nat.le_trans (show 1+(d-1)+1≤11 by lia) (by decide)
    · rw[upd_same]
      unfold wholeRow
      rw[List.map_append,List.map_cons]
      rfl
theorem dv_oneR (d:Nat) (h:1≤d):dv 1 (wholeRow 1 d)=Root.oneIn d:=by
  have e1:((1:Int):Rat) / ((1:Int):Rat)=1:=by rw[Rat.intCast_one,Rat.div_def];exact Rat.mul_inv_cancel 1 (by decide)
  refine num_ext ?_ fun i=>?_
  · rw[dv_length,oneIn_length]
    unfold wholeRow
    rw[List.length_cons,List.length_replicate]
    lia
  · unfold dv wholeRow Root.oneIn Root.at_
    rw[List.getD_eq_getElem?_getD,List.getD_eq_getElem?_getD,List.getElem?_map,List.getElem?_map]
    cases i with
    | zero =>
      rw[List.getElem?_range (by lia)]
      exact e1
    | succ i =>
      rw[List.getElem?_cons_succ,List.getElem?_replicate]
      by_cases h2:i+1<d
      · rw[List.getElem?_range h2,if_pos (by lia)]
        show ((0:Int):Rat) / ((1:Int):Rat)=if i+1=0 then 1 else 0
        rw[if_neg (by lia),Rat.intCast_zero,Rat.div_def,Rat.zero_mul]
      · rw[if_neg (by lia),List.getElem?_eq_none (by rw[List.length_range];lia)]
        rfl
def WnI (u:Nat) (A:List Int) (p:Int):Prop:=wn A≤2^u∧p.natAbs≤2^u
theorem WnI.few {u:Nat}{A:List Int}{p:Int} (h:WnI u A p):FewI (u+1) (A++[p]):=fun z hz=>by
  have h0:=Nat.two_pow_pos u
  have e:z.natAbs≤2^u:=by
    rcases List.mem_append.mp hz with h3 | h3
    · exact Nat.le_trans (wn_mem h3) h.1
    · have:z=p:=by simpa using h3
      rw[this];exact h.2
  rw[Nat.pow_succ]
  lia
theorem WnI.mul {c A B R:List Int}{p q:Int}{u v:Nat} (f:FieldOk c) (hA:A.length=c.length) (hR:R.length=c.length) (h1:WnI u A p) (h2:WnI v B q) (hcg:Cg c (fun x=>pI A x*pI B x) (pI R)):WnI (u+v) R (p*q):=by
  refine⟨?_,?_⟩
  · rw[mulI_is f.1 hA hR hcg,Nat.pow_add]
    exact Nat.le_trans (wn_mulI f.2.2 f.1 B A hA) (Nat.mul_le_mul h1.1 h2.1)
  · rw[Int.natAbs_mul,Nat.pow_add]
    exact Nat.mul_le_mul h1.2 h2.2
theorem wn_whole (z:Int) (d:Nat):wn (wholeRow z d)=z.natAbs:=by
  unfold wholeRow
  show z.natAbs+1001*wn (List.replicate (d-1) 0)=_
  rw[wn_zeros]
  rfl
def sp_raised (K:PySem.W.Frag):Sp:=fun vs H Q _=>∃ (v u:V) (c A:List Int) (p:Int) (k b:Nat),vs=[v,u,.int k]∧IL K H v c∧IL K H u (A++[p])∧FieldOk c∧A.length=c.length∧0<p∧WnI b A p∧b≤58000000∧k*b≤58000000∧k≤99 ∧
  ∀ (H':Hp) (y:V) (R:List Int) (q:Int),Same H H'→OL H' y (R++[q])→R.length=c.length→0<q→dv q R=Root.power c (dv p A) k→WnI (k*b) R q→Q y H'
theorem sc_raised:FnScope ["field","a","k","answer","shift"] ["field","a","k"] (defScope s_raised):=⟨rfl,rfl,rfl,by decide +kernel,rfl,by decide +kernel,by decide +kernel⟩
theorem ok_raised {P:Program}{w:World}{K:PySem.W.Frag}{mg:Str→Option Value}{base:Heap}{f:Addr}{fd:FuncData} (F:Fun K "raised" "raised" s_raised f fd) (O:Own mg) (C_whole_row:Cal P w K mg base 1 "whole_row" ["number","degree"] sp_whole_row) (C_multiplied:Cal P w K mg base 3 "multiplied" ["field","a","b"] (sp_multiplied K)) :
    FnOk P w K mg base CX0 4 f fd ["field","a","k"] (sp_raised K):=by
  refine F.ok sc_raised (fun vs H Q E h=>?_) (fun cdv A outer s H vs Q E hr h=>?_)
  · obtain⟨v,u,c,A,p,k,b,rfl,_⟩:=h
    rfl
  · obtain⟨v,u,c,A,p,n,b,rfl,⟨ca,rfl,hC⟩,⟨na,rfl,hN⟩,hf,hl,hp,hb,hb5,hkb,hn20,k⟩:=h
    obtain⟨f1,f2,f3⟩:=id hf
    refine⟨_,(pss_cons (ps_set (i:=3) sc_raised.nd rfl (by first | exact Or.inl rfl | exact Or.inr rfl) (pe_cal C_whole_row (hr.mono (by decide)) (by rfl) (pa_cons pe_int (pa_cons (pe_callB (call_lenK (K:=K) rfl) (by rfl) O.len_ bt_len (pa_cons (pv 0) pa_nil)) pa_nil))))
      (pss_cons (ps_for PassesOwn.never rfl (pi_range3 (by rfl) O.range_ (pa_cons (pe_op op_sub (pe_bits (pv 2)) pe_int) (pa_cons (pe_un un_neg pe_int) (pa_cons (pe_un un_neg pe_int) pa_nil)))) (pg_name (i:=4) sc_raised.nd rfl (by first | exact Or.inl rfl | exact Or.inr rfl)) (pss_cons (ps_set (i:=3) sc_raised.nd rfl (by first | exact Or.inl rfl | exact Or.inr rfl) (pe_cal C_multiplied (hr.mono (by decide)) (by rfl) (pa_cons (pv 0) (pa_cons (pv 3) (pa_cons (pv 3) pa_nil)))))
      (pss_one (ps_if (pt_cmpR op_eq (pe_op op_and (pe_op op_shr (pv 2) (pv 4)) pe_int) pe_int (nomark _)) (pss_one (ps_set (i:=3) sc_raised.nd rfl (by first | exact Or.inl rfl | exact Or.inr rfl) (pe_cal C_multiplied (hr.mono (by decide)) (by rfl) (pa_cons (pv 0) (pa_cons (pv 3) (pa_cons (pv 1) pa_nil)))))) pss_nil))))
      (pss_one (ps_ret (pv 3))))),?_⟩
    have hdl:(dv p A).length=c.length:=by rw[dv_length];exact hl
    refine⟨_,rfl,ca,_,rfl,.inl hC,?_⟩
    rw[List.length_map]
    refine⟨1,c.length,rfl,f1,by lia,fun H1 y1 s1 hy1=>?_⟩
    obtain⟨w0,rfl,hw0⟩:=hy1
    have hnl:=bits_lt (n:Int)
    rw[Int.natAbs_natCast] at hnl
    have hng:=fun h:(n:Int)≠0=>bits_ge h
    have hm5:Builtin.Int.intBits (n:Int)≤7:=bits_few (by rw[Int.natAbs_natCast];exact Nat.lt_of_le_of_lt hn20 (by decide))
    generalize hm:Builtin.Int.intBits (n:Int)=m at *
    refine⟨_,rfl,_,rfl,_,_,rfl,rfl,_,rfl,_,rfl,_,_,_,m,rfl,?_,?_⟩
    · have:=RgC.neg (i:=(m:Int)-1) (j:=-1) (by lia) (by lia) (by lia) (by lia)
      rw[show ((m:Int)-1-(-1)).toNat=m by lia] at this
      rw[hm]
      exact this
    rw[hm]
    refine for_rangeC (lo:=(m:Int)-1) (c:=-1) (n:=m) (fun i σ H'=>∃ (T:List Int) (t:Int) (w:Addr) (v4:Option V),σ=[some (.ref ca),some (.ref na),some (.int n),some (.ref w),v4]∧H' w=some (.lst ((T++[t]).map V.int))∧T.length=c.length∧0<t∧dv t T=Root.power c (dv p A) (n / 2^(m-i))∧WnI (n / 2^(m-i)*b) T t∧Same H1 H')
      ⟨wholeRow 1 c.length,1,w0,none,rfl,hw0,?_,by decide,?_,?_,Same.refl _⟩ ?_ ?_
    · unfold wholeRow
      rw[List.length_cons,List.length_replicate]
      lia
    · rw[Nat.sub_zero,Nat.div_eq_of_lt hnl]
      exact dv_oneR _ f1
    · rw[Nat.sub_zero,Nat.div_eq_of_lt hnl]
      exact⟨by rw[wn_whole,Nat.zero_mul];decide,by rw[Nat.zero_mul];decide⟩
    · rintro i σ H2 hi ⟨T,t,w,v4,rfl,hw,hT,ht,hdv,hfw,s2⟩
      have hn0:(n:Int)≠0:=fun z=>by
        have:m=0:=by rw[←hm,z];decide
        lia
      obtain⟨hge,_⟩:=hng hn0
      rw[Int.natAbs_natCast] at hge
      have ei:m-i=(m-1-i)+1:=by lia
      have es:n / 2^(m-i)=n / 2^(m-1-i) / 2:=by
        rw[ei,Nat.pow_succ,Nat.div_div_eq_div_mul]
      have ei2:m-(i+1)=m-1-i:=by lia
      have hs1:1≤n / 2^(m-1-i):=(Nat.le_div_iff_mul_le (Nat.two_pow_pos _)).mpr (by
        rw[Nat.one_mul]
        exact Nat.le_trans (pow2_mono (by lia)) hge)
      have hsn:n / 2^(m-1-i)≤n:=Nat.div_le_self _ _
      rw[es] at hdv hfw
      rw[ei2]
      have hix:(m:Int)-1+(i:Nat)*(-1)=((m-1-i:Nat):Int):=by lia
      have eshift:(n:Int) / 2^(((m-1-i:Nat):Int)).toNat=((n / 2^(m-1-i):Nat):Int):=by
        rw[Int.toNat_natCast]
        push_cast
        rfl
      generalize hS:n / 2^(m-1-i)=S at *
      have s12:=s1.trans s2
      have hSb:S*b≤58000000:=Nat.le_trans (Nat.mul_le_mul_right b hsn) hkb
      have hS2:S / 2*b+S / 2*b≤S*b:=by
        rw[←Nat.add_mul]
        exact Nat.mul_le_mul_right b (by lia)
      have hfwF:=hfw.few
      refine⟨_,rfl,_,rfl,_,rfl,_,_,_,c,T,T,t,t,S / 2*b+1,S / 2*b+1,rfl,⟨ca,rfl,s12.seq hC⟩,⟨w,rfl,SqL.of hw⟩,⟨w,rfl,SqL.of hw⟩,hf,hT,hT,hfwF,hfwF,by lia,fun H3 y3 R s3 hy3 hR hcg hfR=>?_⟩
      obtain⟨w3,rfl,hw3⟩:=hy3
      have hd2:dv (t*t) R=Root.power c (dv p A) (S / 2+S / 2):=by
        rw[←times_dv f1 ht ht hT hT hR hcg,hdv]
        exact power_twice f1 hdl _
      have hfR2:=WnI.mul hf hT hR hfw hfw hcg
      refine⟨_,rfl,_,rfl,_,_,rfl,rfl,?_,_,_,rfl,rfl,rfl,_,rfl,?_⟩
      · show (0:Int)≤(m:Int)-1+(i:Nat)*(-1)
        lia
      dsimp only
      rw[hix,eshift]
      refine ite2 (fun h1=>?_) (fun h1=>?_)
      · have h2:S=S / 2+S / 2+1:=by
          have h0:Builtin.bitAnd (S:Int) 1=1:=int_eq h1
          rw[bitAnd_m1] at h0
          lia
        have hS3:S / 2*b+S / 2*b+b=S*b:=by
          rw[←Nat.add_mul,←Nat.succ_mul]
          congr 1
          lia
        refine⟨_,rfl,_,rfl,_,rfl,_,_,_,c,R,A,t*t,p,_,b+1,rfl,⟨ca,rfl,(s12.trans s3).seq hC⟩,⟨w3,rfl,SqL.of hw3⟩,⟨na,rfl,(s12.trans s3).seq hN⟩,hf,hR,hl,hfR2.few,hb.few,by lia,fun H4 y4 R4 s4 hy4 hR4 hcg4 hfR4=>?_⟩
        obtain⟨w4,rfl,hw4⟩:=hy4
        refine⟨R4,t*t*p,w4,_,rfl,hw4,hR4,Int.mul_pos (Int.mul_pos ht ht) hp,?_,?_,(s2.trans s3).trans s4⟩
        · rw[←times_dv f1 (Int.mul_pos ht ht) hp hR hl hR4 hcg4,hd2]
          conv=>rhs;rw[h2]
          rfl
        · rw[←hS3]
          exact WnI.mul hf hR hR4 hfR2 hb hcg4
      · have h2:S=S / 2+S / 2:=by
          have h0:Builtin.bitAnd (S:Int) 1≠1:=int_ne h1
          rw[bitAnd_m1] at h0
          lia
        have h3:¬ S / 2=0:=by lia
        refine⟨R,t*t,w3,_,rfl,hw3,hR,Int.mul_pos ht ht,?_,?_,s2.trans s3⟩
        · rw[hd2,←h2]
        · rw[←Nat.add_mul,←h2] at hfR2
          exact hfR2
    · rintro σ H2 ⟨T,t,w,v4,rfl,hw,hT,ht,hdv,hfw,s2⟩
      rw[Nat.sub_self,Nat.pow_zero,Nat.div_one] at hdv hfw
      exact⟨_,rfl,k _ _ T t (s1.trans s2) ⟨w,rfl,hw⟩ hT ht hdv hfw⟩
theorem rep_zerosR:∀ n:Nat,(List.replicate n [V.int 0]).flatten=(List.replicate n (0:Int)).map V.int
  | 0=>rfl
  | n+1=>by
    rw[List.replicate_succ,List.flatten_cons,rep_zerosR n,List.replicate_succ]
    rfl
def sp_root_row (K:PySem.W.Frag):Sp:=fun vs H Q _=>∃ (v:V) (c:List Int),vs=[v]∧IL K H v c∧refusal c=0 ∧
  ∀ (H':Hp) (y:V) (R:List Int),Same H H'→OL H' y (R++[1])→Elm c (Root.timesX c (Root.oneIn c.length)) 10 R 1→Q y H'
theorem sc_root_row:FnScope ["field"] ["field"] (defScope s_root_row):=⟨rfl,rfl,rfl,by decide +kernel,rfl,by decide +kernel,by decide +kernel⟩
theorem ok_root_row {P:Program}{w:World}{K:PySem.W.Frag}{mg:Str→Option Value}{base:Heap}{f:Addr}{fd:FuncData} (F:Fun K "root_row" "root_row" s_root_row f fd) (O:Own mg) (C_remainder_of:Cal P w K mg base 1 "remainder_of" ["field","polynomial"] (sp_remainder_of K)) :
    FnOk P w K mg base CX0 2 f fd ["field"] (sp_root_row K):=by
  refine F.ok sc_root_row (fun vs H Q E h=>?_) (fun cdv A outer s H vs Q E hr h=>?_)
  · obtain⟨v,c,rfl,_⟩:=h
    rfl
  · obtain⟨v,c,rfl,⟨ca,rfl,hC⟩,hc0,k⟩:=h
    have hf:=field_ok hc0
    obtain⟨f1,f2,f3⟩:=id hf
    refine⟨_,(pss_one (ps_ret (pe_op op_cat (pe_cal C_remainder_of (hr.mono (by decide)) (by rfl) (pa_cons (pv 0) (pa_cons (pe_op op_cat (pe_lst (pa_cons pe_int (pa_cons pe_int pa_nil))) (pe_op op_rep (pe_lst (pa_cons pe_int pa_nil)) (pe_op op_sub (pe_callB (call_lenK (K:=K) rfl) (by rfl) O.len_ bt_len (pa_cons (pv 0) pa_nil)) pe_int))) pa_nil))) (pe_lst (pa_cons pe_int pa_nil))))),?_⟩
    refine⟨_,rfl,(by show 2≤sizeLine;decide),fun l1 hl1=>⟨(by show 1≤sizeLine;decide),fun l2 hl2=>?_⟩⟩
    have s1:Same H (upd H l1 (.lst [V.int 0,V.int 1])):=same_upd hl1
    have s2:Same (upd H l1 (.lst [V.int 0,V.int 1])) (upd (upd H l1 (.lst [V.int 0,V.int 1])) l2 (.lst [V.int 0])):=same_upd hl2
    refine⟨_,rfl,ca,_,rfl,.inl ((s1.trans s2).seq hC),?_⟩
    rw[List.length_map]
    refine⟨_,_,rfl,rfl,l2,_,_,rfl,rfl,upd_same,by lia,by lia,?_,fun l3 hl3=>?_⟩
    · show 1*_≤sizeLine
      exact Nat.le_trans (show 1*((c.length:Int)-2).toNat≤10 by lia) (by decide)
    have e1:((c.length:Int)-2).toNat=c.length-2:=by lia
    rw[rep_zerosR,e1]
    have s3:=same_upd (o:=.lst ((List.replicate (c.length-2) (0:Int)).map V.int)) hl3
    refine⟨l1,l3,_,_,rfl,rfl,s3 _ _ (s2 _ _ upd_same),upd_same,?_,fun D hD=>?_⟩
    · rw[List.length_map,List.length_replicate]
      exact Nat.le_trans (show 2+(c.length-2)≤10 by lia) (by decide)
    have s4:=same_upd (o:=.lst ([V.int 0,V.int 1]++(List.replicate (c.length-2) (0:Int)).map V.int)) hD
    have s5:=(s1.trans s2).trans (s3.trans s4)
    have hl:(0::1::List.replicate (c.length-2) (0:Int)).length=c.length-2+2:=by
      rw[List.length_cons,List.length_cons,List.length_replicate]
    refine⟨_,_,c,0::1::List.replicate (c.length-2) 0,1,rfl,⟨ca,rfl,s5.seq hC⟩,⟨D,rfl,SqL.of upd_same⟩,hf,by lia,by lia,fun z hz=>?_,by decide,fun H6 y6 R s6 hy6 hR hcg hfR=>?_⟩
    · rcases List.mem_cons.mp hz with h4 | h4
      · rw[h4];decide
      · rcases List.mem_cons.mp h4 with h5 | h5
        · rw[h5];decide
        · rw[List.eq_of_mem_replicate h5];decide
    obtain⟨r,rfl,hr6⟩:=hy6
    refine⟨(by show 1≤sizeLine;decide),fun l7 hl7=>?_⟩
    have s7:=same_upd (o:=.lst [V.int 1]) hl7
    refine⟨r,l7,_,_,rfl,rfl,s7 _ _ hr6,upd_same,?_,fun r8 hr8=>k _ _ R ((s5.trans s6).trans (s7.trans (same_upd hr8))) ⟨r8,rfl,?_⟩ (Elm.x hc0 hR (fun x=>?_) hcg)⟩
    · rw[List.length_map,hR]
      exact Nat.le_trans (show c.length+1≤11 by lia) (by decide)
    · rw[upd_same,List.map_append]
      rfl
    · rw[pI_cons,pI_cons,pI_zeros,Rat.intCast_zero,Rat.intCast_one]
      grind
section
variable {P:Program}{w:World}{K:PySem.W.Frag}{mg:Str→Option Value}{base:Heap}
theorem okF {C:Addr}{x qual:Str}{st:Stmt}{f:Addr}{fd:FuncData}{N ps:List Str}{k:Nat}{sp:Sp} (F:Fun K x qual st f fd) (S:FnScope N ps (defScope st)) (len:∀ vs H Q E,sp vs H Q E→vs.length=ps.length)
    (hbody:∀ (cdv:Value) (A:Around) (outer:List Env) (s:Shared) (H:Hp) (vs:List V) (Q:VK) (E:XK),Room k (A.deeper (envOfC qual (defScope st) s.heap.objs.size f cdv))→sp vs H Q E →
      ∃ t,PSs (cxOf (CXF P w C) P w K mg base N qual (defScope st) f cdv A outer s H E) (defBody st) t∧t { nx:=fun _ H'=>Q .non H',rt:=Q } (start N vs) H):FnOk P w K mg base (CXF P w C) (k+1) f fd ps sp:=by
  obtain⟨oc,od,kV,doc,pm,an,cdv,ct,osl,rfl,lk,hcd⟩:=F.ex
  exact fn_of lk hcd S len fun A outer s H vs Q E hr hsp=>hbody cdv A outer s H vs Q E hr hsp
end
structure Mth (P:Program) (w:World) (K:PySem.W.Frag) (mg:Str→Option Value) (base:Heap) (CX:CXT) (k:Nat) (R:Addr) (m:Str) (ps:List Str) (sp:Sp):Prop where
  ex:∃ (f:Addr) (fd:FuncData),FnOk P w K mg base CX k f fd ps sp∧Meth K R m f∧Binds K fd ps []
theorem pe_mth0 {X:Cx}{k:Nat}{R:Addr}{m:Str}{ps:List Str}{sp:Sp}{o:Expr}{ta:TE}{apos pos:Pos}{pl:Sem Bool} (M:Mth X.prog X.w X.K X.mg X.base CX0 k R m ps sp) (c:Cls X.K R) (hr:Room k X.A) (he:PE X o ta)
    (ht:eval (.Call (.Attribute o m apos) [] [] pos) X.env=(do
      let ov ←eval o X.env
      standAt apos.atName
      let (f,first) ←holding [ov] (getMethod ov m pl)
      callWith pos f first (backTo pos (starEach [] X.env)) (backToKw pos (keywordEach [] X.env))):=by rfl):PE X (.Call (.Attribute o m apos) [] [] pos) (tMeth R m sp [] E0 ta tNil):=by
  obtain⟨f,fd,F,hm,hb⟩:=M.ex
  exact pe_meth0 he c hm F hr hb .nil pass0 ht
section
variable {P:Program}{w:World}{K:PySem.W.Frag}{mg:Str→Option Value}{base:Heap}{N:List Str}{qual:Str}{scope:Scope}{f C R:Addr}{cd:Value}{A:Around}{outer:List Env}{s:Shared}{H:Hp}{E:XK}{k:Nat}{m:Str}{ps:List Str}{sp:Sp}{o e:Expr}{ta:TE}{t:TA}{apos pos:Pos}{pl:Sem Bool}
theorem pe_mthF0 (M:Mth P w K mg base (CXF P w C) k R m ps sp) (c:Cls K R) (hr:Room k (A.deeper (envOfC qual scope s.heap.objs.size f cd))) (he:PE (cxOf (CXF P w C) P w K mg base N qual scope f cd A outer s H E) o ta)
    (ht:eval (.Call (.Attribute o m apos) [] [] pos) (envOfC qual scope s.heap.objs.size f cd)=(do
      let ov ←eval o (envOfC qual scope s.heap.objs.size f cd)
      standAt apos.atName
      let (g,first) ←holding [ov] (getMethod ov m pl)
      callWith pos g first (backTo pos (starEach [] (envOfC qual scope s.heap.objs.size f cd))) (backToKw pos (keywordEach [] (envOfC qual scope s.heap.objs.size f cd)))):=by rfl) :
    PE (cxOf (CXF P w C) P w K mg base N qual scope f cd A outer s H E) (.Call (.Attribute o m apos) [] [] pos) (tMeth R m sp [] E ta tNil):=by
  obtain⟨g,fd,F,hm,hb⟩:=M.ex
  exact pe_meth0 (X:=cxOf (CXF P w C) P w K mg base N qual scope f cd A outer s H E) he c hm F hr hb .nil (passF fun _ _ _ h=>h) ht
theorem pe_mthF1 (M:Mth P w K mg base (CXF P w C) k R m ps sp) (c:Cls K R) (hr:Room k (A.deeper (envOfC qual scope s.heap.objs.size f cd))) (he:PE (cxOf (CXF P w C) P w K mg base N qual scope f cd A outer s H E) o ta) (ha:PA (cxOf (CXF P w C) P w K mg base N qual scope f cd A outer s H E) [e] t)
    (hst:starEach [e] (envOfC qual scope s.heap.objs.size f cd)=(false,eval e (envOfC qual scope s.heap.objs.size f cd))::starEach [] (envOfC qual scope s.heap.objs.size f cd):=by rfl) (hpl:(backTo pos (starEach [] (envOfC qual scope s.heap.objs.size f cd))).any (·.1)=false:=by rfl)
    (ht:eval (.Call (.Attribute o m apos) [e] [] pos) (envOfC qual scope s.heap.objs.size f cd)=(do
      let ov ←eval o (envOfC qual scope s.heap.objs.size f cd)
      standAt apos.atName
      let (g,first) ←holding [ov] (getMethod ov m pl)
      callWith pos g first (backTo pos (starEach [e] (envOfC qual scope s.heap.objs.size f cd))) (backToKw pos (keywordEach [] (envOfC qual scope s.heap.objs.size f cd)))):=by rfl) :
    PE (cxOf (CXF P w C) P w K mg base N qual scope f cd A outer s H E) (.Call (.Attribute o m apos) [e] [] pos) (tMeth R m sp [] E ta t):=by
  obtain⟨g,fd,F,hm,hb⟩:=M.ex
  exact pe_meth (X:=cxOf (CXF P w C) P w K mg base N qual scope f cd A outer s H E) he c hm F hr hb .nil (passF fun _ _ _ h=>h) ha hst hpl ht
end
theorem op_inK {X:Cx}{K:PySem.W.Frag} (h:X.K=K):OpR X (compareOp .In) (rIn K false):=by
  subst h
  exact op_in_seq
structure RTxt (K:PySem.W.Frag) (mg:Str→Option Value) (R C:Addr):Prop where
  cl:Cls K R
  nT:NoAttr K R "text"
  nP:NoAttr K R "place"
  nD:NoAttr K R "depth"
  nS:NoAttr K R "steps"
  mgF:mg "Fault"=some (.ref C)
  mgR:mg "Reader"=some (.ref R)
def wdS:Wd→Str
  | .number=>"number"
  | .x=>"x"
  | .negate=>"negate"
  | .raise_=>"raise"
  | .add=>"add"
  | .subtract=>"subtract"
  | .multiply=>"multiply"
  | .divide=>"divide"
def stO (s:Stp):Option HO:=some (.tup [.str (wdS s.1),.int s.2])
def rf (ta l:Addr) (p d:Nat):List (Str×V):=[("text",.ref ta),("place",.int p),("depth",.int d),("steps",.ref l)]
def StepsAt (H:Hp) (l:Addr) (S:List Stp):Prop:=∃ ts:List Addr,H l=some (.lst (ts.map V.ref))∧ts.map H=S.map stO
structure RdAt (K:PySem.W.Frag) (R:Addr) (H:Hp) (a l ta:Addr) (T:List Int) (p d:Nat) (S:List Stp):Prop where
  obj:∃ dx,H a=some (.ins R dx (rf ta l p d))
  txt:SqL K H ta (T.map V.int)
  tk:(ta≠l∧ta≠a)∨∀ H':Hp,SqL K H' ta (T.map V.int)
  stp:StepsAt H l S
  few:S.length≤p
  short:T.length≤512
  pl:p≤T.length
def KeptR (H H':Hp) (a l:Addr):Prop:=∀ b o,H b=some o→b≠a→b≠l→H' b=some o
theorem KeptR.refl {H:Hp}{a l:Addr}:KeptR H H a l:=fun _ _ h _ _=>h
theorem KeptR.trans {H H1 H2:Hp}{a l:Addr} (x:KeptR H H1 a l) (y:KeptR H1 H2 a l):KeptR H H2 a l:=fun b o h h1 h2=>y b o (x b o h h1 h2) h1 h2
theorem KeptR.upd_a {H H1:Hp}{a l:Addr}{o:HO} (x:KeptR H H1 a l):KeptR H (upd H1 a o) a l:=fun b u h h1 h2=>by rw[upd_ne h1];exact x b u h h1 h2
theorem Same.keptR {H H':Hp}{a l:Addr} (s:Same H H'):KeptR H H' a l:=fun b o h _ _=>s b o h
theorem sql_kept {K:PySem.W.Frag}{H H':Hp}{ta:Addr}{xs:List V} (h:SqL K H ta xs) (k:∀ o,H ta=some o→H' ta=some o):SqL K H' ta xs:=by
  rcases h with (h | ⟨o,h⟩) | h
  · exact .inl (.inl (k _ h))
  · exact .inl (.inr ⟨o,k _ h⟩)
  · exact .inr h
theorem StepsAt.kept {H H':Hp}{l:Addr}{S:List Stp} (h:StepsAt H l S) (kl:∀ o,H l=some o→H' l=some o) (kt:∀ b xs,H b=some (.tup xs)→H' b=some (.tup xs)):StepsAt H' l S:=by
  obtain⟨ts,h1,h2⟩:=h
  refine⟨ts,kl _ h1,?_⟩
  rw[←h2]
  refine List.map_congr_left fun t ht=>?_
  have:H t∈S.map stO:=h2 ▸ List.mem_map_of_mem ht
  obtain⟨s,_,e⟩:=List.mem_map.mp this
  rw[←e]
  exact kt t _ e.symm
theorem RdAt.txt' {K:PySem.W.Frag}{R:Addr}{H H':Hp}{a l ta:Addr}{T:List Int}{p d:Nat}{S:List Stp} (r:RdAt K R H a l ta T p d S) (k:ta≠l→ta≠a→∀ o,H ta=some o→H' ta=some o):SqL K H' ta (T.map V.int):=by
  rcases r.tk with⟨h1,h2⟩ | h
  · exact sql_kept r.txt (k h1 h2)
  · exact h H'
theorem RdAt.put {K:PySem.W.Frag}{R:Addr}{H:Hp}{a l ta dx:Addr}{T:List Int}{p d p' d':Nat}{S:List Stp} (r:RdAt K R H a l ta T p d S) (h1:H a=some (.ins R dx (rf ta l p d))) (hp:p≤p') (hp':p'≤T.length):RdAt K R (upd H a (.ins R dx (rf ta l p' d'))) a l ta T p' d' S:=by
  have nl:l≠a:=fun z=>by obtain⟨ts,z1,_⟩:=r.stp;rw[z,h1] at z1;cases z1
  refine⟨⟨dx,upd_same⟩,r.txt' (fun _ h2 o h=>by rw[upd_ne h2];exact h),r.tk,r.stp.kept (fun o h=>by rw[upd_ne nl];exact h) (fun b xs h=>?_),Nat.le_trans r.few hp,r.short,hp'⟩
  rw[upd_ne (ne_of h (h1:H a=_) (by intro z;cases z))]
  exact h
theorem RdAt.more {K:PySem.W.Frag}{R:Addr}{H:Hp}{a l ta t:Addr}{T:List Int}{p d:Nat}{S:List Stp}{s:Stp} (r:RdAt K R H a l ta T p d S) {ts:List Addr} (h1:H l=some (.lst (ts.map V.ref))) (h2:ts.map H=S.map stO) (ht:H t=stO s) (hl:S.length<p) :
    RdAt K R (upd H l (.lst (ts.map V.ref++[V.ref t]))) a l ta T p d (S++[s]):=by
  obtain⟨dx,ha⟩:=r.obj
  have nl:a≠l:=ne_of ha h1 (by intro z;cases z)
  have tup:∀ b xs,H b=some (.tup xs)→b≠l:=fun b xs h=>ne_of h h1 (by intro z;cases z)
  refine⟨⟨dx,by rw[upd_ne nl];exact ha⟩,r.txt' (fun h1 _ o h=>by rw[upd_ne h1];exact h),r.tk,⟨ts++[t],by rw[upd_same,List.map_append];rfl,?_⟩,by rw[List.length_append];show S.length+1≤p;lia,r.short,r.pl⟩
  rw[List.map_append,List.map_append,←h2]
  have e1:∀ b∈ts,upd H l (.lst (ts.map V.ref++[V.ref t])) b=H b:=fun b hb=>by
    have:H b∈S.map stO:=h2 ▸ List.mem_map_of_mem hb
    obtain⟨s',_,e⟩:=List.mem_map.mp this
    exact upd_ne (tup b _ e.symm)
  rw[List.map_congr_left e1]
  show _++[upd H l _ t]=_++[stO s]
  rw[upd_ne (tup t _ ht),ht]
theorem KeptR.more {H H1:Hp}{a l:Addr}{o:HO} (x:KeptR H H1 a l):KeptR H (upd H1 l o) a l:=fun b u h h1 h2=>by rw[upd_ne h2];exact x b u h h1 h2
theorem rf_put (ta l:Addr) (p d p':Nat):putF "place" (.int (p':Int)) (rf ta l p d)=rf ta l p' d:=rfl
theorem rf_putD (ta l:Addr) (p d d':Nat):putF "depth" (.int (d':Int)) (rf ta l p d)=rf ta l p d':=rfl
theorem MonoE.fld {K:PySem.W.Frag}{i:Nat}{f:Str}:MonoE (tFld K (tVar i) f):=fun _ _ _ _ hq ⟨u,e0,a,C,dx,fs,v,e1,e2,e3,e4,e5,h⟩=>⟨u,e0,a,C,dx,fs,v,e1,e2,e3,e4,e5,hq _ _ h⟩
theorem RdAt.same {K:PySem.W.Frag}{R:Addr}{H H':Hp}{a l ta:Addr}{T:List Int}{p d:Nat}{S:List Stp} (r:RdAt K R H a l ta T p d S) (s:Same H H'):RdAt K R H' a l ta T p d S :=
  ⟨let ⟨dx,e⟩:=r.obj;⟨dx,s _ _ e⟩,s.seq r.txt,r.tk,r.stp.kept (fun o h=>s _ _ h) (fun b xs h=>s _ _ h),r.few,r.short,r.pl⟩
def Out {α:Type} (r:Except Nat α) (E:XK) (Q:α→Prop):Prop:=match r with
  | .error e=>∀ H':Hp,E (.int e 0) none H'
  | .ok x=>Q x
def plAt (H:Hp) (a:Addr):Nat:=match H a with
  | some (.ins _ _ [_,(_,.int q),_,_])=>q.toNat
  | _=>0
theorem plAt_is {H:Hp}{a R dx ta l:Addr}{p d:Nat} (h:H a=some (.ins R dx (rf ta l p d))):plAt H a=p:=by
  unfold plAt
  rw[h]
  rfl
theorem sp_is_digit_mono (vs:List V) (H:Hp) (Q Q':VK) (hq:∀ v H1,Q v H1→Q' v H1) (h:∃ c:Int,vs=[.int c]∧∀ H':Hp,Same H H'→Q (.bl (dig c)) H'):∃ c:Int,vs=[.int c]∧∀ H':Hp,Same H H'→Q' (.bl (dig c)) H' :=
  let ⟨c,e,k⟩:=h;⟨c,e,fun H' s=>hq _ _ (k H' s)⟩
def need (T:List Int) (P:Pt) (p:Nat):Nat:=6*(T.length-p)+match P with
  | .sum=>4
  | .prod=>3
  | .power=>2
  | _=>1
def sp_part (K:PySem.W.Frag) (R:Addr) (P:Pt):Nat→Sp
  | 0=>fun _ _ _ _=>False
  | j+1=>fun vs H Q E=>∃ (a l ta:Addr) (T:List Int) (p d f:Nat) (S:List Stp),vs=[.ref a]∧RdAt K R H a l ta T p d S∧d+j=16∧need T P p≤f ∧
    Out (rd T f P d p) E fun r=>∀ H':Hp,RdAt K R H' a l ta T r.2 d (S++r.1)→KeptR H H' a l→Q .non H'
theorem sp_part_len {K:PySem.W.Frag}{R:Addr}{P:Pt}:∀ {j:Nat}{vs:List V}{H:Hp}{Q:VK}{E:XK},sp_part K R P j vs H Q E→vs.length=1
  | 0,_,_,_,_,h=>h.elim
  | j+1,_,_,_,_,h=>by
    obtain⟨a,l,ta,T,p,d,f,S,rfl,_⟩:=h
    rfl
theorem RdAt.step {K:PySem.W.Frag}{R:Addr}{H0 H:Hp}{a l ta:Addr}{T:List Int}{p d:Nat}{S:List Stp}{s:Stp} (r:RdAt K R H a l ta T p d S) (k:KeptR H0 H a l) (hl:S.length<p) {D:Hp→Prop} (h:∀ H':Hp,RdAt K R H' a l ta T p d (S++[s])→KeptR H0 H' a l→D H') (t:Addr) (ht:H t=none) :
    ∃ xs:List V,(upd H t (.tup [.str (wdS s.1),.int s.2])) l=some (.lst xs)∧xs.length<sizeLine∧D (upd (upd H t (.tup [.str (wdS s.1),.int s.2])) l (.lst (xs++[V.ref t]))):=by
  have sm:Same H (upd H t (.tup [.str (wdS s.1),.int s.2])):=same_upd ht
  have r1:=r.same sm
  obtain⟨ts,h1,h2⟩:=r1.stp
  have hlen:ts.length=S.length:=by
    have:=congrArg List.length h2
    rw[List.length_map,List.length_map] at this
    exact this
  refine⟨_,h1,?_,h _ (r1.more h1 h2 upd_same hl) (k.trans (Same.keptR sm)).more⟩
  rw[List.length_map,hlen]
  have h3:=r.pl
  have h4:=r.short
  exact Nat.lt_of_lt_of_le (Nat.lt_of_lt_of_le hl (Nat.le_trans h3 h4)) (by decide)
theorem need_sum (T:List Int) (p:Nat):need T .sum p=6*(T.length-p)+4:=rfl
theorem need_prod (T:List Int) (p:Nat):need T .prod p=6*(T.length-p)+3:=rfl
theorem need_power (T:List Int) (p:Nat):need T .power p=6*(T.length-p)+2:=rfl
theorem need_atom (T:List Int) (p:Nat):need T .atom p=6*(T.length-p)+1:=rfl
theorem sk_fix:∀ (l:List Int) (p:Nat),sk (l.drop (sk l p-p)) (sk l p)=sk l p
  | [],p=>by
    show sk (List.drop (p-p) []) p=p
    rw[List.drop_nil]
    rfl
  | c::r,p=>by
    by_cases h:c=32
    · have e:sk (c::r) p=sk r (p+1):=by
        show (if c=32 then sk r (p+1) else p)=_
        rw[if_pos h]
      have h1:=(sk_le r (p+1)).1
      rw[e,show sk r (p+1)-p=(sk r (p+1)-(p+1))+1 from by lia,List.drop_succ_cons]
      exact sk_fix r (p+1)
    · have e:sk (c::r) p=p:=by
        show (if c=32 then sk r (p+1) else p)=_
        rw[if_neg h]
      rw[e,Nat.sub_self,List.drop_zero,e]
theorem nx_nx {T:List Int}{p:Nat} (h:p≤T.length):nx T (nx T p)=nx T p:=by
  have h1:=nx_le h
  have:=sk_fix (T.drop p) p
  unfold nx at h1 ⊢
  rw[List.drop_drop,show p+(sk (T.drop p) p-p)=sk (T.drop p) p from by lia] at this
  exact this
def pre (S:List Stp) (r:Except Nat (List Stp×Nat)):Except Nat (List Stp×Nat):=match r with
  | .error e=>.error e
  | .ok (S',p)=>.ok (S++S',p)
theorem inV2 (c x y:Int):inV (.int c) [.int x,.int y]=(decide (c=x) || decide (c=y)):=by
  show ((x == c) || ((y == c) || false))=_
  rw[Bool.or_false]
  have e:∀ z:Int,(z == c)=decide (c=z):=fun z=>by
    by_cases h:c=z
    · rw[h];simp
    · rw[decide_eq_false h]
      exact beq_false_of_ne (fun q=>h q.symm)
  rw[e,e]
theorem MonoE.meth0 {C:Addr}{m:Str}{sp:Sp}{E:XK}{i:Nat} (hs:∀ (vs:List V) (H:Hp) (Q Q':VK),(∀ v H1,Q v H1→Q' v H1)→sp vs H Q E→sp vs H Q' E):MonoE (tMeth C m sp [] E (tVar i) tNil):=fun _ _ _ _ hq ⟨u,e0,a,dx,fs,e1,e2,e3,h⟩=>⟨u,e0,a,dx,fs,e1,e2,e3,hs _ _ _ _ hq h⟩
theorem MonoE.tup {t:TA} (ht:MonoA t):MonoE (tTup t):=fun σ H Q Q' hq h=>ht σ H _ _ (fun xs H1 ⟨h1,h2⟩=>⟨h1,fun t ht=>hq _ _ (h2 t ht)⟩) h
theorem MonoR.in_ {K:PySem.W.Frag}{b:Bool}:MonoR (rIn K b):=fun _ _ _ _ _ hq ⟨p,xs,e1,e2,e3,e4,h⟩=>⟨p,xs,e1,e2,e3,e4,hq _ _ h⟩
theorem Elm.wnI {c:List Int}{v:Root.Num}{q:Nat}{A:List Int}{p:Int} (h:Elm c v q A p):WnI (16*q) A p:=⟨h.wa,h.wp⟩
theorem row_short {c A:List Int}{p:Int} (f2:c.length≤4) (h:A.length=c.length):(A++[p]).length≤1000:=by
  rw[List.length_append,h]
  show c.length+1≤1000
  lia
theorem Elm.divs {c:List Int}{v:Root.Num}{q:Nat}{A:List Int}{p:Int} (h:Elm c v q A p) (hq:q≤3588000):Divs (A++[p]):=.of h.wnI.few (Nat.le_trans (show 16*q+1≤57408001 by lia) (by decide))
def sp_power_of (K:PySem.W.Frag):Sp:=fun vs H Q _=>∃ (v u:V) (c A:List Int) (p:Int) (x:Root.Num) (q k:Nat),vs=[v,u,.int k]∧IL K H v c∧IL K H u (A++[p])∧refusal c=0∧Elm c x q A p∧k≤99∧max k 1*q≤3588000 ∧
  ∀ (H':Hp) (y:V) (R:List Int) (r:Int),Same H H'→OL H' y (R++[r])→Elm c (Root.power c x k) (max k 1*q) R r→Q y H'
theorem sc_power_of:FnScope ["field","a","k"] ["field","a","k"] (defScope s_power_of):=⟨rfl,rfl,rfl,by decide +kernel,rfl,by decide +kernel,by decide +kernel⟩
theorem ok_power_of {P:Program}{w:World}{K:PySem.W.Frag}{mg:Str→Option Value}{base:Heap}{f:Addr}{fd:FuncData} (F:Fun K "power_of" "power_of" s_power_of f fd) (O:Own mg) (C_raised:Cal P w K mg base 4 "raised" ["field","a","k"] (sp_raised K)) (C_one_form:Cal P w K mg base 79 "one_form" ["a"] (sp_without_divisor K)) :
    FnOk P w K mg base CX0 80 f fd ["field","a","k"] (sp_power_of K):=by
  refine F.ok sc_power_of (fun vs H Q E h=>?_) (fun cdv A outer s H vs Q E hr h=>?_)
  · obtain⟨v,u,c,A,p,x,q,n,rfl,_⟩:=h
    rfl
  · obtain⟨v,u,c,A,p,x,q,n,rfl,⟨ca,rfl,hC⟩,⟨na,rfl,hN'⟩,hc0,el,hn,hq,k⟩:=h
    have hf:=field_ok hc0
    obtain⟨f1,f2,f3⟩:=id hf
    have q1:n*q≤max n 1*q:=Nat.mul_le_mul_right q (Nat.le_max_left _ _)
    have q2:1*q≤max n 1*q:=Nat.mul_le_mul_right q (Nat.le_max_right _ _)
    have q3:=el.one
    refine⟨_,(pss_cons (ps_if (pt_cmpR op_gt (pv 2) pe_int (nomark _)) (pss_one (ps_ret (pe_cal C_raised (hr.mono (by decide)) (by rfl) (pa_cons (pv 0) (pa_cons (pe_cal C_one_form (hr.mono (by decide)) (by rfl) (pa_cons (pv 1) pa_nil)) (pa_cons (pv 2) pa_nil)))))) pss_nil)
      (pss_one (ps_ret (pe_cal C_raised (hr.mono (by decide)) (by rfl) (pa_cons (pv 0) (pa_cons (pv 1) (pa_cons (pv 2) pa_nil))))))),?_⟩
    refine⟨_,rfl,_,_,rfl,rfl,_,rfl,?_⟩
    refine ite2 (fun h1=>?_) (fun h1=>?_)
    · have h1':(1:Int)<(n:Int):=of_decide_eq_true h1
      obtain⟨B,r,e1,e2,e3,e4,e5,e6⟩:=el.less hc0
      refine⟨_,rfl,_,rfl,_,A++[p],rfl,⟨na,rfl,hN'⟩,row_short f2 el.len,el.divs (by lia),fun H1 y1 s1 hy1=>⟨_,rfl,?_⟩⟩
      rw[e1] at hy1
      have q4:n*(4*q+7)≤n*(16*q):=Nat.mul_le_mul_left n (by lia)
      have q5:n*(4*q+7)≤n*(11*q):=Nat.mul_le_mul_left n (by lia)
      have q6:n*(11*q)=11*(n*q):=Nat.mul_left_comm _ _ _
      exact⟨_,_,c,B,r,n,4*q+7,rfl,⟨ca,rfl,s1.seq hC⟩,hy1.il,hf,e2,e3,⟨e5,e6⟩,by lia,by lia,hn,fun H2 y2 R t s2 hy2 hR ht hd hw=>k H2 y2 R t (s1.trans s2) hy2 (Elm.pow hc0 el.meas el.one q4 hR ht (by rw[hd,e4]) hw.1 hw.2)⟩
    · have h1':¬ (1:Int)<(n:Int):=fun z=>h1 (decide_eq_true z)
      have q4:n*(16*q)≤1*(16*q):=Nat.mul_le_mul_right _ (by lia)
      exact⟨_,rfl,_,rfl,_,rfl,_,_,c,A,p,n,16*q,rfl,⟨ca,rfl,hC⟩,⟨na,rfl,hN'⟩,hf,el.len,el.pos,el.wnI,by lia,by lia,hn,fun H2 y2 R t s2 hy2 hR ht hd hw=>k H2 y2 R t s2 hy2 (Elm.pow hc0 el.meas el.one (Nat.le_refl _) hR ht (by rw[hd,el.val]) hw.1 hw.2)⟩
def joinV (c:List Int):Wd→Root.Num→Root.Num→Root.Num
  | .add,v,w=>Root.plus v w
  | .subtract,v,w=>Root.minus v w
  | .multiply,v,w=>Root.times c v w
  | _,v,w=>Root.over c v w
def Join (w:Wd):Prop:=w=.add∨w=.subtract∨w=.multiply∨w=.divide
def sp_joined (K:PySem.W.Frag):Sp:=fun vs H Q _=>∃ (v u t:V) (w:Wd) (c A B:List Int) (p q:Int) (x y:Root.Num) (a b:Nat),vs=[v,.str (wdS w),u,t]∧IL K H v c∧IL K H u (A++[p])∧IL K H t (B++[q])∧refusal c=0∧Join w∧Elm c x a A p∧Elm c y b B q∧a+b+3≤3588000∧(w=.divide→Root.isZero y=false) ∧
  ∀ (H':Hp) (z:V) (R:List Int) (r:Int),Same H H'→OL H' z (R++[r])→Elm c (joinV c w x y) (a+b+3) R r→Q z H'
theorem sc_joined:FnScope ["field","word","left","right"] ["field","word","left","right"] (defScope s_joined):=⟨rfl,rfl,rfl,by decide +kernel,rfl,by decide +kernel,by decide +kernel⟩
theorem ok_joined {P:Program}{w:World}{K:PySem.W.Frag}{mg:Str→Option Value}{base:Heap}{f:Addr}{fd:FuncData} (F:Fun K "joined" "joined" s_joined f fd) (O:Own mg) (C_added:Cal P w K mg base 1 "added" ["a","b"] (sp_added K)) (C_negated:Cal P w K mg base 1 "negated" ["a"] (sp_negated K)) (C_multiplied:Cal P w K mg base 3 "multiplied" ["field","a","b"] (sp_multiplied K)) (C_inverse_of:Cal P w K mg base 4 "inverse_of" ["field","a"] (sp_inverse_of K)) (C_one_form:Cal P w K mg base 79 "one_form" ["a"] (sp_without_divisor K)) :
    FnOk P w K mg base CX0 80 f fd ["field","word","left","right"] (sp_joined K):=by
  refine F.ok sc_joined (fun vs H Q E h=>?_) (fun cdv A outer s H vs Q E hr h=>?_)
  · obtain⟨v,u,t,w,c,A,B,p,q,x,y,a,b,rfl,_⟩:=h
    rfl
  · obtain⟨v,u,t,w,c,A,B,p,q,x,y,a,b,rfl,⟨ca,rfl,hC⟩,⟨la,rfl,hL⟩,⟨ra,rfl,hRr⟩,hc0,hw,e1,e2,hab,h0,k⟩:=h
    have hf:=field_ok hc0
    obtain⟨f1,f2,f3⟩:=id hf
    have g1:=e1.wnI.few
    have g2:=e2.wnI.few
    have hl1:=e1.len
    have hl2:=e2.len
    refine⟨_,(pss_cons (ps_if (pt_cmpR op_eq (pv 1) pe_str (nomark _)) (pss_one (ps_ret (pe_cal C_added (hr.mono (by decide)) (by rfl) (pa_cons (pv 2) (pa_cons (pv 3) pa_nil))))) pss_nil)
      (pss_cons (ps_if (pt_cmpR op_eq (pv 1) pe_str (nomark _)) (pss_one (ps_ret (pe_cal C_added (hr.mono (by decide)) (by rfl) (pa_cons (pv 2) (pa_cons (pe_cal C_negated (hr.mono (by decide)) (by rfl) (pa_cons (pv 3) pa_nil)) pa_nil))))) pss_nil)
      (pss_cons (ps_if (pt_cmpR op_eq (pv 1) pe_str (nomark _)) (pss_one (ps_ret (pe_cal C_multiplied (hr.mono (by decide)) (by rfl) (pa_cons (pv 0) (pa_cons (pv 2) (pa_cons (pv 3) pa_nil)))))) pss_nil)
      (pss_one (ps_ret (pe_cal C_multiplied (hr.mono (by decide)) (by rfl) (pa_cons (pv 0) (pa_cons (pv 2) (pa_cons (pe_cal C_inverse_of (hr.mono (by decide)) (by rfl) (pa_cons (pv 0) (pa_cons (pe_cal C_one_form (hr.mono (by decide)) (by rfl) (pa_cons (pv 3) pa_nil)) pa_nil))) pa_nil))))))))),?_⟩
    rcases hw with rfl | rfl | rfl | rfl
    · refine⟨_,rfl,rfl,_,rfl,?_⟩
      refine iteT ?_
      exact⟨_,rfl,_,rfl,_,_,A,B,p,q,_,_,rfl,⟨la,rfl,hL⟩,⟨ra,rfl,hRr⟩,by lia,by lia,g1,g2,by lia,fun H1 y1 s1 hy1=>k H1 y1 _ _ s1 hy1 (e1.add hc0 e2)⟩
    · refine⟨_,rfl,rfl,_,rfl,iteF ⟨_,rfl,rfl,_,rfl,iteT ?_⟩⟩
      refine⟨_,rfl,_,rfl,_,B,q,rfl,⟨ra,rfl,hRr⟩,by lia,fun H1 y1 s1 hy1=>?_⟩
      refine⟨_,_,A,B.map fun (z:Int)=>-z,p,q,_,_,rfl,⟨la,rfl,s1.seq hL⟩,hy1.il,by rw[List.length_map];lia,by lia,g1,e2.neg.wnI.few,by lia,fun H2 y2 s2 hy2=>k H2 y2 _ _ (s1.trans s2) hy2 (e1.sub hc0 e2)⟩
    · refine⟨_,rfl,rfl,_,rfl,iteF ⟨_,rfl,rfl,_,rfl,iteF ⟨_,rfl,rfl,_,rfl,iteT ?_⟩⟩⟩
      exact⟨_,rfl,_,rfl,_,rfl,_,_,_,c,A,B,p,q,_,_,rfl,⟨ca,rfl,hC⟩,⟨la,rfl,hL⟩,⟨ra,rfl,hRr⟩,hf,hl1,hl2,g1,g2,by lia,fun H1 y1 R s1 hy1 hR hcg _=>k H1 y1 R _ s1 hy1 (e1.mul hc0 e2 hR hcg)⟩
    · refine⟨_,rfl,rfl,_,rfl,iteF ⟨_,rfl,rfl,_,rfl,iteF ⟨_,rfl,rfl,_,rfl,iteF ?_⟩⟩⟩
      have h0:=h0 rfl
      obtain⟨B2,r2,b1,b2,b3,b4,b5,b6⟩:=e2.less hc0
      have w2:WnI (4*b+7) B2 r2:=⟨b5,b6⟩
      have hnz:∃ z∈B2,z≠0:=by
        false_or_by_contra
        rename_i hn
        have:Root.isZero (dv r2 B2)=true:=(isZero_dv b3).mpr fun z hz=>by
          false_or_by_contra
          rename_i h5
          exact hn ⟨z,hz,h5⟩
        rw[b4,h0] at this
        cases this
      refine⟨_,rfl,_,rfl,_,rfl,_,rfl,_,B++[q],rfl,⟨ra,rfl,hRr⟩,row_short f2 hl2,e2.divs (by lia),fun H1 y1 s1 hy1=>?_⟩
      rw[b1] at hy1
      refine⟨_,_,c,B2,r2,4*b+8,rfl,⟨ca,rfl,s1.seq hC⟩,hy1.il,hc0,b2,b3,hnz,w2.few,by lia,fun H2 y2 G D s2 hy2 hD hG hcg i1 i2=>?_⟩
      obtain⟨j1,j2⟩:=inv_size f2 b5 b6 i1 i2
      have hv:dv D G=Root.inverse c y:=by rw[←inverse_dv hc0 f1 b3 hD b2 hG (by rw[b4];exact h0) hcg,b4]
      have w3:WnI (4*(4*b+7)+7) G D:=⟨j1,j2⟩
      exact⟨_,_,_,c,A,G,p,D,_,_,rfl,⟨ca,rfl,(s1.trans s2).seq hC⟩,⟨la,rfl,(s1.trans s2).seq hL⟩,hy2.il,hf,hl1,hG,g1,w3.few,by lia,fun H3 y3 R s3 hy3 hR hcg3 _=>k H3 y3 R _ ((s1.trans s2).trans s3) hy3 (e1.div hc0 e2.meas h0 hD hG hv j1 j2 hR hcg3)⟩
theorem ix_tupK {X:Cx}{K:PySem.W.Frag} (h:X.K=K):IxR X (rIxT K):=by
  subst h
  exact ix_tup
def RowAt (c:List Int) (H:Hp) (t:Addr) (v:Root.Num) (q:Nat):Prop:=∃ (A:List Int) (p:Int),H t=some (.lst ((A++[p]).map V.int))∧Elm c v q A p
def Pile (c:List Int) (H:Hp):List Addr→List Root.Num→List Nat→Prop
  | [],[],[]=>True
  | t::ts,v::π,q::qs=>RowAt c H t v q∧Pile c H ts π qs
  | _,_,_=>False
theorem RowAt.to {c:List Int}{H H':Hp}{t:Addr}{v:Root.Num}{q:Nat} (k:∀ (t:Addr) (A:List Int) (p:Int),H t=some (.lst ((A++[p]).map V.int))→H' t=some (.lst ((A++[p]).map V.int))) (h:RowAt c H t v q):RowAt c H' t v q :=
  let ⟨A,p,h1,h2⟩:=h;⟨A,p,k t A p h1,h2⟩
theorem Pile.to {c:List Int}{H H':Hp} (k:∀ (t:Addr) (A:List Int) (p:Int),H t=some (.lst ((A++[p]).map V.int))→H' t=some (.lst ((A++[p]).map V.int))):∀ {ts:List Addr}{π:List Root.Num}{qs:List Nat},Pile c H ts π qs→Pile c H' ts π qs
  | [],[],[],_=>trivial
  | t::ts,v::π,q::qs,h=>⟨h.1.to k,Pile.to k h.2⟩
theorem Pile.one {c:List Int}{H:Hp}{q:Nat}{qs:List Nat}:∀ {ts:List Addr}{π:List Root.Num},Pile c H ts π (q::qs)→∃ t ts' v π',ts=t::ts'∧π=v::π'
  | t::ts,v::π,_=>⟨t,ts,v,π,rfl,rfl⟩
  | [],[],h=>h.elim
  | [],_::_,h=>h.elim
  | _::_,[],h=>h.elim
theorem Pile.two {c:List Int}{H:Hp}{q q':Nat}{qs:List Nat}:∀ {ts:List Addr}{π:List Root.Num},Pile c H ts π (q::q'::qs)→∃ t t' ts' v v' π',ts=t::t'::ts'∧π=v::v'::π'
  | t::t'::ts,v::v'::π,_=>⟨t,t',ts,v,v',π,rfl,rfl⟩
  | [_],[_],h=>h.2.elim
  | [_],_::_::_,h=>h.2.elim
  | _::_::_,[_],h=>h.2.elim
  | [],[],h=>h.elim
  | [],_::_,h=>h.elim
  | _::_,[],h=>h.elim
theorem pile_ne {H:Hp}{pl t:Addr}{ts:List Addr}{A:List Int}{p:Int} (h1:H pl=some (.lst (ts.map V.ref))) (h2:H t=some (.lst ((A++[p]).map V.int))):t≠pl:=by
  intro z
  rw[z,h1] at h2
  have h3:ts.map V.ref=(A++[p]).map V.int:=HO.lst.inj (Option.some.inj h2)
  cases ts with
  | nil =>
    have:=congrArg List.length h3
    rw[List.length_map,List.length_map,List.length_append] at this
    exact absurd this (by show ¬ 0=A.length+1;lia)
  | cons a ts =>
    cases A with
    | nil=>cases h3
    | cons b A=>cases h3
structure PlAt (c:List Int) (H0 H:Hp) (pl:Addr) (ts:List Addr) (π:List Root.Num) (qs:List Nat):Prop where
  lst:H pl=some (.lst (ts.reverse.map V.ref))
  pile:Pile c H ts π qs
  same:Same H0 H
  new:H0 pl=none
theorem PlAt.same' {c:List Int}{H0 H H':Hp}{pl:Addr}{ts:List Addr}{π:List Root.Num}{qs:List Nat} (h:PlAt c H0 H pl ts π qs) (s:Same H H'):PlAt c H0 H' pl ts π qs :=
  ⟨s _ _ h.lst,h.pile.to fun t A p e=>s _ _ e,h.same.trans s,h.new⟩
theorem PlAt.put {c:List Int}{H0 H:Hp}{pl:Addr}{ts ts':List Addr}{π:List Root.Num}{qs:List Nat} (h:PlAt c H0 H pl ts π qs) (o:HO) (t:Addr) (A:List Int) (p:Int) (e:H t=some (.lst ((A++[p]).map V.int))):upd H pl o t=some (.lst ((A++[p]).map V.int)):=by
  rw[upd_ne (pile_ne h.lst e)]
  exact e
theorem PlAt.push {c:List Int}{H0 H:Hp}{pl t:Addr}{ts:List Addr}{π:List Root.Num}{qs:List Nat}{A:List Int}{p:Int}{v:Root.Num}{q:Nat} (h:PlAt c H0 H pl ts π qs) (e:H t=some (.lst ((A++[p]).map V.int))) (el:Elm c v q A p):PlAt c H0 (upd H pl (.lst (ts.reverse.map V.ref++[.ref t]))) pl (t::ts) (v::π) (q::qs) :=
  ⟨by rw[upd_same,List.reverse_cons,List.map_append];rfl,⟨⟨A,p,h.put (ts':=ts) _ _ _ _ e,el⟩,h.pile.to fun t A p e=>h.put (ts':=ts) _ _ _ _ e⟩,same_upd2 h.same h.new,h.new⟩
theorem PlAt.pop {c:List Int}{H0 H:Hp}{pl t:Addr}{ts:List Addr}{v:Root.Num}{q:Nat}{π:List Root.Num}{qs:List Nat} (h:PlAt c H0 H pl (t::ts) (v::π) (q::qs)) :
    ((t::ts).reverse.map V.ref)[((t::ts).reverse.map V.ref).length-1]?=some (.ref t)∧PlAt c H0 (upd H pl (.lst ((t::ts).reverse.map V.ref).dropLast)) pl ts π qs∧RowAt c (upd H pl (.lst ((t::ts).reverse.map V.ref).dropLast)) t v q:=by
  have e1:(t::ts).reverse.map V.ref=ts.reverse.map V.ref++[.ref t]:=by rw[List.reverse_cons,List.map_append];rfl
  refine⟨?_,⟨?_,h.pile.2.to fun t A p e=>h.put (ts':=ts) _ _ _ _ e,same_upd2 h.same h.new,h.new⟩,h.pile.1.to fun t A p e=>h.put (ts':=ts) _ _ _ _ e⟩
  · rw[e1,List.length_append,List.getElem?_append_right (by show _≤_+1-1;lia)]
    show [V.ref t][_+1-1-_]?=_
    rw[Nat.add_sub_cancel,Nat.sub_self]
    rfl
  · rw[upd_same,e1,List.dropLast_concat]
def sp_row_after (K:PySem.W.Frag):Sp:=fun vs H Q _=>∃ (v:V) (l:Addr) (c:List Int) (S:List Stp) (m:Nat),vs=[v,.ref l]∧IL K H v c∧refusal c=0∧StepsAt H l S∧StOk S∧S.length≤512∧cst S []=some [m]∧m≤3588000 ∧
  (valS c S []=none→∀ H':Hp,Same H H'→Q .non H')∧∀ (H':Hp) (y:V) (A:List Int) (p:Int) (x:Root.Num),valS c S []=some [x]→Same H H'→OL H' y (A++[p])→Elm c x m A p→Q y H'
theorem isZero_anyR {p:Int} (hp:0<p) (A:List Int):Root.isZero (dv p A)=!(A.any fun (z:Int)=>z != 0):=by
  cases e:A.any fun (z:Int)=>z != 0 with
  | true =>
    obtain⟨z,h1,h2⟩:=List.any_eq_true.mp e
    cases e2:Root.isZero (dv p A) with
    | false=>rfl
    | true=>exact absurd ((isZero_dv hp).mp e2 z h1) (by simpa using h2)
  | false =>
    refine (isZero_dv hp).mpr fun z hz=>?_
    false_or_by_contra
    rename_i h
    have:(A.any fun (z:Int)=>z != 0)=true:=List.any_eq_true.mpr ⟨z,hz,by simpa using h⟩
    rw[this] at e
    cases e
theorem sc_row_after:FnScope ["field","steps","pile","step","word","right","left"] ["field","steps"] (defScope s_row_after):=⟨rfl,rfl,rfl,by decide +kernel,rfl,by decide +kernel,by decide +kernel⟩
theorem ok_row_after {P:Program}{w:World}{K:PySem.W.Frag}{mg:Str→Option Value}{base:Heap}{f:Addr}{fd:FuncData} (F:Fun K "row_after" "row_after" s_row_after f fd) (O:Own mg) (C_whole_row:Cal P w K mg base 1 "whole_row" ["number","degree"] sp_whole_row) (C_root_row:Cal P w K mg base 2 "root_row" ["field"] (sp_root_row K)) (C_negated:Cal P w K mg base 1 "negated" ["a"] (sp_negated K)) (C_power_of:Cal P w K mg base 80 "power_of" ["field","a","k"] (sp_power_of K)) (C_is_zero:Cal P w K mg base 1 "is_zero" ["a"] (sp_is_zero K)) (C_joined:Cal P w K mg base 80 "joined" ["field","word","left","right"] (sp_joined K)) :
    FnOk P w K mg base CX0 81 f fd ["field","steps"] (sp_row_after K):=by
  refine F.ok sc_row_after (fun vs H Q E h=>?_) (fun cdv A outer s H vs Q E hr h=>?_)
  · obtain⟨v,l,c,S,m,rfl,_⟩:=h
    rfl
  · obtain⟨v,l,c,S,m,rfl,⟨ca,rfl,hC⟩,hc0,⟨sa,hS1,hS2⟩,hok,hlen,hcst,hm,kn,ky⟩:=h
    have hf:=field_ok hc0
    obtain⟨f1,f2,f3⟩:=id hf
    have hsl:sa.length=S.length:=by
      have:=congrArg List.length hS2
      rw[List.length_map,List.length_map] at this
      exact this
    refine⟨_,(pss_cons (ps_set (i:=2) sc_row_after.nd rfl (by first | exact Or.inl rfl | exact Or.inr rfl) (pe_lst pa_nil))
      (pss_cons (ps_for PassesOwn.never rfl (pi_list (pv 1)) (pg_name (i:=3) sc_row_after.nd rfl (by first | exact Or.inl rfl | exact Or.inr rfl)) (pss_cons (ps_set (i:=4) sc_row_after.nd rfl (by first | exact Or.inl rfl | exact Or.inr rfl) (pe_ix (ix_tupK (K:=K) rfl) (pv 3) pe_int (fun _ _=>rfl)))
      (pss_one (ps_if (pt_cmpR op_eq (pv 4) pe_str (nomark _)) (pss_one (ps_expr (pe_bm PySem.F.plainAttrs_list PySem.F.slot_list_append PySem.F.type_list_append mt_append (pv 2) (pa_cons (pe_cal C_whole_row (hr.mono (by decide)) (by rfl) (pa_cons (pe_ix (ix_tupK (K:=K) rfl) (pv 3) pe_int (fun _ _=>rfl)) (pa_cons (pe_callB (call_lenK (K:=K) rfl) (by rfl) O.len_ bt_len (pa_cons (pv 0) pa_nil)) pa_nil))) pa_nil)))) (pss_one (ps_if (pt_cmpR op_eq (pv 4) pe_str (nomark _)) (pss_one (ps_expr (pe_bm PySem.F.plainAttrs_list PySem.F.slot_list_append PySem.F.type_list_append mt_append (pv 2) (pa_cons (pe_cal C_root_row (hr.mono (by decide)) (by rfl) (pa_cons (pv 0) pa_nil)) pa_nil)))) (pss_one (ps_if (pt_cmpR op_eq (pv 4) pe_str (nomark _)) (pss_one (ps_expr (pe_bm PySem.F.plainAttrs_list PySem.F.slot_list_append PySem.F.type_list_append mt_append (pv 2) (pa_cons (pe_cal C_negated (hr.mono (by decide)) (by rfl) (pa_cons (pe_bm0 PySem.F.plainAttrs_list PySem.F.slot_list_pop PySem.F.type_list_pop mt_pop (pv 2)) pa_nil)) pa_nil)))) (pss_one (ps_if (pt_cmpR op_eq (pv 4) pe_str (nomark _)) (pss_one (ps_expr (pe_bm PySem.F.plainAttrs_list PySem.F.slot_list_append PySem.F.type_list_append mt_append (pv 2) (pa_cons (pe_cal C_power_of (hr.mono (by decide)) (by rfl) (pa_cons (pv 0) (pa_cons (pe_bm0 PySem.F.plainAttrs_list PySem.F.slot_list_pop PySem.F.type_list_pop mt_pop (pv 2)) (pa_cons (pe_ix (ix_tupK (K:=K) rfl) (pv 3) pe_int (fun _ _=>rfl)) pa_nil)))) pa_nil)))) (pss_cons (ps_set (i:=5) sc_row_after.nd rfl (by first | exact Or.inl rfl | exact Or.inr rfl) (pe_bm0 PySem.F.plainAttrs_list PySem.F.slot_list_pop PySem.F.type_list_pop mt_pop (pv 2)))
      (pss_cons (ps_set (i:=6) sc_row_after.nd rfl (by first | exact Or.inl rfl | exact Or.inr rfl) (pe_bm0 PySem.F.plainAttrs_list PySem.F.slot_list_pop PySem.F.type_list_pop mt_pop (pv 2)))
      (pss_cons (ps_if (PW.pt (pw_and (pt_cmpR op_eq (pv 4) pe_str (nomark _)) (pw_and1 (pt_val (pe_cal C_is_zero (hr.mono (by decide)) (by rfl) (pa_cons (pv 5) pa_nil)))))) (pss_one (ps_ret pe_non)) pss_nil)
      (pss_one (ps_expr (pe_bm PySem.F.plainAttrs_list PySem.F.slot_list_append PySem.F.type_list_append mt_append (pv 2) (pa_cons (pe_cal C_joined (hr.mono (by decide)) (by rfl) (pa_cons (pv 0) (pa_cons (pv 4) (pa_cons (pv 6) (pa_cons (pv 5) pa_nil))))) pa_nil)))))))))))))))))
      (pss_one (ps_ret (pe_bm0 PySem.F.plainAttrs_list PySem.F.slot_list_pop PySem.F.type_list_pop mt_pop (pv 2)))))),?_⟩
    refine⟨Nat.zero_le _,fun pl hpl=>?_⟩
    have s0:Same H (upd H pl (.lst [])):=same_upd hpl
    refine⟨_,rfl,l,rfl,⟨_,SqL.of (s0 _ _ hS1)⟩,?_⟩
    refine for_list (K:=K) (a:=l) (xs:=sa.map V.ref) (fun i σ H'=>∃ (ts:List Addr) (π:List Root.Num) (qs:List Nat) (v3 v4 v5 v6:Option V),σ=[some (.ref ca),some (.ref l),some (.ref pl),v3,v4,v5,v6]∧PlAt c H H' pl ts π qs∧ts.length≤i∧valS c (S.drop i) π=valS c S []∧cst (S.drop i) qs=some [m])
      ⟨[],[],[],none,none,none,none,rfl,⟨upd_same,trivial,s0,hpl⟩,Nat.zero_le _,rfl,hcst⟩ (fun i σ H' _ ⟨ts,π,qs,v3,v4,v5,v6,_,hp,_⟩=>SqL.of (hp.same _ _ hS1)) ?_ ?_
    · rintro i x σ H1 hx ⟨ts,π,qs,v3,v4,v5,v6,rfl,hp,htl,hv,hq⟩
      rw[List.getElem?_map] at hx
      cases hsi:sa[i]? with
      | none=>rw[hsi] at hx;cases hx
      | some t =>
      rw[hsi] at hx
      have hx:V.ref t=x:=Option.some.inj hx
      subst hx
      have hi:i<S.length:=by
        have:=List.getElem?_eq_some_iff.mp hsi
        obtain⟨h1,_⟩:=this
        lia
      have ht0:H t=stO S[i]:=by
        have:=congrArg (fun (z:List (Option HO))=>z[i]?) hS2
        rw[List.getElem?_map,List.getElem?_map,hsi,List.getElem?_eq_getElem hi] at this
        exact Option.some.inj this
      have hdr:S.drop i=S[i]::S.drop (i+1):=List.drop_eq_getElem_cons hi
      have hoki:=hok S[i] (List.getElem_mem hi)
      rw[hdr] at hv hq
      generalize S[i]=s at *
      obtain⟨w,n⟩:=s
      have ht1:H1 t=some (.tup [.str (wdS w),.int n]):=hp.same _ _ ht0
      have hn0:0≤n:=hoki.1
      have hsz:∀ ts':List Addr,ts'.length≤i→(ts'.reverse.map V.ref).length<sizeLine:=fun ts' h=>by
        rw[List.length_map,List.length_reverse]
        exact Nat.lt_of_le_of_lt (show ts'.length≤512 by lia) (by decide)
      refine⟨_,rfl,t,_,_,_,rfl,rfl,SqT.of ht1,at_ix (j:=0) rfl rfl,?_⟩
      have tyL:∀ {H':Hp}{xs:List V},H' pl=some (.lst xs)→tyV K "list" (.ref pl) H':=fun h=>.inl ⟨rfl,_,SqL.of h⟩
      have more:∀ {ts':List Addr},ts'.length≤i→∀ t',(t'::ts').length≤i+1:=fun h _=>Nat.succ_le_succ h
      cases w with
      | number =>
        refine⟨_,rfl,rfl,_,rfl,iteT ⟨_,rfl,tyL hp.lst,_,rfl,t,_,_,_,rfl,rfl,SqT.of ht1,at_ix (j:=1) rfl rfl,_,rfl,ca,_,rfl,.inl (hp.same.seq hC),?_⟩⟩
        rw[List.length_map]
        refine⟨n,c.length,rfl,f1,by lia,fun H2 y2 s2 hy2=>?_⟩
        obtain⟨t2,rfl,ht2⟩:=hy2
        have hp2:=hp.same' s2
        exact⟨pl,_,_,rfl,rfl,hp2.lst,hsz ts htl,_,_,_,_,_,_,_,rfl,hp2.push ht2 (Elm.num hc0 hn0),more htl _,hv,hq⟩
      | x =>
        refine⟨_,rfl,rfl,_,rfl,iteF ⟨_,rfl,rfl,_,rfl,iteT ⟨_,rfl,tyL hp.lst,_,rfl,_,c,rfl,⟨ca,rfl,hp.same.seq hC⟩,hc0,fun H2 y2 R s2 hy2 el=>?_⟩⟩⟩
        obtain⟨t2,rfl,ht2⟩:=hy2
        have hp2:=hp.same' s2
        exact⟨pl,_,_,rfl,rfl,hp2.lst,hsz ts htl,_,_,_,_,_,_,_,rfl,hp2.push ht2 el,more htl _,hv,hq⟩
      | negate =>
        cases qs with
        | nil=>cases hq
        | cons q qs =>
        obtain⟨t1,ts,v1,π,rfl,rfl⟩:=hp.pile.one
        obtain⟨g1,hp1,A1,p1,hA1,el1⟩:=hp.pop
        have hl1:=el1.len
        have htl:ts.length≤i:=Nat.le_of_succ_le htl
        refine⟨_,rfl,rfl,_,rfl,iteF ⟨_,rfl,rfl,_,rfl,iteF ⟨_,rfl,rfl,_,rfl,iteT ⟨_,rfl,tyL hp.lst,_,rfl,tyL hp.lst,pl,_,_,rfl,rfl,hp.lst,g1,?_⟩⟩⟩⟩
        refine⟨_,A1,p1,rfl,⟨t1,rfl,SqL.of hA1⟩,by lia,fun H2 y2 s2 hy2=>?_⟩
        obtain⟨t2,rfl,ht2⟩:=hy2
        have hp2:=hp1.same' s2
        exact⟨pl,_,_,rfl,rfl,hp2.lst,hsz ts htl,_,_,_,_,_,_,_,rfl,hp2.push ht2 el1.neg,more htl _,hv,hq⟩
      | raise_ =>
        cases qs with
        | nil=>cases hq
        | cons q qs =>
        obtain⟨t1,ts,v1,π,rfl,rfl⟩:=hp.pile.one
        obtain⟨g1,hp1,A1,p1,hA1,el1⟩:=hp.pop
        have htl:ts.length≤i:=Nat.le_of_succ_le htl
        obtain⟨b,rfl⟩:∃ b:Nat,n=b:=⟨n.toNat,by lia⟩
        have hb9:(b:Int)≤99:=hoki.2.2 rfl
        have hq:cst (S.drop (i+1)) ((max b 1*q)::qs)=some [m]:=hq
        have hqm:=cst_le _ _ _ hq _ List.mem_cons_self
        refine⟨_,rfl,rfl,_,rfl,iteF ⟨_,rfl,rfl,_,rfl,iteF ⟨_,rfl,rfl,_,rfl,iteF ⟨_,rfl,rfl,_,rfl,iteT ⟨_,rfl,tyL hp.lst,_,rfl,_,rfl,tyL hp.lst,pl,_,_,rfl,rfl,hp.lst,g1,?_⟩⟩⟩⟩⟩
        refine⟨_,rfl,t,_,_,_,rfl,rfl,SqT.of (hp1.same _ _ ht0),at_ix (j:=1) rfl rfl,?_⟩
        refine⟨_,_,c,A1,p1,v1,q,b,rfl,⟨ca,rfl,hp1.same.seq hC⟩,⟨t1,rfl,SqL.of hA1⟩,hc0,el1,by lia,by lia,fun H2 y2 R r s2 hy2 el=>?_⟩
        obtain⟨t2,rfl,ht2⟩:=hy2
        have hp2:=hp1.same' s2
        exact⟨pl,_,_,rfl,rfl,hp2.lst,hsz ts htl,_,_,_,_,_,_,_,rfl,hp2.push ht2 el,more htl _,hv,hq⟩
      | add | subtract | multiply =>
        cases qs with
        | nil=>cases hq
        | cons q1 qs =>
        cases qs with
        | nil=>cases hq
        | cons q2 qs =>
        obtain⟨t1,t2,ts,v1,v2,π,rfl,rfl⟩:=hp.pile.two
        obtain⟨g1,hp1,r1⟩:=hp.pop
        obtain⟨g2,hp2,A2,p2,hA2,el2⟩:=hp1.pop
        obtain⟨A1,p1,hA1,el1⟩:=r1.to fun t A p e=>hp1.put (ts':=ts) (.lst ((t2::ts).reverse.map V.ref).dropLast) t A p e
        have htl:ts.length≤i:=Nat.le_of_succ_le (Nat.le_of_succ_le htl)
        have hq:cst (S.drop (i+1)) ((q2+q1+3)::qs)=some [m]:=hq
        have hqm:=cst_le _ _ _ hq _ List.mem_cons_self
        refine⟨_,rfl,rfl,_,rfl,iteF ⟨_,rfl,rfl,_,rfl,iteF ⟨_,rfl,rfl,_,rfl,iteF ⟨_,rfl,rfl,_,rfl,iteF ⟨_,rfl,tyL hp.lst,pl,_,_,rfl,rfl,hp.lst,g1,_,rfl,tyL hp1.lst,pl,_,_,rfl,rfl,hp1.lst,g2,?_⟩⟩⟩⟩⟩
        refine⟨_,rfl,rfl,_,rfl,iteF (iteF ⟨_,rfl,tyL hp2.lst,_,rfl,_,rfl,_,rfl,_,rfl,?_⟩)⟩
        refine⟨_,_,_,_,c,A2,A1,p2,p1,v2,v1,q2,q1,rfl,⟨ca,rfl,hp2.same.seq hC⟩,⟨t2,rfl,SqL.of hA2⟩,⟨t1,rfl,SqL.of hA1⟩,hc0,by first | exact .inl rfl | exact .inr (.inl rfl) | exact .inr (.inr (.inl rfl)),el2,el1,by lia,fun z=>(by cases z),fun H3 y3 R r s3 hy3 el=>?_⟩
        obtain⟨t3,rfl,ht3⟩:=hy3
        have hp3:=hp2.same' s3
        exact⟨pl,_,_,rfl,rfl,hp3.lst,hsz ts htl,_,_,_,_,_,_,_,rfl,hp3.push ht3 el,more htl _,hv,hq⟩
      | divide =>
        cases qs with
        | nil=>cases hq
        | cons q1 qs =>
        cases qs with
        | nil=>cases hq
        | cons q2 qs =>
        obtain⟨t1,t2,ts,v1,v2,π,rfl,rfl⟩:=hp.pile.two
        obtain⟨g1,hp1,r1⟩:=hp.pop
        obtain⟨g2,hp2,A2,p2,hA2,el2⟩:=hp1.pop
        obtain⟨A1,p1,hA1,el1⟩:=r1.to fun t A p e=>hp1.put (ts':=ts) (.lst ((t2::ts).reverse.map V.ref).dropLast) t A p e
        have htl:ts.length≤i:=Nat.le_of_succ_le (Nat.le_of_succ_le htl)
        have hq:cst (S.drop (i+1)) ((q2+q1+3)::qs)=some [m]:=hq
        have hqm:=cst_le _ _ _ hq _ List.mem_cons_self
        have hv:(if Root.isZero v1=true then none else valS c (S.drop (i+1)) (Root.over c v2 v1::π))=valS c S []:=hv
        refine⟨_,rfl,rfl,_,rfl,iteF ⟨_,rfl,rfl,_,rfl,iteF ⟨_,rfl,rfl,_,rfl,iteF ⟨_,rfl,rfl,_,rfl,iteF ⟨_,rfl,tyL hp.lst,pl,_,_,rfl,rfl,hp.lst,g1,_,rfl,tyL hp1.lst,pl,_,_,rfl,rfl,hp1.lst,g2,?_⟩⟩⟩⟩⟩
        refine⟨_,rfl,rfl,_,rfl,iteT ⟨_,rfl,_,A1,p1,rfl,⟨t1,rfl,SqL.of hA1⟩,fun H3 s3=>⟨_,rfl,?_⟩⟩⟩
        have hp3:=hp2.same' s3
        rw[←isZero_anyR el1.pos,el1.val]
        cases ez:Root.isZero v1 with
        | true =>
          rw[ez,if_pos rfl] at hv
          exact iteT (kn hv.symm H3 hp3.same)
        | false =>
          rw[ez,if_neg Bool.false_ne_true] at hv
          refine iteF ⟨_,rfl,tyL hp3.lst,_,rfl,_,rfl,_,rfl,_,rfl,?_⟩
          refine⟨_,_,_,.divide,c,A2,A1,p2,p1,v2,v1,q2,q1,rfl,⟨ca,rfl,hp3.same.seq hC⟩,⟨t2,rfl,SqL.of (s3 _ _ hA2)⟩,⟨t1,rfl,SqL.of (s3 _ _ hA1)⟩,hc0,.inr (.inr (.inr rfl)),el2,el1,by lia,fun _=>ez,fun H4 y4 R r s4 hy4 el=>?_⟩
          obtain⟨t4,rfl,ht4⟩:=hy4
          have hp4:=hp3.same' s4
          exact⟨pl,_,_,rfl,rfl,hp4.lst,hsz ts htl,_,_,_,_,_,_,_,rfl,hp4.push ht4 el,more htl _,hv,hq⟩
    · rintro σ H1 ⟨ts,π,qs,v3,v4,v5,v6,rfl,hp,htl,hv,hq⟩
      rw[List.length_map,hsl,List.drop_length] at hv hq
      have hq:some qs=some [m]:=hq
      have hq:=Option.some.inj hq
      subst hq
      obtain⟨t1,ts,v1,π,rfl,rfl⟩:=hp.pile.one
      have e0:ts=[]∧π=[]:=by
        have:=hp.pile.2
        cases ts with
        | nil=>cases π with
          | nil=>exact⟨rfl,rfl⟩
          | cons _ _=>exact this.elim
        | cons _ _=>cases π with
          | nil=>exact this.elim
          | cons _ _=>exact this.elim
      obtain⟨rfl,rfl⟩:=e0
      obtain⟨g1,hp1,A1,p1,hA1,el1⟩:=hp.pop
      exact⟨_,rfl,.inl ⟨rfl,_,SqL.of hp.lst⟩,pl,_,_,rfl,rfl,hp.lst,g1,ky _ _ A1 p1 v1 hv.symm hp1.same ⟨t1,rfl,hA1⟩ el1⟩
def sp_square_root_floor:Sp:=fun vs H Q _=>∃ n:Int,vs=[.int n]∧0≤n∧n<1073741824∧∀ (H':Hp) (r:Int),Same H H'→0≤r→r*r≤n→n<(r+1)*(r+1)→Q (.int r) H'
theorem sc_square_root_floor:FnScope ["number","root","nearer"] ["number"] (defScope s_square_root_floor):=⟨rfl,rfl,rfl,by decide +kernel,rfl,by decide +kernel,by decide +kernel⟩
theorem ok_square_root_floor {P:Program}{w:World}{K:PySem.W.Frag}{mg:Str→Option Value}{base:Heap}{f:Addr}{fd:FuncData} (F:Fun K "square_root_floor" "square_root_floor" s_square_root_floor f fd) (O:Own mg) :
    FnOk P w K mg base CX0 1 f fd ["number"] sp_square_root_floor:=by
  refine F.ok sc_square_root_floor (fun vs H Q E h=>?_) (fun cdv A outer s H vs Q E hr h=>?_)
  · obtain⟨n,rfl,_⟩:=h
    rfl
  · obtain⟨n,rfl,n0,n1,k⟩:=h
    refine⟨_,pss_cons (ps_set (i:=1) sc_square_root_floor.nd rfl (Or.inl rfl) (pv 0))
      (pss_cons (ps_set (i:=2) sc_square_root_floor.nd rfl (Or.inl rfl) (pe_op op_fdiv (pe_op op_add (pv 1) pe_int) pe_int))
      (pss_cons (ps_while PassesOwn.never (pt_cmpR op_lt (pv 2) (pv 1) (nomark _))
        (pss_cons (ps_set (i:=1) sc_square_root_floor.nd rfl (Or.inl rfl) (pv 2))
        (pss_one (ps_set (i:=2) sc_square_root_floor.nd rfl (Or.inl rfl) (pe_op op_fdiv (pe_op op_add (pv 1) (pe_op op_fdiv (pv 0) (pv 1))) pe_int)))))
      (pss_one (ps_ret (pv 1))))),?_⟩
    refine⟨_,rfl,_,rfl,_,_,rfl,rfl,_,_,rfl,rfl,⟨by decide,by decide⟩,?_⟩
    refine while_by (fun σ H'=>∃ (a b:Int),σ=[some (.int n),some (.int a),some (.int b)]∧Newt n a b∧Same H H')
      (fun σ H'=>match σ with | [_,some (.int a),_]=>a.toNat | _=>0) ⟨n,(n+1) / 2,rfl,newt_start n0,Same.refl H⟩ ?_ ?_
    · rintro σ H' ⟨a,b,rfl,hN,hs⟩
      refine⟨_,rfl,_,rfl,_,_,rfl,rfl,_,rfl,?_⟩
      refine ite2 (fun hb=>?_) (fun hb=>?_)
      · have hb':b<a:=by simpa using hb
        obtain⟨h1,h2⟩:=newt_step hN hb'
        have h3:=h2.rn
        refine⟨_,rfl,_,rfl,_,rfl,_,rfl,_,_,rfl,rfl,⟨h1,by lia⟩,_,_,rfl,rfl,_,_,rfl,rfl,⟨by decide,by decide⟩,?_⟩
        refine⟨⟨b,_,rfl,h2,hs⟩,?_⟩
        show b.toNat<a.toNat
        lia
      · have hb':¬ b<a:=by simpa using hb
        obtain⟨h1,h2⟩:=newt_end hN hb'
        exact⟨_,rfl,k H' a hs hN.r0 h1 h2⟩
    · show Mono _
      (repeat first | exact MonoE.var | exact MonoE.c | exact MonoR.i0 | exact MonoR.i | exact MonoR.eq | exact MonoR.ne | exact MonoR.ix | exact MonoL.len | exact MonoA.nil | apply Mono.test | apply Mono.and | apply MonoE.cb | apply MonoE.op | apply MonoA.cons | apply MonoE.bits | apply MonoE.un)
def sp_polynomial_of (K:PySem.W.Frag):Sp:=fun vs H Q _=>∃ (v:V) (c:List Int),vs=[v]∧IL K H v c∧c.length≤1000∧∀ (H':Hp) (u:V),Same H H'→OL H' u (c++[1])→Q u H'
theorem sc_polynomial_of:FnScope ["field"] ["field"] (defScope s_polynomial_of):=⟨rfl,rfl,rfl,by decide +kernel,rfl,by decide +kernel,by decide +kernel⟩
theorem ok_polynomial_of {P:Program}{w:World}{K:PySem.W.Frag}{mg:Str→Option Value}{base:Heap}{f:Addr}{fd:FuncData} (F:Fun K "polynomial_of" "polynomial_of" s_polynomial_of f fd) (O:Own mg) :
    FnOk P w K mg base CX0 1 f fd ["field"] (sp_polynomial_of K):=by
  refine F.ok sc_polynomial_of (fun vs H Q E h=>?_) (fun cdv A outer s H vs Q E hr h=>?_)
  · obtain⟨v,c,rfl,_⟩:=h
    rfl
  · obtain⟨v,c,rfl,⟨a,rfl,hc⟩,hl,k⟩:=h
    refine⟨_,pss_one (ps_ret (pe_op op_cat (pe_callTy call_list_of (by rfl) O.list_ bt_list (pa_cons (pv 0) pa_nil)) (pe_lst (pa_cons pe_int pa_nil)))),?_⟩
    refine⟨_,rfl,a,_,rfl,.inl hc,fun l hl1=>⟨by show 1≤sizeLine;decide,fun q hq=>⟨l,q,_,_,rfl,rfl,(upd_ne (ne_of_none (H:=upd H l (.lst (c.map V.int))) upd_same hq)).trans upd_same,upd_same,?_,fun p hp=>?_⟩⟩⟩
    · rw[List.length_map]
      exact Nat.le_trans (Nat.add_le_add_right hl 1) (by decide)
    · have h1:H q=none:=(same_upd hl1).free hq
      have s1:Same H (upd (upd H l (.lst (c.map V.int))) q (.lst [V.int 1])):=(same_upd hl1).trans (same_upd hq)
      refine k _ _ (s1.trans (same_upd hp)) ⟨p,rfl,?_⟩
      rw[upd_same,List.map_append]
      rfl
def sp_value_at (K:PySem.W.Frag):Sp:=fun vs H Q _=>∃ (v:V) (f:List Int) (z:Int),vs=[v,.int z]∧IL K H v f∧(-(2^64)<z∧z<2^64)∧∀ H':Hp,Same H H'→Q (.int (horner f z)) H'
theorem sc_value_at:FnScope ["f","number","value","factor"] ["f","number"] (defScope s_value_at):=⟨rfl,rfl,rfl,by decide +kernel,rfl,by decide +kernel,by decide +kernel⟩
theorem ok_value_at {P:Program}{w:World}{K:PySem.W.Frag}{mg:Str→Option Value}{base:Heap}{f:Addr}{fd:FuncData} (F:Fun K "value_at" "value_at" s_value_at f fd) (O:Own mg) :
    FnOk P w K mg base CX0 1 f fd ["f","number"] (sp_value_at K):=by
  refine F.ok sc_value_at (fun vs H Q E h=>?_) (fun cdv A outer s H vs Q E hr h=>?_)
  · obtain⟨v,c,z,rfl,_⟩:=h
    rfl
  · obtain⟨v,c,z,rfl,⟨a,rfl,hc⟩,hz,k⟩:=h
    refine⟨_,pss_cons (ps_set (i:=2) sc_value_at.nd rfl (Or.inl rfl) pe_int)
      (pss_cons (ps_for PassesOwn.never rfl (pi_reversed (by rfl) O.reversed_ (pa_cons (pv 0) pa_nil)) (pg_name (i:=3) sc_value_at.nd rfl (Or.inl rfl))
        (pss_one (ps_set (i:=2) sc_value_at.nd rfl (Or.inl rfl) (pe_op op_add (pe_op op_mul (pv 2) (pv 1)) (pv 3)))))
      (pss_one (ps_ret (pv 2)))),?_⟩
    refine⟨_,rfl,a,_,rfl,hc,for_rev (K:=K) (a:=a) (xs:=c.map V.int) (fun i σ H'=>∃ v3:Option V,σ=[some (.ref a),some (.int z),some (.int ((c.reverse.take i).foldl (fun (s t:Int)=>s*z+t) 0)),v3]∧Same H H')
      ⟨none,rfl,Same.refl H⟩ (fun i σ H' _ h=>?_) ?_ ?_⟩
    · obtain⟨_,_,hs⟩:=h
      exact hs.seq hc
    · rintro i x σ H' hx ⟨v3,rfl,hs⟩
      rw[←List.map_reverse,List.getElem?_map] at hx
      obtain⟨t,ht,rfl⟩:=Option.map_eq_some_iff.mp hx
      refine⟨_,rfl,_,rfl,_,_,rfl,rfl,.inr hz,_,rfl,_,_,rfl,rfl,some (.int t),?_,hs⟩
      rw[take_snoc' ht,List.foldl_append]
      rfl
    · rintro σ H' ⟨v3,rfl,hs⟩
      refine⟨_,rfl,?_⟩
      have e:(c.reverse.take (c.map V.int).length).foldl (fun (s t:Int)=>s*z+t) 0=horner c z:=by
        rw[List.length_map,List.take_of_length_le (by rw[List.length_reverse];exact Nat.le_refl _)]
        rfl
      rw[e]
      exact k H' hs
def sp_divisors_of:Sp:=fun vs H Q _=>∃ n:Int,vs=[.int n]∧n.natAbs≤1000∧∀ (H':Hp) (u:V),Same H H'→OL H' u (divisorsOf n)→Q u H'
theorem sc_divisors_of:FnScope ["number","above","k"] ["number"] (defScope s_divisors_of):=⟨rfl,rfl,rfl,by decide +kernel,rfl,by decide +kernel,by decide +kernel⟩
theorem ok_divisors_of {P:Program}{w:World}{K:PySem.W.Frag}{mg:Str→Option Value}{base:Heap}{f:Addr}{fd:FuncData} (F:Fun K "divisors_of" "divisors_of" s_divisors_of f fd) (O:Own mg) :
    FnOk P w K mg base CX0 1 f fd ["number"] sp_divisors_of:=by
  refine F.ok sc_divisors_of (fun vs H Q E h=>?_) (fun cdv A outer s H vs Q E hr h=>?_)
  · obtain⟨n,rfl,_⟩:=h
    rfl
  · obtain⟨n,rfl,hn,k⟩:=h
    refine⟨_,pss_cons (ps_setLc (i:=1) (own:=[("k",2)]) rfl sc_divisors_of.nd rfl rfl rfl
        (pi_range2 (by rfl) O.range_ (pa_cons pe_int (pa_cons (pe_op op_add (pe_callB call_abs (by rfl) O.abs_ bt_abs (pa_cons (pv 0) pa_nil)) pe_int) pa_nil)))
        (show BlkOk ["number","above","k"] (defScope s_divisors_of) _ _ from⟨rfl,by decide +kernel,by decide +kernel,by decide +kernel,by decide +kernel⟩) (fun _ _ _ _ _=>pg_name (i:=2) sc_divisors_of.nd rfl (Or.inl rfl))
        (fun _ _ _ _ _=>pts_one (pt_cmpR op_eq (pe_op op_mod (pv 0) (pv 2)) pe_int (nomark _))) (fun _ _ _ _ _=>pv 2))
      (pss_one (ps_ret (pe_op op_cat (pv 1) (pe_lc (own:=[("k",2)]) rfl sc_divisors_of.nd (pi_list (pv 1))
        (show BlkOk ["number","above","k"] (defScope s_divisors_of) _ _ from⟨rfl,by decide +kernel,by decide +kernel,by decide +kernel,by decide +kernel⟩) (fun _ _ _ _ _=>pg_name (i:=2) sc_divisors_of.nd rfl (Or.inl rfl))
        (fun _ _ _ _ _=>pts_nil) (fun _ _ _ _ _=>pe_un un_neg (pv 2)))))),?_⟩
    refine⟨_,rfl,n,rfl,_,_,rfl,rfl,_,_,rfl,⟨by lia,by lia,by split <;> lia,by split <;> lia⟩,fun D hD=>?_⟩
    refine lc_rng (fun z=>decide (n % z=0)) V.int ?_ hD (fun z=>rfl) (fun i hi H1 Rv R s1 hR=>?_) (fun H1 s1 e1=>?_)
    · rw[abs_is]
      exact small1000 (by lia)
    · refine⟨_,rfl,_,rfl,_,_,rfl,rfl,(by show (0:Int)<1+i;lia),rfl,_,rfl,?_⟩
      have hR':=hR H1 (Same.refl H1)
      refine ite2 (fun hb=>?_) (fun hb=>?_)
      · rw[if_pos (decide_eq_true (int_eq hb))] at hR'
        exact⟨_,rfl,hR'⟩
      · rw[if_neg (fun z=>int_ne hb (of_decide_eq_true z))] at hR'
        exact hR'
    · have e2:((List.range ((if n<0 then -n else n)+1-1).toNat).map fun (i:Nat)=>(1:Int)+(i:Int)).filter (fun z=>decide (n % z=0))=divAbove n:=by
        rw[abs_is,show ((n.natAbs:Int)+1-1).toNat=n.natAbs by lia]
        rfl
      have hsmall:(divAbove n).length≤1000:=by
        unfold divAbove
        refine Nat.le_trans (List.length_filter_le _ _) ?_
        rw[List.length_map,List.length_range]
        exact hn
      have e3:H1 D=some (.lst ((divAbove n).map V.int)):=e2 ▸ e1
      refine⟨_,rfl,_,rfl,D,rfl,⟨_,SqL.of e3⟩,fun G hG=>?_⟩
      refine lc_ints (K:=K) (a:=D) (ns:=divAbove n) (fun _=>true) (fun z=>V.int (-z)) (SqL.of e3) (small1000 hsmall) hG (fun z=>rfl) (fun z hz H2 Rv R s2 hR=>?_) (fun H2 s2 e4=>?_)
      · have hR':=hR H2 (Same.refl H2)
        rw[if_pos rfl] at hR'
        exact⟨_,rfl,_,rfl,hR'⟩
      · rw[filter_yes] at e4
        refine⟨D,G,_,_,rfl,rfl,s2 _ _ e3,e4,?_,fun p hp=>?_⟩
        · rw[List.length_map,List.length_map]
          exact Nat.le_trans (Nat.add_le_add hsmall hsmall) (by decide)
        · refine k _ _ ((s1.trans s2).trans (same_upd hp)) ⟨p,rfl,?_⟩
          rw[upd_same]
          unfold divisorsOf
          rw[List.map_append,List.map_map]
          rfl
theorem good_len {c:List Int} (h1:¬ decide ((c.length:Int)<1)=true) (h2:¬ decide ((4:Int)<(c.length:Int))=true):(!badField c)=(c.map fun (z:Int)=>decide ((if z<0 then -z else z)≤1000)).all id:=by
  have h1':¬ c.length<1:=fun z=>h1 (decide_eq_true (by lia))
  have h2':¬ 4<c.length:=fun z=>h2 (decide_eq_true (by lia))
  unfold badField
  rw[decide_eq_false h1',decide_eq_false h2',Bool.false_or,Bool.false_or,List.all_map,Bool.eq_iff_iff,Bool.not_eq_true',List.any_eq_false,List.all_eq_true]
  constructor
  · intro h z hz
    have:=h z hz
    rw[Bool.or_eq_true,decide_eq_true_eq,decide_eq_true_eq] at this
    show decide _=true
    rw[decide_eq_true_eq,abs_is]
    lia
  · intro h z hz
    have:=h z hz
    have h3:decide ((if z<0 then -z else z)≤1000)=true:=this
    rw[decide_eq_true_eq,abs_is] at h3
    rw[Bool.or_eq_true,decide_eq_true_eq,decide_eq_true_eq]
    lia
theorem bad_short {c:List Int} (h:decide ((c.length:Int)<1)=true):(!badField c)=false:=by
  have h1:=of_decide_eq_true h
  unfold badField
  rw[decide_eq_true (show c.length<1 by lia)]
  rfl
theorem bad_long {c:List Int} (h:decide ((4:Int)<(c.length:Int))=true):(!badField c)=false:=by
  have h1:=of_decide_eq_true h
  unfold badField
  rw[decide_eq_true (show 4<c.length by lia),Bool.true_or,Bool.or_true]
  rfl
def sp_is_told_rightly (K:PySem.W.Frag):Sp:=fun vs H Q _=>∃ (v:V) (c:List Int),vs=[v]∧IL K H v c∧c.length≤1000∧∀ H':Hp,Same H H'→Q (.bl (!badField c)) H'
theorem sc_is_told_rightly:FnScope ["field","number"] ["field"] (defScope s_is_told_rightly):=⟨rfl,rfl,rfl,by decide +kernel,rfl,by decide +kernel,by decide +kernel⟩
theorem ok_is_told_rightly {P:Program}{w:World}{K:PySem.W.Frag}{mg:Str→Option Value}{base:Heap}{f:Addr}{fd:FuncData} (F:Fun K "is_told_rightly" "is_told_rightly" s_is_told_rightly f fd) (O:Own mg) (c_GREATEST_DEGREE:Kst mg "GREATEST_DEGREE" 4) (c_GREATEST_SIZE:Kst mg "GREATEST_SIZE" 1000) :
    FnOk P w K mg base CX0 1 f fd ["field"] (sp_is_told_rightly K):=by
  refine F.ok sc_is_told_rightly (fun vs H Q E h=>?_) (fun cdv A outer s H vs Q E hr h=>?_)
  · obtain⟨v,c,rfl,_⟩:=h
    rfl
  · obtain⟨v,c,rfl,⟨a,rfl,hc⟩,hl,k⟩:=h
    refine⟨_,(pss_cons (ps_if (PW.pt (pw_or (pt_cmpR op_lt (pe_callB (call_lenK (K:=K) rfl) (by rfl) O.len_ bt_len (pa_cons (pv 0) pa_nil)) pe_int (nomark _)) (pw_or1 (pt_cmpR op_gt (pe_callB (call_lenK (K:=K) rfl) (by rfl) O.len_ bt_len (pa_cons (pv 0) pa_nil)) (pe_globK (by rfl) c_GREATEST_DEGREE) (nomark _))))) (pss_one (ps_ret pe_bl)) pss_nil)
      (pss_one (ps_ret (pe_callB (cr_allK (K:=K) rfl rfl) (by rfl) O.all_ bt_all (pa_cons (pe_lc (own:=[("number",1)]) rfl sc_is_told_rightly.nd (pi_list (pv 0)) (show BlkOk ["field","number"] (defScope s_is_told_rightly) _ _ from⟨rfl,by decide +kernel,by decide +kernel,by decide +kernel,by decide +kernel⟩) (fun _ _ _ _ _=>(pg_name (i:=1) sc_is_told_rightly.nd rfl (by first | exact Or.inl rfl | exact Or.inr rfl))) (fun _ _ _ _ _=>pts_nil) (fun _ _ _ _ _=>(pe_cmpR op_le (pe_callB call_abs (by rfl) O.abs_ bt_abs (pa_cons (pv 1) pa_nil)) (pe_globK (by rfl) c_GREATEST_SIZE) (nomark _)))) pa_nil))))),?_⟩
    refine⟨_,rfl,a,_,rfl,.inl hc,_,_,rfl,rfl,_,rfl,?_⟩
    rw[List.length_map]
    refine ite2 (fun h1=>?_) (fun h1=>?_)
    · have e:=k H (Same.refl H)
      rw[bad_short h1] at e
      exact e
    · refine⟨_,rfl,a,_,rfl,.inl hc,_,_,rfl,rfl,_,rfl,?_⟩
      rw[List.length_map]
      refine ite2 (fun h2=>?_) (fun h2=>?_)
      · have e:=k H (Same.refl H)
        rw[bad_long h2] at e
        exact e
      · refine⟨_,rfl,a,rfl,⟨_,hc⟩,fun D hD=>?_⟩
        refine lc_ints (K:=K) (a:=a) (ns:=c) (fun _=>true) (fun z=>V.bl (decide ((if z<0 then -z else z)≤1000))) hc (small1000 hl) hD (fun z=>rfl) (fun z hz H2 Rv R s2 hR=>?_) (fun H2 s2 e4=>?_)
        · have hR':=hR H2 (Same.refl H2)
          rw[if_pos rfl] at hR'
          exact⟨_,rfl,z,rfl,_,_,rfl,rfl,hR'⟩
        · rw[filter_yes] at e4
          refine⟨D,c.map fun (z:Int)=>decide ((if z<0 then -z else z)≤1000),rfl,SqL.of ?_,?_⟩
          · rw[e4,List.map_map]
            rfl
          · rw[←good_len h1 h2]
            exact k H2 s2
theorem good_head {c:List Int} (h:c≠[]):atI (c.map V.int) 0=some (.int (c.headD 0)):=by
  cases c with
  | nil=>exact absurd rfl h
  | cons z l=>exact atI_nat (j:=0) rfl
def sp_has_whole_root (K:PySem.W.Frag):Sp:=fun vs H Q _=>∃ (v:V) (c:List Int),vs=[v]∧IL K H v c∧c≠[]∧c.length≤999∧(c.headD 0).natAbs≤1000∧∀ H':Hp,Same H H'→Q (.bl ((divisorsOf (c.headD 0)).any fun (z:Int)=>horner (c++[1]) z == 0)) H'
theorem sc_has_whole_root:FnScope ["field","f","number"] ["field"] (defScope s_has_whole_root):=⟨rfl,rfl,rfl,by decide +kernel,rfl,by decide +kernel,by decide +kernel⟩
theorem ok_has_whole_root {P:Program}{w:World}{K:PySem.W.Frag}{mg:Str→Option Value}{base:Heap}{f:Addr}{fd:FuncData} (F:Fun K "has_whole_root" "has_whole_root" s_has_whole_root f fd) (O:Own mg) (C_polynomial_of:Cal P w K mg base 1 "polynomial_of" ["field"] (sp_polynomial_of K)) (C_divisors_of:Cal P w K mg base 1 "divisors_of" ["number"] sp_divisors_of) (C_value_at:Cal P w K mg base 1 "value_at" ["f","number"] (sp_value_at K)) :
    FnOk P w K mg base CX0 2 f fd ["field"] (sp_has_whole_root K):=by
  refine F.ok sc_has_whole_root (fun vs H Q E h=>?_) (fun cdv A outer s H vs Q E hr h=>?_)
  · obtain⟨v,c,rfl,_⟩:=h
    rfl
  · obtain⟨v,c,rfl,⟨a,rfl,hc⟩,hne,hl,hz,k⟩:=h
    refine⟨_,(pss_cons (ps_set (i:=1) sc_has_whole_root.nd rfl (by first | exact Or.inl rfl | exact Or.inr rfl) (pe_cal C_polynomial_of (hr.mono (by decide)) (by rfl) (pa_cons (pv 0) pa_nil)))
      (pss_one (ps_ret (pe_callB (cr_anyK (K:=K) rfl rfl) (by rfl) O.any_ bt_any (pa_cons (pe_lc (own:=[("number",2)]) rfl sc_has_whole_root.nd (pi_list (pe_cal C_divisors_of (hr.mono (by decide)) (by rfl) (pa_cons (pe_ix (ix_listK (K:=K) rfl) (pv 0) pe_int (fun _ _=>rfl)) pa_nil))) (show BlkOk ["field","f","number"] (defScope s_has_whole_root) _ _ from⟨rfl,by decide +kernel,by decide +kernel,by decide +kernel,by decide +kernel⟩) (fun _ _ _ _ _=>(pg_name (i:=2) sc_has_whole_root.nd rfl (by first | exact Or.inl rfl | exact Or.inr rfl))) (fun _ _ _ _ _=>pts_nil) (fun _ _ _ _ _=>(pe_cmpR op_eq (pe_cal C_value_at (hr.mono (by decide)) (by rfl) (pa_cons (pv 1) (pa_cons (pv 2) pa_nil))) pe_int (nomark _)))) pa_nil))))),?_⟩
    refine⟨_,rfl,_,c,rfl,⟨a,rfl,hc⟩,by lia,fun H1 u s1 hu=>?_⟩
    obtain⟨b,rfl,hb⟩:=hu
    refine⟨_,rfl,a,_,_,_,rfl,rfl,s1.seq hc,good_head hne,_,rfl,hz,fun H2 u2 s2 hu2=>?_⟩
    obtain⟨d,rfl,hd⟩:=hu2
    refine⟨d,rfl,⟨_,SqL.of hd⟩,fun D hD=>?_⟩
    have hlen:(divisorsOf (c.headD 0)).length≤2000:=by
      unfold divisorsOf divAbove
      rw[List.length_append,List.length_map]
      have:=List.length_filter_le (fun (k:Int)=>decide ((c.headD 0) % k=0)) ((List.range (c.headD 0).natAbs).map fun (i:Nat)=>(1:Int)+(i:Int))
      rw[List.length_map,List.length_range] at this
      lia
    refine lc_ints (K:=K) (a:=d) (ns:=divisorsOf (c.headD 0)) (fun _=>true) (fun z=>V.bl (decide (horner (c++[1]) z=0))) (SqL.of hd) (Nat.lt_of_le_of_lt hlen (by decide)) hD (fun z=>rfl) (fun z hz2 H3 Rv R s3 hR=>?_) (fun H3 s3 e4=>?_)
    · obtain⟨q1,q2,q3,q4⟩:=mem_divisors.mp hz2
      refine⟨_,rfl,_,rfl,_,_,z,rfl,⟨b,rfl,SqL.of (s3 _ _ (s2 _ _ hb))⟩,⟨by lia,by lia⟩,fun H4 s4=>⟨rfl,?_⟩⟩
      have hR':=hR H4 s4
      rw[if_pos rfl] at hR'
      rw[dec_int]
      exact hR'
    · rw[filter_yes] at e4
      refine⟨D,(divisorsOf (c.headD 0)).map fun (z:Int)=>decide (horner (c++[1]) z=0),rfl,SqL.of ?_,?_⟩
      · rw[e4,List.map_map]
        rfl
      · have e:((divisorsOf (c.headD 0)).map fun (z:Int)=>decide (horner (c++[1]) z=0)).any id=(divisorsOf (c.headD 0)).any fun (z:Int)=>horner (c++[1]) z == 0:=by
          rw[List.any_map]
          congr 1
        rw[e]
        exact k H3 ((s1.trans s2).trans s3)
theorem fdiv_exact {n q:Int} (h0:q≠0) (h:n % q=0):n.fdiv q=n / q:=by
  obtain⟨k,hk⟩:=Int.dvd_of_emod_eq_zero h
  rw[hk,Int.mul_fdiv_cancel_left _ h0,Int.mul_ediv_cancel_left _ h0]
theorem op_fdivE {X:Cx}:OpR X (binaryOp .FloorDiv) (L2.rI (fun i j=>j≠0∧j.natAbs<1073741824∧i % j=0) fun i j=>.int (i / j)):=opI fun i j _ _ _ _ _ hc q=>by
  obtain⟨h1,h2,h3⟩:=hc
  exact floordiv_int h1 (by rw[fdiv_exact h1 h3];exact q) (.inl (PyProof.noPylong_small h2))
theorem small_prod {a b:Int} (ha:a.natAbs≤1000) (hb:b.natAbs≤1000):(a*b).natAbs≤1000000:=by
  rw[Int.natAbs_mul]
  exact Nat.mul_le_mul ha hb
theorem cm4 {a b:Int} (h:a.natAbs≤4000):CMul a b:=.inl ⟨by lia,by lia⟩
theorem cm4r {a b:Int} (h:b.natAbs≤4000):CMul a b:=.inr ⟨by lia,by lia⟩
theorem le4 {n:Nat} (h:n≤1000):n≤4000:=Nat.le_trans h (by decide)
theorem sq_eq {r g:Int} (r0:0≤r) (g0:0≤g) (e:r*r=g*g):r=g:=by
  rcases Int.lt_trichotomy r g with z | z | z
  · have h5:(r+1)*(r+1)≤g*g:=Int.mul_le_mul z z (by lia) g0
    have h7:(r+1)*(r+1)=r*r+2*r+1:=by grind
    lia
  · exact z
  · have h6:(g+1)*(g+1)≤r*r:=Int.mul_le_mul z z (by lia) r0
    have h7:(g+1)*(g+1)=g*g+2*g+1:=by grind
    lia
theorem sq_floor {r g n:Int} (r0:0≤r) (g0:0≤g) (e:g*g=n) (r1:r*r≤(if 0 > n then 0 else n)) (r2:(if 0 > n then 0 else n)<(r+1)*(r+1)):r=g:=by
  have hp:0≤g*g:=Int.mul_nonneg g0 g0
  rw[if_neg (by lia),←e] at r1 r2
  rcases Int.lt_trichotomy r g with z | z | z
  · have h5:(r+1)*(r+1)≤g*g:=Int.mul_le_mul z z (by lia) g0
    lia
  · exact z
  · have h6:(g+1)*(g+1)≤r*r:=Int.mul_le_mul z z (by lia) r0
    have h7:(g+1)*(g+1)=g*g+2*g+1:=by grind
    lia
theorem gap_few {c3 c2 q s:Int} (m3:c3.natAbs≤1000) (m2:c2.natAbs≤1000) (hq:q.natAbs≤1000) (hs:s.natAbs≤1000):0≤(if 0 > c3*c3-4*(c2-q-s) then 0 else c3*c3-4*(c2-q-s))∧(if 0 > c3*c3-4*(c2-q-s) then 0 else c3*c3-4*(c2-q-s))<1073741824∧∀ r:Int,0≤r→r*r≤(if 0 > c3*c3-4*(c2-q-s) then 0 else c3*c3-4*(c2-q-s))→r.natAbs≤4000:=by
  have c33:=small_prod m3 m3
  have h1:c3*c3-4*(c2-q-s)≤1012000:=by lia
  generalize c3*c3-4*(c2-q-s)=n at *
  have h2:(if 0 > n then 0 else n)≤1012000:=by split <;> lia
  have h3:0≤(if 0 > n then 0 else n):=by split <;> lia
  refine⟨h3,by lia,fun r r0 r1=>?_⟩
  have:¬ 4001≤r:=fun z=>by
    have h5:(4001:Int)*4001≤r*r:=Int.mul_le_mul z z (by decide) r0
    lia
  lia
def sp_is_product_of_quadratics (K:PySem.W.Frag):Sp:=fun vs H Q _=>∃ (v:V) (c:List Int),vs=[v]∧IL K H v c∧c.length=4∧c.headD 0≠0∧(∀ z∈c,z.natAbs≤1000)∧∀ H':Hp,Same H H'→Q (.bl (Root.twoTwos c)) H'
theorem sc_is_product_of_quadratics:FnScope ["field","q","s","gap_squared","gap","p","r"] ["field"] (defScope s_is_product_of_quadratics):=⟨rfl,rfl,rfl,by decide +kernel,rfl,by decide +kernel,by decide +kernel⟩
theorem ok_is_product_of_quadratics {P:Program}{w:World}{K:PySem.W.Frag}{mg:Str→Option Value}{base:Heap}{f:Addr}{fd:FuncData} (F:Fun K "is_product_of_quadratics" "is_product_of_quadratics" s_is_product_of_quadratics f fd) (O:Own mg) (C_divisors_of:Cal P w K mg base 1 "divisors_of" ["number"] sp_divisors_of) (C_square_root_floor:Cal P w K mg base 1 "square_root_floor" ["number"] sp_square_root_floor) :
    FnOk P w K mg base CX0 2 f fd ["field"] (sp_is_product_of_quadratics K):=by
  refine F.ok sc_is_product_of_quadratics (fun vs H Q E h=>?_) (fun cdv A outer s H vs Q E hr h=>?_)
  · obtain⟨v,c,rfl,_⟩:=h
    rfl
  · obtain⟨v,c,rfl,⟨a,rfl,hc⟩,hl,h0,hz,k⟩:=h
    have hmem:∀ i:Nat,i<4→(c.getD i 0).natAbs≤1000:=fun i hi=>by
      have h:i<c.length:=by lia
      rw[List.getD_eq_getElem?_getD,List.getElem?_eq_getElem h]
      exact hz _ (List.getElem_mem h)
    have g0:=good_at (c:=c) (i:=0) (by lia)
    have g1:=good_at (c:=c) (i:=1) (by lia)
    have g2:=good_at (c:=c) (i:=2) (by lia)
    have g3:=good_at (c:=c) (i:=3) (by lia)
    have m0:=hmem 0 (by lia)
    have m1:=hmem 1 (by lia)
    have m2:=hmem 2 (by lia)
    have m3:=hmem 3 (by lia)
    have hh:c.headD 0=c.getD 0 0:=by cases c <;> rfl
    rw[hh] at h0
    refine⟨_,(pss_cons (ps_for PassesOwn.never rfl (pi_list (pe_cal C_divisors_of (hr.mono (by decide)) (by rfl) (pa_cons (pe_ix (ix_listK (K:=K) rfl) (pv 0) pe_int (fun _ _=>rfl)) pa_nil))) (pg_name (i:=1) sc_is_product_of_quadratics.nd rfl (by first | exact Or.inl rfl | exact Or.inr rfl)) (pss_cons (ps_set (i:=2) sc_is_product_of_quadratics.nd rfl (by first | exact Or.inl rfl | exact Or.inr rfl) (pe_op op_fdivE (pe_ix (ix_listK (K:=K) rfl) (pv 0) pe_int (fun _ _=>rfl)) (pv 1)))
      (pss_cons (ps_set (i:=3) sc_is_product_of_quadratics.nd rfl (by first | exact Or.inl rfl | exact Or.inr rfl) (pe_op op_sub (pe_op op_mul (pe_ix (ix_listK (K:=K) rfl) (pv 0) pe_int (fun _ _=>rfl)) (pe_ix (ix_listK (K:=K) rfl) (pv 0) pe_int (fun _ _=>rfl))) (pe_op op_mul pe_int (pe_op op_sub (pe_op op_sub (pe_ix (ix_listK (K:=K) rfl) (pv 0) pe_int (fun _ _=>rfl)) (pv 1)) (pv 2)))))
      (pss_cons (ps_set (i:=4) sc_is_product_of_quadratics.nd rfl (by first | exact Or.inl rfl | exact Or.inr rfl) (pe_cal C_square_root_floor (hr.mono (by decide)) (by rfl) (pa_cons (pe_callB (call_max2 rfl) (by rfl) O.max_ bt_max (pa_cons (pv 3) (pa_cons pe_int pa_nil))) pa_nil)))
      (pss_cons (ps_if (pt_cmpR op_ne (pe_op op_mul (pv 4) (pv 4)) (pv 3) (nomark _)) (pss_one ps_continue) pss_nil)
      (pss_cons (ps_set (i:=5) sc_is_product_of_quadratics.nd rfl (by first | exact Or.inl rfl | exact Or.inr rfl) (pe_op op_fdiv (pe_op op_add (pe_ix (ix_listK (K:=K) rfl) (pv 0) pe_int (fun _ _=>rfl)) (pv 4)) pe_int))
      (pss_cons (ps_set (i:=6) sc_is_product_of_quadratics.nd rfl (by first | exact Or.inl rfl | exact Or.inr rfl) (pe_op op_sub (pe_ix (ix_listK (K:=K) rfl) (pv 0) pe_int (fun _ _=>rfl)) (pv 5)))
      (pss_one (ps_if (pt_cmpR op_eq (pe_op op_add (pe_op op_mul (pv 5) (pv 2)) (pe_op op_mul (pv 1) (pv 6))) (pe_ix (ix_listK (K:=K) rfl) (pv 0) pe_int (fun _ _=>rfl)) (nomark _)) (pss_one (ps_ret pe_bl)) pss_nil)))))))))
      (pss_one (ps_ret pe_bl))),?_⟩
    refine⟨_,rfl,a,_,_,_,rfl,rfl,hc,g0,_,rfl,m0,fun H1 u s1 hu=>?_⟩
    obtain⟨d,rfl,hd⟩:=hu
    refine⟨d,rfl,⟨_,SqL.of hd⟩,for_list (K:=K) (a:=d) (xs:=(divisorsOf (c.getD 0 0)).map V.int) (fun i σ H'=>(∃ v1 v2 v3 v4 v5 v6:Option V,σ=[some (.ref a),v1,v2,v3,v4,v5,v6])∧Same H1 H'∧∀ q∈(divisorsOf (c.getD 0 0)).take i,¬ Hit c q)
      ⟨⟨none,none,none,none,none,none,rfl⟩,Same.refl H1,fun q hq=>absurd hq (by simp)⟩ (fun i σ H' _ h=>h.2.1.seq (SqL.of hd)) ?_ ?_⟩
    · rintro i x σ H' hx ⟨⟨v1,v2,v3,v4,v5,v6,rfl⟩,s2,hno⟩
      rw[List.getElem?_map] at hx
      obtain⟨q,hq,rfl⟩:=Option.map_eq_some_iff.mp hx
      have hqm:q∈divisorsOf (c.getD 0 0):=List.mem_of_getElem? hq
      obtain⟨q0,q1,q2,q3⟩:=mem_divisors.mp hqm
      have hq1000:q.natAbs≤1000:=by lia
      obtain⟨e1,e2⟩:=ediv_div h0 q3
      have hs0:=divisor_small h0 e1
      have hs1000:(c.getD 0 0 / q).natAbs≤1000:=by lia
      have hcH:=(s1.trans s2).seq hc
      have c33:=small_prod m3 m3
      have nohit:¬ Hit c q→∀ q'∈(divisorsOf (c.getD 0 0)).take (i+1),¬ Hit c q':=fun hn q' hq'=>by
        rw[take_snoc' hq] at hq'
        rcases List.mem_append.mp hq' with z | z
        · exact hno q' z
        · have:q'=q:=by simpa using z
          rw[this]
          exact hn
      refine⟨_,rfl,a,_,_,_,rfl,rfl,hcH,g0,_,rfl,_,_,rfl,rfl,⟨q0,by lia,q3⟩,?_⟩
      refine⟨_,rfl,a,_,_,_,rfl,rfl,hcH,g3,_,rfl,a,_,_,_,rfl,rfl,hcH,g3,_,_,rfl,rfl,cm4 (le4 m3),?_⟩
      refine⟨_,rfl,a,_,_,_,rfl,rfl,hcH,g2,_,rfl,_,_,rfl,rfl,_,rfl,_,_,rfl,rfl,_,_,rfl,rfl,.inl ⟨by decide,by decide⟩,_,_,rfl,rfl,?_⟩
      obtain⟨k1,k2,k3⟩:=gap_few m3 m2 hq1000 hs1000
      refine⟨_,rfl,_,_,rfl,_,rfl,k1,k2,fun H3 r s3 r0 r1 r2=>?_⟩
      have hcH3:=s3.seq hcH
      have hr:r.natAbs≤4000:=k3 r r0 r1
      refine⟨_,rfl,_,rfl,_,_,rfl,rfl,cm4 hr,_,rfl,rfl,_,rfl,?_⟩
      refine ite2 (fun hne=>?_) (fun heq=>?_)
      · refine⟨⟨_,_,_,_,_,_,rfl⟩,s2.trans s3,nohit ?_⟩
        rintro ⟨g,gg0,gg,_⟩
        have hne':r*r≠c.getD 3 0*c.getD 3 0-4*(c.getD 2 0-q-c.getD 0 0 / q):=nq_ne hne
        have e5:r=g:=sq_floor r0 gg0 gg r1 r2
        rw[←gg] at hne'
        exact hne' (by rw[e5])
      · have heq':r*r=c.getD 3 0*c.getD 3 0-4*(c.getD 2 0-q-c.getD 0 0 / q):=nq_eq heq
        refine⟨_,rfl,a,_,_,_,rfl,rfl,hcH3,g3,_,rfl,_,_,rfl,rfl,_,_,rfl,rfl,⟨by decide,by decide⟩,?_⟩
        refine⟨_,rfl,a,_,_,_,rfl,rfl,hcH3,g3,_,rfl,_,_,rfl,rfl,?_⟩
        refine⟨_,rfl,_,rfl,_,_,rfl,rfl,cm4r (le4 hs1000),_,rfl,_,rfl,_,_,rfl,rfl,cm4 (le4 hq1000),_,_,rfl,rfl,_,rfl,a,_,_,_,rfl,rfl,hcH3,g1,rfl,_,rfl,?_⟩
        refine ite2 (fun hy=>?_) (fun hy=>?_)
        · have hit:Hit c q:=⟨r,r0,heq',int_eq hy⟩
          have e:=k H3 ((s1.trans s2).trans s3)
          rw[twoTwos_of_hit h0 hqm hit] at e
          exact e
        · refine⟨⟨_,_,_,_,_,_,rfl⟩,s2.trans s3,nohit ?_⟩
          rintro ⟨g,gg0,gg,hp⟩
          have e5:r=g:=sq_eq r0 gg0 (heq'.trans gg.symm)
          subst e5
          exact int_ne hy hp
    · rintro σ H' ⟨⟨v1,v2,v3,v4,v5,v6,rfl⟩,s2,hno⟩
      have e:=k H' (s1.trans s2)
      rw[List.length_map,List.take_length] at hno
      have ht:Root.twoTwos c=false:=by
        cases hT:Root.twoTwos c with
        | false=>rfl
        | true =>
          obtain⟨q,hq,hh⟩:=hit_of_twoTwos h0 hT
          exact absurd hh (hno q hq)
      rw[ht] at e
      exact e
structure Good (c:List Int):Prop where
  ne:c≠[]
  len:c.length≤4
  all:∀ z∈c,z.natAbs≤1000
theorem good_of {c:List Int} (h:badField c=false):Good c:=by
  unfold badField at h
  rw[Bool.or_eq_false_iff,Bool.or_eq_false_iff,decide_eq_false_iff_not,decide_eq_false_iff_not,List.any_eq_false] at h
  obtain⟨h1,h2,h3⟩:=h
  refine⟨fun e=>h1 (by rw[e];decide),by lia,fun z hz=>?_⟩
  have:=h3 z hz
  rw[Bool.or_eq_true,decide_eq_true_eq,decide_eq_true_eq] at this
  lia
theorem Good.head {c:List Int} (g:Good c):(c.headD 0).natAbs≤1000:=by
  cases c with
  | nil=>exact absurd rfl g.ne
  | cons z l=>exact g.all z (by simp)
def sp_is_product (K:PySem.W.Frag):Sp:=fun vs H Q _=>∃ (v:V) (c:List Int),vs=[v]∧IL K H v c∧Good c∧∀ H':Hp,Same H H'→Q (.bl (!Root.isField c)) H'
theorem sc_is_product:FnScope ["field"] ["field"] (defScope s_is_product):=⟨rfl,rfl,rfl,by decide +kernel,rfl,by decide +kernel,by decide +kernel⟩
theorem ok_is_product {P:Program}{w:World}{K:PySem.W.Frag}{mg:Str→Option Value}{base:Heap}{f:Addr}{fd:FuncData} (F:Fun K "is_product" "is_product" s_is_product f fd) (O:Own mg) (C_has_whole_root:Cal P w K mg base 2 "has_whole_root" ["field"] (sp_has_whole_root K)) (C_is_product_of_quadratics:Cal P w K mg base 2 "is_product_of_quadratics" ["field"] (sp_is_product_of_quadratics K)) :
    FnOk P w K mg base CX0 3 f fd ["field"] (sp_is_product K):=by
  refine F.ok sc_is_product (fun vs H Q E h=>?_) (fun cdv A outer s H vs Q E hr h=>?_)
  · obtain⟨v,c,rfl,_⟩:=h
    rfl
  · obtain⟨v,c,rfl,⟨a,rfl,hc⟩,hg,k⟩:=h
    refine⟨_,(pss_cons (ps_if (pt_cmpR op_eq (pe_callB (call_lenK (K:=K) rfl) (by rfl) O.len_ bt_len (pa_cons (pv 0) pa_nil)) pe_int (nomark _)) (pss_one (ps_ret pe_bl)) pss_nil)
      (pss_cons (ps_if (pt_cmpR op_eq (pe_ix (ix_listK (K:=K) rfl) (pv 0) pe_int (fun _ _=>rfl)) pe_int (nomark _)) (pss_one (ps_ret pe_bl)) pss_nil)
      (pss_cons (ps_if (pt_val (pe_cal C_has_whole_root (hr.mono (by decide)) (by rfl) (pa_cons (pv 0) pa_nil))) (pss_one (ps_ret pe_bl)) pss_nil)
      (pss_one (ps_ret (pe_and (pe_cmpR op_eq (pe_callB (call_lenK (K:=K) rfl) (by rfl) O.len_ bt_len (pa_cons (pv 0) pa_nil)) pe_int (nomark _)) (pe_one (pe_cal C_is_product_of_quadratics (hr.mono (by decide)) (by rfl) (pa_cons (pv 0) pa_nil))))))))),?_⟩
    refine⟨_,rfl,a,_,rfl,.inl hc,rfl,_,rfl,?_⟩
    rw[List.length_map]
    refine ite2 (fun h1=>?_) (fun h1=>?_)
    · have e:=k H (Same.refl H)
      have h1':(c.length:Int)=1:=int_eq h1
      rw[isField_one (by lia)] at e
      exact e
    have hn1:c.length≠1:=fun z=>int_ne h1 (by rw[z];rfl)
    refine⟨_,rfl,a,_,_,_,rfl,rfl,hc,good_head hg.ne,rfl,_,rfl,?_⟩
    refine ite2 (fun h2=>?_) (fun h2=>?_)
    · have e:=k H (Same.refl H)
      rw[isField_zero hn1 (int_eq h2)] at e
      exact e
    have h0:c.headD 0≠0:=int_ne h2
    refine⟨_,rfl,_,c,rfl,⟨a,rfl,hc⟩,hg.ne,by have:=hg.len;lia,hg.head,fun H1 s1=>⟨_,rfl,?_⟩⟩
    rw[←hasRoot_is h0]
    refine ite2 (fun h3=>?_) (fun h3=>?_)
    · have e:=k H1 s1
      rw[isField_root hn1 h3] at e
      exact e
    have h3':Root.hasRoot c=false:=by
      cases z:Root.hasRoot c with
      | false=>rfl
      | true=>exact absurd z h3
    refine⟨_,rfl,a,_,rfl,.inl (s1.seq hc),rfl,?_⟩
    rw[List.length_map,dec_int]
    refine⟨_,rfl,?_⟩
    refine ite2 (fun h4=>?_) (fun h4=>?_)
    · have h4':c.length=4:=by
        have:=of_decide_eq_true h4
        lia
      refine⟨_,rfl,_,c,rfl,⟨a,rfl,s1.seq hc⟩,h4',h0,hg.all,fun H2 s2=>?_⟩
      have e:=k H2 (s1.trans s2)
      rw[isField_four h3' h4',Bool.not_not] at e
      exact e
    · have h4':c.length≠4:=fun z=>h4 (decide_eq_true (by rw[z];rfl))
      have e:=k H1 s1
      rw[isField_rest hn1 h3' h4'] at e
      exact e
def sp_field_refusal (K:PySem.W.Frag):Sp:=fun vs H Q _=>∃ (v:V) (c:List Int),vs=[v]∧IL K H v c∧c.length≤1000∧∀ H':Hp,Same H H'→Q (.int (refusal c)) H'
theorem sc_field_refusal:FnScope ["field"] ["field"] (defScope s_field_refusal):=⟨rfl,rfl,rfl,by decide +kernel,rfl,by decide +kernel,by decide +kernel⟩
theorem ok_field_refusal {P:Program}{w:World}{K:PySem.W.Frag}{mg:Str→Option Value}{base:Heap}{f:Addr}{fd:FuncData} (F:Fun K "field_refusal" "field_refusal" s_field_refusal f fd) (O:Own mg) (C_is_told_rightly:Cal P w K mg base 1 "is_told_rightly" ["field"] (sp_is_told_rightly K)) (C_is_product:Cal P w K mg base 3 "is_product" ["field"] (sp_is_product K)) :
    FnOk P w K mg base CX0 4 f fd ["field"] (sp_field_refusal K):=by
  refine F.ok sc_field_refusal (fun vs H Q E h=>?_) (fun cdv A outer s H vs Q E hr h=>?_)
  · obtain⟨v,c,rfl,_⟩:=h
    rfl
  · obtain⟨v,c,rfl,⟨a,rfl,hc⟩,hl,k⟩:=h
    refine⟨_,(pss_cons (ps_if (pt_not (pt_val (pe_cal C_is_told_rightly (hr.mono (by decide)) (by rfl) (pa_cons (pv 0) pa_nil)))) (pss_one (ps_ret (pe_un un_neg pe_int))) pss_nil)
      (pss_cons (ps_if (pt_val (pe_cal C_is_product (hr.mono (by decide)) (by rfl) (pa_cons (pv 0) pa_nil))) (pss_one (ps_ret (pe_un un_neg pe_int))) pss_nil)
      (pss_one (ps_ret pe_int)))),?_⟩
    refine⟨_,rfl,_,c,rfl,⟨a,rfl,hc⟩,hl,fun H1 s1=>⟨_,rfl,?_⟩⟩
    refine ite2 (fun h1=>?_) (fun h1=>?_)
    · rw[Bool.not_not] at h1
      have e:=k H1 s1
      unfold refusal at e
      rw[if_pos h1] at e
      exact⟨_,rfl,e⟩
    rw[Bool.not_not] at h1
    have h1':badField c=false:=by
      cases z:badField c with
      | false=>rfl
      | true=>exact absurd z h1
    refine⟨_,rfl,_,c,rfl,⟨a,rfl,s1.seq hc⟩,good_of h1',fun H2 s2=>⟨_,rfl,?_⟩⟩
    refine ite2 (fun h2=>?_) (fun h2=>?_)
    · have e:=k H2 (s1.trans s2)
      unfold refusal at e
      rw[if_neg h1,if_neg (by intro z;rw[z] at h2;cases h2)] at e
      exact⟨_,rfl,e⟩
    · have e:=k H2 (s1.trans s2)
      unfold refusal at e
      rw[if_neg h1,if_pos (by
        cases z:Root.isField c with
        | true=>rfl
        | false=>rw[z] at h2;exact absurd rfl h2)] at e
      exact e
def sp_is_digit:Sp:=fun vs H Q _=>∃ c:Int,vs=[.int c]∧∀ H':Hp,Same H H'→Q (.bl (dig c)) H'
theorem sc_is_digit:FnScope ["byte"] ["byte"] (defScope s_is_digit):=⟨rfl,rfl,rfl,by decide +kernel,rfl,by decide +kernel,by decide +kernel⟩
theorem ok_is_digit {P:Program}{w:World}{K:PySem.W.Frag}{mg:Str→Option Value}{base:Heap}{f:Addr}{fd:FuncData} (F:Fun K "is_digit" "is_digit" s_is_digit f fd) (O:Own mg) (c_DIGIT_0:Kst mg "DIGIT_0" 48) (c_DIGIT_9:Kst mg "DIGIT_9" 57) :
    FnOk P w K mg base CX0 1 f fd ["byte"] sp_is_digit:=by
  refine F.ok sc_is_digit (fun vs H Q E h=>?_) (fun cdv A outer s H vs Q E hr h=>?_)
  · obtain⟨c,rfl,_⟩:=h
    rfl
  · obtain⟨c,rfl,k⟩:=h
    refine⟨_,(pss_one (ps_ret (pe_chain op_le op_le (pe_globK (by rfl) c_DIGIT_0) (pv 0) (pe_globK (by rfl) c_DIGIT_9)))),?_⟩
    refine⟨_,rfl,_,_,rfl,rfl,_,rfl,?_⟩
    have e:=k H (Same.refl H)
    unfold dig at e
    by_cases h1:(48:Int)≤c
    · rw[decide_eq_true h1]
      rw[decide_eq_true h1,Bool.true_and] at e
      exact⟨_,_,rfl,rfl,e⟩
    · rw[decide_eq_false h1]
      rw[decide_eq_false h1,Bool.false_and] at e
      exact e
theorem sk_step {T:List Int}{p:Nat} (h:p<T.length) (e:T.getD p 0=32):nx T p=nx T (p+1):=by
  rw[List.getD_eq_getElem?_getD,List.getElem?_eq_getElem h] at e
  have e':T[p]=32:=e
  unfold nx
  rw[List.drop_eq_getElem_cons h]
  show (if T[p]=32 then sk (T.drop (p+1)) (p+1) else p)=_
  rw[if_pos e']
theorem sk_stop {T:List Int}{p:Nat} (h:p<T.length) (e:T.getD p 0≠32):nx T p=p∧atT T p=T.getD p 0:=by
  rw[List.getD_eq_getElem?_getD,List.getElem?_eq_getElem h] at e
  have e':T[p]≠32:=e
  refine⟨?_,?_⟩
  · unfold nx
    rw[List.drop_eq_getElem_cons h]
    unfold sk
    rw[if_neg e']
  · unfold atT
    rw[List.getD_eq_getElem?_getD,List.getD_eq_getElem?_getD,List.getElem?_eq_getElem h]
    rfl
theorem sk_end {T:List Int}{p:Nat} (h:p=T.length):nx T p=p∧atT T p=256:=by
  subst h
  refine⟨?_,?_⟩
  · unfold nx
    rw[List.drop_length]
    rfl
  · unfold atT
    rw[List.getD_eq_getElem?_getD,List.getElem?_eq_none (Nat.le_refl _)]
    rfl
def sp_ahead (K:PySem.W.Frag) (R:Addr):Sp:=fun vs H Q _=>∃ (a l ta:Addr) (T:List Int) (p d:Nat) (S:List Stp),vs=[.ref a]∧RdAt K R H a l ta T p d S∧∀ H':Hp,RdAt K R H' a l ta T (nx T p) d S→KeptR H H' a l→Q (.int (atT T (nx T p))) H'
theorem sc_Reader_ahead:FnScope ["self"] ["self"] (defScope s_Reader_ahead):=⟨rfl,rfl,rfl,by decide +kernel,rfl,by decide +kernel,by decide +kernel⟩
theorem ok_Reader_ahead {P:Program}{w:World}{K:PySem.W.Frag}{mg:Str→Option Value}{base:Heap}{f R C:Addr}{fd:FuncData} (F:Fun K "ahead" "Reader.ahead" s_Reader_ahead f fd) (O:Own mg) (T:RTxt K mg R C) (c_SPACE:Kst mg "SPACE" 32) (c_END:Kst mg "END" 256) :
    FnOk P w K mg base CX0 1 f fd ["self"] (sp_ahead K R):=by
  refine F.ok sc_Reader_ahead (fun vs H Q E h=>?_) (fun cdv A outer s H vs Q E hr h=>?_)
  · obtain⟨a,l,ta,tx,p,d,S,rfl,_⟩:=h
    rfl
  · obtain⟨a,l,ta,tx,p,d,S,rfl,r,k⟩:=h
    refine⟨_,(pss_cons (ps_while PassesOwn.never (PW.pt (pw_and (pt_cmpR op_lt (pe_fld (pv 0) rfl) (pe_callB (call_lenK (K:=K) rfl) (by rfl) O.len_ bt_len (pa_cons (pe_fld (pv 0) rfl) pa_nil)) (nomark _)) (pw_and1 (pt_cmpR op_eq (pe_ix (ix_listK (K:=K) rfl) (pe_fld (pv 0) rfl) (pe_fld (pv 0) rfl) (fun _ _=>rfl)) (pe_globK (by rfl) c_SPACE) (nomark _))))) (pss_one (ps_fldaug (pv 0) pe_int in_add)))
      (pss_cons (ps_if (pt_cmpR op_eq (pe_fld (pv 0) rfl) (pe_callB (call_lenK (K:=K) rfl) (by rfl) O.len_ bt_len (pa_cons (pe_fld (pv 0) rfl) pa_nil)) (nomark _)) (pss_one (ps_ret (pe_globK (by rfl) c_END))) pss_nil)
      (pss_one (ps_ret (pe_ix (ix_listK (K:=K) rfl) (pe_fld (pv 0) rfl) (pe_fld (pv 0) rfl) (fun _ _=>rfl)))))),?_⟩
    refine while_by (fun σ H'=>σ=[some (.ref a)]∧∃ q:Nat,p≤q∧RdAt K R H' a l ta tx q d S∧nx tx p=nx tx q∧KeptR H H' a l)
      (fun σ H'=>match H' a with | some (.ins _ _ [_,(_,.int q),_,_])=>tx.length-q.toNat | _=>0)
      ⟨rfl,p,Nat.le_refl _,r,rfl,KeptR.refl⟩ ?_ ?_
    · rintro σ H1 ⟨rfl,q,hq,r1,e1,k1⟩
      obtain⟨dx,ha⟩:=r1.obj
      have hpl:=r1.pl
      refine⟨_,rfl,a,R,dx,_,_,rfl,ha,T.cl,T.nP,rfl,_,rfl,a,R,dx,_,_,rfl,ha,T.cl,T.nT,rfl,ta,_,rfl,.inl r1.txt,_,_,rfl,rfl,_,rfl,?_⟩
      rw[List.length_map]
      refine ite2 (fun h1=>?_) (fun h1=>?_)
      · have hlt:q<tx.length:=by
          have:=of_decide_eq_true h1
          lia
        refine⟨_,rfl,a,R,dx,_,_,rfl,ha,T.cl,T.nT,rfl,_,rfl,a,R,dx,_,_,rfl,ha,T.cl,T.nP,rfl,ta,_,_,_,rfl,rfl,r1.txt,at_getD (j:=q) rfl hlt,rfl,_,rfl,?_⟩
        rw[dec_int]
        refine ite2 (fun h2=>?_) (fun h2=>?_)
        · have e2:tx.getD q 0=32:=of_decide_eq_true h2
          refine⟨_,rfl,a,R,dx,_,_,rfl,ha,T.cl,T.nP,rfl,_,_,rfl,rfl,dx,_,ha,(by show 4<1000;decide),?_⟩
          rw[show ((q:Int)+1)=((q+1:Nat):Int) from rfl,rf_put]
          refine⟨⟨rfl,q+1,by lia,r1.put ha (by lia) hlt,e1.trans (sk_step hlt e2),k1.upd_a⟩,?_⟩
          rw[ha,upd_same]
          show tx.length-((q+1:Nat):Int).toNat<tx.length-((q:Nat):Int).toNat
          rw[Int.toNat_natCast,Int.toNat_natCast]
          lia
        · have e2:tx.getD q 0≠32:=fun z=>h2 (decide_eq_true z)
          obtain⟨g1,g2⟩:=sk_stop hlt e2
          refine⟨_,rfl,a,R,dx,_,_,rfl,ha,T.cl,T.nP,rfl,_,rfl,a,R,dx,_,_,rfl,ha,T.cl,T.nT,rfl,ta,_,rfl,.inl r1.txt,rfl,_,rfl,?_⟩
          rw[List.length_map,dec_int,decide_eq_false (by lia)]
          refine iteF ?_
          refine⟨_,rfl,a,R,dx,_,_,rfl,ha,T.cl,T.nT,rfl,_,rfl,a,R,dx,_,_,rfl,ha,T.cl,T.nP,rfl,ta,_,_,_,rfl,rfl,r1.txt,at_getD (j:=q) rfl hlt,?_⟩
          rw[←g2]
          rw[e1,g1] at k
          exact k H1 r1 k1
      · have hq2:q=tx.length:=by
          have:¬ (q:Int)<(tx.length:Int):=fun z=>h1 (decide_eq_true z)
          lia
        obtain⟨g1,g2⟩:=sk_end hq2
        refine⟨_,rfl,a,R,dx,_,_,rfl,ha,T.cl,T.nP,rfl,_,rfl,a,R,dx,_,_,rfl,ha,T.cl,T.nT,rfl,ta,_,rfl,.inl r1.txt,rfl,_,rfl,?_⟩
        rw[List.length_map,dec_int,decide_eq_true (by lia)]
        refine iteT ?_
        rw[e1,g1,g2] at k
        exact k H1 r1 k1
    · (repeat first | exact MonoE.var | exact MonoE.c | exact MonoE.fld | exact MonoR.i0 | exact MonoR.i | exact MonoR.eq | exact MonoR.ix | exact MonoL.len | exact MonoA.nil | apply Mono.test | apply Mono.and | apply MonoE.cb | apply MonoE.op | apply MonoA.cons)
theorem dg_step {T:List Int}{most k q:Nat}{n:Int} (h:q<T.length) (hd:dig (T.getD q 0)=true):dg most k n (T.drop q) q=if k=most then .error q else dg most (k+1) (n*10+T.getD q 0-48) (T.drop (q+1)) (q+1):=by
  have e:T.getD q 0=T[q]:=by rw[List.getD_eq_getElem?_getD,List.getElem?_eq_getElem h];rfl
  rw[e] at hd ⊢
  rw[List.drop_eq_getElem_cons h]
  show (if dig T[q]=true then _ else _)=_
  rw[if_pos hd]
theorem dg_stop {T:List Int}{most k q:Nat}{n:Int} (h:q<T.length) (hd:dig (T.getD q 0)=false):dg most k n (T.drop q) q=.ok (n,q):=by
  have e:T.getD q 0=T[q]:=by rw[List.getD_eq_getElem?_getD,List.getElem?_eq_getElem h];rfl
  rw[e] at hd
  rw[List.drop_eq_getElem_cons h]
  show (if dig T[q]=true then _ else _)=_
  rw[if_neg (by rw[hd];decide)]
theorem dg_end {T:List Int}{most k q:Nat}{n:Int} (h:q=T.length):dg most k n (T.drop q) q=.ok (n,q):=by
  subst h
  rw[List.drop_length]
  unfold dg
  rfl
def sp_read_digits (K:PySem.W.Frag) (R:Addr):Sp:=fun vs H Q E=>∃ (a l ta:Addr) (T:List Int) (p d most:Nat) (S:List Stp),vs=[.ref a,.int most]∧RdAt K R H a l ta T p d S ∧
  Out (rdg T most p) E fun r=>∀ H':Hp,RdAt K R H' a l ta T r.2 d S→KeptR H H' a l→Q (.int r.1) H'
theorem sc_Reader_read_digits:FnScope ["self","most","start","number"] ["self","most"] (defScope s_Reader_read_digits):=⟨rfl,rfl,rfl,by decide +kernel,rfl,by decide +kernel,by decide +kernel⟩
theorem ok_Reader_read_digits {P:Program}{w:World}{K:PySem.W.Frag}{mg:Str→Option Value}{base:Heap}{f R C NC fI:Addr}{fd:FuncData} (F:Fun K "read_digits" "Reader.read_digits" s_Reader_read_digits f fd) (O:Own mg) (T:RTxt K mg R C) (FO:FaultOk K C NC fI s_Fault___init__) (c_DIGIT_0:Kst mg "DIGIT_0" 48)
    (C_is_digit:Cal P w K mg base 1 "is_digit" ["byte"] sp_is_digit) (M_ahead:Mth P w K mg base CX0 1 R "ahead" ["self"] (sp_ahead K R)) :
    FnOk P w K mg base (CXF P w C) 4 f fd ["self","most"] (sp_read_digits K R):=by
  refine okF F sc_Reader_read_digits (fun vs H Q E h=>?_) (fun cdv A outer s H vs Q E hr h=>?_)
  · obtain⟨a,l,ta,tx,p,d,most,S,rfl,_⟩:=h
    rfl
  · obtain⟨a,l,ta,tx,p,d,most,S,rfl,r,k⟩:=h
    refine⟨_,(pss_cons (ps_if (pt_not (pt_val (pe_cal C_is_digit (hr.mono (by decide)) (by rfl) (pa_cons (pe_mth0 M_ahead T.cl (hr.mono (by decide)) (pv 0)) pa_nil)))) (pss_one (ps_raise FO (hr.mono (by decide)) (by rfl) T.mgF (pe_fld (pv 0) rfl))) pss_nil)
      (pss_cons (ps_set (i:=2) sc_Reader_read_digits.nd rfl (by first | exact Or.inl rfl | exact Or.inr rfl) (pe_fld (pv 0) rfl))
      (pss_cons (ps_set (i:=3) sc_Reader_read_digits.nd rfl (by first | exact Or.inl rfl | exact Or.inr rfl) pe_int)
      (pss_cons (ps_while PassesOwn.leaving (PW.pt (pw_and (pt_cmpR op_lt (pe_fld (pv 0) rfl) (pe_callB (call_lenK (K:=K) rfl) (by rfl) O.len_ bt_len (pa_cons (pe_fld (pv 0) rfl) pa_nil)) (nomark _)) (pw_and1 (pt_val (pe_cal C_is_digit (hr.mono (by decide)) (by rfl) (pa_cons (pe_ix (ix_listK (K:=K) rfl) (pe_fld (pv 0) rfl) (pe_fld (pv 0) rfl) (fun _ _=>rfl)) pa_nil)))))) (pss_cons (ps_if (pt_cmpR op_eq (pe_op op_sub (pe_fld (pv 0) rfl) (pv 2)) (pv 1) (nomark _)) (pss_one (ps_raise FO (hr.mono (by decide)) (by rfl) T.mgF (pe_fld (pv 0) rfl))) pss_nil)
      (pss_cons (ps_set (i:=3) sc_Reader_read_digits.nd rfl (by first | exact Or.inl rfl | exact Or.inr rfl) (pe_op op_sub (pe_op op_add (pe_op op_mul (pv 3) pe_int) (pe_ix (ix_listK (K:=K) rfl) (pe_fld (pv 0) rfl) (pe_fld (pv 0) rfl) (fun _ _=>rfl))) (pe_globK (by rfl) c_DIGIT_0)))
      (pss_one (ps_fldaug (pv 0) pe_int in_add)))))
      (pss_one (ps_ret (pv 3))))))),?_⟩
    obtain⟨dx,ha⟩:=r.obj
    refine⟨_,rfl,a,dx,_,rfl,ha,rfl,a,l,ta,tx,p,d,S,rfl,r,fun H1 r1 k1=>?_⟩
    refine⟨_,rfl,fun H2 s2=>⟨_,rfl,?_⟩⟩
    have r2:=r1.same s2
    have k2:KeptR H H2 a l:=k1.trans (Same.keptR s2)
    obtain⟨dx2,ha2⟩:=r2.obj
    unfold rdg at k
    show if (!dig (atT tx (nx tx p)))=true then _ else _
    by_cases hd:dig (atT tx (nx tx p))=true
    · rw[if_pos hd] at k
      rw[hd]
      refine iteF ?_
      have hlt:=atT_lt (dig_ne hd)
      refine⟨_,rfl,a,R,dx2,_,_,rfl,ha2,T.cl,T.nP,rfl,?_⟩
      refine while_by (fun σ H'=>∃ (q:Nat) (n:Int),σ=[some (.ref a),some (.int most),some (.int (nx tx p)),some (.int n)]∧nx tx p≤q∧q-nx tx p≤most∧RdAt K R H' a l ta tx q d S∧dg most 0 0 (tx.drop (nx tx p)) (nx tx p)=dg most (q-nx tx p) n (tx.drop q) q∧KeptR H H' a l)
        (fun σ H'=>tx.length-plAt H' a)
        ⟨nx tx p,0,rfl,Nat.le_refl _,by lia,r2,by rw[Nat.sub_self],k2⟩ ?_ ?_
      · rintro σ H3 ⟨q,n,rfl,hq,hm,r3,e3,k3⟩
        obtain⟨dx3,ha3⟩:=r3.obj
        have hpl:=r3.pl
        refine⟨_,rfl,a,R,dx3,_,_,rfl,ha3,T.cl,T.nP,rfl,_,rfl,a,R,dx3,_,_,rfl,ha3,T.cl,T.nT,rfl,ta,_,rfl,.inl r3.txt,_,_,rfl,rfl,_,rfl,?_⟩
        rw[List.length_map]
        refine ite2 (fun h1=>?_) (fun h1=>?_)
        · have hlq:q<tx.length:=by
            have:=of_decide_eq_true h1
            lia
          refine⟨_,rfl,a,R,dx3,_,_,rfl,ha3,T.cl,T.nT,rfl,_,rfl,a,R,dx3,_,_,rfl,ha3,T.cl,T.nP,rfl,ta,_,_,_,rfl,rfl,r3.txt,at_getD (j:=q) rfl hlq,_,rfl,fun H4 s4=>⟨_,rfl,?_⟩⟩
          have r4:=r3.same s4
          have k4:KeptR H H4 a l:=k3.trans (Same.keptR s4)
          obtain⟨dx4,ha4⟩:=r4.obj
          refine ite2 (fun h2=>?_) (fun h2=>?_)
          · rw[dg_step hlq h2] at e3
            refine⟨_,rfl,a,R,dx4,_,_,rfl,ha4,T.cl,T.nP,rfl,_,rfl,_,_,rfl,rfl,_,rfl,rfl,_,rfl,?_⟩
            rw[dec_int]
            refine ite2 (fun h3=>?_) (fun h3=>?_)
            · have hk:q-nx tx p=most:=by
                have:=of_decide_eq_true h3
                lia
              rw[if_pos hk] at e3
              rw[e3] at k
              exact⟨_,rfl,a,R,dx4,_,_,rfl,ha4,T.cl,T.nP,rfl,_,rfl,k H4⟩
            · have hk:q-nx tx p≠most:=fun z=>h3 (decide_eq_true (by lia))
              rw[if_neg hk] at e3
              refine⟨_,rfl,_,_,rfl,rfl,.inr ⟨by decide,by decide⟩,_,rfl,a,R,dx4,_,_,rfl,ha4,T.cl,T.nT,rfl,_,rfl,a,R,dx4,_,_,rfl,ha4,T.cl,T.nP,rfl,ta,_,_,_,rfl,rfl,r4.txt,at_getD (j:=q) rfl hlq,_,_,rfl,rfl,_,_,rfl,rfl,?_⟩
              refine⟨_,rfl,a,R,dx4,_,_,rfl,ha4,T.cl,T.nP,rfl,_,_,rfl,rfl,dx4,_,ha4,(by show 4<1000;decide),?_⟩
              rw[show ((q:Int)+1)=((q+1:Nat):Int) from rfl,rf_put]
              refine⟨⟨q+1,_,rfl,by lia,by lia,r4.put ha4 (by lia) hlq,?_,k4.upd_a⟩,?_⟩
              · rw[e3]
                have:q+1-nx tx p=q-nx tx p+1:=by lia
                rw[this]
              · rw[plAt_is (upd_same),plAt_is ha3]
                lia
          · have h2':dig (tx.getD q 0)=false:=by
              cases z:dig (tx.getD q 0) with
              | true=>exact absurd z h2
              | false=>rfl
            rw[dg_stop hlq h2'] at e3
            rw[e3] at k
            exact⟨_,rfl,k H4 r4 k4⟩
        · have hq2:q=tx.length:=by
            have:¬ (q:Int)<(tx.length:Int):=fun z=>h1 (decide_eq_true z)
            lia
          rw[dg_end hq2] at e3
          rw[e3] at k
          exact⟨_,rfl,k H3 r3 k3⟩
      · (repeat first | exact MonoE.var | exact MonoE.c | exact MonoE.fld | exact MonoR.i0 | exact MonoR.i | exact MonoR.eq | exact MonoR.ix | exact MonoL.len | exact MonoA.nil | exact sp_is_digit_mono | apply Mono.test | apply Mono.and | (refine MonoE.call sp_is_digit_mono ?_) | apply MonoE.cb | apply MonoE.op | apply MonoA.cons)
    · rw[if_neg hd] at k
      have hd':dig (atT tx (nx tx p))=false:=by
        cases z:dig (atT tx (nx tx p)) with
        | true=>exact absurd z hd
        | false=>rfl
      rw[hd']
      refine iteT ?_
      exact⟨_,rfl,a,R,dx2,_,_,rfl,ha2,T.cl,T.nP,rfl,_,rfl,k H2⟩
def sp_go_deeper (K:PySem.W.Frag) (R:Addr):Sp:=fun vs H Q E=>∃ (a l ta:Addr) (T:List Int) (p d:Nat) (S:List Stp),vs=[.ref a]∧RdAt K R H a l ta T p d S∧p<T.length∧d≤16 ∧
  Out (if d=16 then Except.error p else Except.ok ()) E fun _=>∀ H':Hp,RdAt K R H' a l ta T (p+1) (d+1) S→KeptR H H' a l→Q .non H'
theorem sc_Reader_go_deeper:FnScope ["self"] ["self"] (defScope s_Reader_go_deeper):=⟨rfl,rfl,rfl,by decide +kernel,rfl,by decide +kernel,by decide +kernel⟩
theorem ok_Reader_go_deeper {P:Program}{w:World}{K:PySem.W.Frag}{mg:Str→Option Value}{base:Heap}{f R C NC fI:Addr}{fd:FuncData} (F:Fun K "go_deeper" "Reader.go_deeper" s_Reader_go_deeper f fd) (T:RTxt K mg R C) (FO:FaultOk K C NC fI s_Fault___init__) (c_DEEPEST:Kst mg "DEEPEST" 16) :
    FnOk P w K mg base (CXF P w C) 4 f fd ["self"] (sp_go_deeper K R):=by
  refine okF F sc_Reader_go_deeper (fun vs H Q E h=>?_) (fun cdv A outer s H vs Q E hr h=>?_)
  · obtain⟨a,l,ta,tx,p,d,S,rfl,_⟩:=h
    rfl
  · obtain⟨a,l,ta,tx,p,d,S,rfl,r,hp,hd,k⟩:=h
    refine⟨_,(pss_cons (ps_if (pt_cmpR op_eq (pe_fld (pv 0) rfl) (pe_globK (by rfl) c_DEEPEST) (nomark _)) (pss_one (ps_raise FO (hr.mono (by decide)) (by rfl) T.mgF (pe_fld (pv 0) rfl))) pss_nil)
      (pss_cons (ps_fldaug (pv 0) pe_int in_add)
      (pss_one (ps_fldaug (pv 0) pe_int in_add)))),?_⟩
    obtain⟨dx,ha⟩:=r.obj
    refine⟨_,rfl,a,R,dx,_,_,rfl,ha,T.cl,T.nD,rfl,rfl,_,rfl,?_⟩
    rw[dec_int]
    refine ite2 (fun h1=>?_) (fun h1=>?_)
    · have e1:d=16:=by
        have:=of_decide_eq_true h1
        lia
      rw[if_pos e1] at k
      exact⟨_,rfl,a,R,dx,_,_,rfl,ha,T.cl,T.nP,rfl,_,rfl,k H⟩
    · have e1:d≠16:=fun z=>h1 (decide_eq_true (by lia))
      rw[if_neg e1] at k
      refine⟨_,rfl,a,R,dx,_,_,rfl,ha,T.cl,T.nD,rfl,_,_,rfl,rfl,dx,_,ha,(by show 4<1000;decide),?_⟩
      rw[show ((d:Int)+1)=((d+1:Nat):Int) from rfl,rf_putD]
      have r1:=r.put (d':=d+1) ha (Nat.le_refl _) (Nat.le_of_lt hp)
      have ha1:upd H a (.ins R dx (rf ta l p (d+1))) a=some (.ins R dx (rf ta l p (d+1))):=upd_same
      refine⟨_,rfl,a,R,dx,_,_,rfl,ha1,T.cl,T.nP,rfl,_,_,rfl,rfl,dx,_,ha1,(by show 4<1000;decide),?_⟩
      rw[show ((p:Int)+1)=((p+1:Nat):Int) from rfl,rf_put]
      exact k _ (r1.put ha1 (Nat.le_succ _) hp) KeptR.refl.upd_a.upd_a
theorem sc_Reader_read_power:FnScope ["self"] ["self"] (defScope s_Reader_read_power):=⟨rfl,rfl,rfl,by decide +kernel,rfl,by decide +kernel,by decide +kernel⟩
theorem ok_Reader_read_power {P:Program}{w:World}{K:PySem.W.Frag}{mg:Str→Option Value}{base:Heap}{f R C:Addr}{fd:FuncData} (j:Nat) (F:Fun K "read_power" "Reader.read_power" s_Reader_read_power f fd) (T:RTxt K mg R C) (c_CARET:Kst mg "CARET" 94) (c_MOST_DIGITS_OF_POWER:Kst mg "MOST_DIGITS_OF_POWER" 2)
    (M_ahead:Mth P w K mg base CX0 1 R "ahead" ["self"] (sp_ahead K R)) (M_read_digits:Mth P w K mg base (CXF P w C) 4 R "read_digits" ["self","most"] (sp_read_digits K R)) (M_read_atom:Mth P w K mg base (CXF P w C) (4*j+5) R "read_atom" ["self"] (sp_part K R .atom j)) :
    FnOk P w K mg base (CXF P w C) (4*j+6) f fd ["self"] (sp_part K R .power j):=by
  refine okF F sc_Reader_read_power (fun vs H Q E h=>sp_part_len h) (fun cdv A outer s H vs Q E hr h=>?_)
  cases j with
  | zero=>exact h.elim
  | succ j =>
    obtain⟨a,l,ta,tx,p,d,f,S,rfl,r,hj,hf,k⟩:=h
    obtain⟨f,rfl⟩:∃ f',f=f'+1:=⟨f-1,by rw[need_power] at hf;lia⟩
    have hf':need tx .atom p≤f:=by rw[need_power] at hf;rw[need_atom];lia
    refine⟨_,(pss_cons (ps_expr (pe_mthF0 M_read_atom T.cl (hr.mono (by lia)) (pv 0)))
      (pss_one (ps_if (pt_cmpR op_eq (pe_mth0 M_ahead T.cl (hr.mono (by lia)) (pv 0)) (pe_globK (by rfl) c_CARET) (nomark _)) (pss_cons (ps_fldaug (pv 0) pe_int in_add)
      (pss_one (ps_expr (pe_bm PySem.F.plainAttrs_list PySem.F.slot_list_append PySem.F.type_list_append mt_append (pe_fld (pv 0) rfl) (pa_cons (pe_tup (pa_cons pe_str (pa_cons (pe_mthF1 M_read_digits T.cl (hr.mono (by lia)) (pv 0) (pa_cons (pe_globK (by rfl) c_MOST_DIGITS_OF_POWER) pa_nil)) pa_nil))) pa_nil))))) pss_nil))),?_⟩
    obtain⟨dx,ha⟩:=r.obj
    unfold rd at k
    refine⟨_,rfl,a,dx,_,rfl,ha,rfl,a,l,ta,tx,p,d,f,S,rfl,r,hj,hf',?_⟩
    cases e1:rd tx f .atom d p with
    | error e=>rw[e1] at k;exact k
    | ok q =>
      obtain⟨S1,p1⟩:=q
      rw[e1] at k
      dsimp only at k
      have g1:=rd_len tx f .atom d p S1 p1 r.pl e1
      intro H1 r1 k1
      dsimp only at r1
      obtain⟨dx1,ha1⟩:=r1.obj
      refine⟨_,rfl,a,dx1,_,rfl,ha1,rfl,a,l,ta,tx,p1,d,S++S1,rfl,r1,fun H2 r2 k2'=>?_⟩
      have k2:=k1.trans k2'
      refine⟨rfl,_,rfl,?_⟩
      rw[dec_int]
      obtain⟨dx2,ha2⟩:=r2.obj
      refine ite2 (fun h1=>?_) (fun h1=>?_)
      · have hc:atT tx (nx tx p1)=94:=of_decide_eq_true h1
        rw[if_pos hc] at k
        have hlt:nx tx p1<tx.length:=atT_lt (by lia)
        have hnx:=nx_le r1.pl
        refine⟨_,rfl,a,R,dx2,_,_,rfl,ha2,T.cl,T.nP,rfl,_,_,rfl,rfl,dx2,_,ha2,(by show 4<1000;decide),?_⟩
        rw[show ((nx tx p1:Int)+1)=((nx tx p1+1:Nat):Int) from rfl,rf_put]
        have r3:=r2.put (d':=d) ha2 (Nat.le_succ _) hlt
        have ha3:upd H2 a (.ins R dx2 (rf ta l (nx tx p1+1) d)) a=some (.ins R dx2 (rf ta l (nx tx p1+1) d)):=upd_same
        have k3:KeptR H (upd H2 a (.ins R dx2 (rf ta l (nx tx p1+1) d))) a l:=k2.upd_a
        refine⟨_,rfl,a,R,dx2,_,_,rfl,ha3,T.cl,T.nS,rfl,?_⟩
        obtain⟨ts,hl1,hl2⟩:=r3.stp
        refine⟨.inl ⟨rfl,_,SqL.of hl1⟩,_,rfl,a,dx2,_,rfl,ha3,rfl,a,l,ta,tx,nx tx p1+1,d,2,S++S1,rfl,r3,?_⟩
        cases e2:rdg tx 2 (nx tx p1+1) with
        | error e=>rw[e2] at k;exact k
        | ok q2 =>
          obtain⟨kk,p2⟩:=q2
          rw[e2] at k
          dsimp only at k
          have g2:=rdg_le (by lia) (by decide) e2
          have hsz:S.length≤p:=r.few
          intro H4 r4 k4
          refine⟨(by show 2≤sizeLine;decide),fun t ht=>?_⟩
          obtain⟨xs,h1,h2,h3⟩:=r4.step (s:=(Wd.raise_,kk)) (k3.trans k4) (by rw[List.length_append];lia) (D:=fun H'=>Q .non H') (fun H' r' kk'=>k H' (by rw[←List.append_assoc];exact r') kk') t ht
          exact⟨l,xs,_,rfl,rfl,h1,h2,h3⟩
      · have hc:atT tx (nx tx p1)≠94:=fun z=>h1 (decide_eq_true z)
        rw[if_neg hc] at k
        exact k H2 r2 k2
theorem sp_ahead_mono (K:PySem.W.Frag) (R:Addr) (vs:List V) (H:Hp) (Q Q':VK) (hq:∀ v H1,Q v H1→Q' v H1) (h:sp_ahead K R vs H Q E0):sp_ahead K R vs H Q' E0 :=
  let ⟨a,l,ta,T,p,d,S,e,r,k⟩:=h;⟨a,l,ta,T,p,d,S,e,r,fun H' r' k'=>hq _ _ (k H' r' k')⟩
theorem sc_Reader_read_product:FnScope ["self","word"] ["self"] (defScope s_Reader_read_product):=⟨rfl,rfl,rfl,by decide +kernel,rfl,by decide +kernel,by decide +kernel⟩
theorem ok_Reader_read_product {P:Program}{w:World}{K:PySem.W.Frag}{mg:Str→Option Value}{base:Heap}{f R C:Addr}{fd:FuncData} (j:Nat) (F:Fun K "read_product" "Reader.read_product" s_Reader_read_product f fd) (T:RTxt K mg R C) (c_STAR:Kst mg "STAR" 42) (c_SLASH:Kst mg "SLASH" 47)
    (M_ahead:Mth P w K mg base CX0 1 R "ahead" ["self"] (sp_ahead K R)) (M_read_power:Mth P w K mg base (CXF P w C) (4*j+6) R "read_power" ["self"] (sp_part K R .power j)) :
    FnOk P w K mg base (CXF P w C) (4*j+7) f fd ["self"] (sp_part K R .prod j):=by
  refine okF F sc_Reader_read_product (fun vs H Q E h=>sp_part_len h) (fun cdv A outer s H vs Q E hr h=>?_)
  cases j with
  | zero=>exact h.elim
  | succ j =>
    obtain⟨a,l,ta,tx,p,d,f,S,rfl,r,hj,hf,k⟩:=h
    obtain⟨f,rfl⟩:∃ f',f=f'+1:=⟨f-1,by rw[need_prod] at hf;lia⟩
    have hf':need tx .power p≤f:=by rw[need_prod] at hf;rw[need_power];lia
    refine⟨_,(pss_cons (ps_expr (pe_mthF0 M_read_power T.cl (hr.mono (by lia)) (pv 0)))
      (pss_one (ps_while PassesOwn.leaving (pt_cmpR (op_inK (K:=K) rfl) (pe_mth0 M_ahead T.cl (hr.mono (by lia)) (pv 0)) (pe_tup (pa_cons (pe_globK (by rfl) c_STAR) (pa_cons (pe_globK (by rfl) c_SLASH) pa_nil))) (by with_unfolding_all rfl)) (pss_cons (ps_set (i:=1) sc_Reader_read_product.nd rfl (by first | exact Or.inl rfl | exact Or.inr rfl) (pe_ifExp (pt_cmpR op_eq (pe_mth0 M_ahead T.cl (hr.mono (by lia)) (pv 0)) (pe_globK (by rfl) c_STAR) (nomark _)) pe_str pe_str))
      (pss_cons (ps_fldaug (pv 0) pe_int in_add)
      (pss_cons (ps_expr (pe_mthF0 M_read_power T.cl (hr.mono (by lia)) (pv 0)))
      (pss_one (ps_expr (pe_bm PySem.F.plainAttrs_list PySem.F.slot_list_append PySem.F.type_list_append mt_append (pe_fld (pv 0) rfl) (pa_cons (pe_tup (pa_cons (pv 1) (pa_cons pe_int pa_nil))) pa_nil)))))))))),?_⟩
    obtain⟨dx,ha⟩:=r.obj
    unfold rd at k
    refine⟨_,rfl,a,dx,_,rfl,ha,rfl,a,l,ta,tx,p,d,f,S,rfl,r,hj,hf',?_⟩
    cases e1:rd tx f .power d p with
    | error e=>rw[e1] at k;exact k
    | ok q =>
      obtain⟨S1,p1⟩:=q
      rw[e1] at k
      dsimp only at k
      have g1:=rd_len tx f .power d p S1 p1 r.pl e1
      have g2:p<p1∧p1≤tx.length:=rd_le tx f .power d p S1 p1 r.pl e1
      have hk:Out (pre S1 (rd tx f .prods d p1)) E fun r=>∀ H':Hp,RdAt K R H' a l ta tx r.2 d (S++r.1)→KeptR H H' a l→Q .non H':=by
        cases e2:rd tx f .prods d p1 with
        | error e=>rw[e2] at k;exact k
        | ok q2=>obtain⟨S2,p2⟩:=q2;rw[e2] at k;exact k
      intro H1 r1 k1
      dsimp only at r1
      have hfew:S.length≤p:=r.few
      rw[need_prod] at hf
      refine while_by (fun σ H'=>∃ (q fx:Nat) (Sx:List Stp) (v1:Option V),σ=[some (.ref a),v1]∧RdAt K R H' a l ta tx q d (S++Sx)∧6*(tx.length-q)+1≤fx∧Sx.length+p≤q∧KeptR H H' a l ∧
          Out (pre Sx (rd tx fx .prods d q)) E fun r=>∀ H':Hp,RdAt K R H' a l ta tx r.2 d (S++r.1)→KeptR H H' a l→Q .non H')
        (fun σ H'=>tx.length-plAt H' a)
        ⟨p1,f,S1,none,rfl,r1,by lia,g1,k1,hk⟩ ?_ ?_
      · rintro σ H2 ⟨q,fx,Sx,v1,rfl,r2,hfx,hlx,k2,hkx⟩
        obtain⟨fx,rfl⟩:∃ f',fx=f'+1:=⟨fx-1,by lia⟩
        unfold rd at hkx
        have hq0:=nx_le r2.pl
        obtain⟨dx2,ha2⟩:=r2.obj
        refine⟨_,rfl,a,dx2,_,rfl,ha2,rfl,a,l,ta,tx,q,d,S++Sx,rfl,r2,fun H3 r3 k3'=>?_⟩
        have k3:=k2.trans k3'
        refine⟨(by show 2≤sizeLine;decide),fun t ht=>?_⟩
        have s4:Same H3 (upd H3 t (.tup [V.int 42,V.int 47])):=same_upd ht
        refine⟨t,_,rfl,.inr (SqT.of upd_same),rfl,rfl,_,rfl,?_⟩
        rw[if_neg Bool.false_ne_true,inV2]
        have r4:=r3.same s4
        have k4:=k3.trans (Same.keptR s4 (a:=a) (l:=l))
        generalize upd H3 t (.tup [V.int 42,V.int 47])=H4 at r4 k4 ⊢
        obtain⟨dx4,ha4⟩:=r4.obj
        refine ite2 (fun h1=>?_) (fun h1=>?_)
        · have hc:atT tx (nx tx q)=42∨atT tx (nx tx q)=47:=by simpa using h1
          rw[if_pos hc] at hkx
          have hlt:nx tx q<tx.length:=atT_lt (by lia)
          refine⟨_,rfl,a,dx4,_,rfl,ha4,rfl,a,l,ta,tx,nx tx q,d,S++Sx,rfl,r4,fun H5 r5 k5'=>?_⟩
          rw[nx_nx r2.pl] at r5 ⊢
          have k5:=k4.trans k5'
          obtain⟨dx5,ha5⟩:=r5.obj
          refine⟨rfl,_,rfl,?_⟩
          rw[dec_int]
          have hw:∀ (D:V→Prop),D (.str (wdS (if atT tx (nx tx q)=42 then Wd.multiply else Wd.divide)))→if decide (atT tx (nx tx q)=42)=true then D (.str "multiply") else D (.str "divide"):=fun D hD=>by
            by_cases z:atT tx (nx tx q)=42
            · rw[if_pos z] at hD
              rw[decide_eq_true z,if_pos rfl]
              exact hD
            · rw[if_neg z] at hD
              rw[decide_eq_false z,if_neg Bool.false_ne_true]
              exact hD
          refine hw (fun v=>tSeq _ _ _ [some (.ref a),some v] H5) ?_
          refine⟨_,rfl,a,R,dx5,_,_,rfl,ha5,T.cl,T.nP,rfl,_,_,rfl,rfl,dx5,_,ha5,(by show 4<1000;decide),?_⟩
          rw[show ((nx tx q:Int)+1)=((nx tx q+1:Nat):Int) from rfl,rf_put]
          have r6:=r5.put (d':=d) ha5 (Nat.le_succ _) hlt
          have ha6:upd H5 a (.ins R dx5 (rf ta l (nx tx q+1) d)) a=some (.ins R dx5 (rf ta l (nx tx q+1) d)):=upd_same
          have k6:KeptR H (upd H5 a (.ins R dx5 (rf ta l (nx tx q+1) d))) a l:=k5.upd_a
          generalize upd H5 a (.ins R dx5 (rf ta l (nx tx q+1) d))=H6 at r6 ha6 k6 ⊢
          refine⟨_,rfl,a,dx5,_,rfl,ha6,rfl,a,l,ta,tx,nx tx q+1,d,fx,S++Sx,rfl,r6,hj,by rw[need_power];lia,?_⟩
          cases e3:rd tx fx .power d (nx tx q+1) with
          | error e=>rw[e3] at hkx;exact hkx
          | ok q3 =>
            obtain⟨S3,p3⟩:=q3
            rw[e3] at hkx
            dsimp only at hkx
            have g3:=rd_len tx fx .power d _ S3 p3 hlt e3
            have g4:nx tx q+1<p3∧p3≤tx.length:=rd_le tx fx .power d _ S3 p3 hlt e3
            intro H7 r7 k7'
            dsimp only at r7
            have k7:=k6.trans k7'
            obtain⟨dx7,ha7⟩:=r7.obj
            obtain⟨ts,hl1,hl2⟩:=r7.stp
            refine⟨_,rfl,a,R,dx7,_,_,rfl,ha7,T.cl,T.nS,rfl,.inl ⟨rfl,_,SqL.of hl1⟩,_,rfl,(by show 2≤sizeLine;decide),fun t2 ht2=>?_⟩
            have key:∀ H':Hp,RdAt K R H' a l ta tx p3 d (S++Sx++S3++[(if atT tx (nx tx q)=42 then Wd.multiply else Wd.divide,0)])→KeptR H H' a l→(∃ (q' fx':Nat) (Sx':List Stp) (v1:Option V),[some (V.ref a),some (V.str (wdS (if atT tx (nx tx q)=42 then Wd.multiply else Wd.divide)))]=[some (.ref a),v1]∧RdAt K R H' a l ta tx q' d (S++Sx')∧6*(tx.length-q')+1≤fx'∧Sx'.length+p≤q'∧KeptR H H' a l ∧
              Out (pre Sx' (rd tx fx' .prods d q')) E fun r=>∀ H':Hp,RdAt K R H' a l ta tx r.2 d (S++r.1)→KeptR H H' a l→Q .non H')∧tx.length-plAt H' a<tx.length-plAt H2 a:=by
              intro H' r' kk'
              obtain⟨dx8,ha8⟩:=r'.obj
              refine⟨⟨p3,fx,Sx++S3++[(if atT tx (nx tx q)=42 then Wd.multiply else Wd.divide,0)],_,rfl,?_,by lia,?_,kk',?_⟩,?_⟩
              · rw[←List.append_assoc,←List.append_assoc]
                exact r'
              · rw[List.length_append,List.length_append]
                show Sx.length+S3.length+1+p≤p3
                lia
              · cases e4:rd tx fx .prods d p3 with
                | error e=>rw[e4] at hkx;exact hkx
                | ok q4 =>
                  obtain⟨S4,p4⟩:=q4
                  rw[e4] at hkx
                  show ∀ H':Hp,RdAt K R H' a l ta tx p4 d (S++(Sx++S3++[(if atT tx (nx tx q)=42 then Wd.multiply else Wd.divide,0)]++S4))→_
                  rw[List.append_assoc,List.append_assoc,List.singleton_append]
                  exact hkx
              · rw[plAt_is ha8,plAt_is ha2]
                lia
            obtain⟨xs,y1,y2,y3⟩:=r7.step (s:=(if atT tx (nx tx q)=42 then Wd.multiply else Wd.divide,0)) k7 (by rw[List.length_append,List.length_append];lia) key t2 ht2
            exact⟨l,xs,_,rfl,rfl,y1,y2,y3⟩
        · have hc:¬ (atT tx (nx tx q)=42∨atT tx (nx tx q)=47):=fun z=>h1 (by simpa using z)
          rw[if_neg hc] at hkx
          exact hkx H4 (by rw[List.append_nil];exact r4) k4
      · (repeat first | exact MonoE.var | exact MonoE.c | exact MonoR.in_ | exact MonoA.nil | (refine MonoE.meth0 (sp_ahead_mono K R)) | apply Mono.test | apply MonoE.tup | apply MonoE.op | apply MonoA.cons)
theorem sc_Reader_read_sum:FnScope ["self","word"] ["self"] (defScope s_Reader_read_sum):=⟨rfl,rfl,rfl,by decide +kernel,rfl,by decide +kernel,by decide +kernel⟩
theorem ok_Reader_read_sum {P:Program}{w:World}{K:PySem.W.Frag}{mg:Str→Option Value}{base:Heap}{f R C:Addr}{fd:FuncData} (j:Nat) (F:Fun K "read_sum" "Reader.read_sum" s_Reader_read_sum f fd) (T:RTxt K mg R C) (c_PLUS:Kst mg "PLUS" 43) (c_MINUS:Kst mg "MINUS" 45)
    (M_ahead:Mth P w K mg base CX0 1 R "ahead" ["self"] (sp_ahead K R)) (M_read_product:Mth P w K mg base (CXF P w C) (4*j+7) R "read_product" ["self"] (sp_part K R .prod j)) :
    FnOk P w K mg base (CXF P w C) (4*j+8) f fd ["self"] (sp_part K R .sum j):=by
  refine okF F sc_Reader_read_sum (fun vs H Q E h=>sp_part_len h) (fun cdv A outer s H vs Q E hr h=>?_)
  cases j with
  | zero=>exact h.elim
  | succ j =>
    obtain⟨a,l,ta,tx,p,d,f,S,rfl,r,hj,hf,k⟩:=h
    obtain⟨f,rfl⟩:∃ f',f=f'+1:=⟨f-1,by rw[need_sum] at hf;lia⟩
    have hf':need tx .prod p≤f:=by rw[need_sum] at hf;rw[need_prod];lia
    refine⟨_,(pss_cons (ps_expr (pe_mthF0 M_read_product T.cl (hr.mono (by lia)) (pv 0)))
      (pss_one (ps_while PassesOwn.leaving (pt_cmpR (op_inK (K:=K) rfl) (pe_mth0 M_ahead T.cl (hr.mono (by lia)) (pv 0)) (pe_tup (pa_cons (pe_globK (by rfl) c_PLUS) (pa_cons (pe_globK (by rfl) c_MINUS) pa_nil))) (by with_unfolding_all rfl)) (pss_cons (ps_set (i:=1) sc_Reader_read_sum.nd rfl (by first | exact Or.inl rfl | exact Or.inr rfl) (pe_ifExp (pt_cmpR op_eq (pe_mth0 M_ahead T.cl (hr.mono (by lia)) (pv 0)) (pe_globK (by rfl) c_PLUS) (nomark _)) pe_str pe_str))
      (pss_cons (ps_fldaug (pv 0) pe_int in_add)
      (pss_cons (ps_expr (pe_mthF0 M_read_product T.cl (hr.mono (by lia)) (pv 0)))
      (pss_one (ps_expr (pe_bm PySem.F.plainAttrs_list PySem.F.slot_list_append PySem.F.type_list_append mt_append (pe_fld (pv 0) rfl) (pa_cons (pe_tup (pa_cons (pv 1) (pa_cons pe_int pa_nil))) pa_nil)))))))))),?_⟩
    obtain⟨dx,ha⟩:=r.obj
    unfold rd at k
    refine⟨_,rfl,a,dx,_,rfl,ha,rfl,a,l,ta,tx,p,d,f,S,rfl,r,hj,hf',?_⟩
    cases e1:rd tx f .prod d p with
    | error e=>rw[e1] at k;exact k
    | ok q =>
      obtain⟨S1,p1⟩:=q
      rw[e1] at k
      dsimp only at k
      have g1:=rd_len tx f .prod d p S1 p1 r.pl e1
      have g2:p<p1∧p1≤tx.length:=rd_le tx f .prod d p S1 p1 r.pl e1
      have hk:Out (pre S1 (rd tx f .sums d p1)) E fun r=>∀ H':Hp,RdAt K R H' a l ta tx r.2 d (S++r.1)→KeptR H H' a l→Q .non H':=by
        cases e2:rd tx f .sums d p1 with
        | error e=>rw[e2] at k;exact k
        | ok q2=>obtain⟨S2,p2⟩:=q2;rw[e2] at k;exact k
      intro H1 r1 k1
      dsimp only at r1
      have hfew:S.length≤p:=r.few
      rw[need_sum] at hf
      refine while_by (fun σ H'=>∃ (q fx:Nat) (Sx:List Stp) (v1:Option V),σ=[some (.ref a),v1]∧RdAt K R H' a l ta tx q d (S++Sx)∧6*(tx.length-q)+1≤fx∧Sx.length+p≤q∧KeptR H H' a l ∧
          Out (pre Sx (rd tx fx .sums d q)) E fun r=>∀ H':Hp,RdAt K R H' a l ta tx r.2 d (S++r.1)→KeptR H H' a l→Q .non H')
        (fun σ H'=>tx.length-plAt H' a)
        ⟨p1,f,S1,none,rfl,r1,by lia,g1,k1,hk⟩ ?_ ?_
      · rintro σ H2 ⟨q,fx,Sx,v1,rfl,r2,hfx,hlx,k2,hkx⟩
        obtain⟨fx,rfl⟩:∃ f',fx=f'+1:=⟨fx-1,by lia⟩
        unfold rd at hkx
        have hq0:=nx_le r2.pl
        obtain⟨dx2,ha2⟩:=r2.obj
        refine⟨_,rfl,a,dx2,_,rfl,ha2,rfl,a,l,ta,tx,q,d,S++Sx,rfl,r2,fun H3 r3 k3'=>?_⟩
        have k3:=k2.trans k3'
        refine⟨(by show 2≤sizeLine;decide),fun t ht=>?_⟩
        have s4:Same H3 (upd H3 t (.tup [V.int 43,V.int 45])):=same_upd ht
        refine⟨t,_,rfl,.inr (SqT.of upd_same),rfl,rfl,_,rfl,?_⟩
        rw[if_neg Bool.false_ne_true,inV2]
        have r4:=r3.same s4
        have k4:=k3.trans (Same.keptR s4 (a:=a) (l:=l))
        generalize upd H3 t (.tup [V.int 43,V.int 45])=H4 at r4 k4 ⊢
        obtain⟨dx4,ha4⟩:=r4.obj
        refine ite2 (fun h1=>?_) (fun h1=>?_)
        · have hc:atT tx (nx tx q)=43∨atT tx (nx tx q)=45:=by simpa using h1
          rw[if_pos hc] at hkx
          have hlt:nx tx q<tx.length:=atT_lt (by lia)
          refine⟨_,rfl,a,dx4,_,rfl,ha4,rfl,a,l,ta,tx,nx tx q,d,S++Sx,rfl,r4,fun H5 r5 k5'=>?_⟩
          rw[nx_nx r2.pl] at r5 ⊢
          have k5:=k4.trans k5'
          obtain⟨dx5,ha5⟩:=r5.obj
          refine⟨rfl,_,rfl,?_⟩
          rw[dec_int]
          have hw:∀ (D:V→Prop),D (.str (wdS (if atT tx (nx tx q)=43 then Wd.add else Wd.subtract)))→if decide (atT tx (nx tx q)=43)=true then D (.str "add") else D (.str "subtract"):=fun D hD=>by
            by_cases z:atT tx (nx tx q)=43
            · rw[if_pos z] at hD
              rw[decide_eq_true z,if_pos rfl]
              exact hD
            · rw[if_neg z] at hD
              rw[decide_eq_false z,if_neg Bool.false_ne_true]
              exact hD
          refine hw (fun v=>tSeq _ _ _ [some (.ref a),some v] H5) ?_
          refine⟨_,rfl,a,R,dx5,_,_,rfl,ha5,T.cl,T.nP,rfl,_,_,rfl,rfl,dx5,_,ha5,(by show 4<1000;decide),?_⟩
          rw[show ((nx tx q:Int)+1)=((nx tx q+1:Nat):Int) from rfl,rf_put]
          have r6:=r5.put (d':=d) ha5 (Nat.le_succ _) hlt
          have ha6:upd H5 a (.ins R dx5 (rf ta l (nx tx q+1) d)) a=some (.ins R dx5 (rf ta l (nx tx q+1) d)):=upd_same
          have k6:KeptR H (upd H5 a (.ins R dx5 (rf ta l (nx tx q+1) d))) a l:=k5.upd_a
          generalize upd H5 a (.ins R dx5 (rf ta l (nx tx q+1) d))=H6 at r6 ha6 k6 ⊢
          refine⟨_,rfl,a,dx5,_,rfl,ha6,rfl,a,l,ta,tx,nx tx q+1,d,fx,S++Sx,rfl,r6,hj,by rw[need_prod];lia,?_⟩
          cases e3:rd tx fx .prod d (nx tx q+1) with
          | error e=>rw[e3] at hkx;exact hkx
          | ok q3 =>
            obtain⟨S3,p3⟩:=q3
            rw[e3] at hkx
            dsimp only at hkx
            have g3:=rd_len tx fx .prod d _ S3 p3 hlt e3
            have g4:nx tx q+1<p3∧p3≤tx.length:=rd_le tx fx .prod d _ S3 p3 hlt e3
            intro H7 r7 k7'
            dsimp only at r7
            have k7:=k6.trans k7'
            obtain⟨dx7,ha7⟩:=r7.obj
            obtain⟨ts,hl1,hl2⟩:=r7.stp
            refine⟨_,rfl,a,R,dx7,_,_,rfl,ha7,T.cl,T.nS,rfl,.inl ⟨rfl,_,SqL.of hl1⟩,_,rfl,(by show 2≤sizeLine;decide),fun t2 ht2=>?_⟩
            have key:∀ H':Hp,RdAt K R H' a l ta tx p3 d (S++Sx++S3++[(if atT tx (nx tx q)=43 then Wd.add else Wd.subtract,0)])→KeptR H H' a l→(∃ (q' fx':Nat) (Sx':List Stp) (v1:Option V),[some (V.ref a),some (V.str (wdS (if atT tx (nx tx q)=43 then Wd.add else Wd.subtract)))]=[some (.ref a),v1]∧RdAt K R H' a l ta tx q' d (S++Sx')∧6*(tx.length-q')+1≤fx'∧Sx'.length+p≤q'∧KeptR H H' a l ∧
              Out (pre Sx' (rd tx fx' .sums d q')) E fun r=>∀ H':Hp,RdAt K R H' a l ta tx r.2 d (S++r.1)→KeptR H H' a l→Q .non H')∧tx.length-plAt H' a<tx.length-plAt H2 a:=by
              intro H' r' kk'
              obtain⟨dx8,ha8⟩:=r'.obj
              refine⟨⟨p3,fx,Sx++S3++[(if atT tx (nx tx q)=43 then Wd.add else Wd.subtract,0)],_,rfl,?_,by lia,?_,kk',?_⟩,?_⟩
              · rw[←List.append_assoc,←List.append_assoc]
                exact r'
              · rw[List.length_append,List.length_append]
                show Sx.length+S3.length+1+p≤p3
                lia
              · cases e4:rd tx fx .sums d p3 with
                | error e=>rw[e4] at hkx;exact hkx
                | ok q4 =>
                  obtain⟨S4,p4⟩:=q4
                  rw[e4] at hkx
                  show ∀ H':Hp,RdAt K R H' a l ta tx p4 d (S++(Sx++S3++[(if atT tx (nx tx q)=43 then Wd.add else Wd.subtract,0)]++S4))→_
                  rw[List.append_assoc,List.append_assoc,List.singleton_append]
                  exact hkx
              · rw[plAt_is ha8,plAt_is ha2]
                lia
            obtain⟨xs,y1,y2,y3⟩:=r7.step (s:=(if atT tx (nx tx q)=43 then Wd.add else Wd.subtract,0)) k7 (by rw[List.length_append,List.length_append];lia) key t2 ht2
            exact⟨l,xs,_,rfl,rfl,y1,y2,y3⟩
        · have hc:¬ (atT tx (nx tx q)=43∨atT tx (nx tx q)=45):=fun z=>h1 (by simpa using z)
          rw[if_neg hc] at hkx
          exact hkx H4 (by rw[List.append_nil];exact r4) k4
      · (repeat first | exact MonoE.var | exact MonoE.c | exact MonoR.in_ | exact MonoA.nil | (refine MonoE.meth0 (sp_ahead_mono K R)) | apply Mono.test | apply MonoE.tup | apply MonoE.op | apply MonoA.cons)
theorem sc_Reader_read_atom:FnScope ["self"] ["self"] (defScope s_Reader_read_atom):=⟨rfl,rfl,rfl,by decide +kernel,rfl,by decide +kernel,by decide +kernel⟩
theorem ok_Reader_read_atom {P:Program}{w:World}{K:PySem.W.Frag}{mg:Str→Option Value}{base:Heap}{f R C NC fI:Addr}{fd:FuncData} (j:Nat) (F:Fun K "read_atom" "Reader.read_atom" s_Reader_read_atom f fd) (T:RTxt K mg R C) (FO:FaultOk K C NC fI s_Fault___init__)
    (c_LETTER_X:Kst mg "LETTER_X" 120) (c_OPENING:Kst mg "OPENING" 40) (c_CLOSING:Kst mg "CLOSING" 41) (c_MINUS:Kst mg "MINUS" 45) (c_MOST_DIGITS:Kst mg "MOST_DIGITS" 9)
    (M_ahead:Mth P w K mg base CX0 1 R "ahead" ["self"] (sp_ahead K R)) (M_read_digits:Mth P w K mg base (CXF P w C) 4 R "read_digits" ["self","most"] (sp_read_digits K R)) (M_go_deeper:Mth P w K mg base (CXF P w C) 4 R "go_deeper" ["self"] (sp_go_deeper K R))
    (M_read_sum:Mth P w K mg base (CXF P w C) (4*j+8) R "read_sum" ["self"] (sp_part K R .sum j)) (M_read_atom:Mth P w K mg base (CXF P w C) (4*j+5) R "read_atom" ["self"] (sp_part K R .atom j)) :
    FnOk P w K mg base (CXF P w C) (4*j+9) f fd ["self"] (sp_part K R .atom (j+1)):=by
  refine okF F sc_Reader_read_atom (fun vs H Q E h=>sp_part_len h) (fun cdv A outer s H vs Q E hr h=>?_)
  obtain⟨a,l,ta,tx,p,d,f,S,rfl,r,hj,hf,k⟩:=h
  rw[need_atom] at hf
  obtain⟨f,rfl⟩:∃ f',f=f'+1:=⟨f-1,by lia⟩
  refine⟨_,(pss_one (ps_if (pt_cmpR op_eq (pe_mth0 M_ahead T.cl (hr.mono (by lia)) (pv 0)) (pe_globK (by rfl) c_LETTER_X) (nomark _)) (pss_cons (ps_fldaug (pv 0) pe_int in_add)
      (pss_one (ps_expr (pe_bm PySem.F.plainAttrs_list PySem.F.slot_list_append PySem.F.type_list_append mt_append (pe_fld (pv 0) rfl) (pa_cons (pe_tup (pa_cons pe_str (pa_cons pe_int pa_nil))) pa_nil))))) (pss_one (ps_if (pt_cmpR op_eq (pe_mth0 M_ahead T.cl (hr.mono (by lia)) (pv 0)) (pe_globK (by rfl) c_OPENING) (nomark _)) (pss_cons (ps_expr (pe_mthF0 M_go_deeper T.cl (hr.mono (by lia)) (pv 0)))
      (pss_cons (ps_expr (pe_mthF0 M_read_sum T.cl (hr.mono (by lia)) (pv 0)))
      (pss_cons (ps_if (pt_cmpR op_ne (pe_mth0 M_ahead T.cl (hr.mono (by lia)) (pv 0)) (pe_globK (by rfl) c_CLOSING) (nomark _)) (pss_one (ps_raise FO (hr.mono (by lia)) (by rfl) T.mgF (pe_fld (pv 0) rfl))) pss_nil)
      (pss_cons (ps_fldaug (pv 0) pe_int in_add)
      (pss_one (ps_fldaug (pv 0) pe_int in_sub)))))) (pss_one (ps_if (pt_cmpR op_eq (pe_mth0 M_ahead T.cl (hr.mono (by lia)) (pv 0)) (pe_globK (by rfl) c_MINUS) (nomark _)) (pss_cons (ps_expr (pe_mthF0 M_go_deeper T.cl (hr.mono (by lia)) (pv 0)))
      (pss_cons (ps_expr (pe_mthF0 M_read_atom T.cl (hr.mono (by lia)) (pv 0)))
      (pss_cons (ps_fldaug (pv 0) pe_int in_sub)
      (pss_one (ps_expr (pe_bm PySem.F.plainAttrs_list PySem.F.slot_list_append PySem.F.type_list_append mt_append (pe_fld (pv 0) rfl) (pa_cons (pe_tup (pa_cons pe_str (pa_cons pe_int pa_nil))) pa_nil))))))) (pss_one (ps_expr (pe_bm PySem.F.plainAttrs_list PySem.F.slot_list_append PySem.F.type_list_append mt_append (pe_fld (pv 0) rfl) (pa_cons (pe_tup (pa_cons pe_str (pa_cons (pe_mthF1 M_read_digits T.cl (hr.mono (by lia)) (pv 0) (pa_cons (pe_globK (by rfl) c_MOST_DIGITS) pa_nil)) pa_nil))) pa_nil)))))))))),?_⟩
  obtain⟨dx,ha⟩:=r.obj
  have hfew:S.length≤p:=r.few
  have hnx:=nx_le r.pl
  unfold rd at k
  refine⟨_,rfl,a,dx,_,rfl,ha,rfl,a,l,ta,tx,p,d,S,rfl,r,fun H1 r1 k1=>?_⟩
  obtain⟨dx1,ha1⟩:=r1.obj
  refine⟨rfl,_,rfl,?_⟩
  rw[dec_int]
  refine ite2 (fun h1=>?_) (fun h1=>?_)
  · have hc:atT tx (nx tx p)=120:=of_decide_eq_true h1
    rw[if_pos hc] at k
    have hlt:nx tx p<tx.length:=atT_lt (by lia)
    refine⟨_,rfl,a,R,dx1,_,_,rfl,ha1,T.cl,T.nP,rfl,_,_,rfl,rfl,dx1,_,ha1,(by show 4<1000;decide),?_⟩
    rw[show ((nx tx p:Int)+1)=((nx tx p+1:Nat):Int) from rfl,rf_put]
    have r2:=r1.put (d':=d) ha1 (Nat.le_succ _) hlt
    have ha2:upd H1 a (.ins R dx1 (rf ta l (nx tx p+1) d)) a=some (.ins R dx1 (rf ta l (nx tx p+1) d)):=upd_same
    have k2:KeptR H (upd H1 a (.ins R dx1 (rf ta l (nx tx p+1) d))) a l:=k1.upd_a
    obtain⟨ts,hl1,hl2⟩:=r2.stp
    refine⟨_,rfl,a,R,dx1,_,_,rfl,ha2,T.cl,T.nS,rfl,.inl ⟨rfl,_,SqL.of hl1⟩,(by show 2≤sizeLine;decide),fun t2 ht2=>?_⟩
    obtain⟨xs,y1,y2,y3⟩:=r2.step (s:=(Wd.x,0)) k2 (by show S.length<nx tx p+1;lia) k t2 ht2
    exact⟨l,xs,_,rfl,rfl,y1,y2,y3⟩
  · have hc:atT tx (nx tx p)≠120:=fun z=>h1 (decide_eq_true z)
    rw[if_neg hc] at k
    refine⟨_,rfl,a,dx1,_,rfl,ha1,rfl,a,l,ta,tx,nx tx p,d,S,rfl,r1,fun H2 r2 k2'=>?_⟩
    rw[nx_nx r.pl] at r2 ⊢
    have k2:=k1.trans k2'
    obtain⟨dx2,ha2⟩:=r2.obj
    refine⟨rfl,_,rfl,?_⟩
    rw[dec_int]
    refine ite2 (fun h2=>?_) (fun h2=>?_)
    · have hc2:atT tx (nx tx p)=40:=of_decide_eq_true h2
      rw[if_pos hc2] at k
      have hlt:nx tx p<tx.length:=atT_lt (by lia)
      refine⟨_,rfl,a,dx2,_,rfl,ha2,rfl,a,l,ta,tx,nx tx p,d,S,rfl,r2,hlt,by lia,?_⟩
      by_cases h16:d=16
      · rw[if_pos h16] at k ⊢
        exact k
      · rw[if_neg h16] at k ⊢
        obtain⟨j,rfl⟩:∃ j',j=j'+1:=⟨j-1,by lia⟩
        intro H3 r3 k3'
        have k3:=k2.trans k3'
        obtain⟨dx3,ha3⟩:=r3.obj
        refine⟨_,rfl,a,dx3,_,rfl,ha3,rfl,a,l,ta,tx,nx tx p+1,d+1,f,S,rfl,r3,by lia,by rw[need_sum];lia,?_⟩
        cases e3:rd tx f .sum (d+1) (nx tx p+1) with
        | error e=>rw[e3] at k;exact k
        | ok q3 =>
          obtain⟨S3,p3⟩:=q3
          rw[e3] at k
          dsimp only at k
          have g3:=rd_len tx f .sum _ _ S3 p3 hlt e3
          have g4:nx tx p+1<p3∧p3≤tx.length:=rd_le tx f .sum _ _ S3 p3 hlt e3
          intro H4 r4 k4'
          dsimp only at r4
          have k4:=k3.trans k4'
          obtain⟨dx4,ha4⟩:=r4.obj
          refine⟨_,rfl,a,dx4,_,rfl,ha4,rfl,a,l,ta,tx,p3,d+1,S++S3,rfl,r4,fun H5 r5 k5'=>?_⟩
          have k5:=k4.trans k5'
          obtain⟨dx5,ha5⟩:=r5.obj
          refine⟨rfl,_,rfl,?_⟩
          rw[dec_int]
          by_cases h41:atT tx (nx tx p3)=41
          · rw[if_pos h41] at k
            rw[decide_eq_true h41]
            refine iteF ?_
            have hlt5:nx tx p3<tx.length:=atT_lt (by lia)
            refine⟨_,rfl,a,R,dx5,_,_,rfl,ha5,T.cl,T.nP,rfl,_,_,rfl,rfl,dx5,_,ha5,(by show 4<1000;decide),?_⟩
            rw[show ((nx tx p3:Int)+1)=((nx tx p3+1:Nat):Int) from rfl,rf_put]
            have r6:=r5.put (d':=d+1) ha5 (Nat.le_succ _) hlt5
            have ha6:upd H5 a (.ins R dx5 (rf ta l (nx tx p3+1) (d+1))) a=some (.ins R dx5 (rf ta l (nx tx p3+1) (d+1))):=upd_same
            have k6:KeptR H (upd H5 a (.ins R dx5 (rf ta l (nx tx p3+1) (d+1)))) a l:=k5.upd_a
            refine⟨_,rfl,a,R,dx5,_,_,rfl,ha6,T.cl,T.nD,rfl,_,_,rfl,rfl,dx5,_,ha6,(by show 4<1000;decide),?_⟩
            rw[show (((d+1:Nat):Int)-1)=((d:Nat):Int) from by lia,rf_putD]
            exact k _ (r6.put (d':=d) ha6 (Nat.le_refl _) hlt5) k6.upd_a
          · rw[if_neg h41] at k
            rw[decide_eq_false h41]
            refine iteT ?_
            exact⟨_,rfl,a,R,dx5,_,_,rfl,ha5,T.cl,T.nP,rfl,_,rfl,k H5⟩
    · have hc2:atT tx (nx tx p)≠40:=fun z=>h2 (decide_eq_true z)
      rw[if_neg hc2] at k
      refine⟨_,rfl,a,dx2,_,rfl,ha2,rfl,a,l,ta,tx,nx tx p,d,S,rfl,r2,fun H3 r3 k3'=>?_⟩
      rw[nx_nx r.pl] at r3 ⊢
      have k3:=k2.trans k3'
      obtain⟨dx3,ha3⟩:=r3.obj
      refine⟨rfl,_,rfl,?_⟩
      rw[dec_int]
      refine ite2 (fun h3=>?_) (fun h3=>?_)
      · have hc3:atT tx (nx tx p)=45:=of_decide_eq_true h3
        rw[if_pos hc3] at k
        have hlt:nx tx p<tx.length:=atT_lt (by lia)
        refine⟨_,rfl,a,dx3,_,rfl,ha3,rfl,a,l,ta,tx,nx tx p,d,S,rfl,r3,hlt,by lia,?_⟩
        by_cases h16:d=16
        · rw[if_pos h16] at k ⊢
          exact k
        · rw[if_neg h16] at k ⊢
          obtain⟨j,rfl⟩:∃ j',j=j'+1:=⟨j-1,by lia⟩
          intro H4 r4 k4'
          have k4:=k3.trans k4'
          obtain⟨dx4,ha4⟩:=r4.obj
          refine⟨_,rfl,a,dx4,_,rfl,ha4,rfl,a,l,ta,tx,nx tx p+1,d+1,f,S,rfl,r4,by lia,by rw[need_atom];lia,?_⟩
          cases e3:rd tx f .atom (d+1) (nx tx p+1) with
          | error e=>rw[e3] at k;exact k
          | ok q3 =>
            obtain⟨S3,p3⟩:=q3
            rw[e3] at k
            dsimp only at k
            have g3:=rd_len tx f .atom _ _ S3 p3 hlt e3
            have g4:nx tx p+1<p3∧p3≤tx.length:=rd_le tx f .atom _ _ S3 p3 hlt e3
            intro H5 r5 k5'
            dsimp only at r5
            have k5:=k4.trans k5'
            obtain⟨dx5,ha5⟩:=r5.obj
            refine⟨_,rfl,a,R,dx5,_,_,rfl,ha5,T.cl,T.nD,rfl,_,_,rfl,rfl,dx5,_,ha5,(by show 4<1000;decide),?_⟩
            rw[show (((d+1:Nat):Int)-1)=((d:Nat):Int) from by lia,rf_putD]
            have r6:=r5.put (d':=d) ha5 (Nat.le_refl _) g4.2
            have ha6:upd H5 a (.ins R dx5 (rf ta l p3 d)) a=some (.ins R dx5 (rf ta l p3 d)):=upd_same
            have k6:KeptR H (upd H5 a (.ins R dx5 (rf ta l p3 d))) a l:=k5.upd_a
            obtain⟨ts,hl1,hl2⟩:=r6.stp
            refine⟨_,rfl,a,R,dx5,_,_,rfl,ha6,T.cl,T.nS,rfl,.inl ⟨rfl,_,SqL.of hl1⟩,(by show 2≤sizeLine;decide),fun t2 ht2=>?_⟩
            obtain⟨xs,y1,y2,y3⟩:=r6.step (s:=(Wd.negate,0)) k6 (by rw[List.length_append];lia) (fun H' r' kk'=>k H' (by rw[←List.append_assoc];exact r') kk') t2 ht2
            exact⟨l,xs,_,rfl,rfl,y1,y2,y3⟩
      · have hc3:atT tx (nx tx p)≠45:=fun z=>h3 (decide_eq_true z)
        rw[if_neg hc3] at k
        obtain⟨ts,hl1,hl2⟩:=r3.stp
        refine⟨_,rfl,a,R,dx3,_,_,rfl,ha3,T.cl,T.nS,rfl,.inl ⟨rfl,_,SqL.of hl1⟩,_,rfl,a,dx3,_,rfl,ha3,rfl,a,l,ta,tx,nx tx p,d,9,S,rfl,r3,?_⟩
        have erd:rdg tx 9 (nx tx p)=rdg tx 9 p:=by
          unfold rdg
          rw[nx_nx r.pl]
        rw[erd]
        cases e3:rdg tx 9 p with
        | error e=>rw[e3] at k;exact k
        | ok q3 =>
          obtain⟨kk,p3⟩:=q3
          rw[e3] at k
          dsimp only at k
          have g3:=rdg_le r.pl (by decide) e3
          intro H4 r4 k4
          refine⟨(by show 2≤sizeLine;decide),fun t ht=>?_⟩
          obtain⟨xs,y1,y2,y3⟩:=r4.step (s:=(Wd.number,kk)) (k3.trans k4) (by lia) k t ht
          exact⟨l,xs,_,rfl,rfl,y1,y2,y3⟩
def sp_rinit (K:PySem.W.Frag) (R:Addr):Sp:=fun vs H Q _=>∃ (a ta dx:Addr) (T:List Int),vs=[.ref a,.ref ta]∧H a=some (.ins R dx [])∧SqL K H ta (T.map V.int)∧(ta≠a∨∀ H':Hp,SqL K H' ta (T.map V.int))∧T.length≤512 ∧
  ∀ (H':Hp) (l:Addr),RdAt K R H' a l ta T 0 0 []→H l=none→(∀ b o,H b=some o→b≠a→H' b=some o)→Q .non H'
theorem sc_Reader___init__:FnScope ["self","text"] ["self","text"] (defScope s_Reader___init__):=⟨rfl,rfl,rfl,by decide +kernel,rfl,by decide +kernel,by decide +kernel⟩
theorem ok_Reader___init__ {P:Program}{w:World}{K:PySem.W.Frag}{mg:Str→Option Value}{base:Heap}{f R C:Addr}{fd:FuncData} (F:Fun K "__init__" "Reader.__init__" s_Reader___init__ f fd) (T:RTxt K mg R C) :
    FnOk P w K mg base CX0 1 f fd ["self","text"] (sp_rinit K R):=by
  refine F.ok sc_Reader___init__ (fun vs H Q E h=>?_) (fun cdv A outer s H vs Q E hr h=>?_)
  · obtain⟨a,ta,dx,tx,rfl,_⟩:=h
    rfl
  · obtain⟨a,ta,dx,tx,rfl,ha,hT,hne,hlen,k⟩:=h
    refine⟨_,(pss_cons (ps_fld (pv 0) (pv 1) rfl)
      (pss_cons (ps_fld (pv 0) pe_int rfl)
      (pss_cons (ps_fld (pv 0) pe_int rfl)
      (pss_one (ps_fld (pv 0) (pe_lst pa_nil) rfl))))),?_⟩
    refine⟨_,rfl,_,rfl,a,R,dx,_,rfl,ha,T.cl,T.nT,(by show 0<1000;decide),?_⟩
    refine⟨_,rfl,a,R,dx,_,rfl,upd_same,T.cl,T.nP,(by show 1<1000;decide),?_⟩
    refine⟨_,rfl,a,R,dx,_,rfl,upd_same,T.cl,T.nD,(by show 2<1000;decide),?_⟩
    rw[upd_upd,upd_upd]
    refine⟨(by show 0≤sizeLine;decide),fun l hl=>?_⟩
    have hla:a≠l:=fun z=>by rw[←z,upd_same] at hl;cases hl
    have hlH:H l=none:=by rw[upd_ne (Ne.symm hla)] at hl;exact hl
    refine⟨_,rfl,a,R,dx,_,rfl,(by rw[upd_ne hla,upd_same]),T.cl,T.nS,(by show 3<1000;decide),?_⟩
    have keep:∀ b o,H b=some o→b≠a→(upd (upd (upd H a (.ins R dx (putF "depth" (V.int 0) (putF "place" (V.int 0) (putF "text" (V.ref ta) []))))) l (.lst [])) a (.ins R dx (putF "steps" (V.ref l) (putF "depth" (V.int 0) (putF "place" (V.int 0) (putF "text" (V.ref ta) [])))))) b=some o:=fun b o hb hba=>by
      rw[upd_ne hba,upd_ne (ne_of_none hb hlH),upd_ne hba]
      exact hb
    have htk:(ta≠l∧ta≠a)∨∀ H':Hp,SqL K H' ta (tx.map V.int):=by
      rcases hne with hne | hne
      · rcases hT with (q | ⟨o,q⟩) | q
        · exact .inl ⟨(fun z=>by rw[z,hlH] at q;cases q),hne⟩
        · exact .inl ⟨(fun z=>by rw[z,hlH] at q;cases q),hne⟩
        · exact .inr fun H'=>.inr q
      · exact .inr hne
    refine k _ l ⟨⟨dx,upd_same⟩,?_,htk,⟨[],by rw[upd_ne (Ne.symm hla),upd_same];rfl,rfl⟩,Nat.le_refl _,hlen,Nat.zero_le _⟩ hlH keep
    rcases htk with⟨_,h2⟩ | h
    · exact sql_kept hT fun o ho=>keep ta o ho h2
    · exact h _
def sp_read_text (K:PySem.W.Frag) (R:Addr):Sp:=fun vs H Q E=>∃ (a l ta:Addr) (T:List Int),vs=[.ref a]∧RdAt K R H a l ta T 0 0 [] ∧
  Out (rdAll T) E fun S=>∀ (H':Hp) (p:Nat),RdAt K R H' a l ta T p 0 S→KeptR H H' a l→Q .non H'
theorem sc_Reader_read_text:FnScope ["self"] ["self"] (defScope s_Reader_read_text):=⟨rfl,rfl,rfl,by decide +kernel,rfl,by decide +kernel,by decide +kernel⟩
theorem ok_Reader_read_text {P:Program}{w:World}{K:PySem.W.Frag}{mg:Str→Option Value}{base:Heap}{f R C NC fI:Addr}{fd:FuncData} (F:Fun K "read_text" "Reader.read_text" s_Reader_read_text f fd) (T:RTxt K mg R C) (FO:FaultOk K C NC fI s_Fault___init__) (c_END:Kst mg "END" 256)
    (M_ahead:Mth P w K mg base CX0 1 R "ahead" ["self"] (sp_ahead K R)) (M_read_sum:Mth P w K mg base (CXF P w C) 76 R "read_sum" ["self"] (sp_part K R .sum 17)) :
    FnOk P w K mg base (CXF P w C) 77 f fd ["self"] (sp_read_text K R):=by
  refine okF F sc_Reader_read_text (fun vs H Q E h=>?_) (fun cdv A outer s H vs Q E hr h=>?_)
  · obtain⟨a,l,ta,tx,rfl,_⟩:=h
    rfl
  · obtain⟨a,l,ta,tx,rfl,r,k⟩:=h
    refine⟨_,(pss_cons (ps_expr (pe_mthF0 M_read_sum T.cl (hr.mono (by decide)) (pv 0)))
      (pss_one (ps_if (pt_cmpR op_ne (pe_mth0 M_ahead T.cl (hr.mono (by decide)) (pv 0)) (pe_globK (by rfl) c_END) (nomark _)) (pss_one (ps_raise FO (hr.mono (by decide)) (by rfl) T.mgF (pe_fld (pv 0) rfl))) pss_nil))),?_⟩
    obtain⟨dx,ha⟩:=r.obj
    unfold rdAll at k
    refine⟨_,rfl,a,dx,_,rfl,ha,rfl,a,l,ta,tx,0,0,6*tx.length+12,[],rfl,r,rfl,by rw[need_sum];lia,?_⟩
    cases e1:rd tx (6*tx.length+12) .sum 0 0 with
    | error e=>rw[e1] at k;exact k
    | ok q =>
      obtain⟨S1,p1⟩:=q
      rw[e1] at k
      dsimp only at k
      intro H1 r1 k1
      dsimp only at r1
      rw[List.nil_append] at r1
      obtain⟨dx1,ha1⟩:=r1.obj
      refine⟨_,rfl,a,dx1,_,rfl,ha1,rfl,a,l,ta,tx,p1,0,S1,rfl,r1,fun H2 r2 k2'=>?_⟩
      have k2:=k1.trans k2'
      obtain⟨dx2,ha2⟩:=r2.obj
      refine⟨rfl,_,rfl,?_⟩
      rw[dec_int]
      by_cases hc:atT tx (nx tx p1)=256
      · rw[if_pos hc] at k
        rw[decide_eq_true hc]
        exact iteF (k H2 _ r2 k2)
      · rw[if_neg hc] at k
        rw[decide_eq_false hc]
        exact iteT ⟨_,rfl,a,R,dx2,_,_,rfl,ha2,T.cl,T.nP,rfl,_,rfl,k H2⟩
structure Mt (K:PySem.W.Frag) (R:Addr) (m:Str) (qual:Str) (st:Stmt) (ps:List Str):Prop where
  ex:∃ (f:Addr) (fd:FuncData),Fun K m qual st f fd∧Meth K R m f∧Binds K fd ps []
theorem Mt.mth {P:Program}{w:World}{K:PySem.W.Frag}{mg:Str→Option Value}{base:Heap}{CX:CXT}{k:Nat}{R:Addr}{m qual:Str}{st:Stmt}{ps:List Str}{sp:Sp} (M:Mt K R m qual st ps) (h:∀ f fd,Fun K m qual st f fd→FnOk P w K mg base CX k f fd ps sp):Mth P w K mg base CX k R m ps sp :=
  let ⟨f,fd,F,me,b⟩:=M.ex;⟨f,fd,h f fd F,me,b⟩
theorem parts_all {P:Program}{w:World}{K:PySem.W.Frag}{mg:Str→Option Value}{base:Heap}{R C NC fI:Addr} (T:RTxt K mg R C) (FO:FaultOk K C NC fI s_Fault___init__)
    (m_sum:Mt K R "read_sum" "Reader.read_sum" s_Reader_read_sum ["self"]) (m_prod:Mt K R "read_product" "Reader.read_product" s_Reader_read_product ["self"]) (m_pow:Mt K R "read_power" "Reader.read_power" s_Reader_read_power ["self"]) (m_atom:Mt K R "read_atom" "Reader.read_atom" s_Reader_read_atom ["self"])
    (c_PLUS:Kst mg "PLUS" 43) (c_MINUS:Kst mg "MINUS" 45) (c_STAR:Kst mg "STAR" 42) (c_SLASH:Kst mg "SLASH" 47) (c_CARET:Kst mg "CARET" 94) (c_MOST_DIGITS_OF_POWER:Kst mg "MOST_DIGITS_OF_POWER" 2) (c_LETTER_X:Kst mg "LETTER_X" 120) (c_OPENING:Kst mg "OPENING" 40) (c_CLOSING:Kst mg "CLOSING" 41) (c_MOST_DIGITS:Kst mg "MOST_DIGITS" 9)
    (M_ahead:Mth P w K mg base CX0 1 R "ahead" ["self"] (sp_ahead K R)) (M_read_digits:Mth P w K mg base (CXF P w C) 4 R "read_digits" ["self","most"] (sp_read_digits K R)) (M_go_deeper:Mth P w K mg base (CXF P w C) 4 R "go_deeper" ["self"] (sp_go_deeper K R)) :
    ∀ j:Nat,Mth P w K mg base (CXF P w C) (4*j+8) R "read_sum" ["self"] (sp_part K R .sum j)∧Mth P w K mg base (CXF P w C) (4*j+5) R "read_atom" ["self"] (sp_part K R .atom j)
  | 0=>⟨m_sum.mth fun f fd F=>⟨fun _ _ _ _ h=>h.elim,fun _ _ _ _ _ _ _ _ _ _ _ _ _ h=>h.elim⟩,m_atom.mth fun f fd F=>⟨fun _ _ _ _ h=>h.elim,fun _ _ _ _ _ _ _ _ _ _ _ _ _ h=>h.elim⟩⟩
  | j+1=>by
    obtain⟨h1,h2⟩:=parts_all T FO m_sum m_prod m_pow m_atom c_PLUS c_MINUS c_STAR c_SLASH c_CARET c_MOST_DIGITS_OF_POWER c_LETTER_X c_OPENING c_CLOSING c_MOST_DIGITS M_ahead M_read_digits M_go_deeper j
    have ha:Mth P w K mg base (CXF P w C) (4*(j+1)+5) R "read_atom" ["self"] (sp_part K R .atom (j+1)):=m_atom.mth fun f fd F=>ok_Reader_read_atom j F T FO c_LETTER_X c_OPENING c_CLOSING c_MINUS c_MOST_DIGITS M_ahead M_read_digits M_go_deeper h1 h2
    have hp:=m_pow.mth fun f fd F=>ok_Reader_read_power (j+1) F T c_CARET c_MOST_DIGITS_OF_POWER M_ahead M_read_digits ha
    have hr:=m_prod.mth fun f fd F=>ok_Reader_read_product (j+1) F T c_STAR c_SLASH M_ahead hp
    exact⟨m_sum.mth fun f fd F=>ok_Reader_read_sum (j+1) F T c_PLUS c_MINUS M_ahead hr,ha⟩
def sp_steps_of (K:PySem.W.Frag):Sp:=fun vs H Q E=>∃ (ta:Addr) (T:List Int),vs=[.ref ta]∧SqL K H ta (T.map V.int)∧T.length≤512 ∧
  Out (rdAll T) E fun S=>S.length≤T.length→∀ (H':Hp) (l:Addr),StepsAt H' l S→Same H H'→Q (.ref l) H'
theorem sc_steps_of:FnScope ["text","reader"] ["text"] (defScope s_steps_of):=⟨rfl,rfl,rfl,by decide +kernel,rfl,by decide +kernel,by decide +kernel⟩
theorem ok_steps_of {P:Program}{w:World}{K:PySem.W.Frag}{mg:Str→Option Value}{base:Heap}{f R C fInit:Addr}{fd fdI:FuncData} (F:Fun K "steps_of" "steps_of" s_steps_of f fd) (T:RTxt K mg R C) (MK:Mk K R fInit) (G_init:FnOk P w K mg base CX0 1 fInit fdI ["self","text"] (sp_rinit K R)) (B_init:Binds K fdI ["self","text"] [])
    (M_read_text:Mth P w K mg base (CXF P w C) 77 R "read_text" ["self"] (sp_read_text K R)) :
    FnOk P w K mg base (CXF P w C) 78 f fd ["text"] (sp_steps_of K):=by
  refine okF F sc_steps_of (fun vs H Q E h=>?_) (fun cdv A outer s H vs Q E hr h=>?_)
  · obtain⟨ta,tx,rfl,_⟩:=h
    rfl
  · obtain⟨ta,tx,rfl,hT,hlen,k⟩:=h
    refine⟨_,(pss_cons (ps_set (i:=1) sc_steps_of.nd rfl (by first | exact Or.inl rfl | exact Or.inr rfl) (pe_make MK G_init (hr.mono (by decide)) (by rfl) T.mgR B_init .nil pass0 (pa_cons (pv 0) pa_nil)))
      (pss_cons (ps_expr (pe_mthF0 M_read_text T.cl (hr.mono (by decide)) (pv 1)))
      (pss_one (ps_ret (pe_fld (pv 1) rfl))))),?_⟩
    refine⟨_,rfl,fun x dx hx hdx hne=>?_⟩
    have s1:Same H (upd (upd H dx (.own x)) x (.ins R dx [])):=fun b o hb=>by
      rw[upd_ne (ne_of_none hb hx),upd_ne (ne_of_none hb hdx)]
      exact hb
    have htx:ta≠x∨∀ H':Hp,SqL K H' ta (tx.map V.int):=by
      rcases hT with (q | ⟨o,q⟩) | q
      · exact .inl fun z=>by rw[z,hx] at q;cases q
      · exact .inl fun z=>by rw[z,hx] at q;cases q
      · exact .inr fun H'=>.inr q
    refine⟨x,ta,dx,tx,rfl,upd_same,s1.seq hT,htx,hlen,fun H2 l r2 hl k2=>⟨rfl,?_⟩⟩
    have hlx:H l=none:=by
      cases e:H l with
      | none=>rfl
      | some o=>have:=s1 l o e;rw[hl] at this;cases this
    have s2:Same H H2:=fun b o hb=>k2 b o (s1 b o hb) (ne_of_none hb hx)
    obtain⟨dx2,ha2⟩:=r2.obj
    refine⟨_,rfl,x,dx2,_,rfl,ha2,rfl,x,l,ta,tx,rfl,r2,?_⟩
    cases e1:rdAll tx with
    | error e=>rw[e1] at k;exact k
    | ok S =>
      rw[e1] at k
      intro H3 p r3 k3
      obtain⟨dx3,ha3⟩:=r3.obj
      exact⟨_,rfl,x,R,dx3,_,_,rfl,ha3,T.cl,T.nS,rfl,k (Nat.le_trans r3.few r3.pl) H3 l r3.stp fun b o hb=>k3 b o (s2 b o hb) (ne_of_none hb hx) (ne_of_none hb hlx)⟩
structure CalF (P:Program) (w:World) (K:PySem.W.Frag) (mg:Str→Option Value) (base:Heap) (C:Addr) (k:Nat) (x:Str) (ps:List Str) (sp:Sp):Prop where
  ex:∃ (f:Addr) (fd:FuncData),FnOk P w K mg base (CXF P w C) k f fd ps sp∧mg x=some (.ref f)∧PySem.W.keepIn K (.ref f)=true∧Binds K fd ps []
theorem pe_calF {X:Cx}{C:Addr}{E:XK}{k:Nat}{x:Str}{ps:List Str}{sp:Sp}{e:Expr}{es:List Expr}{t:TA}{p pos:Pos} (M:CalF X.prog X.w X.K X.mg X.base C k x ps sp) (hr:Room k X.A) (hg:Gl X x) (hp:Passes (CXF X.prog X.w C) X E) (ha:PA X (e::es) t)
    (hdb:(x == ("__debug__":Str))=false:=by decide) (he:starEach (e::es) X.env=(false,eval e X.env)::starEach es X.env:=by rfl) (hpl:(backTo pos (starEach es X.env)).any (·.1)=false:=by rfl) :
    PE X (.Call (.Name x p) (e::es) [] pos) (tCall sp [] E t):=by
  obtain⟨f,fd,F,hm,hk,hb⟩:=M.ex
  exact pe_call F hr hg hm hk hb .nil hp ha hdb he hpl
def sp_read (K:PySem.W.Frag):Sp:=fun vs H Q _=>∃ (v u:V) (c T:List Int),vs=[v,u]∧IL K H v c∧IL K H u T∧c.length≤1000∧Byt T∧RootNeutral.modest T=true ∧
  ∀ (H':Hp) (y:V),OL H' y (PyWqaqaw.read c T)→Q y H'
theorem sc_read:FnScope ["field","text","refusal","steps","fault","answer"] ["field","text"] (defScope s_read):=⟨rfl,rfl,rfl,by decide +kernel,rfl,by decide +kernel,by decide +kernel⟩
theorem ok_read {P:Program}{w:World}{K:PySem.W.Frag}{mg:Str→Option Value}{base:Heap}{f R C NC fI:Addr}{fd:FuncData} (F:Fun K "read" "read" s_read f fd) (O:Own mg) (T:RTxt K mg R C) (FO:FaultOk K C NC fI s_Fault___init__) (c_LONGEST_TEXT:Kst mg "LONGEST_TEXT" 512)
    (C_field_refusal:Cal P w K mg base 4 "field_refusal" ["field"] (sp_field_refusal K)) (C_steps_of:CalF P w K mg base C 78 "steps_of" ["text"] (sp_steps_of K)) (C_row_after:Cal P w K mg base 81 "row_after" ["field","steps"] (sp_row_after K)) (C_one_form:Cal P w K mg base 79 "one_form" ["a"] (sp_without_divisor K)) :
    FnOk P w K mg base CX0 82 f fd ["field","text"] (sp_read K):=by
  refine F.ok0 sc_read (fun vs H Q E h=>?_) (fun cdv A outer s H vs Q E hr h=>?_)
  · obtain⟨v,u,c,tx,rfl,_⟩:=h
    rfl
  · obtain⟨v,u,c,tx,rfl,⟨ca,rfl,hC⟩,⟨ta,rfl,hT⟩,hl,hb,hm,k⟩:=h
    refine⟨_,(ps0_cons (PS.at0 (ps_set (i:=2) sc_read.nd rfl (by first | exact Or.inl rfl | exact Or.inr rfl) (pe_cal C_field_refusal (hr.mono (by decide)) (by rfl) (pa_cons (pv 0) pa_nil))))
      (ps0_cons (PS.at0 (ps_if (pt_cmpR op_ne (pv 2) pe_int (nomark _)) (pss_one (ps_ret (pe_lst (pa_cons (pv 2) pa_nil)))) pss_nil))
      (ps0_cons (PS.at0 (ps_if (pt_cmpR op_gt (pe_callB (call_lenK (K:=K) rfl) (by rfl) O.len_ bt_len (pa_cons (pv 1) pa_nil)) (pe_globK (by rfl) c_LONGEST_TEXT) (nomark _)) (pss_one (ps_ret (pe_lst (pa_cons (pe_un un_neg pe_int) pa_nil)))) pss_nil))
      (ps0_cons (ps0_try (i:=4) plain_of FO (by rfl) T.mgF sc_read.nd rfl rfl rfl (fun G E1 hG=>(pss_one (ps_set (i:=3) sc_read.nd rfl (by first | exact Or.inl rfl | exact Or.inr rfl) (pe_calF C_steps_of (hr.mono (by decide)) (by rfl) hG (pa_cons (pv 1) pa_nil))))) (fun a dx oe od vs p tk hc hx hd hl=>(pss_one (ps_ret (pe_lst (pa_cons (pe_un un_neg pe_int) (pa_cons (pe_place FO.cls hc hx hd hl (pv 4)) pa_nil)))))))
      (PSs.at0 (pss_cons (ps_set (i:=5) sc_read.nd rfl (by first | exact Or.inl rfl | exact Or.inr rfl) (pe_cal C_row_after (hr.mono (by decide)) (by rfl) (pa_cons (pv 0) (pa_cons (pv 3) pa_nil))))
      (pss_cons (ps_if (pt_cmp (pc_isN (pv 5))) (pss_one (ps_ret (pe_lst (pa_cons (pe_un un_neg pe_int) pa_nil)))) pss_nil)
      (pss_one (ps_ret (pe_op op_cat (pe_lst (pa_cons pe_int pa_nil)) (pe_cal C_one_form (hr.mono (by decide)) (by rfl) (pa_cons (pv 5) pa_nil)))))))))))),?_⟩
    have e0:=read_is (c:=c) hb
    refine⟨_,rfl,_,c,rfl,⟨ca,rfl,hC⟩,hl,fun H1 s1=>⟨_,rfl,rfl,_,rfl,?_⟩⟩
    refine ite2 (fun h1=>?_) (fun h1=>?_)
    · have h1':refusal c≠0:=nq_ne h1
      rw[if_neg h1'] at e0
      refine⟨_,rfl,(by show 1≤sizeLine;decide),fun q hq=>k _ _ ⟨q,rfl,?_⟩⟩
      rw[upd_same,e0]
      rfl
    have h1':refusal c=0:=nq_eq h1
    rw[if_pos h1'] at e0
    obtain⟨f1,f2,f3⟩:=field_ok h1'
    refine⟨_,rfl,ta,_,rfl,.inl (s1.seq hT),?_⟩
    rw[List.length_map]
    refine⟨_,_,rfl,rfl,_,rfl,?_⟩
    refine ite2 (fun h2=>?_) (fun h2=>?_)
    · have h2':(512:Int)<(tx.length:Int):=of_decide_eq_true h2
      rw[if_pos (by lia)] at e0
      refine⟨_,rfl,(by show 1≤sizeLine;decide),fun q hq=>k _ _ ⟨q,rfl,?_⟩⟩
      rw[upd_same,e0]
      rfl
    have h2':¬ (512:Int)<(tx.length:Int):=fun z=>h2 (decide_eq_true z)
    rw[if_neg (by lia)] at e0
    refine⟨_,rfl,ta,tx,rfl,s1.seq hT,by lia,?_⟩
    cases e1:rdAll tx with
    | error p =>
      rw[e1] at e0
      intro H2
      refine⟨_,rfl,fun a=>?_⟩
      refine⟨_,rfl,_,rfl,rfl,(by show 2≤sizeLine;decide),fun q hq=>k _ _ ⟨q,rfl,?_⟩⟩
      rw[upd_same,e0]
      rfl
    | ok S =>
      rw[e1] at e0
      dsimp only at e0
      obtain⟨hok,m,hcst,hm2⟩:=rdAll_cost hb (by lia) hm e1
      intro hSl H2 l hst s2
      refine⟨_,rfl,_,rfl,_,l,c,S,m,rfl,⟨ca,rfl,(s1.trans s2).seq hC⟩,h1',hst,hok,by lia,hcst,hm2,fun en H3 s3=>?_,fun H3 y A p x es s3 hy el=>?_⟩
      · rw[en] at e0
        refine⟨_,rfl,_,rfl,iteT ?_⟩
        refine⟨_,rfl,(by show 1≤sizeLine;decide),fun q hq=>k _ _ ⟨q,rfl,?_⟩⟩
        rw[upd_same,e0]
        rfl
      · rw[es] at e0
        have e0:PyWqaqaw.read c tx=0::Root.oneForm x:=e0
        rw[←el.val,oneForm_dv el.pos] at e0
        obtain⟨ya,rfl,hya⟩:=hy
        refine⟨_,rfl,_,rfl,iteF ?_⟩
        refine⟨(by show 1≤sizeLine;decide),fun q hq=>?_⟩
        have s4:Same H3 (upd H3 q (.lst [V.int 0])):=same_upd hq
        have hl6:(A++[p]).length≤100:=by
          rw[List.length_append,el.len]
          exact Nat.le_trans (Nat.add_le_add_right f2 1) (by decide)
        refine⟨_,rfl,_,A++[p],rfl,⟨ya,rfl,SqL.of (s4 _ _ hya)⟩,by lia,el.divs (by lia),fun H9 y9 s9 hy9=>?_⟩
        obtain⟨g,rfl,hg⟩:=hy9
        refine⟨q,g,_,_,rfl,rfl,s9 _ _ upd_same,hg,?_,fun w hw=>k _ _ ⟨w,rfl,?_⟩⟩
        · rw[List.length_map]
          exact len_less hl6
        · rw[upd_same,e0]
          rfl
def isKey (e:DictEntry):Bool:=match e.key with | .str _ _=>true | _=>false
theorem strKeys_of {es:Array DictEntry} (h:es.toList.all isKey=true):StrKeys es:=fun e he=>by
  have q:=List.all_eq_true.mp h e (Array.mem_toList_iff.mpr he)
  unfold isKey at q
  split at q
  · exact⟨_,_,by assumption⟩
  · cases q
theorem sc_Fault___init__:FnScope ["self","place"] ["self","place"] (defScope s_Fault___init__):=⟨rfl,rfl,rfl,by decide +kernel,rfl,by decide +kernel,by decide +kernel⟩
def Tfd (K:PySem.W.Frag) (v:Option (Option Value)) (n q:Str) (st:Stmt):Prop:=∃ f fd,v=some (some (.ref f))∧Fun K n q st f fd
abbrev Tgd (K:PySem.W.Frag) (n:Str) (st:Stmt):Prop:=Tfd K (PySem.W.nsIn K mainGlobals n) n n st
def Tfm (K:PySem.W.Frag) (v:Option (Option Value)) (n q:Str) (st:Stmt):Prop:=∃ f fd,v=some (some (.ref f))∧Fun K n q st f fd∧PySem.W.isFn K (.ref f)=true
def Tcd (K:PySem.W.Frag) (n:Str) (z:Int):Prop:=∃ t,PySem.W.nsIn K mainGlobals n=some (some (.int z t))
section
variable {K:PySem.W.Frag}{v:Option (Option Value)}{n q:Str}{st:Stmt}{f:Addr}{od an:Option Addr}{sl:Array (Option Value)}{oc kV dc pm cd ct:Value} (a:v=some (some (.ref f))) (l:K.lookup f=some ⟨oc,od,.func (PySem.W.fnOf n q (defArgs st) (defBody st) (defScope st) .none kV dc pm an cd ct),sl⟩) (c:PySem.W.codeIn K cd q=true) (k:PySem.W.keepIn K (.ref f)=true)
include a l c k
theorem fd_mk:Tfd K v n q st:=⟨f,_,a,fun_mk l c k⟩
theorem fm_mk (i:PySem.W.isFn K (.ref f)=true):Tfm K v n q st:=⟨f,_,a,fun_mk l c k,i⟩
end
theorem cd_mk {K:PySem.W.Frag}{n:Str}{z:Int}{t:Tok} (h:PySem.W.nsIn K mainGlobals n=some (some (.int z t))):Tcd K n z:=⟨t,h⟩
theorem Tcd.kst {K:PySem.W.Frag}{h:Heap}{mg:Str→Option Value}{n:Str}{z:Int} (g:Tcd K n z) (X:K.In h) (G:h.Ns mainGlobals mg):Kst mg n z:=let ⟨t,e⟩:=g;⟨t,PySem.W.mg_of X G e⟩
theorem all_mk {P:Program}{w:World}{K:PySem.W.Frag}{h:Heap}{mg:Str→Option Value}{fa:Addr} (ht:P.given.tree=none) (X:K.In h) (G:h.Ns mainGlobals mg) (hfa:mg "read"=some (.ref fa))
    (h0:Tgd K "is_told_rightly" s_is_told_rightly)
    (h1:Tgd K "polynomial_of" s_polynomial_of)
    (h2:Tgd K "divisors_of" s_divisors_of)
    (h3:Tgd K "value_at" s_value_at)
    (h4:Tgd K "has_whole_root" s_has_whole_root)
    (h5:Tgd K "square_root_floor" s_square_root_floor)
    (h6:Tgd K "is_product_of_quadratics" s_is_product_of_quadratics)
    (h7:Tgd K "is_product" s_is_product)
    (h8:Tgd K "field_refusal" s_field_refusal)
    (h9:Tgd K "is_digit" s_is_digit)
    (h10:Tgd K "steps_of" s_steps_of)
    (h11:Tgd K "whole_row" s_whole_row)
    (h12:Tgd K "remainder_of" s_remainder_of)
    (h13:Tgd K "root_row" s_root_row)
    (h14:Tgd K "negated" s_negated)
    (h15:Tgd K "product_of" s_product_of)
    (h16:Tgd K "multiplied" s_multiplied)
    (h17:Tgd K "raised" s_raised)
    (h18:Tgd K "divided" s_divided)
    (h19:Tgd K "carried_over" s_carried_over)
    (h20:Tgd K "shortened" s_shortened)
    (h21:Tgd K "halved" s_halved)
    (h22:Tgd K "common_divisor" s_common_divisor)
    (h23:Tgd K "without_divisor" s_without_divisor)
    (h24:Tgd K "one_form" s_one_form)
    (h25:Tgd K "power_of" s_power_of)
    (h26:Tgd K "is_zero" s_is_zero)
    (h27:Tgd K "added" s_added)
    (h28:Tgd K "trace_of" s_trace_of)
    (h29:Tgd K "cofactor_of" s_cofactor_of)
    (h30:Tgd K "inverse_of" s_inverse_of)
    (h31:Tgd K "joined" s_joined)
    (h32:Tgd K "row_after" s_row_after)
    {f od an sl oc kV dc pm cd ct} (am:PySem.W.nsIn K mainGlobals "read"=some (some (.ref f))) (lm:K.lookup f=some ⟨oc,od,.func (PySem.W.fnOf "read" "read" (defArgs s_read) (defBody s_read) (defScope s_read) .none kV dc pm an cd ct),sl⟩) (cm:PySem.W.codeIn K cd "read"=true) (km:PySem.W.keepIn K (.ref f)=true)
    (b_abs:PySem.W.nsIn K mainGlobals "abs"=some none)
    (b_len:PySem.W.nsIn K mainGlobals "len"=some none)
    (b_all:PySem.W.nsIn K mainGlobals "all"=some none)
    (b_any:PySem.W.nsIn K mainGlobals "any"=some none)
    (b_list:PySem.W.nsIn K mainGlobals "list"=some none)
    (b_reversed:PySem.W.nsIn K mainGlobals "reversed"=some none)
    (b_range:PySem.W.nsIn K mainGlobals "range"=some none)
    (b_max:PySem.W.nsIn K mainGlobals "max"=some none)
    (b_min:PySem.W.nsIn K mainGlobals "min"=some none)
    (b_zip:PySem.W.nsIn K mainGlobals "zip"=some none)
    (b_ord:PySem.W.nsIn K mainGlobals "ord"=some none)
    (b_str:PySem.W.nsIn K mainGlobals "str"=some none)
    (g_GREATEST_DEGREE:Tcd K "GREATEST_DEGREE" 4)
    (g_GREATEST_SIZE:Tcd K "GREATEST_SIZE" 1000)
    (g_DIGIT_0:Tcd K "DIGIT_0" 48)
    (g_DIGIT_9:Tcd K "DIGIT_9" 57)
    (g_SHORT_TO_HALVE:Tcd K "SHORT_TO_HALVE" 200)
    (g_SHORT_TO_DIVIDE:Tcd K "SHORT_TO_DIVIDE" 2000)
    (g_LONGEST_TEXT:Tcd K "LONGEST_TEXT" 512)
    (g_SPACE:Tcd K "SPACE" 32)
    (g_OPENING:Tcd K "OPENING" 40)
    (g_CLOSING:Tcd K "CLOSING" 41)
    (g_STAR:Tcd K "STAR" 42)
    (g_PLUS:Tcd K "PLUS" 43)
    (g_MINUS:Tcd K "MINUS" 45)
    (g_SLASH:Tcd K "SLASH" 47)
    (g_CARET:Tcd K "CARET" 94)
    (g_LETTER_X:Tcd K "LETTER_X" 120)
    (g_END:Tcd K "END" 256)
    (g_MOST_DIGITS:Tcd K "MOST_DIGITS" 9)
    (g_MOST_DIGITS_OF_POWER:Tcd K "MOST_DIGITS_OF_POWER" 2)
    (g_DEEPEST:Tcd K "DEEPEST" 16)
    {C NC:Addr}{nmF qF:Str}{bsF subF:List Value}{snF:List Str}{abF:Bool}{colF:Option Bool}{ddF:Option Addr}{k0F k1F k2F k3F k5F:Option Value}{cN:Value}{dN:Option Addr}{eN:Array DictEntry}{pN:Nat}{sN:Array (Option Value)}
    (fC:PySem.W.nsIn K mainGlobals "Fault"=some (some (.ref C)))
    (fO:K.lookup C=some (excClassObj nmF qF C NC bsF veMro true snF subF abF colF ddF k0F k1F k2F k3F k5F "ValueError.__new__"))
    (fN:K.lookup NC=some ⟨cN,dN,.dict eN pN,sN⟩)
    (fK:StrKeys eN)
    (hF:Tfm K (PySem.W.nsIn K NC "__init__") "__init__" "Fault.__init__" s_Fault___init__)
    (y1:PySem.W.nsIn K NC "__setattr__"=some none)
    (y2:PySem.W.nsIn K NC "place"=some none)
    (y3:PySem.W.nsIn K NC "__getattribute__"=some none)
    (y4:PySem.W.nsIn K NC "__getattr__"=some none)
    (y6:PySem.W.keepIn K (.ref C)=true)
    (y7:PySem.W.findIn K (.ref C) "place"=some none)
    {R:Addr}
    (rR:PySem.W.nsIn K mainGlobals "Reader"=some (some (.ref R)))
    (r1:PySem.W.plainGet K R Str.empty=true)
    (r2:PySem.W.hasDictIn K R=true)
    (r3:PySem.W.plainOver K R=true)
    (r4:PySem.W.findIn K (.ref R) "__setattr__"=some (some (.builtin "object.__setattr__")))
    (r5:PySem.W.findIn K (.ref R) "text"=some none)
    (r6:PySem.W.findIn K (.ref R) "place"=some none)
    (r7:PySem.W.findIn K (.ref R) "depth"=some none)
    (r8:PySem.W.findIn K (.ref R) "steps"=some none)
    (r9:PySem.W.makesIn K R=true)
    (r10:PySem.W.keepIn K (.ref R)=true)
    (hMahead:Tfm K (PySem.W.findIn K (.ref R) "ahead") "ahead" "Reader.ahead" s_Reader_ahead)
    (hMread_digits:Tfm K (PySem.W.findIn K (.ref R) "read_digits") "read_digits" "Reader.read_digits" s_Reader_read_digits)
    (hMgo_deeper:Tfm K (PySem.W.findIn K (.ref R) "go_deeper") "go_deeper" "Reader.go_deeper" s_Reader_go_deeper)
    (hMread_power:Tfm K (PySem.W.findIn K (.ref R) "read_power") "read_power" "Reader.read_power" s_Reader_read_power)
    (hMread_product:Tfm K (PySem.W.findIn K (.ref R) "read_product") "read_product" "Reader.read_product" s_Reader_read_product)
    (hMread_sum:Tfm K (PySem.W.findIn K (.ref R) "read_sum") "read_sum" "Reader.read_sum" s_Reader_read_sum)
    (hMread_atom:Tfm K (PySem.W.findIn K (.ref R) "read_atom") "read_atom" "Reader.read_atom" s_Reader_read_atom)
    (hM__init__:Tfm K (PySem.W.findIn K (.ref R) "__init__") "__init__" "Reader.__init__" s_Reader___init__)
    (hMread_text:Tfm K (PySem.W.findIn K (.ref R) "read_text") "read_text" "Reader.read_text" s_Reader_read_text)
    : ∃ fd:FuncData,(∀ (s:Shared) (us:List Value),us.length=(["field","text"]:List Str).length→BindsTo s fd ⟨us,[]⟩ ((["field","text"]:List Str).zip us))∧∀ base:Heap,K.In base→base.Ns mainGlobals mg→base.NoSeer→FnOk P w K mg base CX0 82 fa fd ["field","text"] (sp_read K):=by
  have e:=hfa.symm.trans (PySem.W.mg_of X G am)
  cases e
  have O:Own mg:=⟨PySem.W.mg_none_of X G b_abs,PySem.W.mg_none_of X G b_len,PySem.W.mg_none_of X G b_all,PySem.W.mg_none_of X G b_any,PySem.W.mg_none_of X G b_list,PySem.W.mg_none_of X G b_reversed,PySem.W.mg_none_of X G b_range,PySem.W.mg_none_of X G b_max,PySem.W.mg_none_of X G b_min,PySem.W.mg_none_of X G b_zip,PySem.W.mg_none_of X G b_ord,PySem.W.mg_none_of X G b_str⟩
  have c_GREATEST_DEGREE:=g_GREATEST_DEGREE.kst X G
  have c_GREATEST_SIZE:=g_GREATEST_SIZE.kst X G
  have c_DIGIT_0:=g_DIGIT_0.kst X G
  have c_DIGIT_9:=g_DIGIT_9.kst X G
  have c_SHORT_TO_HALVE:=g_SHORT_TO_HALVE.kst X G
  have c_SHORT_TO_DIVIDE:=g_SHORT_TO_DIVIDE.kst X G
  have c_LONGEST_TEXT:=g_LONGEST_TEXT.kst X G
  have c_SPACE:=g_SPACE.kst X G
  have c_OPENING:=g_OPENING.kst X G
  have c_CLOSING:=g_CLOSING.kst X G
  have c_STAR:=g_STAR.kst X G
  have c_PLUS:=g_PLUS.kst X G
  have c_MINUS:=g_MINUS.kst X G
  have c_SLASH:=g_SLASH.kst X G
  have c_CARET:=g_CARET.kst X G
  have c_LETTER_X:=g_LETTER_X.kst X G
  have c_END:=g_END.kst X G
  have c_MOST_DIGITS:=g_MOST_DIGITS.kst X G
  have c_MOST_DIGITS_OF_POWER:=g_MOST_DIGITS_OF_POWER.kst X G
  have c_DEEPEST:=g_DEEPEST.kst X G
  obtain⟨f0,d0,a0,F0⟩:=h0
  obtain⟨f1,d1,a1,F1⟩:=h1
  obtain⟨f2,d2,a2,F2⟩:=h2
  obtain⟨f3,d3,a3,F3⟩:=h3
  obtain⟨f4,d4,a4,F4⟩:=h4
  obtain⟨f5,d5,a5,F5⟩:=h5
  obtain⟨f6,d6,a6,F6⟩:=h6
  obtain⟨f7,d7,a7,F7⟩:=h7
  obtain⟨f8,d8,a8,F8⟩:=h8
  obtain⟨f9,d9,a9,F9⟩:=h9
  obtain⟨f10,d10,a10,F10⟩:=h10
  obtain⟨f11,d11,a11,F11⟩:=h11
  obtain⟨f12,d12,a12,F12⟩:=h12
  obtain⟨f13,d13,a13,F13⟩:=h13
  obtain⟨f14,d14,a14,F14⟩:=h14
  obtain⟨f15,d15,a15,F15⟩:=h15
  obtain⟨f16,d16,a16,F16⟩:=h16
  obtain⟨f17,d17,a17,F17⟩:=h17
  obtain⟨f18,d18,a18,F18⟩:=h18
  obtain⟨f19,d19,a19,F19⟩:=h19
  obtain⟨f20,d20,a20,F20⟩:=h20
  obtain⟨f21,d21,a21,F21⟩:=h21
  obtain⟨f22,d22,a22,F22⟩:=h22
  obtain⟨f23,d23,a23,F23⟩:=h23
  obtain⟨f24,d24,a24,F24⟩:=h24
  obtain⟨f25,d25,a25,F25⟩:=h25
  obtain⟨f26,d26,a26,F26⟩:=h26
  obtain⟨f27,d27,a27,F27⟩:=h27
  obtain⟨f28,d28,a28,F28⟩:=h28
  obtain⟨f29,d29,a29,F29⟩:=h29
  obtain⟨f30,d30,a30,F30⟩:=h30
  obtain⟨f31,d31,a31,F31⟩:=h31
  obtain⟨f32,d32,a32,F32⟩:=h32
  have F33:=fun_mk (st:=s_read) lm cm km
  obtain⟨fF,dF,aF,FF,nF⟩:=hF
  obtain⟨fMahead,dMahead,aMahead,FMahead,nMahead⟩:=hMahead
  obtain⟨fMread_digits,dMread_digits,aMread_digits,FMread_digits,nMread_digits⟩:=hMread_digits
  obtain⟨fMgo_deeper,dMgo_deeper,aMgo_deeper,FMgo_deeper,nMgo_deeper⟩:=hMgo_deeper
  obtain⟨fMread_power,dMread_power,aMread_power,FMread_power,nMread_power⟩:=hMread_power
  obtain⟨fMread_product,dMread_product,aMread_product,FMread_product,nMread_product⟩:=hMread_product
  obtain⟨fMread_sum,dMread_sum,aMread_sum,FMread_sum,nMread_sum⟩:=hMread_sum
  obtain⟨fMread_atom,dMread_atom,aMread_atom,FMread_atom,nMread_atom⟩:=hMread_atom
  obtain⟨fM__init__,dM__init__,aM__init__,FM__init__,nM__init__⟩:=hM__init__
  obtain⟨fMread_text,dMread_text,aMread_text,FMread_text,nMread_text⟩:=hMread_text
  have FC:FaultCls K C NC fF:=⟨⟨_,_,_,_,_,_,_,_,_,_,_,_,_,fO⟩,⟨_,_,_,_,_,fN,fK⟩,aF,y1,y2,y3,y4,nF,y6,y7⟩
  have FO:FaultOk K C NC fF s_Fault___init__:=⟨FC,⟨_,_,_,_,_,FF,FF.binds (ps:=["self","place"]) fun _ _ _ _ _ _ us hl=>by obtain⟨_,_,rfl⟩:=args2 hl;rfl,rfl,fun _=>rfl⟩,sc_Fault___init__,.inl rfl,.inl rfl⟩
  have T:RTxt K mg R C:=⟨⟨r1,r2,r3,r4⟩,r5,r6,r7,r8,PySem.W.mg_of X G fC,PySem.W.mg_of X G rR⟩
  have m_ahead:Mt K R "ahead" "Reader.ahead" s_Reader_ahead ["self"]:=⟨_,_,FMahead,⟨aMahead,nMahead,FMahead.kp⟩,FMahead.binds fun _ _ _ _ _ _ us hl=>by obtain⟨_,rfl⟩:=args1 hl;rfl⟩
  have m_read_digits:Mt K R "read_digits" "Reader.read_digits" s_Reader_read_digits ["self","most"]:=⟨_,_,FMread_digits,⟨aMread_digits,nMread_digits,FMread_digits.kp⟩,FMread_digits.binds fun _ _ _ _ _ _ us hl=>by obtain⟨_,_,rfl⟩:=args2 hl;rfl⟩
  have m_go_deeper:Mt K R "go_deeper" "Reader.go_deeper" s_Reader_go_deeper ["self"]:=⟨_,_,FMgo_deeper,⟨aMgo_deeper,nMgo_deeper,FMgo_deeper.kp⟩,FMgo_deeper.binds fun _ _ _ _ _ _ us hl=>by obtain⟨_,rfl⟩:=args1 hl;rfl⟩
  have m_read_power:Mt K R "read_power" "Reader.read_power" s_Reader_read_power ["self"]:=⟨_,_,FMread_power,⟨aMread_power,nMread_power,FMread_power.kp⟩,FMread_power.binds fun _ _ _ _ _ _ us hl=>by obtain⟨_,rfl⟩:=args1 hl;rfl⟩
  have m_read_product:Mt K R "read_product" "Reader.read_product" s_Reader_read_product ["self"]:=⟨_,_,FMread_product,⟨aMread_product,nMread_product,FMread_product.kp⟩,FMread_product.binds fun _ _ _ _ _ _ us hl=>by obtain⟨_,rfl⟩:=args1 hl;rfl⟩
  have m_read_sum:Mt K R "read_sum" "Reader.read_sum" s_Reader_read_sum ["self"]:=⟨_,_,FMread_sum,⟨aMread_sum,nMread_sum,FMread_sum.kp⟩,FMread_sum.binds fun _ _ _ _ _ _ us hl=>by obtain⟨_,rfl⟩:=args1 hl;rfl⟩
  have m_read_atom:Mt K R "read_atom" "Reader.read_atom" s_Reader_read_atom ["self"]:=⟨_,_,FMread_atom,⟨aMread_atom,nMread_atom,FMread_atom.kp⟩,FMread_atom.binds fun _ _ _ _ _ _ us hl=>by obtain⟨_,rfl⟩:=args1 hl;rfl⟩
  have m_read_text:Mt K R "read_text" "Reader.read_text" s_Reader_read_text ["self"]:=⟨_,_,FMread_text,⟨aMread_text,nMread_text,FMread_text.kp⟩,FMread_text.binds fun _ _ _ _ _ _ us hl=>by obtain⟨_,rfl⟩:=args1 hl;rfl⟩
  refine⟨PySem.W.fnOf "read" "read" (defArgs s_read) (defBody s_read) (defScope s_read) .none kV dc pm an cd ct,fun s us hu=>by obtain⟨_,_,rfl⟩:=args2 hu;exact .of_eq rfl,fun base _ _ hN=>?_⟩
  have C_is_told_rightly:Cal P w K mg base 1 "is_told_rightly" ["field"] (sp_is_told_rightly K):=⟨_,_,ok_is_told_rightly F0 O c_GREATEST_DEGREE c_GREATEST_SIZE,PySem.W.mg_of X G a0,F0.kp,F0.binds fun _ _ _ _ _ _ us hl=>by obtain⟨_,rfl⟩:=args1 hl;rfl⟩
  have C_polynomial_of:Cal P w K mg base 1 "polynomial_of" ["field"] (sp_polynomial_of K):=⟨_,_,ok_polynomial_of F1 O,PySem.W.mg_of X G a1,F1.kp,F1.binds fun _ _ _ _ _ _ us hl=>by obtain⟨_,rfl⟩:=args1 hl;rfl⟩
  have C_divisors_of:Cal P w K mg base 1 "divisors_of" ["number"] sp_divisors_of:=⟨_,_,ok_divisors_of F2 O,PySem.W.mg_of X G a2,F2.kp,F2.binds fun _ _ _ _ _ _ us hl=>by obtain⟨_,rfl⟩:=args1 hl;rfl⟩
  have C_value_at:Cal P w K mg base 1 "value_at" ["f","number"] (sp_value_at K):=⟨_,_,ok_value_at F3 O,PySem.W.mg_of X G a3,F3.kp,F3.binds fun _ _ _ _ _ _ us hl=>by obtain⟨_,_,rfl⟩:=args2 hl;rfl⟩
  have C_has_whole_root:Cal P w K mg base 2 "has_whole_root" ["field"] (sp_has_whole_root K):=⟨_,_,ok_has_whole_root F4 O C_polynomial_of C_divisors_of C_value_at,PySem.W.mg_of X G a4,F4.kp,F4.binds fun _ _ _ _ _ _ us hl=>by obtain⟨_,rfl⟩:=args1 hl;rfl⟩
  have C_square_root_floor:Cal P w K mg base 1 "square_root_floor" ["number"] sp_square_root_floor:=⟨_,_,ok_square_root_floor F5 O,PySem.W.mg_of X G a5,F5.kp,F5.binds fun _ _ _ _ _ _ us hl=>by obtain⟨_,rfl⟩:=args1 hl;rfl⟩
  have C_is_product_of_quadratics:Cal P w K mg base 2 "is_product_of_quadratics" ["field"] (sp_is_product_of_quadratics K):=⟨_,_,ok_is_product_of_quadratics F6 O C_divisors_of C_square_root_floor,PySem.W.mg_of X G a6,F6.kp,F6.binds fun _ _ _ _ _ _ us hl=>by obtain⟨_,rfl⟩:=args1 hl;rfl⟩
  have C_is_product:Cal P w K mg base 3 "is_product" ["field"] (sp_is_product K):=⟨_,_,ok_is_product F7 O C_has_whole_root C_is_product_of_quadratics,PySem.W.mg_of X G a7,F7.kp,F7.binds fun _ _ _ _ _ _ us hl=>by obtain⟨_,rfl⟩:=args1 hl;rfl⟩
  have C_field_refusal:Cal P w K mg base 4 "field_refusal" ["field"] (sp_field_refusal K):=⟨_,_,ok_field_refusal F8 O C_is_told_rightly C_is_product,PySem.W.mg_of X G a8,F8.kp,F8.binds fun _ _ _ _ _ _ us hl=>by obtain⟨_,rfl⟩:=args1 hl;rfl⟩
  have C_is_digit:Cal P w K mg base 1 "is_digit" ["byte"] sp_is_digit:=⟨_,_,ok_is_digit F9 O c_DIGIT_0 c_DIGIT_9,PySem.W.mg_of X G a9,F9.kp,F9.binds fun _ _ _ _ _ _ us hl=>by obtain⟨_,rfl⟩:=args1 hl;rfl⟩
  have M_ahead:=m_ahead.mth fun f fd F=>ok_Reader_ahead (P:=P) (w:=w) (base:=base) F O T c_SPACE c_END
  have M_read_digits:=m_read_digits.mth fun f fd F=>ok_Reader_read_digits F O T FO c_DIGIT_0 C_is_digit M_ahead
  have M_go_deeper:=m_go_deeper.mth fun f fd F=>ok_Reader_go_deeper (P:=P) (w:=w) (base:=base) F T FO c_DEEPEST
  have M_sum:=(parts_all T FO m_read_sum m_read_product m_read_power m_read_atom c_PLUS c_MINUS c_STAR c_SLASH c_CARET c_MOST_DIGITS_OF_POWER c_LETTER_X c_OPENING c_CLOSING c_MOST_DIGITS M_ahead M_read_digits M_go_deeper 17).1
  have M_read_text:=m_read_text.mth fun f fd F=>ok_Reader_read_text F T FO c_END M_ahead M_sum
  have MK:Mk K R fM__init__:=⟨r9,aM__init__,nM__init__,r10⟩
  have G_init:=ok_Reader___init__ (P:=P) (w:=w) (base:=base) FM__init__ T
  have C_steps_of:CalF P w K mg base C 78 "steps_of" ["text"] (sp_steps_of K):=⟨_,_,ok_steps_of F10 T MK G_init (FM__init__.binds (ps:=["self","text"]) fun _ _ _ _ _ _ us hl=>by obtain⟨_,_,rfl⟩:=args2 hl;rfl) M_read_text,PySem.W.mg_of X G a10,F10.kp,F10.binds (ps:=["text"]) fun _ _ _ _ _ _ us hl=>by obtain⟨_,rfl⟩:=args1 hl;rfl⟩
  have C_whole_row:Cal P w K mg base 1 "whole_row" ["number","degree"] sp_whole_row:=⟨_,_,ok_whole_row F11 O,PySem.W.mg_of X G a11,F11.kp,F11.binds fun _ _ _ _ _ _ us hl=>by obtain⟨_,_,rfl⟩:=args2 hl;rfl⟩
  have C_remainder_of:Cal P w K mg base 1 "remainder_of" ["field","polynomial"] (sp_remainder_of K):=⟨_,_,ok_remainder_of F12 O,PySem.W.mg_of X G a12,F12.kp,F12.binds fun _ _ _ _ _ _ us hl=>by obtain⟨_,_,rfl⟩:=args2 hl;rfl⟩
  have C_root_row:Cal P w K mg base 2 "root_row" ["field"] (sp_root_row K):=⟨_,_,ok_root_row F13 O C_remainder_of,PySem.W.mg_of X G a13,F13.kp,F13.binds fun _ _ _ _ _ _ us hl=>by obtain⟨_,rfl⟩:=args1 hl;rfl⟩
  have C_negated:Cal P w K mg base 1 "negated" ["a"] (sp_negated K):=⟨_,_,ok_negated F14 O,PySem.W.mg_of X G a14,F14.kp,F14.binds fun _ _ _ _ _ _ us hl=>by obtain⟨_,rfl⟩:=args1 hl;rfl⟩
  have C_product_of:Cal P w K mg base 2 "product_of" ["field","p","q"] (sp_product_of K):=⟨_,_,ok_product_of F15 O C_remainder_of,PySem.W.mg_of X G a15,F15.kp,F15.binds fun _ _ _ _ _ _ us hl=>by obtain⟨_,_,_,rfl⟩:=args3 hl;rfl⟩
  have C_multiplied:Cal P w K mg base 3 "multiplied" ["field","a","b"] (sp_multiplied K):=⟨_,_,ok_multiplied F16 O C_product_of,PySem.W.mg_of X G a16,F16.kp,F16.binds fun _ _ _ _ _ _ us hl=>by obtain⟨_,_,_,rfl⟩:=args3 hl;rfl⟩
  have C_raised:Cal P w K mg base 4 "raised" ["field","a","k"] (sp_raised K):=⟨_,_,ok_raised F17 O C_whole_row C_multiplied,PySem.W.mg_of X G a17,F17.kp,F17.binds fun _ _ _ _ _ _ us hl=>by obtain⟨_,_,_,rfl⟩:=args3 hl;rfl⟩
  have C_divided:Cal P w K mg base 33 "divided" ["lines"] sp_divided:=⟨_,_,ok_divided F18 O hN ht,PySem.W.mg_of X G a18,F18.kp,F18.binds fun _ _ _ _ _ _ us hl=>by obtain⟨_,rfl⟩:=args1 hl;rfl⟩
  have C_carried_over:Cal P w K mg base 1 "carried_over" ["lines","shift","step"] sp_carried_over:=⟨_,_,ok_carried_over F19 O,PySem.W.mg_of X G a19,F19.kp,F19.binds fun _ _ _ _ _ _ us hl=>by obtain⟨_,_,_,rfl⟩:=args3 hl;rfl⟩
  have C_halved:Cal P w K mg base 76 "halved" ["a","b"] (sp_halved 20):=cal_halved F21 F20 O c_SHORT_TO_HALVE C_divided C_carried_over (PySem.W.mg_of X G a21) F21.kp (F21.binds (ps:=["a","b"]) fun _ _ _ _ _ _ us hl=>by obtain⟨_,_,rfl⟩:=args2 hl;rfl) (PySem.W.mg_of X G a20) F20.kp (F20.binds (ps:=["lines","shift"]) fun _ _ _ _ _ _ us hl=>by obtain⟨_,_,rfl⟩:=args2 hl;rfl) 20
  have C_common_divisor:Cal P w K mg base 77 "common_divisor" ["m","n"] sp_common_divisor:=⟨_,_,ok_common_divisor F22 O c_SHORT_TO_DIVIDE C_halved,PySem.W.mg_of X G a22,F22.kp,F22.binds fun _ _ _ _ _ _ us hl=>by obtain⟨_,_,rfl⟩:=args2 hl;rfl⟩
  have C_without_divisor:Cal P w K mg base 78 "without_divisor" ["values"] (sp_without_divisor K):=⟨_,_,ok_without_divisor F23 O hN ht C_common_divisor,PySem.W.mg_of X G a23,F23.kp,F23.binds fun _ _ _ _ _ _ us hl=>by obtain⟨_,rfl⟩:=args1 hl;rfl⟩
  have C_one_form:Cal P w K mg base 79 "one_form" ["a"] (sp_without_divisor K):=⟨_,_,ok_one_form F24 O C_without_divisor,PySem.W.mg_of X G a24,F24.kp,F24.binds fun _ _ _ _ _ _ us hl=>by obtain⟨_,rfl⟩:=args1 hl;rfl⟩
  have C_power_of:Cal P w K mg base 80 "power_of" ["field","a","k"] (sp_power_of K):=⟨_,_,ok_power_of F25 O C_raised C_one_form,PySem.W.mg_of X G a25,F25.kp,F25.binds fun _ _ _ _ _ _ us hl=>by obtain⟨_,_,_,rfl⟩:=args3 hl;rfl⟩
  have C_is_zero:Cal P w K mg base 1 "is_zero" ["a"] (sp_is_zero K):=⟨_,_,ok_is_zero F26 O,PySem.W.mg_of X G a26,F26.kp,F26.binds fun _ _ _ _ _ _ us hl=>by obtain⟨_,rfl⟩:=args1 hl;rfl⟩
  have C_added:Cal P w K mg base 1 "added" ["a","b"] (sp_added K):=⟨_,_,ok_added F27 O,PySem.W.mg_of X G a27,F27.kp,F27.binds fun _ _ _ _ _ _ us hl=>by obtain⟨_,_,rfl⟩:=args2 hl;rfl⟩
  have C_trace_of:Cal P w K mg base 2 "trace_of" ["field","numerators"] (sp_trace_of K):=⟨_,_,ok_trace_of F28 O C_remainder_of,PySem.W.mg_of X G a28,F28.kp,F28.binds fun _ _ _ _ _ _ us hl=>by obtain⟨_,_,rfl⟩:=args2 hl;rfl⟩
  have C_cofactor_of:Cal P w K mg base 3 "cofactor_of" ["field","numerators"] (sp_cofactor_of K):=⟨_,_,ok_cofactor_of F29 O C_product_of C_trace_of,PySem.W.mg_of X G a29,F29.kp,F29.binds fun _ _ _ _ _ _ us hl=>by obtain⟨_,_,rfl⟩:=args2 hl;rfl⟩
  have C_inverse_of:Cal P w K mg base 4 "inverse_of" ["field","a"] (sp_inverse_of K):=⟨_,_,ok_inverse_of F30 O C_cofactor_of C_product_of,PySem.W.mg_of X G a30,F30.kp,F30.binds fun _ _ _ _ _ _ us hl=>by obtain⟨_,_,rfl⟩:=args2 hl;rfl⟩
  have C_joined:Cal P w K mg base 80 "joined" ["field","word","left","right"] (sp_joined K):=⟨_,_,ok_joined F31 O C_added C_negated C_multiplied C_inverse_of C_one_form,PySem.W.mg_of X G a31,F31.kp,F31.binds fun _ _ _ _ _ _ us hl=>by obtain⟨_,_,_,_,rfl⟩:=args4 hl;rfl⟩
  have C_row_after:Cal P w K mg base 81 "row_after" ["field","steps"] (sp_row_after K):=⟨_,_,ok_row_after F32 O C_whole_row C_root_row C_negated C_power_of C_is_zero C_joined,PySem.W.mg_of X G a32,F32.kp,F32.binds fun _ _ _ _ _ _ us hl=>by obtain⟨_,_,rfl⟩:=args2 hl;rfl⟩
  exact ok_read F33 O T FO c_LONGEST_TEXT C_field_refusal C_steps_of C_row_after C_one_form
end Rr
open PySem PySem.W PyProof.Rows
set_option maxRecDepth 100000
set_option maxHeartbeats 0
local macro_rules
  | `(tactic| o_headS $H:term) => `(tactic| (
      refine holds_os (q := Rr.view) (loose := []) (Xt := Rr.Xt) (XP := XL Rr.view []) (Yf := Hook.obs $H) (Ya := Hook.val $H) (YP := Hook.says $H) (N := 4018) (fun w => Rr.map_both (Rr.looks w) (Eq.trans (congrFun (congrFun PySem.W.Fast.rrOb_eq _) w) (by kernel_rfl))) (Hook.of $H) (Hook.keeps $H) (fun s e => xl_of s (Bool.and_eq_true_iff.mp e).1) XL.keeps (by rfl) (by rfl) (by rfl) (fun s e => recFacts_of (Bool.and_eq_true_iff.mp e).2) os_shapes (by decide +kernel) (by decide +kernel) ⟨rfl, rfl, rfl, rfl, rfl, by decide +kernel⟩ ⟨[.list [], .list []], by decide +kernel, by decide +kernel⟩ ?_))
theorem PySem.Challenge.cw_rootrows_s09_read_holds : PySem.Challenge.rw_rootrows_s09_read.Holds := by
  w_on;k_headS
  k_fillS
  refine L2.walk_specS (r:=PySem.Challenge.rw_rootrows_s09_read) (k:=82) (CX:=L2.CX0) (ps:=["field","text"]) (sp:=Rr.sp_read) (by decide +kernel) rfl rfl ⟨rfl,by decide,by decide⟩ (by decide +kernel) (fun w h Y=>PySem.W.kIn_of Y) ?F ?S (fun _ _ _ _ z=>z)
  case F =>
    intro w mg fa h Y KX G hmg
    apply Rr.all_mk rfl KX G hmg
    all_goals first | (apply Rr.fd_mk <;> k_is) | (apply Rr.fm_mk <;> k_is) | (apply Rr.cd_mk;k_is) | exact Rr.strKeys_of rfl | k_is
  case S =>
    intro K H xs a hO hwi hask hx
    obtain⟨l0,l1,_⟩:=a
    cases hx with
    | cons h0 r0 =>
      cases r0 with
      | cons h1 r1 =>
        cases r1
        cases h0 with
        | lst hs0 ha0 =>
          cases h1 with
          | lst hs1 ha1 =>
            have e0:=L2.ints_dw l0 _ ha0
            have e1:=L2.ints_dw l1 _ ha1
            subst e0 e1
            have q:((Codec.inLen 0 10 l0 && l0.all (Codec.inInt (-9223372036854775807) 9223372036854775807)) && ((Codec.inLen 0 600 l1 && l1.all (Codec.inInt 0 255)) && true))=true:=hwi
            simp only[Bool.and_eq_true] at q
            obtain⟨⟨q0,p0⟩,⟨q1,p1⟩,_⟩:=q
            refine⟨_,_,l0,l1,rfl,⟨_,rfl,hs0⟩,⟨_,rfl,hs1⟩,?_,fun z hz=>?_,?_,fun H' y hy=>?_⟩
            · have:=(Codec.inNat_iff.mp q0).2
              lia
            · have:=Codec.inInt_iff.mp (List.all_eq_true.mp p1 z hz)
              lia
            · exact Rr.asked_modest hask
            · obtain⟨p,rfl,hp⟩:=hy
              exact .lst (L2.SqL.of hp) (L2.dw_ints _)
#print axioms PySem.Challenge.cw_rootrows_s09_read_holds
