import PyProof.Rows.All
import Wide.All
import OpenK.AllK
import Wide.FinOn
import Lean
import PyProof.EqAt
import PyProof.EqKinds
import PyProof.TupleCall
import PyProof.SetKind
import PyProof.TupleKey
import PyProof.DictKinds
import PyProof.SetRoads
import PyProof.WalksS
import PyProof.Walks
import PyProof.CollectIter
import PyProof.Rows.SetFrom
import KE.KTurns
import PyProof.ListRange
import KE.KRevIter
import PyProof.FactsAll.set_1
import KE.KTupSum
import PyProof.SeqI3
import PySem.Challenge.RW_greenturns_k07_whole_the_shortest_round
set_option Elab.async false
set_option linter.all false
set_option maxRecDepth 100000
namespace L2
open PySem PySem.Spec PyProof.Rows
abbrev Key:=Sum Int Str
def zkJ:Key→Value→Bool
  | .inl k,v=>Value.isInt k v
  | .inr x,v=>Value.isStrOf x v
def znS(w:World):Key→Int
  | .inl k=>hashInt k
  | .inr x=>hashStr w x
theorem qo:∀ {k:Key} {v:Value},zkJ k v=true→(∃ i t,k=Sum.inl i∧v=Value.int i t)∨(∃ x t,k=Sum.inr x∧v=Value.str x t)
  | .inl i,v,h=>by
    obtain⟨t,e⟩:=Value.isInt_shape (k:=i) (v:=v) h
    exact .inl ⟨i,t,rfl,e⟩
  | .inr x,v,h=>by
    obtain⟨t,e⟩:=Value.isStrOf_shape (x:=x) (v:=v) h
    exact .inr ⟨x,t,rfl,e⟩
theorem zkK(a b:Int):decide ((Sum.inl a:Key)=Sum.inl b)=(a == b):=by
  by_cases e:a=b
  · subst e;simp
  · have h:¬ (Sum.inl a:Key)=Sum.inl b:=fun q=>e (Sum.inl.inj q)
    rw [decide_eq_false h]
    exact (beq_eq_false_iff_ne.mpr e).symm
theorem zkN(a b:Str):decide ((Sum.inr a:Key)=Sum.inr b)=decide (a=b):=by
  by_cases e:a=b
  · subst e;simp
  · have h:¬ (Sum.inr a:Key)=Sum.inr b:=fun q=>e (Sum.inr.inj q)
    rw [decide_eq_false h,decide_eq_false e]
theorem zkL(a:Int)(b:Str):decide ((Sum.inl a:Key)=Sum.inr b)=false:=decide_eq_false (fun q=>nomatch q)
theorem zkM(a:Str)(b:Int):decide ((Sum.inr a:Key)=Sum.inl b)=false:=decide_eq_false (fun q=>nomatch q)
def zet(prog:Program)(w:World):PySem.KeyKind prog w Key where
  is:=zkJ
  hash:=znS w
  inj:=fun v a b ha hb=>by
    rcases qo ha with ⟨i,t,rfl,rfl⟩ | ⟨x,t,rfl,rfl⟩
    · rcases qo hb with ⟨j,u,rfl,e⟩ | ⟨y,u,rfl,e⟩
      · injection e with e1 _;rw [e1]
      · exact nomatch e
    · rcases qo hb with ⟨j,u,rfl,e⟩ | ⟨y,u,rfl,e⟩
      · exact nomatch e
      · injection e with e1 _;rw [e1]
  byValue:=fun k v h=>by
    rcases qo h with ⟨i,t,rfl,rfl⟩ | ⟨x,t,rfl,rfl⟩ <;> rfl
  pyHash:=fun hv h=>by
    rcases qo hv with ⟨i,t,rfl,rfl⟩ | ⟨x,t,rfl,rfl⟩
    · exact wpAny_pyHash_int h
    · exact wpAny_pyHash_str h
  eqBool:=fun hu hv h=>by
    rcases qo hu with ⟨i,t,rfl,rfl⟩ | ⟨x,t,rfl,rfl⟩
    · rcases qo hv with ⟨j,u,rfl,rfl⟩ | ⟨y,u,rfl,rfl⟩
      · rw [zkK] at h;exact wpAny_eqBool_int h
      · rw [zkL] at h;exact SeqAt.EqAt.int_str i t y u _ _ _ _ h
    · rcases qo hv with ⟨j,u,rfl,rfl⟩ | ⟨y,u,rfl,rfl⟩
      · rw [zkM] at h;exact SeqAt.EqAt.str_int x t j u _ _ _ _ h
      · rw [zkN] at h;exact wpAny_eqBool_str h
  «strs»:=fun k x t v h=>by
    rcases qo h with ⟨i,u,rfl,e⟩ | ⟨y,u,rfl,e⟩
    · exact nomatch e
    · injection e with e1 _
      subst e1
      cases v <;> rfl
end L2
namespace L2
open PySem PySem.Spec PyProof.Rows
inductive V where
  | non | bl (b:Bool) | int (i:Int) | str (x:Str) | byt (b:Array UInt8) | flt (b:UInt64) | ref (a:Addr) | ty (n:String)
  deriving DecidableEq
def RelV:V→Value→Prop
  | .non,u=>u=Value.none
  | .bl b,u=>u=Value.bool b
  | .int i,u=>∃ t,u=Value.int i t
  | .str x,u=>∃ t,u=Value.str x t
  | .byt b,u=>∃ t,u=Value.bytes b t
  | .flt b,u=>∃ t,u=Value.float b t
  | .ref a,u=>u=Value.ref a
  | .ty n,u=>u=Value.type n
abbrev Vals:List V→List Value→Prop:=Paired RelV
theorem Vals.length{xs:List V}{us:List Value}(r:Vals xs us):xs.length=us.length:=Paired.length r
theorem Vals.get:∀ {xs:List V} {us:List Value} {i:Nat} {x:V},Vals xs us→xs[i]?=some x→∃ u,us[i]?=some u∧RelV x u
  | _,_,_,_,.nil,e=>by simp at e
  | _,_,0,_,.cons r _,e=>by simp at e;subst e;exact⟨_,rfl,r⟩
  | _,_,i+1,x,.cons _ t,e=>by
    obtain⟨u,h1,h2⟩:=Vals.get (i:=i) (x:=x) t (by simpa using e)
    exact⟨u,by simpa using h1,h2⟩
theorem Vals.set{x:V}{u:Value}(r:RelV x u):∀ {xs:List V} {us:List Value} (i:Nat),Vals xs us→Vals (xs.set i x) (us.set i u)
  | _,_,_,.nil=>.nil
  | _,_,0,.cons _ t=>.cons r t
  | _,_,i+1,.cons q t=>.cons q (Vals.set r i t)
theorem Vals.append:∀ {xs ys:List V} {us ws:List Value},Vals xs us→Vals ys ws→Vals (xs++ys) (us++ws)
  | _,_,_,_,.nil,s=>s
  | _,_,_,_,.cons r t,s=>.cons r (Vals.append t s)
theorem Vals.take:∀ {xs:List V} {us:List Value} (n:Nat),Vals xs us→Vals (xs.take n) (us.take n)
  | _,_,0,_=>.nil
  | _,_,_+1,.nil=>.nil
  | _,_,n+1,.cons r t=>.cons r (Vals.take n t)
theorem Vals.drop:∀ {xs:List V} {us:List Value} (n:Nat),Vals xs us→Vals (xs.drop n) (us.drop n)
  | _,_,0,r=>r
  | _,_,_+1,.nil=>.nil
  | _,_,n+1,.cons _ t=>Vals.drop n t
def zfJ:Option V→Option Value→Prop
  | some v,some u=>RelV v u
  | none,none=>True
  | _,_=>False
def KV{κ:Type}:List (κ×V)→List (κ×Value)→Prop:=Paired fun (p:κ×V) (q:κ×Value)=>p.1=q.1∧RelV p.2 q.2
def kV:Key→V
  | .inl i=>.int i
  | .inr x=>.str x
inductive HO where
  | lst (xs:List V)
  | tup (xs:List V)
  | dK (kvs:List (Key×V)) | dT (kvs:List (List Key×V))
  | set (S:Int→Bool) (n:Nat)
  | ins (C dx:Addr) (fs:List (Str×V))
  | own (x:Addr)
  | xd (fs:List (Str×V))
  | met (f x:Addr)
  | rng (lo hi:Int)
  | frz (o:Obj) (u:HO)
  | tbl (ps:Array Value)
  | ext (φ:Heap→Prop)
abbrev Hp:=Addr→Option HO
def upd(H:Hp)(a:Addr)(o:HO):Hp:=fun b=>if b=a then some o else H b
theorem qd{H:Hp}{a:Addr}{o:HO}:upd H a o a=some o:=by unfold upd;rw [if_pos rfl]
theorem zu{H:Hp}{a b:Addr}{o:HO}(h:b≠a):upd H a o b=H b:=by unfold upd;rw [if_neg h]
theorem zx{H:Hp}{a b:Addr}{o:HO}(h:H a=some o)(h':H b=none):a≠b:=by
  intro e;subst e;rw [h] at h';cases h'
section
variable (P:Program)(w:World)
def xA(H:Hp)(h:Heap)(a:Addr):HO→Prop
  | .lst xs=>xs.length≤sizeLine∧∃ (its:List Value) (n:Nat),Vals xs its∧h.get? a=some { cls:=.type "list",data:=.seq its.toArray n }
  | .tup xs=>xs.length≤sizeLine∧∃ its:List Value,Vals xs its∧IsTup h a its.toArray
  | .dK kvs=>kvs.length≤sizeLine∧(a == sysModules)=false∧∃ vs,KV kvs vs∧h.DictOf (zet P w) a vs
  | .dT kvs=>kvs.length≤sizeLine∧(a == sysModules)=false∧∃ xs:List (List Key×Addr×Value),
      Paired (fun (p:List Key×V) (q:List Key×Addr×Value)=>p.1=q.1∧H q.2.1=some (.tup (p.1.map kV))∧RelV p.2 q.2.2) kvs xs ∧
      ∃ o es ep,h.get? a=some o∧o.ExactDict∧o.data=.dict es ep∧es.toList=xs.map (entryOfKey (tupleKind (zet P w)))∧(xs.map (·.1)).Nodup
  | .set S n=>h.SetOf (intKind P w) a S n
  | .ins C dx fs=>H dx=some (.own a)∧fs.length≤1000∧dx≠a∧h.get? a=some (PySem.W.instObj C dx) ∧
      ∃ mA,h.Ns1 dx mA∧(∀ f,zfJ (fs.lookup f) (mA f))∧PySem.Within mA (fs.map (·.1))
  | .own _=>∃ o,h.get? a=some o
  | .xd fs=>∃ mA,h.Ns1 a mA∧∀ f,zfJ (fs.lookup f) (mA f)
  | .rng lo hi=>∃ t u v,h.get? a=some { cls:=.type "range",data:=.fields #[.int lo t,.int hi u,.int 1 v] }
  | .frz o u=>h.get? a=some o∧xA H h a u
  | .tbl ps=>h.get? a=some { cls:=.none,data:=.fields ps }
  | .met f x=>h.get? a=some (PySem.W.methodObj (.ref f) (.ref x))
  | .ext φ=>φ h∧(∃ o,h.get? a=some o)∧∀ h1 h2:Heap,φ h1→(∀ o,h1.get? a=some o→h2.get? a=some o)→φ h2
def HOk(H:Hp)(h:Heap):Prop:=∀ a o,H a=some o→xA P w H h a o
end
section
variable {P:Program}{w:World}{H H':Hp}{h h':Heap}{a:Addr}{o:HO}
theorem xA.lt(x:xA P w H h a o):a < h.objs.size:=by
  cases o with
  | lst xs=>obtain⟨_,_,_,_,e⟩:=x;exact Heap.lt_size e
  | tup xs=>obtain⟨_,_,_,p⟩:=x;exact p.lt
  | dK kvs=>obtain⟨_,_,_,_,o,_,_,e,_⟩:=x;exact Heap.lt_size e
  | dT kvs=>obtain⟨_,_,_,_,o,_,_,e,_⟩:=x;exact Heap.lt_size e
  | set S n=>obtain⟨o,_,_,_,e,_⟩:=x;exact Heap.lt_size e
  | ins C dx fs=>obtain⟨_,_,_,e,_⟩:=x;exact Heap.lt_size e
  | own y=>obtain⟨_,e⟩:=x;exact Heap.lt_size e
  | xd fs=>obtain⟨_,⟨_,_,_,e,_⟩,_⟩:=x;exact Heap.lt_size e
  | rng lo hi=>obtain⟨_,_,_,e⟩:=x;exact Heap.lt_size e
  | frz ob u=>obtain⟨e,_⟩:=x;exact Heap.lt_size e
  | tbl ps=>exact Heap.lt_size (show h.get? a=some _ from x)
  | met f y=>exact Heap.lt_size (show h.get? a=some _ from x)
  | ext φ=>obtain⟨_,⟨_,e⟩,_⟩:=x;exact Heap.lt_size e
theorem Paired.mapP{α β:Type}{F G:α→β→Prop}:∀ {l₁:List α} {l₂:List β},Paired F l₁ l₂→(∀ a b,F a b→G a b)→Paired G l₁ l₂
  | _,_,.nil,_=>.nil
  | _,_,.cons r t,f=>.cons (f _ _ r) (Paired.mapP t f)
theorem xA.stay(x:xA P w H h a o)(k:∀ b u,(b=a∨H b=some (.own a))→h.get? b=some u→h'.get? b=some u)
    (ho:∀ b,H b=some (.own a)→H' b=some (.own a)) (ht:∀ b xs,H b=some (.tup xs)→H' b=some (.tup xs)):xA P w H' h' a o:=by
  induction o with
  | lst xs=>obtain⟨z,its,n,r,e⟩:=x;exact⟨z,its,n,r,k _ _ (.inl rfl) e⟩
  | tup xs=>obtain⟨z,its,r,ob,e,c⟩:=x;exact⟨z,its,r,ob,k _ _ (.inl rfl) e,c⟩
  | dK kvs=>obtain⟨z,y,vs,r,ob,es,ep,e,c⟩:=x;exact⟨z,y,vs,r,ob,es,ep,k _ _ (.inl rfl) e,c⟩
  | dT kvs =>
    obtain⟨z,y,xs,r,ob,es,ep,e,c⟩:=x
    exact⟨z,y,xs,Paired.mapP r fun p q z=>⟨z.1,ht _ _ z.2.1,z.2.2⟩,ob,es,ep,k _ _ (.inl rfl) e,c⟩
  | set S n=>obtain⟨ob,es,ep,t,e,c⟩:=x;exact⟨ob,es,ep,t,k _ _ (.inl rfl) e,c⟩
  | ins C dx fs =>
    obtain⟨d,z,ne,e,mA,⟨od,es,ep,e2,c⟩,r⟩:=x
    exact⟨ho _ d,z,ne,k _ _ (.inl rfl) e,mA,⟨od,es,ep,k _ _ (.inr d) e2,c⟩,r⟩
  | own y=>obtain⟨ob,e⟩:=x;exact⟨ob,k _ _ (.inl rfl) e⟩
  | xd fs=>obtain⟨mA,⟨od,es,ep,e,c⟩,r⟩:=x;exact⟨mA,⟨od,es,ep,k _ _ (.inl rfl) e,c⟩,r⟩
  | rng lo hi=>obtain⟨t,u,v,e⟩:=x;exact⟨t,u,v,k _ _ (.inl rfl) e⟩
  | frz ob u ih=>obtain⟨e,q⟩:=x;exact⟨k _ _ (.inl rfl) e,ih q⟩
  | tbl ps =>
    have e:h.get? a=some { cls:=.none,data:=.fields ps }:=x
    show h'.get? a=some { cls:=.none,data:=.fields ps }
    exact k a _ (.inl rfl) e
  | met f y =>
    have e:h.get? a=some (PySem.W.methodObj (.ref f) (.ref y)):=x
    show h'.get? a=some (PySem.W.methodObj (.ref f) (.ref y))
    exact k a _ (.inl rfl) e
  | ext φ=>obtain⟨p,⟨o,e⟩,st⟩:=x;exact⟨st _ _ p fun o q=>k _ _ (.inl rfl) q,⟨o,k _ _ (.inl rfl) e⟩,st⟩
theorem HOk.lt(x:HOk P w H h)(e:H a=some o):a < h.objs.size:=(x a o e).lt
theorem HOk.fresh(x:HOk P w H h)(e:h.objs.size≤a):H a=none:=by
  cases q:H a with
  | none=>rfl
  | some u=>exact absurd (Nat.lt_of_lt_of_le (x.lt q) e) (Nat.lt_irrefl _)
theorem HOk.kept(x:HOk P w H h)(k:∀ b u,h.get? b=some u→h'.get? b=some u):HOk P w H h':=fun a o e =>
  (x a o e).stay (fun b u _ q=>k b u q) (fun _ q=>q) fun _ _ q=>q
theorem HOk.laid(x:HOk P w H h)(k:∀ b u,h.get? b=some u→h'.get? b=some u)(hp:h.objs.size≤a)(new:xA P w (upd H a o) h' a o):HOk P w (upd H a o) h':=fun b u e=>by
  have hn:=x.fresh hp
  by_cases hb:b=a
  · subst hb;rw [qd] at e;cases e;exact new
  · rw [zu hb] at e
    exact (x b u e).stay (fun c v _ q=>k c v q) (fun c q=>by rw [zu (zx q hn)];exact q) fun c xs q=>by rw [zu (zx q hn)];exact q
end
def Rd(H:Hp)(a:Addr)(u:HO):Prop:=H a=some u∨∃ o,H a=some (.frz o u)
theorem Rd.ok{P:Program}{w:World}{H:Hp}{h:Heap}{a:Addr}{u:HO}(r:Rd H a u)(x:HOk P w H h):xA P w H h a u:=by
  rcases r with r | ⟨o,r⟩
  · exact x a u r
  · obtain⟨_,q⟩:=x a _ r
    exact q
def Mut:Option HO→Prop
  | some (.lst _)=>True
  | some (.dK _)=>True
  | some (.dT _)=>True
  | some (.set _ _)=>True
  | some (.ins _ _ _)=>True
  | some (.ext _)=>True
  | _=>False
section
variable {P:Program}{w:World}{H:Hp}{h h':Heap}{x e:Addr}{o':HO}
theorem HOk.write(ok:HOk P w H h)(mu:Mut (H x))(he:e=x∨H e=some (.own x))(k:∀ b u,b≠e→h.get? b=some u→h'.get? b=some u)(heo:∃ u,h'.get? e=some u)
    (new:xA P w (upd H x o') h' x o'):HOk P w (upd H x o') h':=fun b u q=>by
  have nown:∀ c y,H c=some (.own y)→c≠x:=fun c y r z=>by subst z;rw [r] at mu;exact mu
  have ntup:∀ c xs,H c=some (.tup xs)→c≠x:=fun c xs r z=>by subst z;rw [r] at mu;exact mu
  by_cases hb:b=x
  · subst hb;rw [qd] at q;cases q;exact new
  · rw [zu hb] at q
    by_cases hbe:b=e
    · have q':H b=some (.own x):=by
        rcases he with z | z
        · exact absurd (hbe.trans z) hb
        · rw [hbe];exact z
      rw [q] at q';cases q'
      obtain⟨v,hv⟩:=heo
      exact⟨v,by rw [hbe];exact hv⟩
    · refine (ok b u q).stay (fun c v hc r=>k c v ?_ r) (fun c r=>by rw [zu (nown c b r)];exact r) fun c xs r=>by rw [zu (ntup c xs r)];exact r
      rcases hc with rfl | hc
      · exact hbe
      · rintro rfl
        rcases he with z | z
        · exact nown c b hc z
        · rw [hc] at z;cases z;exact hb rfl
end
structure Un(fs ex:List Addr)(H H':Hp)(h h':Heap):Prop where
  keep:∀ b o,h.get? b=some o→H b=none→b∉fs→b∉ex→h'.get? b=some o
  slot:∀ b o,h.get? b=some o→H b=none→b∈fs→b∉ex→∃ sl,h'.get? b=some { o with slots:=sl }
  free:∀ b o,h.get? b=some o→H b=none→b∉ex→H' b=none
  there:∀ b o,h.get? b=some o→b∉ex→∃ o',h'.get? b=some o'
  tups:∀ b xs,H b=some (.tup xs)→H' b=some (.tup xs)
  frzs:∀ b o u,H b=some (.frz o u)→H' b=some (.frz o u)
  tbls:∀ b ps,H b=some (.tbl ps)→∃ more,H' b=some (.tbl (ps++more))
section
variable {fs fs' ex ex':List Addr}{H H1 H2:Hp}{h h1 h2 h':Heap}{a x e:Addr}{o:HO}
theorem Un.any(u:Un fs ex H H1 h h1){b:Addr}{ob:Obj}(q:h.get? b=some ob)(n:H b=none)(hx:b∉ex):∃ sl,h1.get? b=some { ob with slots:=sl }:=by
  by_cases hb:b∈fs
  · exact u.slot b ob q n hb hx
  · exact⟨ob.slots,u.keep b ob q n hb hx⟩
theorem Un.kept(k:∀ b u,h.get? b=some u→h'.get? b=some u):Un fs ex H H h h' :=
  ⟨fun b ob q _ _ _=>k b ob q,fun b ob q _ _ _=>⟨ob.slots,k b ob q⟩,fun _ _ _ n _=>n,fun b ob q _=>⟨ob,k b ob q⟩,fun _ _ q=>q,fun _ _ _ q=>q,fun _ ps q=>⟨#[],by rw [q];simp⟩⟩
theorem Un.refl:Un fs ex H H h h:=Un.kept fun _ _ q=>q
theorem Un.laid(k:∀ b u,h.get? b=some u→h'.get? b=some u)(hp:h.objs.size≤a)(hn:H a=none):Un fs ex H (upd H a o) h h' where
  keep:=fun b u q _ _ _=>k b u q
  slot:=fun b u q _ _ _=>⟨u.slots,k b u q⟩
  free:=fun b u q n _=>by rw [zu (Nat.ne_of_lt (Nat.lt_of_lt_of_le (Heap.lt_size q) hp))];exact n
  there:=fun b u q _=>⟨u,k b u q⟩
  tups:=fun b xs q=>by rw [zu (zx q hn)];exact q
  frzs:=fun b u xs q=>by rw [zu (zx q hn)];exact q
  tbls:=fun b ps q=>⟨#[],by rw [zu (zx q hn),q];simp⟩
theorem Un.write(mu:Mut (H x))(he:e=x∨H e=some (.own x))(k:∀ b u,b≠e→h.get? b=some u→h'.get? b=some u)(heo:∃ u,h'.get? e=some u):Un fs ex H (upd H x o) h h':=by
  have hx:∀ b,H b=none→b≠x:=fun b n z=>by subst z;rw [n] at mu;exact mu
  have hb:∀ b,H b=none→b≠e:=fun b n z=>by
    subst z
    rcases he with r | r
    · exact hx b n r
    · rw [n] at r;cases r
  have hm:∀ b u,H b=some u→¬ Mut (some u)→b≠x:=fun b u q nm z=>by subst z;rw [q] at mu;exact nm mu
  refine⟨fun b u q n _ _=>k b u (hb b n) q,fun b u q n _ _=>⟨u.slots,k b u (hb b n) q⟩,fun b u q n _=>by rw [zu (hx b n)];exact n,fun b u q _=>?_,
    fun b xs q=>by rw [zu (hm b _ q fun z=>z)];exact q,fun b u xs q=>by rw [zu (hm b _ q fun z=>z)];exact q,fun b ps q=>⟨#[],by rw [zu (hm b _ q fun z=>z),q];simp⟩⟩
  by_cases hbe:b=e
  · subst hbe;exact heo
  · exact⟨u,k b u hbe q⟩
end
def trk(h:Heap)(H:Hp):List Addr:=(List.range h.objs.size).filter fun a=>(H a).isSome
def zgd(h:Heap)(H:Hp):Heap:=PySem.W.hideAll h (trk h H)
theorem zea(h:Heap)(H:Hp):(zgd h H).objs.size=h.objs.size:=PySem.W.hideAll_size _ _
theorem zge{h:Heap}{H:Hp}{b:Addr}{o:Obj}(e:h.get? b=some o)(n:H b=none):(zgd h H).get? b=some o :=
  PySem.W.hideAll_get _ e fun hm=>by
    have q:(H b).isSome=true:=(List.mem_filter.mp hm).2
    rw [n] at q;simp at q
theorem ziQ{h:Heap}{H:Hp}{b:Addr}{o:Obj}(e:(zgd h H).get? b=some o):h.get? b=some o∧H b=none:=by
  have e':h.get? b=some o:=PySem.W.of_hideAll (trk h H) e
  refine⟨e',?_⟩
  cases q:H b with
  | none=>rfl
  | some x =>
    have hm:b∈trk h H:=List.mem_filter.mpr ⟨List.mem_range.mpr (Heap.lt_size e'),by simp [q]⟩
    have z:(zgd h H).get? b=none:=PySem.W.hideAll_none (trk h H) hm
    rw [z] at e;cases e
end L2
namespace L2
open PySem PySem.Spec PyProof.Rows
structure Mod(K:PySem.W.Frag)(mg:Str→Option Value)(base:Heap):Prop where
  kin:K.In base
  glob:base.Ns mainGlobals mg
  blt:∃ mb,base.Ns builtinsNs mb∧∀ x:Str,x ≠ "__name__" → mb x=bootBuiltins x
  nolimit:base.NoLimit
structure Cx where
  prog:Program
  w:World
  K:PySem.W.Frag
  mg:Str→Option Value
  base:Heap
  A:Around
  N:List Str
  s₀:Shared
  H₀:Hp
  env:Env
  outer:List Env
  stack:List Env
  ex:List Addr
  fn:Str→Bool
  calm:Bool
  pn:List (Addr×Obj)
  xe:Value→Shared→Prop
def frs(l:List Env):List Addr:=l.filterMap (·.frame)
abbrev Cx.fs(X:Cx):List Addr:=frs X.outer
def Vis(sc:Scope)(x:Str):Prop:=sc.names.lookup x=some .local∨sc.names.lookup x=some .cell∨sc.names.lookup x=some .free
def Loc(sc:Scope)(x:Str):Prop:=sc.names.lookup x=some .local∨sc.names.lookup x=some .cell
def Look(env:Env)(h:Heap)(m:Str→Option Value)(x:Str)(u:Value):Prop :=
  (env.kindOf x=some .local∧m x=some u)∨((env.kindOf x=some .cell∨env.kindOf x=some .free)∧∃ c,env.cells.lookup x=some c∧h.IsCell c (some u))
structure Cx.Ok(X:Cx):Prop where
  mod:Mod X.K X.mg X.base
  kind:X.env.scope.kind=.function
  glob:X.env.globals=mainGlobals
  blt:X.env.builtins=builtinsNs
  above:X.s₀.heap.objs.size≤X.env.locals
  inj:∀ x y c,X.env.cells.lookup x=some c→X.env.cells.lookup y=some c→x=y
  has:∀ x,(X.env.kindOf x=some .cell∨X.env.kindOf x=some .free)→∃ c,X.env.cells.lookup x=some c
  cab:∀ x c,X.fn x=true→X.env.cells.lookup x=some c→X.s₀.heap.objs.size≤c
  hd:X.calm=true→X.A.handled=none
  frames:X.A.frames=some X.stack
  stk:X.stack=X.outer∨(X.stack=X.env::X.outer∧X.env.frame=some X.env.locals)
  exf:∀ b∈X.ex,b≠X.env.locals∧∀ x c,X.env.cells.lookup x=some c→c≠b
  bs:∀ b o,X.base.get? b=some o→X.s₀.heap.get? b=some o∧X.H₀ b=none
  bsz:X.base.objs.size≤X.s₀.heap.objs.size
  noex:∀ b o,X.base.get? b=some o→b∉X.ex
  exfs:∀ b∈X.ex,b∉X.fs
  funs:X.s₀.heap.FunFrames X.base X.outer
  frf:∀ b∈X.fs,X.H₀ b=none
structure Inv(X:Cx)(pins:List (Addr×Obj))(σ:List (Option V))(H:Hp)(s:Shared):Prop where
  ok:X.Ok
  os:s.os=X.s₀.os
  bare:AllBare s.gens
  base:Un X.fs X.ex X.H₀ H X.s₀.heap s.heap
  loc:∃ m,s.heap.Ns X.env.locals m∧∀ (i:Nat) (x:Str) (v:V),X.N[i]?=some x→σ[i]?=some (some v)→Vis X.env.scope x→∃ u,RelV v u∧Look X.env s.heap m x u
  cell:∀ x c,X.env.cells.lookup x=some c→∃ v,s.heap.IsCell c v
  free:H X.env.locals=none
  freeC:∀ x c,X.env.cells.lookup x=some c→H c=none
  pin:∀ p∈X.pn++pins,s.heap.get? p.1=some p.2∧H p.1=none∧p.1≠X.env.locals∧p.1∉X.fs∧∀ v,p.2.data≠.cell v
  hok:HOk X.prog X.w H s.heap
  len:σ.length=X.N.length
section
variable {X:Cx}{pins:List (Addr×Obj)}{σ:List (Option V)}{H H':Hp}{s:Shared}{h':Heap}
theorem Cx.Ok.nofr(ok:X.Ok){b:Addr}{o:Obj}(e:X.base.get? b=some o):b∉X.fs:=fun hb=>by
  have:=(ok.funs.mem hb).1
  rw [e] at this;cases this
theorem Inv.bs(I:Inv X pins σ H s):∀ b o,X.base.get? b=some o→s.heap.get? b=some o∧H b=none:=fun b o e =>
  ⟨I.base.keep b o (I.ok.bs b o e).1 (I.ok.bs b o e).2 (I.ok.nofr e) (I.ok.noex b o e),I.base.free b o (I.ok.bs b o e).1 (I.ok.bs b o e).2 (I.ok.noex b o e)⟩
theorem Inv.bk(I:Inv X pins σ H s):∀ b o,X.base.get? b=some o→s.heap.get? b=some o:=fun b o e=>(I.bs b o e).1
theorem Inv.mod(I:Inv X pins σ H s):Mod X.K X.mg X.base:=I.ok.mod
theorem Inv.kIn(I:Inv X pins σ H s):X.K.In s.heap:=I.ok.mod.kin.keeps I.bk
theorem Inv.lt(I:Inv X pins σ H s):X.env.locals < s.heap.objs.size:=let ⟨_,hn,_⟩:=I.loc;hn.lt
theorem Inv.sz(I:Inv X pins σ H s):X.s₀.heap.objs.size≤s.heap.objs.size:=Nat.le_trans I.ok.above (Nat.le_of_lt I.lt)
theorem Inv.nofs(I:Inv X pins σ H s){a:Addr}(h:s.heap.objs.size≤a):a∉X.fs:=fun hb=>by
  obtain⟨_,o,ho,_⟩:=I.ok.funs.mem hb
  exact absurd (Nat.lt_of_lt_of_le (Heap.lt_size ho) (Nat.le_trans I.sz h)) (Nat.lt_irrefl _)
theorem Inv.cne(I:Inv X pins σ H s):∀ x c,X.env.cells.lookup x=some c→c≠X.env.locals:=fun x c e z=>by
  obtain⟨v,o,ho,hd⟩:=I.cell x c e
  obtain⟨m,⟨o',es,ep,ho',hd',_⟩,_⟩:=I.loc
  rw [z,ho'] at ho;cases ho;rw [hd'] at hd;cases hd
theorem Inv.funs(I:Inv X pins σ H s):s.heap.FunFrames X.base X.outer:=by
  have all:∀ (l:List Env),(∀ b∈frs l,b∈X.fs)→X.s₀.heap.FunFrames X.base l→s.heap.FunFrames X.base l:=by
    intro l
    induction l with
    | nil=>intro _ _;trivial
    | cons env r ih =>
      intro hs hl
      obtain⟨hk,⟨L,o,hf,hn,ho,hd⟩,hr⟩:=hl
      have hL:L∈X.fs:=hs L (by unfold frs;rw [List.filterMap_cons,hf];exact List.mem_cons_self)
      obtain⟨sl,e⟩:=I.base.slot L o ho (I.ok.frf L hL) hL fun z=>I.ok.exfs L z hL
      exact⟨hk,⟨L,_,hf,hn,e,hd⟩,ih (fun b hb=>hs b (by unfold frs;rw [List.filterMap_cons,hf];exact List.mem_cons_of_mem _ hb)) hr⟩
  exact all X.outer (fun _ hb=>hb) I.ok.funs
theorem Inv.stack(I:Inv X pins σ H s):s.heap.FunFrames X.base X.stack:=by
  rcases I.ok.stk with e | ⟨e,hf⟩
  · rw [e];exact I.funs
  · rw [e]
    obtain⟨m,hn,_⟩:=I.loc
    refine .cons (by rw [I.ok.kind];decide) hf hn ?_ I.funs
    exact Heap.get?_none_of_le (Nat.le_trans I.ok.bsz I.ok.above)
theorem Inv.stkSub(I:Inv X pins σ H s):∀ b∈frs X.stack,b∈X.env.locals::X.fs:=fun b hb=>by
  rcases I.ok.stk with e | ⟨e,hf⟩
  · rw [e] at hb;exact List.mem_cons_of_mem _ hb
  · rw [e] at hb
    unfold frs at hb
    rw [List.filterMap_cons,hf] at hb
    exact hb
theorem Inv.stkFree(I:Inv X pins σ H s):∀ b∈frs X.stack,H b=none:=fun b hb=>by
  rcases List.mem_cons.mp (I.stkSub b hb) with e | hb
  · rw [e];exact I.free
  · obtain⟨_,o,ho,_⟩:=I.ok.funs.mem hb
    exact I.base.free b o ho (I.ok.frf b hb) fun z=>I.ok.exfs b z hb
theorem Inv.step{g':Array GenState}{t':Nat}{d':Drawn}{ch:List Addr}(I:Inv X pins σ H s)
    (hch:∀ b∈ch,(b∈X.ex∨X.s₀.heap.objs.size≤b)∧b≠X.env.locals∧(∀ x c,X.env.cells.lookup x=some c→c≠b)∧∀ p∈X.pn++pins,p.1≠b)
    (keep:∀ b o,b≠X.env.locals→b∉X.fs→b∉ch→s.heap.get? b=some o→H b=none→h'.get? b=some o)
    (slot:∀ b o,b≠X.env.locals→b∈X.fs→b∉ch→s.heap.get? b=some o→H b=none→∃ sl,h'.get? b=some { o with slots:=sl }) (free:∀ b o,b∉ch→s.heap.get? b=some o→H b=none→H' b=none)
    (there:∀ b o,b∉ch→s.heap.get? b=some o→∃ o',h'.get? b=some o')
    (tups:∀ b xs,H b=some (.tup xs)→H' b=some (.tup xs)) (frzs:∀ b o u,H b=some (.frz o u)→H' b=some (.frz o u)) (tbls:∀ b ps,H b=some (.tbl ps)→∃ more,H' b=some (.tbl (ps++more)))
    (ns:∀ m,s.heap.Ns X.env.locals m→h'.Ns X.env.locals m) (hok:HOk X.prog X.w H' h') (hg:AllBare g') :
    Inv X pins σ H' { s with heap:=h',gens:=g',drawn:=d',toks:=t' }:=by
  have neL:∀ b o,X.s₀.heap.get? b=some o→b≠X.env.locals:=fun b o e=>Nat.ne_of_lt (Nat.lt_of_lt_of_le (Heap.lt_size e) I.ok.above)
  have neC:∀ b o,X.s₀.heap.get? b=some o→b∉X.ex→b∉ch:=fun b o e hx hb=>by
    rcases (hch b hb).1 with z | z
    · exact hx z
    · exact absurd (Nat.lt_of_lt_of_le (Heap.lt_size e) z) (Nat.lt_irrefl _)
  have cellK:∀ x c,X.env.cells.lookup x=some c→∀ v,s.heap.IsCell c v→h'.IsCell c v:=fun x c e v ⟨o,ho,hd⟩=>by
    have nch:c∉ch:=fun z=>(hch c z).2.2.1 x c e rfl
    by_cases hc:c∈X.fs
    · obtain⟨sl,q⟩:=slot c o (I.cne x c e) hc nch ho (I.freeC x c e)
      exact⟨_,q,hd⟩
    · exact⟨o,keep c o (I.cne x c e) hc nch ho (I.freeC x c e),hd⟩
  refine⟨I.ok,I.os,hg,⟨fun b o e n hb hx=>?_,fun b o e n hb hx=>?_,fun b o e n hx=>?_,fun b o e hx=>?_,fun b xs e=>tups b xs (I.base.tups b xs e),fun b o xs e=>frzs b o xs (I.base.frzs b o xs e),fun b ps e=>?_⟩,?_,fun x c e=>?_,?_,fun x c e=>?_,fun p hp=>?_,hok,I.len⟩
  · exact keep b o (neL b o e) hb (neC b o e hx) (I.base.keep b o e n hb hx) (I.base.free b o e n hx)
  · obtain⟨sl,e1⟩:=I.base.slot b o e n hb hx
    obtain⟨sl',e2⟩:=slot b _ (neL b o e) hb (neC b o e hx) e1 (I.base.free b o e n hx)
    exact⟨sl',e2⟩
  · obtain⟨o',e1⟩:=I.base.there b o e hx
    exact free b o' (neC b o e hx) e1 (I.base.free b o e n hx)
  · obtain⟨o',e1⟩:=I.base.there b o e hx
    exact there b o' (neC b o e hx) e1
  · obtain⟨m1,e1⟩:=I.base.tbls b ps e
    obtain⟨m2,e2⟩:=tbls b _ e1
    exact⟨m1++m2,by rw [e2,Array.append_assoc]⟩
  · obtain⟨m,hn,hl⟩:=I.loc
    refine⟨m,ns m hn,fun i x v e1 e2 e3=>?_⟩
    obtain⟨u,r,l⟩:=hl i x v e1 e2 e3
    refine⟨u,r,?_⟩
    rcases l with l | ⟨k,c,e,z⟩
    · exact .inl l
    · exact .inr ⟨k,c,e,cellK x c e _ z⟩
  · obtain⟨v,z⟩:=I.cell x c e
    exact⟨v,cellK x c e v z⟩
  · obtain⟨m,⟨o,_,_,ho,_⟩,_⟩:=I.loc
    exact free _ o (fun z=>(hch _ z).2.1 rfl) ho I.free
  · obtain⟨v,o,ho,hd⟩:=I.cell x c e
    exact free c o (fun z=>(hch c z).2.2.1 x c e rfl) ho (I.freeC x c e)
  · obtain⟨e,n,ne,nf,d⟩:=I.pin p hp
    have nch:p.1∉ch:=fun z=>(hch p.1 z).2.2.2 p hp rfl
    exact⟨keep p.1 p.2 ne nf nch e n,free p.1 p.2 nch e n,ne,nf,d⟩
theorem Inv.un{t':Nat}(I:Inv X pins σ H s)(u:Un X.fs [] H H' s.heap h')(hok:HOk X.prog X.w H' h'):Inv X pins σ H' { s with heap:=h',toks:=t' }:=by
  obtain⟨m,⟨o,es,ep,ho,r⟩,_⟩:=id I.loc
  obtain⟨sl,hL⟩:=u.any ho I.free (by simp)
  exact I.step (g':=s.gens) (d':=s.drawn) (ch:=[]) (fun _ z=>nomatch z) (fun b o _ hb _ e n=>u.keep b o e n hb (by simp)) (fun b o _ hb _ e n=>u.slot b o e n hb (by simp)) (fun b o _ e n=>u.free b o e n (by simp)) (fun b o _ e=>u.there b o e (by simp)) u.tups u.frzs u.tbls (fun m' hm=>by
    obtain⟨o',es',ep',ho',r'⟩:=hm
    rw [ho] at ho';cases ho'
    exact⟨_,es',ep',hL,r'⟩) hok I.bare
theorem Inv.call{g':Array GenState}{t':Nat}{d':Drawn}{ch:List Addr}(I:Inv X pins σ H s)(u:Un (frs X.stack) ch H H' s.heap h')(hok:HOk X.prog X.w H' h')(hg:AllBare g')
    (hch:∀ b∈ch,(b∈X.ex∨X.s₀.heap.objs.size≤b)∧b≠X.env.locals∧(∀ x c,X.env.cells.lookup x=some c→c≠b)∧∀ p∈X.pn++pins,p.1≠b) :
    Inv X pins σ H' { s with heap:=h',gens:=g',drawn:=d',toks:=t' }:=by
  obtain⟨m,⟨o,es,ep,ho,r⟩,_⟩:=id I.loc
  obtain⟨sl,hL⟩:=u.any ho I.free fun z=>(hch _ z).2.1 rfl
  exact I.step (ch:=ch) hch (fun b o hL hb hc e n=>u.keep b o e n (fun z=>(List.mem_cons.mp (I.stkSub b z)).elim hL hb) hc) (fun b o _ _ hc e n=>u.any e n hc) (fun b o hc e n=>u.free b o e n hc) (fun b o hc e=>u.there b o e hc) u.tups u.frzs u.tbls (fun m' hm=>by
    obtain⟨o',es',ep',ho',r'⟩:=hm
    rw [ho] at ho';cases ho'
    exact⟨_,es',ep',hL,r'⟩) hok hg
theorem Inv.turned{t':Nat}{it:Addr}(I:Inv X pins σ H s)(k:∀ b o,b≠it→s.heap.get? b=some o→h'.get? b=some o)(hn:H it=none)(hL:it≠X.env.locals)
    (h1:it∈X.ex∨X.s₀.heap.objs.size≤it) (h2:∀ x c,X.env.cells.lookup x=some c→c≠it) (h3:∀ p∈X.pn++pins,p.1≠it):Inv X pins σ H { s with heap:=h',toks:=t' }:=by
  have nit:∀ b u,H b=some u→b≠it:=fun b u e z=>by rw [z,hn] at e;cases e
  refine I.step (g':=s.gens) (d':=s.drawn) (ch:=[it]) (fun b hb=>?_) (fun b o _ _ hc e _=>k b o (fun z=>hc (by simp [z])) e) (fun b o _ _ hc e _=>⟨o.slots,k b o (fun z=>hc (by simp [z])) e⟩) (fun _ _ _ _ n=>n)
    (fun b o hc e=>⟨o,k b o (fun z=>hc (by simp [z])) e⟩) (fun _ _ e=>e) (fun _ _ _ e=>e) (fun b ps e=>⟨#[],by rw [e];simp⟩) (fun m hm=>?_) (fun b u e=>?_) I.bare
  · have e:b=it:=by simpa using hb
    subst e
    exact⟨h1,hL,h2,h3⟩
  · obtain⟨o,es,ep,ho,r⟩:=hm
    exact⟨o,es,ep,k _ o (Ne.symm hL) ho,r⟩
  · refine (I.hok b u e).stay (fun c v hc q=>k c v ?_ q) (fun _ q=>q) fun _ _ q=>q
    rcases hc with z | z
    · rw [z];exact nit b u e
    · exact nit c _ z
theorem Inv.tok(I:Inv X pins σ H s)(t:Nat):Inv X pins σ H { s with toks:=t }:=I.un (h':=s.heap) (t':=t) Un.refl I.hok
theorem Inv.kept{t':Nat}(I:Inv X pins σ H s)(k:∀ b u,s.heap.get? b=some u→h'.get? b=some u):Inv X pins σ H { s with heap:=h',toks:=t' }:=I.un (Un.kept k) (I.hok.kept k)
theorem Inv.laid{a:Addr}{o:HO}{t':Nat}(I:Inv X pins σ H s)(k:∀ b u,s.heap.get? b=some u→h'.get? b=some u)(hp:s.heap.objs.size≤a)(new:xA X.prog X.w (upd H a o) h' a o) :
    Inv X pins σ (upd H a o) { s with heap:=h',toks:=t' }:=I.un (Un.laid k hp (I.hok.fresh hp)) (I.hok.laid k hp new)
theorem Inv.write{x e:Addr}{o:HO}{t':Nat}(I:Inv X pins σ H s)(mu:Mut (H x))(he:e=x∨H e=some (.own x))(k:∀ b u,b≠e→s.heap.get? b=some u→h'.get? b=some u)(heo:∃ u,h'.get? e=some u)
    (new:xA X.prog X.w (upd H x o) h' x o):Inv X pins σ (upd H x o) { s with heap:=h',toks:=t' }:=I.un (Un.write mu he k heo) (I.hok.write mu he k heo new)
theorem Inv.pins_of{pins':List (Addr×Obj)}(I:Inv X pins σ H s)(h:∀ p∈pins',s.heap.get? p.1=some p.2∧H p.1=none∧p.1≠X.env.locals∧p.1∉X.fs∧∀ v,p.2.data≠.cell v):Inv X pins' σ H s :=
  ⟨I.ok,I.os,I.bare,I.base,I.loc,I.cell,I.free,I.freeC,fun p hp=>(List.mem_append.mp hp).elim (fun z=>I.pin p (List.mem_append_left _ z)) (h p),I.hok,I.len⟩
theorem zcm{N:List Str}(hN:N.Nodup){i j:Nat}{x:Str}(a:N[i]?=some x)(b:N[j]?=some x):i=j:=by
  obtain⟨h1,e1⟩:=List.getElem?_eq_some_iff.mp a
  obtain⟨h2,e2⟩:=List.getElem?_eq_some_iff.mp b
  exact (List.getElem_inj hN).mp (e1.trans e2.symm)
theorem za2{M:Model}{A:Around}{E:Value→Shared→Prop}{i:Nat}{x:Str}{v:V}{u:Value}{Q:Unit→Shared→Prop}(I:Inv X pins σ H s)(hN:X.N.Nodup)(hi:X.N[i]?=some x)(hx:Loc X.env.scope x)(r:RelV v u)
    (h:∀ s',Inv X pins (σ.set i (some v)) H s'→(∃ a,Heap.SameBut a s.heap s'.heap∧(a=X.env.locals∨X.env.cells.lookup x=some a))→Q () s') (hf:X.fn x=true∨X.env.scope.names.lookup x=some .local:=by first | exact .inl rfl | exact .inr rfl | assumption):wpAny M A (storeName X.env x u) Q E s:=by
  obtain⟨m,hn,hl⟩:=id I.loc
  have hcls:(X.env.scope.kind == .class || (X.env.scope.kind == .module && X.env.locals != X.env.globals))=false:=by rw [I.ok.kind];rfl
  have hiσ:i < σ.length:=by rw [I.len];exact (List.getElem?_eq_some_iff.mp hi).1
  have cne:=I.cne
  have tracked:∀ {a:Addr} {h':Heap},(∃ o,s.heap.get? a=some o∧H a=none)→Heap.SameBut a s.heap h'→HOk X.prog X.w H h':=fun {a h'} ha hs b ob e=>by
    obtain⟨_,_,hfree⟩:=ha
    refine (I.hok b ob e).stay (fun c w' hc q=>(hs.2 c ?_).trans q) (fun _ q=>q) fun _ _ q=>q
    rintro rfl
    rcases hc with rfl | hc
    · rw [hfree] at e;cases e
    · rw [hfree] at hc;cases hc
  rcases hx with hk | hk
  · refine wpAny_storeName_local hk hn (fun h' hn' hs=>?_) hcls
    obtain⟨oL,_,_,hoL,_⟩:=id hn
    refine h _ ⟨I.ok,I.os,I.bare,⟨fun b o e n hb hx=>?_,fun b o e n hb hx=>?_,I.base.free,fun b o e hx=>?_,I.base.tups,I.base.frzs,I.base.tbls⟩,⟨_,hn',fun j y v' e1 e2 e3=>?_⟩,fun y c e=>?_,I.free,I.freeC,fun p hp=>?_,tracked ⟨oL,hoL,I.free⟩ hs,by simpa using I.len⟩ ⟨_,hs,.inl rfl⟩
    · exact (hs.2 b (Nat.ne_of_lt (Nat.lt_of_lt_of_le (Heap.lt_size e) I.ok.above))).trans (I.base.keep b o e n hb hx)
    · obtain⟨sl,e1⟩:=I.base.slot b o e n hb hx
      exact⟨sl,(hs.2 b (Nat.ne_of_lt (Nat.lt_of_lt_of_le (Heap.lt_size e) I.ok.above))).trans e1⟩
    · obtain⟨o',e1⟩:=I.base.there b o e hx
      exact⟨o',(hs.2 b (Nat.ne_of_lt (Nat.lt_of_lt_of_le (Heap.lt_size e) I.ok.above))).trans e1⟩
    · by_cases hj:j=i
      · subst hj
        rw [hi] at e1;cases e1
        rw [List.getElem?_set_self hiσ] at e2
        cases e2
        exact⟨u,r,.inl ⟨hk,by simp⟩⟩
      · rw [List.getElem?_set_ne (Ne.symm hj)] at e2
        obtain⟨u',r',q⟩:=hl j y v' e1 e2 e3
        refine⟨u',r',?_⟩
        rcases q with ⟨k,e⟩ | ⟨k,c,e,z⟩
        · refine .inl ⟨k,?_⟩
          have:y≠x:=fun e=>hj (zcm hN e1 (e ▸ hi))
          simp [this,e]
        · exact .inr ⟨k,c,e,z.sameBut hs (cne y c e)⟩
    · obtain⟨w',z⟩:=I.cell y c e
      exact⟨w',z.sameBut hs (cne y c e)⟩
    · obtain⟨e,n,ne,nf,d⟩:=I.pin p hp
      exact⟨(hs.2 p.1 ne).trans e,n,ne,nf,d⟩
  · have hfn:X.fn x=true:=by
      rcases hf with z | z
      · exact z
      · rw [z] at hk;cases hk
    obtain⟨c,hc⟩:=I.ok.has x (.inl hk)
    obtain⟨w',z⟩:=I.cell x c hc
    refine wpAny_storeName_cell I.ok.kind hk hc z (fun h' hc' hs=>?_)
    obtain⟨oc,hoc,hocd⟩:=id z
    refine h { s with heap:=h' } ⟨I.ok,I.os,I.bare,⟨fun b o e n hb hx=>?_,fun b o e n hb hx=>?_,I.base.free,fun b o e hx=>?_,I.base.tups,I.base.frzs,I.base.tbls⟩,⟨m,hn.sameBut hs (Ne.symm (cne x c hc)),fun j y v' e1 e2 e3=>?_⟩,fun y c' e=>?_,I.free,I.freeC,fun p hp=>?_,tracked ⟨oc,hoc,I.freeC x c hc⟩ hs,by simpa using I.len⟩ ⟨c,hs,.inr hc⟩
    · exact (hs.2 b (Nat.ne_of_lt (Nat.lt_of_lt_of_le (Heap.lt_size e) (I.ok.cab x c hfn hc)))).trans (I.base.keep b o e n hb hx)
    · obtain⟨sl,e1⟩:=I.base.slot b o e n hb hx
      exact⟨sl,(hs.2 b (Nat.ne_of_lt (Nat.lt_of_lt_of_le (Heap.lt_size e) (I.ok.cab x c hfn hc)))).trans e1⟩
    · obtain⟨o',e1⟩:=I.base.there b o e hx
      exact⟨o',(hs.2 b (Nat.ne_of_lt (Nat.lt_of_lt_of_le (Heap.lt_size e) (I.ok.cab x c hfn hc)))).trans e1⟩
    · by_cases hj:j=i
      · subst hj
        rw [hi] at e1;cases e1
        rw [List.getElem?_set_self hiσ] at e2
        cases e2
        exact⟨u,r,.inr ⟨.inl hk,c,hc,hc'⟩⟩
      · rw [List.getElem?_set_ne (Ne.symm hj)] at e2
        obtain⟨u',r',q⟩:=hl j y v' e1 e2 e3
        refine⟨u',r',?_⟩
        rcases q with q | ⟨k,c',e,z'⟩
        · exact .inl q
        · refine .inr ⟨k,c',e,z'.sameBut hs ?_⟩
          rintro rfl
          exact hj (zcm hN e1 (I.ok.inj _ _ _ e hc ▸ hi))
    · by_cases hcc:c'=c
      · subst hcc;exact⟨_,hc'⟩
      · obtain⟨w2,z2⟩:=I.cell y c' e
        exact⟨w2,z2.sameBut hs hcc⟩
    · obtain⟨e,n,ne,nf,d⟩:=I.pin p hp
      refine⟨(hs.2 p.1 ?_).trans e,n,ne,nf,d⟩
      intro q
      rw [q,hoc] at e
      have q':oc=p.2:=Option.some.inj e
      exact d w' (by rw [← q'];exact hocd)
theorem wZ{M:Model}{A:Around}{E:Value→Shared→Prop}{i:Nat}{x:Str}{v:V}{u:Value}{Q:Unit→Shared→Prop}(I:Inv X pins σ H s)(hN:X.N.Nodup)(hi:X.N[i]?=some x)(hx:Loc X.env.scope x)(r:RelV v u)
    (h:∀ s',Inv X pins (σ.set i (some v)) H s'→Q () s') (hf:X.fn x=true∨X.env.scope.names.lookup x=some .local:=by first | exact .inl rfl | exact .inr rfl | assumption):wpAny M A (storeName X.env x u) Q E s :=
  za2 I hN hi hx r (fun s' I' _=>h s' I') hf
theorem Inv.call'{s':Shared}{ch:List Addr}(I:Inv X pins σ H s)(ho:s'.os=s.os)(u:Un (frs X.stack) ch H H' s.heap s'.heap)(hok:HOk X.prog X.w H' s'.heap)(hg:AllBare s'.gens)
    (hch:∀ b∈ch,(b∈X.ex∨X.s₀.heap.objs.size≤b)∧b≠X.env.locals∧(∀ x c,X.env.cells.lookup x=some c→c≠b)∧∀ p∈X.pn++pins,p.1≠b):Inv X pins σ H' s':=by
  obtain⟨h',g',d',t',o'⟩:=s'
  have e:o'=s.os:=ho
  subst e
  exact I.call (g':=g') (t':=t') (d':=d') u hok hg hch
end
abbrev XK:=Value→Option Addr→Hp→Prop
abbrev St:=List (Option V)
abbrev VK:=V→Hp→Prop
abbrev TE:=St→Hp→VK→Prop
abbrev TT:=St→Hp→(Bool→Hp→Prop)→Prop
abbrev TA:=St→Hp→(List V→Hp→Prop)→Prop
structure Ends where
  nx:St→Hp→Prop
  rt:VK
  bk:St→Hp→Prop:=fun _ _=>False
  ct:St→Hp→Prop:=fun _ _=>False
abbrev TS:=Ends→St→Hp→Prop
def EP(X:Cx)(pins:List (Addr×Obj))(σ:St)(Q:VK)(u:Value)(s':Shared):Prop:=∃ v H',Inv X pins σ H' s'∧RelV v u∧Q v H'
def TP(X:Cx)(pins:List (Addr×Obj))(σ:St)(Q:Bool→Hp→Prop)(b:Bool)(s':Shared):Prop:=∃ H',Inv X pins σ H' s'∧Q b H'
def AP(X:Cx)(pins:List (Addr×Obj))(σ:St)(Q:List V→Hp→Prop)(us:List Value)(s':Shared):Prop:=∃ vs H',Inv X pins σ H' s'∧Vals vs us∧Q vs H'
def SP(X:Cx)(pins:List (Addr×Obj))(D:Ends)(f:Flow)(s':Shared):Prop :=
  match f with
  | .next=>∃ σ' H',Inv X pins σ' H' s'∧D.nx σ' H'
  | .brk=>∃ σ' H',Inv X pins σ' H' s'∧D.bk σ' H'
  | .cont=>∃ σ' H',Inv X pins σ' H' s'∧D.ct σ' H'
  | .ret u=>∃ v σ' H',Inv X pins σ' H' s'∧RelV v u∧D.rt v H'
def PE(X:Cx)(e:Expr)(t:TE):Prop :=
  ∀ (pins:List (Addr×Obj)) (s:Shared) (σ:St) (H:Hp) (Q:VK),Inv X pins σ H s→t σ H Q→wpAny (model X.prog X.w) X.A (eval e X.env) (EP X pins σ Q) X.xe s
def PT(X:Cx)(e:Expr)(t:TT):Prop :=
  ∀ (pins:List (Addr×Obj)) (s:Shared) (σ:St) (H:Hp) (Q:Bool→Hp→Prop),Inv X pins σ H s→t σ H Q→wpAny (model X.prog X.w) X.A (isTrue e X.env (eval e X.env)) (TP X pins σ Q) X.xe s
def PW(X:Cx)(e:Expr)(t:TT):Prop :=
  ∀ (whole:Sem Value) (pins:List (Addr×Obj)) (s:Shared) (σ:St) (H:Hp) (Q:Bool→Hp→Prop),Inv X pins σ H s→t σ H Q→wpAny (model X.prog X.w) X.A (isTrue e X.env whole) (TP X pins σ Q) X.xe s
theorem PW.pt{X:Cx}{e:Expr}{t:TT}(h:PW X e t):PT X e t:=h _
def PA(X:Cx)(es:List Expr)(t:TA):Prop :=
  ∀ (pos:Pos) (pins:List (Addr×Obj)) (s:Shared) (σ:St) (H:Hp) (Q:List V→Hp→Prop),Inv X pins σ H s→t σ H Q→wpAny (model X.prog X.w) X.A (spliced (backTo pos (starEach es X.env))) (AP X pins σ Q) X.xe s
def PS(X:Cx)(st:Stmt)(t:TS):Prop :=
  ∀ (pins:List (Addr×Obj)) (s:Shared) (σ:St) (H:Hp) (D:Ends),Inv X pins σ H s→t D σ H→wpAny (model X.prog X.w) X.A (exec st X.env) (SP X pins D) X.xe s
def PSs(X:Cx)(st:List Stmt)(t:TS):Prop :=
  ∀ (pins:List (Addr×Obj)) (s:Shared) (σ:St) (H:Hp) (D:Ends),Inv X pins σ H s→t D σ H→wpAny (model X.prog X.w) X.A (execs st X.env) (SP X pins D) X.xe s
theorem thn{α:Type}{t:Sem α}{Q Q':α→Shared→Prop}{M:Model}{A:Around}{E:Value→Shared→Prop}{s:Shared}(h:wpAny M A t Q E s)(hQ:∀ a s,Q a s→Q' a s):wpAny M A t Q' E s:=wpAny_mono h hQ fun _ _ x=>x
end L2
namespace L2
open PySem PySem.Spec PyProof.Rows
section
variable {X:Cx}
theorem bin{a b:Expr}{ta tb:TE}(ha:PE X a ta)(hb:PE X b tb){pins:List (Addr×Obj)}{s:Shared}{σ:St}{H:Hp}{R:V→V→Hp→Prop}(I:Inv X pins σ H s)(h:ta σ H fun x H1=>tb σ H1 fun y H2=>R x y H2)
    {α:Type} {Q:α→Shared→Prop} {f:Value→Value→Sem α}
    (hf:∀ v u s2 x y H2,Inv X pins σ H2 s2→RelV x v→RelV y u→R x y H2→wpAny (model X.prog X.w) X.A (f v u) Q X.xe s2) :
    wpAny (model X.prog X.w) X.A (eval a X.env) (fun v s₁=>wpAny (model X.prog X.w) X.A (eval b X.env) (fun u s₂=>wpAny (model X.prog X.w) X.A (f v u) Q X.xe s₂) X.xe s₁) X.xe s:=by
  refine thn (ha pins s σ H _ I h) fun v s1 ⟨x,H1,I1,r1,q1⟩=>?_
  refine thn (hb pins s1 σ H1 _ I1 q1) fun u s2 ⟨y,H2,I2,r2,q2⟩=>?_
  exact hf v u s2 x y H2 I2 r1 r2 q2
def zfM(i:Nat):TE:=fun σ H Q=>∃ v,σ[i]?=some (some v)∧Q v H
def tC(v:V):TE:=fun _ H Q=>Q v H
theorem zlm {i:Nat} {x:Str} {pos:Pos} (hN:X.N[i]?=some x) (hv:Vis X.env.scope x) (hd:(x == ("__debug__" : Str))=false:=by decide) (hcd:(x == ("__classdict__" : Str))=false:=by decide):PE X (.Name x pos) (zfM i):=by
  intro pins s σ H Q I h
  obtain⟨v,e,h⟩:=h
  obtain⟨m,hn,hl⟩:=I.loc
  obtain⟨u,r,l⟩:=hl i x v hN e hv
  have fin:EP X pins σ Q u s:=⟨v,H,I,r,h⟩
  rcases l with ⟨hk,hm⟩ | ⟨hk,c,hc,hcell⟩
  · exact wpAny_Name (wpAny_loadName_local I.ok.kind hk hn hm fin) hd
  · rcases hk with hk | hk
    · exact wpAny_Name (wpAny_loadName_cell I.ok.kind hk hc hcell fin) hd
    · exact wpAny_Name (wpAny_loadName_free I.ok.kind hk hc hcell fin hcd) hd
theorem zeH{i j pos}:PE X (.Constant (.int i) j pos) (tC (.int i)):=fun _ _ _ H _ I h=>wpAny_Constant_int ⟨.int i,H,I.tok _,⟨_,rfl⟩,h⟩
theorem zmG{b j pos}:PE X (.Constant (.bool b) j pos) (tC (.bl b)):=fun _ _ _ H _ I h=>Constant_bool ⟨.bl b,H,I,rfl,h⟩
theorem zli{j pos}:PE X (.Constant .none j pos) (tC .non):=fun _ _ _ H _ I h=>Constant_none ⟨.non,H,I,rfl,h⟩
def Gl(X:Cx)(x:Str):Prop:=X.env.kindOf x=some .globalImplicit
theorem zbo{E:Value→Shared→Prop}{pins:List (Addr×Obj)}{s:Shared}{σ:St}{H:Hp}{x:Str}{u:Value}{pos:Pos}{Q:Value→Shared→Prop}(I:Inv X pins σ H s)(hg:Gl X x)(hm:X.mg x=some u)(h:Q u s)
    (hd:(x == ("__debug__" : Str))=false:=by decide):wpAny (model X.prog X.w) X.A (eval (.Name x pos) X.env) Q E s :=
  Calls.Name_function_global I.ok.kind hg (Calls.loadGlobal_global (by rw [I.ok.glob];exact I.mod.glob.keeps I.bk) hm h) hd
theorem jg{E:Value→Shared→Prop}{pins:List (Addr×Obj)}{s:Shared}{σ:St}{H:Hp}{x:Str}{u:Value}{pos:Pos}{Q:Value→Shared→Prop}(I:Inv X pins σ H s)(hg:Gl X x)(hm:X.mg x=none)(hv:bootBuiltins x=some u)(h:Q u s)
    (hn:x ≠ "__name__" := by decide) (hd:(x == ("__debug__" : Str))=false:=by decide):wpAny (model X.prog X.w) X.A (eval (.Name x pos) X.env) Q E s:=by
  obtain⟨mb,h1,h2⟩:=I.mod.blt
  exact Calls.Name_function_global I.ok.kind hg (Calls.loadGlobal_builtin (by rw [I.ok.glob];exact I.mod.glob.keeps I.bk) hm (by rw [I.ok.blt];exact h1.keeps I.bk) ((h2 x hn).trans hv) h) hd
theorem zi7 {x:Str} {v:V} {u:Value} {pos:Pos} (hg:Gl X x) (hm:X.mg x=some u) (r:RelV v u) (hd:(x == ("__debug__" : Str))=false:=by decide):PE X (.Name x pos) (tC v) :=
  fun _ _ _ H _ I h=>zbo I hg hm ⟨v,H,I,r,h⟩ hd
theorem zi2 {x:Str} {v:V} {u:Value} {pos:Pos} (hg:Gl X x) (hm:X.mg x=none) (hv:bootBuiltins x=some u) (r:RelV v u) (hn:x ≠ "__name__" := by decide) (hd:(x == ("__debug__" : Str))=false:=by decide):PE X (.Name x pos) (tC v) :=
  fun _ _ _ H _ I h=>jg I hg hm hv ⟨v,H,I,r,h⟩ hn hd
variable {a b:Expr}{ta tb:TE}{pos:Pos}
def PC(X:Cx)(op:CmpOp)(a b:Expr)(t:TE):Prop :=
  ∀ (pins:List (Addr×Obj)) (s:Shared) (σ:St) (H:Hp) (Q:VK),Inv X pins σ H s→t σ H Q →
    wpAny (model X.prog X.w) X.A (eval a X.env) (fun v s₁=>wpAny (model X.prog X.w) X.A (eval b X.env) (fun u s₂=>wpAny (model X.prog X.w) X.A (compareOp op v u) (EP X pins σ Q) X.xe s₂) X.xe s₁) X.xe s
def tB(t:TE):TT:=fun σ H Q=>t σ H fun x H1=>∃ c,x=.bl c∧Q c H1
theorem zny{op:CmpOp}{t:TE}(h:PC X op a b t)(h1:behindInMarks op b=false:=by first | exact nobehind _ (by decide) (by decide) | rfl):PT X (.Compare a [op] [b] pos) (tB t):=by
  intro pins s σ H Q I hw
  refine wpAny_isTrue_Compare1 (thn (h pins s σ H _ I hw) fun v s1 h1=>thn h1 fun u s2 h2=>thn h2 fun c s3 ⟨x,H1,I1,r1,q1⟩=>?_) h1
  obtain⟨d,rfl,q⟩:=q1
  cases r1
  exact wpAny_truthy_bool ⟨H1,I1,q⟩
theorem zlu{e:Expr}{t:TE}(h:PE X e t)(he:∀ whole,isTrue e X.env whole=(do let v ← whole;standAt e.pos;holding [v] (truthy v)):=by intro _;rfl):PT X e (tB t):=by
  intro pins s σ H Q I hw
  refine isTrue_plain (thn (h pins s σ H _ I hw) fun v s1 ⟨x,H1,I1,r1,q1⟩=>?_) (he _)
  obtain⟨d,rfl,q⟩:=q1
  cases r1
  exact wpAny_truthy_bool ⟨H1,I1,q⟩
variable {tA tB':TT}{rest:List Expr}
def zn2(t u:TT):TT:=fun σ H Q=>t σ H fun c H1=>if c=true then u σ H1 Q else Q false H1
def tOr(t u:TT):TT:=fun σ H Q=>t σ H fun c H1=>if c=true then Q true H1 else u σ H1 Q
def zn6(t:TT):TT:=fun σ H Q=>t σ H fun c H1=>Q (!c) H1
theorem zjj(ha:PT X a tA):PW X (.BoolOp .And [a] pos) tA:=by
  intro wh pins s σ H Q I h
  refine isTrue_and (thn (ha pins s σ H Q I h) fun c s1 e=>?_)
  cases c with
  | true=>exact isTrue_and_nil e
  | false=>exact e
theorem zlw(ha:PT X a tA):PW X (.BoolOp .Or [a] pos) tA:=by
  intro wh pins s σ H Q I h
  refine isTrue_or (thn (ha pins s σ H Q I h) fun c s1 e=>?_)
  cases c with
  | false=>exact isTrue_or_nil e
  | true=>exact e
theorem zlv(ha:PT X a tA)(hb:PW X (.BoolOp .And (b::rest) pos) tB'):PW X (.BoolOp .And (a::b::rest) pos) (zn2 tA tB'):=by
  intro wh pins s σ H Q I h
  refine isTrue_and (thn (ha pins s σ H _ I h) fun c s1 ⟨H1,I1,q1⟩=>?_)
  cases c with
  | true=>exact hb wh pins s1 σ H1 Q I1 q1
  | false=>exact⟨H1,I1,q1⟩
theorem zmK(ha:PT X a tA)(hb:PW X (.BoolOp .Or (b::rest) pos) tB'):PW X (.BoolOp .Or (a::b::rest) pos) (tOr tA tB'):=by
  intro wh pins s σ H Q I h
  refine isTrue_or (thn (ha pins s σ H _ I h) fun c s1 ⟨H1,I1,q1⟩=>?_)
  cases c with
  | true=>exact⟨H1,I1,q1⟩
  | false=>exact hb wh pins s1 σ H1 Q I1 q1
theorem zlt(ha:PT X a tA):PT X (.UnaryOp .Not a pos) (zn6 tA):=by
  intro pins s σ H Q I h
  exact isTrue_not (ha pins s σ H (fun c H1=>Q (!c) H1) I h)
def zmT(ta tb:TE):TE:=fun σ H Q=>ta σ H fun x H1=>∃ c,x=.bl c∧if c=true then tb σ H1 Q else Q (.bl false) H1
def zn7(ta tb:TE):TE:=fun σ H Q=>ta σ H fun x H1=>∃ c,x=.bl c∧if c=true then Q (.bl true) H1 else tb σ H1 Q
def zmW(ta:TE):TE:=fun σ H Q=>ta σ H fun x H1=>∃ c,x=.bl c∧Q (.bl (!c)) H1
theorem zlk{op}{t:TE}(h:PE X a t):PE X (.BoolOp op [a] pos) t:=fun pins s σ H Q I hw=>BoolOp_one (h pins s σ H Q I hw)
theorem zlf(ha:PE X a ta)(hb:PE X (.BoolOp .And (b::rest) pos) tb):PE X (.BoolOp .And (a::b::rest) pos) (zmT ta tb):=by
  intro pins s σ H Q I h
  refine BoolOp_and (thn (ha pins s σ H _ I h) fun v s1 ⟨x,H1,I1,r1,q1⟩=>?_)
  obtain⟨c,rfl,q1⟩:=q1
  cases r1
  refine wpAny_truthy_bool ?_
  cases c with
  | true=>exact hb pins s1 σ H1 Q I1 q1
  | false=>exact⟨.bl false,H1,I1,rfl,q1⟩
theorem zmH(ha:PE X a ta)(hb:PE X (.BoolOp .Or (b::rest) pos) tb):PE X (.BoolOp .Or (a::b::rest) pos) (zn7 ta tb):=by
  intro pins s σ H Q I h
  refine BoolOp_or (thn (ha pins s σ H _ I h) fun v s1 ⟨x,H1,I1,r1,q1⟩=>?_)
  obtain⟨c,rfl,q1⟩:=q1
  cases r1
  refine wpAny_truthy_bool ?_
  cases c with
  | false=>exact hb pins s1 σ H1 Q I1 q1
  | true=>exact⟨.bl true,H1,I1,rfl,q1⟩
theorem zlj(ha:PE X a ta):PE X (.UnaryOp .Not a pos) (zmW ta):=by
  intro pins s σ H Q I h
  refine UnaryOp_ (thn (ha pins s σ H _ I h) fun v s1 ⟨x,H1,I1,r1,q1⟩=>?_)
  obtain⟨c,rfl,q1⟩:=q1
  cases r1
  exact not_of (wpAny_truthy_bool ⟨.bl (!c),H1,I1,rfl,q1⟩)
def tIf(t:TT)(ta tb:TE):TE:=fun σ H Q=>t σ H fun c H1=>if c=true then ta σ H1 Q else tb σ H1 Q
theorem zgD{c:Expr}(hc:PT X c tA)(ha:PE X a ta)(hb:PE X b tb):PE X (.IfExp c a b pos) (tIf tA ta tb):=by
  intro pins s σ H Q I h
  refine wpAny_IfExp (thn (hc pins s σ H _ I h) fun d s1 ⟨H1,I1,q1⟩=>?_)
  cases d with
  | true=>exact ha pins s1 σ H1 Q I1 q1
  | false=>exact hb pins s1 σ H1 Q I1 q1
end
end L2
namespace L2
open PySem PySem.Spec PyProof.Rows
def SqL(K:PySem.W.Frag)(H:Hp)(a:Addr)(xs:List V):Prop :=
  Rd H a (.lst xs) ∨
    ∃ (o:Obj) (its:Array Value) (n:Nat),K.lookup a=some o∧o.cls=.type "list" ∧ o.dict=none∧o.data=.seq its n∧its.size≤sizeLine∧Vals xs its.toList
def SqT(K:PySem.W.Frag)(H:Hp)(a:Addr)(xs:List V):Prop :=
  Rd H a (.tup xs) ∨
    ∃ (o:Obj) (its:Array Value) (n:Nat),K.lookup a=some o∧o.cls=.type "tuple" ∧ o.data=.seq its n∧its.size≤sizeLine∧Vals xs its.toList
def znH:Value→Option V
  | .none=>some .non
  | .bool b=>some (.bl b)
  | .int i _=>some (.int i)
  | .str x _=>some (.str x)
  | .bytes b _=>some (.byt b)
  | .float b _=>some (.flt b)
  | .ref a=>some (.ref a)
  | .type n=>some (.ty n)
  | _=>none
theorem RelV.abs{x:V}{u:Value}(r:RelV x u):znH u=some x:=by
  cases x with
  | non=>cases r;rfl
  | bl _=>cases r;rfl
  | int _=>obtain⟨t,rfl⟩:=r;rfl
  | str _=>obtain⟨t,rfl⟩:=r;rfl
  | byt _=>obtain⟨t,rfl⟩:=r;rfl
  | flt _=>obtain⟨t,rfl⟩:=r;rfl
  | ref _=>cases r;rfl
  | ty _=>cases r;rfl
theorem RelV.inj{x y:V}{u:Value}(r:RelV x u)(q:RelV y u):x=y:=Option.some.inj (r.abs.symm.trans q.abs)
theorem Vals.inj:∀ {xs ys:List V} {us:List Value},Vals xs us→Vals ys us→xs=ys
  | _,_,_,.nil,.nil=>rfl
  | _,_,_,.cons r t,.cons r' t'=>by rw [r.inj r',Vals.inj t t']
section
variable {X:Cx}{pins:List (Addr×Obj)}{σ:St}{H:Hp}{s:Shared}{a:Addr}{xs ys:List V}
theorem SqL.of{K:PySem.W.Frag}(h:H a=some (.lst xs)):SqL K H a xs:=.inl (.inl h)
theorem SqT.of{K:PySem.W.Frag}(h:H a=some (.tup xs)):SqT K H a xs:=.inl (.inl h)
theorem Inv.list(I:Inv X pins σ H s)(h:SqL X.K H a xs):∃ its:List Value,Vals xs its∧PlainL s.heap a its.toArray∧xs.length≤sizeLine:=by
  rcases h with h | ⟨o,its,n,hk,hc,hd,hs,hz,r⟩
  · obtain⟨z,its,n,r,e⟩:=h.ok I.hok
    exact⟨its,r,⟨_,n,e,rfl,rfl,rfl⟩,z⟩
  · refine⟨its.toList,r,⟨o,n,I.kIn a o hk,hc,hd,by simpa using hs⟩,?_⟩
    have e:=r.length
    simp only [Array.length_toList] at e
    omega
theorem Inv.tuple(I:Inv X pins σ H s)(h:SqT X.K H a xs):∃ its:List Value,Vals xs its∧IsTup s.heap a its.toArray∧xs.length≤sizeLine:=by
  rcases h with h | ⟨o,its,n,hk,hc,hs,hz,r⟩
  · obtain⟨z,its,r,p⟩:=h.ok I.hok
    exact⟨its,r,p,z⟩
  · refine⟨its.toList,r,⟨o,I.kIn a o hk,hc,n,by simpa using hs⟩,?_⟩
    have e:=r.length
    simp only [Array.length_toList] at e
    omega
theorem Inv.list_inj(I:Inv X pins σ H s)(h:SqL X.K H a xs)(h':SqL X.K H a ys):xs=ys:=by
  obtain⟨its,r,⟨o,n,e,_,_,d⟩,_⟩:=I.list h
  obtain⟨its',r',⟨o',n',e',_,_,d'⟩,_⟩:=I.list h'
  rw [e] at e';cases e'
  rw [d] at d'
  injection d' with d1 _
  have:its=its':=by simpa using congrArg Array.toList d1
  subst this
  exact r.inj r'
theorem Inv.tuple_inj(I:Inv X pins σ H s)(h:SqT X.K H a xs)(h':SqT X.K H a ys):xs=ys:=by
  obtain⟨its,r,⟨o,e,_,n,d⟩,_⟩:=I.tuple h
  obtain⟨its',r',⟨o',e',_,n',d'⟩,_⟩:=I.tuple h'
  rw [e] at e';cases e'
  rw [d] at d'
  injection d' with d1 _
  have:its=its':=by simpa using congrArg Array.toList d1
  subst this
  exact r.inj r'
end
abbrev Cx.wish(X:Cx)(E:Value→Shared→Prop):Cx:={ X with xe:=E }
abbrev Cx.nox(X:Cx):Cx:=X.wish fun _ _=>False
theorem Cx.Ok.wish{X:Cx}(ok:X.Ok)(E:Value→Shared→Prop):(X.wish E).Ok :=
  ⟨ok.mod,ok.kind,ok.glob,ok.blt,ok.above,ok.inj,ok.has,ok.cab,ok.hd,ok.frames,ok.stk,ok.exf,ok.bs,ok.bsz,ok.noex,ok.exfs,ok.funs,ok.frf⟩
theorem Cx.Ok.unwish{X:Cx}{E:Value→Shared→Prop}(ok:(X.wish E).Ok):X.Ok :=
  ⟨ok.mod,ok.kind,ok.glob,ok.blt,ok.above,ok.inj,ok.has,ok.cab,ok.hd,ok.frames,ok.stk,ok.exf,ok.bs,ok.bsz,ok.noex,ok.exfs,ok.funs,ok.frf⟩
section
variable {X:Cx}{pins:List (Addr×Obj)}{σ:St}{H:Hp}{s:Shared}{E:Value→Shared→Prop}
theorem Inv.wish(I:Inv X pins σ H s)(E:Value→Shared→Prop):Inv (X.wish E) pins σ H s:=⟨I.ok.wish E,I.os,I.bare,I.base,I.loc,I.cell,I.free,I.freeC,I.pin,I.hok,I.len⟩
theorem Inv.unwish(I:Inv (X.wish E) pins σ H s):Inv X pins σ H s:=⟨I.ok.unwish,I.os,I.bare,I.base,I.loc,I.cell,I.free,I.freeC,I.pin,I.hok,I.len⟩
theorem SP.unwish{D:Ends}{f:Flow}{s':Shared}(h:SP (X.wish E) pins D f s'):SP X pins D f s':=by
  cases f with
  | next=>obtain⟨σ',H',I,q⟩:=h;exact⟨σ',H',I.unwish,q⟩
  | brk=>obtain⟨σ',H',I,q⟩:=h;exact⟨σ',H',I.unwish,q⟩
  | cont=>obtain⟨σ',H',I,q⟩:=h;exact⟨σ',H',I.unwish,q⟩
  | ret u=>obtain⟨v,σ',H',I,r,q⟩:=h;exact⟨v,σ',H',I.unwish,r,q⟩
theorem PSs.nox{st:List Stmt}{t:TS}(h:PSs X.nox st t):PSs X st t:=fun pins s σ H D I hw =>
  wpAny_mono (h pins s σ H D (I.wish _) hw) (fun _ _ q=>q.unwish) fun _ _ z=>False.elim z
end
section
variable {X:Cx}{st:Stmt}{rest:List Stmt}{t u:TS}{e:Expr}{te:TE}{pos:Pos}
def zmV:TS:=fun D σ H=>D.nx σ H
def zl8(t u:TS):TS:=fun D σ H=>t { D with nx:=u D } σ H
theorem zeU:PSs X [] zmV:=fun _ _ σ H _ I h=>wpAny_execs_nil ⟨σ,H,I,h⟩
theorem xq(h1:PS X st t)(h2:PSs X rest u):PSs X (st::rest) (zl8 t u):=by
  intro pins s σ H D I h
  refine wpAny_execs_cons (thn (h1 pins s σ H { D with nx:=u D } I h) fun f s1 q=>?_)
  cases f with
  | next =>
    obtain⟨σ',H',I',q⟩:=q
    exact h2 pins s1 σ' H' D I' q
  | ret v=>exact q
  | brk=>exact q
  | cont=>exact q
theorem zbB(h1:PS X st t):PSs X [st] t:=by
  intro pins s σ H D I h
  refine wpAny_execs_cons (thn (h1 pins s σ H D I h) fun f s1 q=>?_)
  cases f with
  | next=>exact wpAny_execs_nil q
  | ret v=>exact q
  | brk=>exact q
  | cont=>exact q
theorem Inv.quiet{pins:List (Addr×Obj)}{σ:St}{H:Hp}{s:Shared}(I:Inv X pins σ H s):interactive X.env=false:=by simp [interactive,I.ok.kind]
def zg5(te:TE):TS:=fun D σ H=>te σ H fun _ H1=>D.nx σ H1
theorem ja(he:PE X e te)(hs:swapsWith e none pos.line X.env=pure false:=by rfl):PS X (.Expr e pos) (zg5 te):=by
  intro pins s σ H D I h
  exact wpAny_Expr_any (thn (he pins s σ H _ I h) fun v s1 ⟨x,H1,I1,r1,q1⟩=>⟨σ,H1,I1,q1⟩) I.quiet hs
def zn8(te:TE):TS:=fun D σ H=>te σ H D.rt
theorem zcv(he:PE X e te):PS X (.Return (some e) pos) (zn8 te):=by
  intro pins s σ H D I h
  exact wpAny_Return_some (thn (he pins s σ H _ I h) fun v s1 ⟨x,H1,I1,r1,q1⟩=>⟨x,σ,H1,I1,r1,q1⟩)
def zn4(c:TT)(t u:TS):TS:=fun D σ H=>c σ H fun b H1=>if b=true then t D σ H1 else u D σ H1
theorem zls{c:Expr}{a b:List Stmt}{tc:TT}(hc:PT X c tc)(ha:PSs X a t)(hb:PSs X b u):PS X (.If c a b pos) (zn4 tc t u):=by
  intro pins s σ H D I h
  refine wpAny_If (thn (hc pins s σ H _ I h) fun d s1 ⟨H1,I1,q1⟩=>?_)
  cases d with
  | true=>exact ha pins s1 σ H1 D I1 q1
  | false=>exact hb pins s1 σ H1 D I1 q1
def zlP:TS:=fun _ _ _=>False
theorem zgI:PS X st zlP:=fun _ _ _ _ _ _ h=>h.elim
end
abbrev TG:=V→St→Hp→(St→Hp→Prop)→Prop
abbrev TGs:=List V→St→Hp→(St→Hp→Prop)→Prop
def PG(X:Cx)(target:Expr)(t:TG):Prop :=
  ∀ (pins:List (Addr×Obj)) (s:Shared) (σ:St) (H:Hp) (v:V) (u:Value) (Q:St→Hp→Prop),Inv X pins σ H s→RelV v u→t v σ H Q →
    wpAny (model X.prog X.w) X.A (assign target X.env u) (fun _ s'=>∃ σ' H',Inv X pins σ' H' s'∧Q σ' H') X.xe s
def PGs(X:Cx)(ts:List Expr)(t:TGs):Prop :=
  ∀ (pins:List (Addr×Obj)) (s:Shared) (σ:St) (H:Hp) (vs:List V) (us:List Value) (Q:St→Hp→Prop),Inv X pins σ H s→Vals vs us→t vs σ H Q →
    wpAny (model X.prog X.w) X.A (assignInOrder ((assignEach ts X.env).map (·.2)) us) (fun _ s'=>∃ σ' H',Inv X pins σ' H' s'∧Q σ' H') X.xe s
abbrev zma:=V→V→V→Hp→(Hp→Prop)→Prop
def zm3(X:Cx)(t:zma):Prop :=
  ∀ (pins:List (Addr×Obj)) (s:Shared) (σ:St) (H:Hp) (o i v:V) (ov iv u:Value) (Q:Hp→Prop),Inv X pins σ H s→RelV o ov→RelV i iv→RelV v u→t o i v H Q →
    wpAny (model X.prog X.w) X.A (setItem ov iv u) (fun _ s'=>∃ H',Inv X pins σ H' s'∧Q H') X.xe s
section
variable {X:Cx}{pos:Pos}
def zd4(i:Nat):TG:=fun v σ H Q=>Q (σ.set i (some v)) H
theorem kY{i:Nat}{x:Str}(hN:X.N.Nodup)(hi:X.N[i]?=some x)(hx:Loc X.env.scope x)(hf:X.fn x=true∨X.env.scope.names.lookup x=some .local:=by first | exact .inl rfl | exact .inr rfl | assumption):PG X (.Name x pos) (zd4 i):=by
  intro pins s σ H v u Q I r h
  exact wpAny_assign_Name (wZ I hN hi hx r (fun s' I'=>⟨_,H,I',h⟩) hf)
def znM:TGs:=fun vs σ H Q=>vs=[]∧Q σ H
def zmj(t:TG)(u:TGs):TGs:=fun vs σ H Q=>∃ v r,vs=v::r∧t v σ H fun σ' H'=>u r σ' H' Q
theorem zeJ:PGs X [] znM:=by
  intro pins s σ H vs us Q I r h
  obtain⟨e,h⟩:=h
  subst e
  cases r
  exact assignInOrder_nil ⟨σ,H,I,h⟩
theorem kj{e:Expr}{es:List Expr}{t:TG}{u:TGs}(h1:PG X e t)(h2:PGs X es u)
    (hs:(assignEach (e::es) X.env).map (·.2)=assign e X.env::(assignEach es X.env).map (·.2):=by rfl):PGs X (e::es) (zmj t u):=by
  intro pins s σ H vs us Q I r h
  obtain⟨v,vr,e1,h⟩:=h
  subst e1
  cases r with
  | cons r rr =>
    rw [hs]
    refine assignInOrder_cons (thn (h1 pins s σ H _ _ _ I r h) fun _ s1 ⟨σ1,H1,I1,q1⟩=>?_)
    exact h2 pins s1 σ1 H1 _ _ Q I1 rr q1
def znN(K:PySem.W.Frag)(n:Nat)(t:TGs):TG:=fun v σ H Q=>∃ a xs,v=.ref a∧SqT K H a xs∧xs.length=n∧t xs σ H Q
theorem zhH{es:List Expr}{k:Nat}{t:TGs}{n:Nat}(hc:X.calm=true)(h:PGs X es t)
    (hn:(assignEach es X.env).length=n:=by rfl) (hst:(assignEach es X.env).findIdx? (·.1)=none:=by rfl):PG X (.Tuple es k pos) (znN X.K n t):=by
  intro pins s σ H v u Q I r hw
  obtain⟨a,xs,e1,hq,hl,hw⟩:=hw
  subst e1
  cases r
  obtain⟨its,rv,ht,hz⟩:=I.tuple hq
  refine assign_Tuple_tuple (I.ok.hd hc) ht (by simp [hn,← hl,rv.length]) hst fun h' hx=>?_
  have I1:Inv X pins σ H { s with heap:=h' }:=I.kept (t':=s.toks) fun b o e=>hx b o (Nat.ne_of_lt (Heap.lt_size e)) e
  exact h pins _ σ H xs _ Q I1 (by simpa using rv) hw
def zno(to ti:TE)(t:zma):TG:=fun v σ H Q=>to σ H fun o H1=>ti σ H1 fun i H2=>t o i v H2 fun H3=>Q σ H3
theorem zeI{o i:Expr}{to ti:TE}{t:zma}(ho:PE X o to)(hi:PE X i ti)(hs:zm3 X t)
    (ha:∀ v,assign (.Subscript o i pos) X.env v=(do
      let ov ← holding [v] (eval o X.env)
      let iv ← holding [v,ov] (eval i X.env)
      standAt pos
      holding [v,ov,iv] (setItem ov iv v)
      release [v,ov,iv] []):=by intro _;rfl):PG X (.Subscript o i pos) (zno to ti t):=by
  intro pins s σ H v u Q I r h
  rw [ha]
  refine wpAny_bind (wpAny_holding (thn (ho pins s σ H _ I h) fun ov s1 ⟨x,H1,I1,r1,q1⟩=>?_))
  refine wpAny_bind (wpAny_holding (thn (hi pins s1 σ H1 _ I1 q1) fun iv s2 ⟨y,H2,I2,r2,q2⟩=>?_))
  refine wpAny_bind (wpAny_standAt (wpAny_bind (wpAny_holding (thn (hs pins s2 σ H2 x y v ov iv u _ I2 r1 r2 r q2) fun _ s3 ⟨H3,I3,q3⟩=>?_))))
  exact wpAny_release ⟨σ,H3,I3,q3⟩
def zj7(te:TE)(g:TG):TS:=fun D σ H=>te σ H fun x H1=>g x σ H1 D.nx
theorem zeR{tg e:Expr}{te:TE}{g:TG}(he:PE X e te)(hg:PG X tg g)(hs:swapsWithSole [tg] e pos.line X.env=pure false:=by rfl)(hw:swappedStores [tg] e X.env=pure none:=by rfl)
    (h1:(assignEach [tg] X.env).map (·.2)=[assign tg X.env]:=by rfl):PS X (.Assign [tg] e pos) (zj7 te g):=by
  intro pins s σ H D I h
  refine wpAny_Assign_stores (thn (he pins s σ H _ I h) fun v s1 ⟨x,H1,I1,r1,q1⟩=>?_) hs hw
  rw [h1]
  exact thn (hg pins s1 σ H1 x v _ I1 r1 q1) fun _ s2 q=>q
theorem zeT{i:Nat}{x:Str}{e:Expr}{te:TE}{pos':Pos}(hN:X.N.Nodup)(hi:X.N[i]?=some x)(hx:Loc X.env.scope x)(he:PE X e te)(hs:swapsWith e (some (.Name x pos')) pos.line X.env=pure false:=by rfl)(hf:X.fn x=true∨X.env.scope.names.lookup x=some .local:=by first | exact .inl rfl | exact .inr rfl | assumption) :
    PS X (.Assign [.Name x pos'] e pos) (zj7 te (zd4 i)):=by
  intro pins s σ H D I h
  refine wpAny_Assign_Name (thn (he pins s σ H _ I h) fun v s1 ⟨y,H1,I1,r1,q1⟩=>?_) hs
  exact wZ I1 hN hi hx r1 (fun s2 I2=>⟨_,H1,I2,q1⟩) hf
end
section
variable {X:Cx}{pos:Pos}
def zlT(c:TT)(tb:TS):TS:=fun D σ H=>∃ W:Nat→St→Hp→Prop,(∃ m,W m σ H)∧∀ m σ H,W m σ H →
  c σ H fun b H1=>if b=true then ∃ N:St→Hp→Prop,(∀ σ' H',N σ' H'→∃ m',m' < m∧W m' σ' H')∧tb { D with nx:=N,ct:=N,bk:=D.nx } σ H1 else D.nx σ H1
theorem zgJ{c:Expr}{body:List Stmt}{tc:TT}{tb:TS}(hp:PassesOwn (model X.prog X.w) X.A X.env X.xe)(hc:PT X c tc)(hb:PSs X body tb):PS X (.While c body [] pos) (zlT tc tb):=by
  intro pins s σ H D I h
  obtain⟨W,⟨m0,w0⟩,turn⟩:=h
  refine wpAny_While (codeAny_whileLoop (fun n s'=>∃ σ' H',Inv X pins σ' H' s'∧W n σ' H') ?_ m0 ⟨σ,H,I,w0⟩)
  rintro n s1 ⟨σ1,H1,I1,w1⟩
  refine wpAny_passesOwn hp (thn (hc pins s1 σ1 H1 _ I1 (turn n σ1 H1 w1)) fun b s2 ⟨H2,I2,q2⟩=>?_)
  cases b with
  | true =>
    obtain⟨N,hN,q2⟩:=q2
    rw [if_pos rfl]
    refine wpAny_passesOwn hp (thn (hb pins s2 σ1 H2 _ I2 q2) fun f s3 q3=>?_)
    cases f with
    | next =>
      obtain⟨σ3,H3,I3,n3⟩:=q3
      obtain⟨m',hm,w3⟩:=hN σ3 H3 n3
      exact⟨m',hm,σ3,H3,I3,w3⟩
    | cont =>
      obtain⟨σ3,H3,I3,n3⟩:=q3
      obtain⟨m',hm,w3⟩:=hN σ3 H3 n3
      exact⟨m',hm,σ3,H3,I3,w3⟩
    | brk=>exact q3
    | ret v=>exact q3
  | false =>
    rw [if_neg Bool.false_ne_true]
    exact wpAny_execs_nil ⟨σ1,H2,I2,q2⟩
end
structure It where
  go:Nat→Hp→Prop
  yld:Nat→Hp→V→Hp→Prop
  stop:Nat→Hp→Prop
def vT(X:Cx)(pins:List (Addr×Obj))(H:Hp)(b:Addr):Prop :=
  H b=none∧b≠X.env.locals∧b∉X.fs∧(b∈X.ex∨X.s₀.heap.objs.size≤b)∧(∀ x c,X.env.cells.lookup x=some c→c≠b)∧∀ p∈X.pn++pins,p.1≠b
theorem Inv.fpOk{X:Cx}{pins:List (Addr×Obj)}{σ:St}{H H':Hp}{s:Shared}{b:Addr}(I:Inv X pins σ H s)(hb:s.heap.objs.size≤b)(hn:H' b=none):vT X pins H' b:=by
  refine⟨hn,Nat.ne_of_gt (Nat.lt_of_lt_of_le I.lt hb),I.nofs hb,.inr (Nat.le_trans I.sz hb),fun x c e z=>?_,fun p hp z=>?_⟩
  · obtain⟨v,q⟩:=I.cell x c e
    exact absurd (Nat.lt_of_lt_of_le q.lt (by rw [z];exact hb)) (Nat.lt_irrefl _)
  · exact absurd (Nat.lt_of_lt_of_le (Heap.lt_size (I.pin p hp).1) (by rw [z];exact hb)) (Nat.lt_irrefl _)
structure Turn(P:Program)(w:World)(K:PySem.W.Frag)(tg:Expr)(J:It)(fp:List Addr)(it:Addr)(tn:Nat→Heap→Prop):Prop where
  mem:it∈fp
  obj:∀ i h,tn i h→∀ b∈fp,∃ o,h.get? b=some o∧∀ v,o.data≠.cell v
  keep:∀ i h h',tn i h→(∀ b∈fp,∀ o,h.get? b=some o→h'.get? b=some o)→tn i h'
  item:∀ (X:Cx),X.prog=P→X.w=w→X.K=K→X.calm=true→∀ (i:Nat) (pins:List (Addr×Obj)) (s:Shared) (σ:St) (H:Hp) (E:Value→Shared→Prop),Inv X pins σ H s→(∀ b∈fp,vT X pins H b)→tn i s.heap→J.go i H →
    wpAny (model P w) X.A (pyNext (.ref it)) (fun r s1=>∃ u,r=some u ∧
      wpAny (model P w) X.A (letOwnedTupleGo tg (.ref it) u) (fun _ s2=>∃ x H',Inv X pins σ H' s2∧RelV x u∧J.yld i H x H'∧tn (i+1) s2.heap∧∀ b∈fp,H' b=none) E s1) E s
  done:∀ (X:Cx),X.prog=P→X.w=w→X.K=K→X.calm=true→∀ (i:Nat) (pins:List (Addr×Obj)) (s:Shared) (σ:St) (H:Hp) (E:Value→Shared→Prop),Inv X pins σ H s→(∀ b∈fp,vT X pins H b)→tn i s.heap→J.stop i H →
    wpAny (model P w) X.A (pyNext (.ref it)) (fun r s1=>r=none∧Inv X pins σ H s1) E s
  self:∀ (A:Around) (i:Nat) (s:Shared) (Q:Value→Shared→Prop) (E:Value→Shared→Prop),tn i s.heap→Q (.ref it) s→wpAny (model P w) A (pyIter (.ref it)) Q E s
abbrev TI:=St→Hp→(It→Hp→Prop)→Prop
def PIE(X:Cx)(pins:List (Addr×Obj))(σ:St)(tg:Expr)(R:It→Hp→Prop)(itv:Value)(s2:Shared):Prop :=
  ∃ (it:Addr) (fp:List Addr) (tn:Nat→Heap→Prop) (J:It) (H':Hp),itv=.ref it∧Inv X pins σ H' s2∧Turn X.prog X.w X.K tg J fp it tn∧tn 0 s2.heap∧(∀ b∈fp,vT X pins H' b)∧R J H'
def PI(X:Cx)(tg iter:Expr)(wi:TI):Prop :=
  ∀ (pins:List (Addr×Obj)) (s:Shared) (σ:St) (H:Hp) (R:It→Hp→Prop),Inv X pins σ H s→wi σ H R →
    wpAny (model X.prog X.w) X.A (eval iter X.env) (fun v s1=>wpAny (model X.prog X.w) X.A (pyIter v) (PIE X pins σ tg R) X.xe s1) X.xe s
theorem zik{M:Model}{A:Around}{E:Value→Shared→Prop}{s:Shared}{tg:Expr}{it:Addr}{u:Value}{o:Obj}{n:String}{vs:Array Value}{Q:Unit→Shared→Prop}(ho:s.heap.get? it=some o)(hc:o.cls=.type n)(hd:o.data=.fields vs)
    (hn:["enumerate", "zip", "dict_itemiterator", "dict_reverseitemiterator", "odict_iterator", "itertools.zip_longest", "itertools.pairwise"].contains n=false) (hQ:Q () s):wpAny M A (letOwnedTupleGo tg (.ref it) u) Q E s:=by
  unfold letOwnedTupleGo
  cases tg <;> first
    | exact wpAny_pure hQ
    | (cases u <;> first
        | exact wpAny_pure hQ
        | (refine wpAny_bind (wpAny_load ho ?_)
           rw [hc,hd]
           show wpAny M A (if (["enumerate", "zip", "dict_itemiterator", "dict_reverseitemiterator", "odict_iterator", "itertools.zip_longest", "itertools.pairwise"].contains n && vs[0]? == some (rawInt _))=true then _ else _) Q E s
           rw [if_neg (by intro h;rw [hn,Bool.false_and] at h;cases h)]
           exact wpAny_pure hQ))
def Itl(K:PySem.W.Frag)(a:Addr):It :=
  ⟨fun i H=>∃ xs x,SqL K H a xs∧xs[i]?=some x,fun i H x H'=>H'=H∧∀ xs,SqL K H a xs→xs[i]?=some x,fun i H=>∃ xs,SqL K H a xs∧xs.length≤i⟩
def Itt(K:PySem.W.Frag)(a:Addr):It :=
  ⟨fun i H=>∃ xs x,SqT K H a xs∧xs[i]?=some x,fun i H x H'=>H'=H∧∀ xs,SqT K H a xs→xs[i]?=some x,fun i H=>∃ xs,SqT K H a xs∧xs.length≤i⟩
def Itr(lo:Int)(n:Nat):It:=⟨fun i _=>i < n,fun i H x H'=>H'=H∧x=.int (lo+i),fun i _=>n≤i⟩
theorem za3{P:Program}{w:World}{K:PySem.W.Frag}{tg:Expr}(a it:Addr):Turn P w K tg (Itl K a) [it] it (fun i h=>h.IsListIter it a i) where
  mem:=by simp
  obj:=fun i h st b hb=>by
    have e:b=it:=by simpa using hb
    subst e
    obtain⟨o,e,c,d⟩:=st
    exact⟨o,e,fun v z=>by rw [d] at z;cases z⟩
  keep:=fun i h h' st k=>st.at fun o e=>k it (by simp) o e
  item:=by
    intro X hP hw hK hc i pins s σ H E I hf st hg
    subst hP hw hK
    obtain⟨xs,x,hq,hx⟩:=hg
    obtain⟨its,rv,p,hz⟩:=I.list hq
    obtain⟨u,hu,ru⟩:=rv.get hx
    obtain⟨f0,f1,f2,f3,f4,f5⟩:=hf it (by simp)
    refine wpAny_pyNext_list_item st p.isList (x:=u) (by simpa using hu) fun h' st' sb=>?_
    have I1:Inv X pins σ H { s with heap:=h' }:=I.turned (t':=s.toks) (fun b o hb e=>(sb.2 b hb).trans e) f0 f1 f3 f4 f5
    obtain⟨o,e,c,d⟩:=id st'
    exact⟨u,rfl,zik (s:={ s with heap:=h' }) e c d (by decide) ⟨x,H,I1,ru,⟨rfl,fun ys hy=>by rw [I.list_inj hy hq];exact hx⟩,st',fun b hb=>(hf b hb).1⟩⟩
  done:=by
    intro X hP hw hK hc i pins s σ H E I hf st hg
    subst hP hw hK
    obtain⟨xs,hq,hx⟩:=hg
    obtain⟨its,rv,p,hz⟩:=I.list hq
    obtain⟨f0,f1,f2,f3,f4,f5⟩:=hf it (by simp)
    have hl:=rv.length
    exact wpAny_pyNext_list_end (I.ok.hd hc) st p.isList (by simp;omega) fun h' eb=>⟨rfl,I.turned (t':=s.toks) (fun b o hb e=>eb b o hb e) f0 f1 f3 f4 f5⟩
  self:=fun _ _ _ _ _ st h=>wpAny_pyIter_listiter st h
theorem y4{P:Program}{w:World}{K:PySem.W.Frag}{tg:Expr}(a it:Addr):Turn P w K tg (Itt K a) [it] it (fun i h=>h.IsTupleIter it a i) where
  mem:=by simp
  obj:=fun i h st b hb=>by
    have e:b=it:=by simpa using hb
    subst e
    obtain⟨o,e,c,d⟩:=st
    exact⟨o,e,fun v z=>by rw [d] at z;cases z⟩
  keep:=fun i h h' st k=>st.at fun o e=>k it (by simp) o e
  item:=by
    intro X hP hw hK hc i pins s σ H E I hf st hg
    subst hP hw hK
    obtain⟨xs,x,hq,hx⟩:=hg
    obtain⟨its,rv,p,hz⟩:=I.tuple hq
    obtain⟨u,hu,ru⟩:=rv.get hx
    obtain⟨f0,f1,f2,f3,f4,f5⟩:=hf it (by simp)
    refine wpAny_pyNext_tuple_item st (show s.heap.IsTuple a its.toArray from p) (x:=u) (by simpa using hu) fun h' st' sb=>?_
    have I1:Inv X pins σ H { s with heap:=h' }:=I.turned (t':=s.toks) (fun b o hb e=>(sb.2 b hb).trans e) f0 f1 f3 f4 f5
    obtain⟨o,e,c,d⟩:=id st'
    exact⟨u,rfl,zik (s:={ s with heap:=h' }) e c d (by decide) ⟨x,H,I1,ru,⟨rfl,fun ys hy=>by rw [I.tuple_inj hy hq];exact hx⟩,st',fun b hb=>(hf b hb).1⟩⟩
  done:=by
    intro X hP hw hK hc i pins s σ H E I hf st hg
    subst hP hw hK
    obtain⟨xs,hq,hx⟩:=hg
    obtain⟨its,rv,p,hz⟩:=I.tuple hq
    obtain⟨f0,f1,f2,f3,f4,f5⟩:=hf it (by simp)
    have hl:=rv.length
    exact wpAny_pyNext_tuple_end (I.ok.hd hc) st (show s.heap.IsTuple a its.toArray from p) (by simp;omega) fun h' eb=>⟨rfl,I.turned (t':=s.toks) (fun b o hb e=>eb b o hb e) f0 f1 f3 f4 f5⟩
  self:=fun _ _ _ _ _ st h=>wpAny_pyIter_tupleiter st h
theorem zdn{P:Program}{w:World}{K:PySem.W.Frag}{tg:Expr}(it:Addr)(lo:Int)(n:Nat):Turn P w K tg (Itr lo n) [it] it (fun i h=>IsRangeIter h it (lo+(i:Nat)*1) ((n:Int) - (i:Nat)) 1) where
  mem:=by simp
  obj:=fun i h st b hb=>by
    have e:b=it:=by simpa using hb
    subst e
    exact⟨_,st,fun v z=>by
      have z':Data.fields _=Data.cell v:=z
      cases z'⟩
  keep:=fun i h h' st k=>k it (by simp) _ st
  item:=by
    intro X hP hw hK hc i pins s σ H E I hf st hg
    subst hP hw hK
    obtain⟨f0,f1,f2,f3,f4,f5⟩:=hf it (by simp)
    have W:=Walks.range (prog:=X.prog) (w:=X.w) (I.ok.hd hc) it lo 1 n
    refine W.item i s _ _ hg st fun v h' tk hv st' kk=>?_
    obtain⟨t,rfl⟩:=hv
    have I1:Inv X pins σ H { s with heap:=h',toks:=tk }:=I.turned (fun b o hb e=>kk b o (by simpa using hb) e) f0 f1 f3 f4 f5
    refine⟨_,rfl,zik (s:={ s with heap:=h',toks:=tk }) (n := "range_iterator") st' rfl rfl (by decide) ⟨.int (lo+i),H,I1,⟨t,?_⟩,⟨rfl,rfl⟩,st',fun b hb=>(hf b hb).1⟩⟩
    rw [Int.mul_one]
  done:=by
    intro X hP hw hK hc i pins s σ H E I hf st hg
    subst hP hw hK
    obtain⟨f0,f1,f2,f3,f4,f5⟩:=hf it (by simp)
    exact wpAny_pyNext_range_end (I.ok.hd hc) st (by have:n≤i:=hg;omega) fun h' eb=>⟨rfl,I.turned (t':=s.toks) (fun b o hb e=>eb b o hb e) f0 f1 f3 f4 f5⟩
  self:=fun _ _ _ _ _ st h=>wpAny_pyIter_rangeiter st h
end L2
namespace L2
open PySem PySem.Spec PyProof.Rows
section
variable {X:Cx}{tg:Expr}
def zmo(K:PySem.W.Frag)(tl:TE):TI:=fun σ H R=>tl σ H fun x H1=>∃ a,x=.ref a∧(∃ xs,SqL K H1 a xs)∧R (Itl K a) H1
def znQ(K:PySem.W.Frag)(tl:TE):TI:=fun σ H R=>tl σ H fun x H1=>∃ a,x=.ref a∧(∃ xs,SqT K H1 a xs)∧R (Itt K a) H1
theorem zjc{l:Expr}{tl:TE}(hl:PE X l tl):PI X tg l (zmo X.K tl):=by
  intro pins s σ H R I h
  refine thn (hl pins s σ H _ I h) fun v s1 ⟨x,H1,I1,r1,q1⟩=>?_
  obtain⟨a,e,⟨xs,hq⟩,q⟩:=q1
  subst e
  cases r1
  obtain⟨its,rv,p,hz⟩:=I1.list hq
  refine wpAny_pyIter_list p.isList ?_
  refine⟨s1.heap.objs.size,[s1.heap.objs.size],_,_,H1,rfl,I1.kept (t':=s1.toks) fun b o e=>Heap.get?_push_of_some _ e,za3 a _,⟨_,Heap.get?_push_size _ rfl,rfl,rfl⟩,fun b hb=>?_,q⟩
  have e:b=s1.heap.objs.size:=by simpa using hb
  subst e
  exact I1.fpOk (Nat.le_refl _) (I1.hok.fresh (Nat.le_refl _))
theorem zlo{l:Expr}{tl:TE}(hl:PE X l tl):PI X tg l (znQ X.K tl):=by
  intro pins s σ H R I h
  refine thn (hl pins s σ H _ I h) fun v s1 ⟨x,H1,I1,r1,q1⟩=>?_
  obtain⟨a,e,⟨xs,hq⟩,q⟩:=q1
  subst e
  cases r1
  obtain⟨its,rv,p,hz⟩:=I1.tuple hq
  refine wpAny_pyIter_tuple (show s1.heap.IsTuple a its.toArray from p) ?_
  refine⟨s1.heap.objs.size,[s1.heap.objs.size],_,_,H1,rfl,I1.kept (t':=s1.toks) fun b o e=>Heap.get?_push_of_some _ e,y4 a _,⟨_,Heap.get?_push_size _ rfl,rfl,rfl⟩,fun b hb=>?_,q⟩
  have e:b=s1.heap.objs.size:=by simpa using hb
  subst e
  exact I1.fpOk (Nat.le_refl _) (I1.hok.fresh (Nat.le_refl _))
theorem zcw{pins:List (Addr×Obj)}{σ:St}{H:Hp}{s:Shared}{R:It→Hp→Prop}{E:Value→Shared→Prop}{lo hi:Int}{t u v:Tok}{tk:Nat}(I:Inv X pins σ H s)(h1:-(2 ^ 62)≤lo)(h2:lo < 2 ^ 62)(h3:-(2 ^ 62)≤hi)(h4:hi < 2 ^ 62)
    (q:R (Itr lo (hi - lo).toNat) H):wpAny (model X.prog X.w) X.A (pyIter (.ref s.heap.objs.size)) (PIE X pins σ tg R) E { s with heap:=s.heap.push { cls:=.type "range",data:=.fields #[.int lo t,.int hi u,.int 1 v] },toks:=tk }:=by
  refine wpAny_pyIter_range (IsRange.new ..) (small_one h1 h2 h3 h4) ?_
  have I1:Inv X pins σ H { s with heap:=s.heap.push { cls:=.type "range",data:=.fields #[.int lo t,.int hi u,.int 1 v] },toks:=tk }:=I.kept fun b o e=>Heap.get?_push_of_some _ e
  refine⟨(s.heap.push { cls:=.type "range",data:=.fields #[.int lo t,.int hi u,.int 1 v] }).objs.size,[(s.heap.push { cls:=.type "range",data:=.fields #[.int lo t,.int hi u,.int 1 v] }).objs.size],_,_,H,rfl,
    I1.kept (t':=tk) fun b o e=>Heap.get?_push_of_some _ e,zdn _ lo (hi - lo).toNat,?_,fun b hb=>?_,q⟩
  · have e1:lo+((0:Nat):Int)*1=lo:=by simp
    have e2:(((hi - lo).toNat:Nat):Int) - ((0:Nat):Int)=Builtin.Range.rangeSize lo hi 1:=by rw [rangeSize_one];split <;> omega
    show IsRangeIter _ _ (lo+((0:Nat):Int)*1) ((((hi - lo).toNat:Nat):Int) - ((0:Nat):Int)) 1
    rw [e1,e2]
    exact Heap.get?_push_size _ rfl
  · have e:b=(s.heap.push { cls:=.type "range",data:=.fields #[.int lo t,.int hi u,.int 1 v] }).objs.size:=by simpa using hb
    subst e
    exact I1.fpOk (Nat.le_refl _) (I1.hok.fresh (Nat.le_refl _))
def zmp(ta:TA):TI:=fun σ H R=>ta σ H fun vs H1=>∃ j:Int,vs=[.int j]∧-(2 ^ 62)≤j∧j < 2 ^ 62∧R (Itr 0 j.toNat) H1
def zmq(ta:TA):TI:=fun σ H R=>ta σ H fun vs H1=>∃ i j:Int,vs=[.int i,.int j]∧(-(2 ^ 62)≤i∧i < 2 ^ 62∧-(2 ^ 62)≤j∧j < 2 ^ 62)∧R (Itr i (j - i).toNat) H1
theorem zeK {a:Expr} {ta:TA} {p pos:Pos} (hg:Gl X "range") (hm:X.mg "range" = none) (ha:PA X [a] ta) (hs:starEach [a] X.env=[(false,eval a X.env)]:=by rfl):PI X tg (.Call (.Name "range" p) [a] [] pos) (zmp ta):=by
  intro pins s σ H R I h
  refine Call_ (jg I hg hm boot_range (PyProof.Rows.callWith_type1 (thn (ha pos pins s σ H _ I h) fun us s1 ⟨vs,H1,I1,r1,q1⟩=>?_) hs rfl))
  obtain⟨j,e,q1,q2,q⟩:=q1
  subst e
  cases r1 with
  | cons r rr =>
    cases rr
    obtain⟨t,rfl⟩:=r
    exact call_range_1 (zcw I1 (by omega) (by omega) q1 q2 (by simpa using q))
theorem zeL {a b:Expr} {ta:TA} {p pos:Pos} (hg:Gl X "range") (hm:X.mg "range" = none) (ha:PA X [a,b] ta) (hs:starEach [a,b] X.env=[(false,eval a X.env),(false,eval b X.env)]:=by rfl) (hs2:starEach [b] X.env=[(false,eval b X.env)]:=by rfl) :
    PI X tg (.Call (.Name "range" p) [a,b] [] pos) (zmq ta):=by
  intro pins s σ H R I h
  refine Call_ (jg I hg hm boot_range (PyProof.Rows.callWith_type1 (thn (ha pos pins s σ H _ I h) fun us s1 ⟨vs,H1,I1,r1,q1⟩=>?_) (by rw [hs,hs2]) (by rw [hs2];rfl)))
  obtain⟨i,j,e,⟨q1,q2,q3,q4⟩,q⟩:=q1
  subst e
  cases r1 with
  | cons r rr =>
    cases rr with
    | cons r' rr =>
      cases rr
      obtain⟨t,rfl⟩:=r
      obtain⟨t',rfl⟩:=r'
      exact call_range_2 (zcw I1 q1 q2 q3 q4 q)
def zn3(wi:TI)(g:TG)(tb:TS):TS:=fun D σ H=>wi σ H fun J H1=>∃ W:Nat→Nat→St→Hp→Prop,(∃ m,W 0 m σ H1)∧∀ i m σ H,W i m σ H →
  (J.stop i H∧D.nx σ H)∨(J.go i H∧∃ N:St→Hp→Prop,(∀ σ' H',N σ' H'→∃ m',m' < m∧W (i+1) m' σ' H')∧∀ x H',J.yld i H x H'→g x σ H' fun σ2 H2=>tb { D with nx:=N,ct:=N,bk:=D.nx } σ2 H2)
def yR(fp:List Addr)(h:Heap):List (Addr×Obj):=fp.filterMap fun b=>(h.get? b).map fun o=>(b,o)
theorem xt{fp:List Addr}{h:Heap}{b:Addr}{o:Obj}(hb:b∈fp)(e:h.get? b=some o):(b,o)∈yR fp h:=List.mem_filterMap.mpr ⟨b,hb,by rw [e];rfl⟩
theorem zew{fp:List Addr}{h:Heap}{p:Addr×Obj}(hp:p∈yR fp h):p.1∈fp∧h.get? p.1=some p.2:=by
  obtain⟨b,hb,e⟩:=List.mem_filterMap.mp hp
  cases q:h.get? b with
  | none=>rw [q] at e;cases e
  | some o =>
    rw [q] at e
    have e':(b,o)=p:=Option.some.inj e
    subst e'
    exact⟨hb,q⟩
theorem Inv.pinned{pins:List (Addr×Obj)}{σ:St}{H:Hp}{s:Shared}{fp:List Addr}(I:Inv X pins σ H s)(hf:∀ b∈fp,vT X pins H b)(ho:∀ b∈fp,∃ o,s.heap.get? b=some o∧∀ v,o.data≠.cell v):Inv X (pins++yR fp s.heap) σ H s :=
  I.pins_of fun p hp=>(List.mem_append.mp hp).elim (fun z=>I.pin p (List.mem_append_right _ z)) fun z=>by
    obtain⟨hb,e⟩:=zew z
    obtain⟨f0,f1,f2,_⟩:=hf p.1 hb
    obtain⟨o,e',d⟩:=ho p.1 hb
    rw [e] at e';cases e'
    exact⟨e,f0,f1,f2,d⟩
theorem Inv.unpinned{pins pl:List (Addr×Obj)}{σ:St}{H:Hp}{s:Shared}(I:Inv X (pins++pl) σ H s):Inv X pins σ H s:=I.pins_of fun p hp=>I.pin p (List.mem_append_right _ (List.mem_append_left _ hp))
theorem zlr{iter:Expr}{body:List Stmt}{wi:TI}{g:TG}{tb:TS}{pos:Pos}(hp:PassesOwn (model X.prog X.w) X.A X.env X.xe)(hc:X.calm=true)(hi:PI X tg iter wi)(hg:PG X tg g)(hb:PSs X body tb)
    (hs:∀ x,foldedSetIterable iter X.env x=pure x:=by intro _;rfl):PS X (.For tg iter body [] pos) (zn3 wi g tb):=by
  intro pins s σ H D I h
  refine wpAny_For (thn (hi pins s σ H _ I h) fun v s1 h1=>thn h1 fun itv s2 h2=>?_) hs
  obtain⟨it,fp,tn,J,H2,e,I2,T,st2,f2,W,⟨m0,w0⟩,turn⟩:=h2
  subst e
  have stat:∀ {H':Hp},(∀ b∈fp,H' b=none)→∀ b∈fp,vT X pins H' b:=fun hn b hb=>⟨hn b hb,(f2 b hb).2⟩
  refine codeAny_forLoop_any (fun n s'=>∃ i σ' H',Inv X pins σ' H' s'∧tn i s'.heap∧(∀ b∈fp,H' b=none)∧W i n σ' H') ?_ m0 ⟨0,σ,H2,I2,st2,fun b hb=>(f2 b hb).1,w0⟩
  rintro n s3 ⟨i,σ3,H3,I3,st3,fr3,w3⟩
  rcases turn i n σ3 H3 w3 with ⟨stop,qn⟩ | ⟨go,N,hN,step⟩
  · refine wpAny_passesOwn hp (thn (T.done X rfl rfl rfl hc i pins s3 σ3 H3 X.xe I3 (stat fr3) st3 stop) fun r s4 ⟨hr,I4⟩=>?_)
    subst hr
    exact wpAny_execs_nil ⟨σ3,H3,I4,qn⟩
  · refine wpAny_passesOwn hp (thn (T.item X rfl rfl rfl hc i pins s3 σ3 H3 X.xe I3 (stat fr3) st3 go) fun r s4 ⟨u,hr,h4⟩=>?_)
    subst hr
    refine wpAny_passesOwn hp (thn h4 fun _ s5 ⟨x,H5,I5,r5,y5,st5,fr5⟩=>?_)
    have I5':=I5.pinned (stat fr5) (T.obj _ _ st5)
    refine wpAny_passesOwn hp (thn (hg _ s5 σ3 H5 x u _ I5' r5 (step x H5 y5)) fun _ s6 ⟨σ6,H6,I6,q6⟩=>?_)
    refine wpAny_passesOwn hp (thn (hb _ s6 σ6 H6 _ I6 q6) fun f s7 q7=>?_)
    have again:∀ {σ7:St} {H7:Hp},Inv X (pins++yR fp s5.heap) σ7 H7 s7→N σ7 H7→∃ m,m < n∧∃ i σ' H',Inv X pins σ' H' s7∧tn i s7.heap∧(∀ b∈fp,H' b=none)∧W i m σ' H':=fun {σ7 H7} I7 n7=>by
      obtain⟨m',hm,w7⟩:=hN σ7 H7 n7
      refine⟨m',hm,i+1,σ7,H7,I7.unpinned,T.keep _ _ _ st5 fun b hb o e=>(I7.pin (b,o) (List.mem_append_right _ (List.mem_append_right _ (xt hb e)))).1,fun b hb=>?_,w7⟩
      obtain⟨o,e,d⟩:=T.obj _ _ st5 b hb
      exact (I7.pin (b,o) (List.mem_append_right _ (List.mem_append_right _ (xt hb e)))).2.1
    cases f with
    | next=>obtain⟨σ7,H7,I7,n7⟩:=q7;exact again I7 n7
    | cont=>obtain⟨σ7,H7,I7,n7⟩:=q7;exact again I7 n7
    | brk=>obtain⟨σ7,H7,I7,q7⟩:=q7;exact⟨σ7,H7,I7.unpinned,q7⟩
    | ret v=>obtain⟨x7,σ7,H7,I7,r7,q7⟩:=q7;exact⟨x7,σ7,H7,I7.unpinned,r7,q7⟩
end
end L2
namespace L2
open PySem PySem.Spec PyProof.Rows
abbrev R2:=V→V→Hp→VK→Prop
def OpR(X:Cx)(f:Value→Value→Sem Value)(r:R2):Prop :=
  ∀ (pins:List (Addr×Obj)) (s:Shared) (σ:St) (H:Hp) (x y:V) (v u:Value) (Q:VK),Inv X pins σ H s→RelV x v→RelV y u→r x y H Q →
    wpAny (model X.prog X.w) X.A (f v u) (EP X pins σ Q) X.xe s
def UnR(X:Cx)(f:Value→Sem Value)(r:V→Hp→VK→Prop):Prop :=
  ∀ (pins:List (Addr×Obj)) (s:Shared) (σ:St) (H:Hp) (x:V) (v:Value) (Q:VK),Inv X pins σ H s→RelV x v→r x H Q →
    wpAny (model X.prog X.w) X.A (f v) (EP X pins σ Q) X.xe s
def va(X:Cx)(f:Value)(r:List V→Hp→VK→Prop):Prop :=
  ∀ (pins:List (Addr×Obj)) (s:Shared) (σ:St) (H:Hp) (xs:List V) (us:List Value) (Q:VK),Inv X pins σ H s→Vals xs us→r xs H Q →
    wpAny (model X.prog X.w) X.A (call f us) (EP X pins σ Q) X.xe s
def tOp(r:R2)(ta tb:TE):TE:=fun σ H Q=>ta σ H fun x H1=>tb σ H1 fun y H2=>r x y H2 Q
def tUn(r:V→Hp→VK→Prop)(ta:TE):TE:=fun σ H Q=>ta σ H fun x H1=>r x H1 Q
def rI(C:Int→Int→Prop)(g:Int→Int→V):R2:=fun x y H Q=>∃ i j,x=.int i∧y=.int j∧C i j∧Q (g i j) H
def rI0(g:Int→Int→V):R2:=fun x y H Q=>∃ i j,x=.int i∧y=.int j∧Q (g i j) H
def rU(g:Int→V):V→Hp→VK→Prop:=fun x H Q=>∃ i,x=.int i∧Q (g i) H
section
variable {X:Cx}{a b c:Expr}{ta tb tc:TE}{pos:Pos}
theorem zmb(ha:PE X a ta)(hb:PE X b tb){pins:List (Addr×Obj)}{s:Shared}{σ:St}{H:Hp}{R:V→V→Hp→Prop}(I:Inv X pins σ H s)
    (h:ta σ H fun x H1=>tb σ H1 fun y H2=>R x y H2) {Q:Value→Shared→Prop} {f:Value→Value→Sem Value}
    (hf:∀ v u s2 x y H2,Inv X pins σ H2 s2→RelV x v→RelV y u→R x y H2→wpAny (model X.prog X.w) X.A (f v u) Q X.xe s2) :
    wpAny (model X.prog X.w) X.A (eval a X.env) (fun v s₁=>wpAny (model X.prog X.w) X.A (eval b X.env) (fun u s₂=>wpAny (model X.prog X.w) X.A (f v u) Q X.xe s₂) X.xe s₁) X.xe s:=by
  refine thn (ha pins s σ H _ I h) fun v s1 ⟨x,H1,I1,r1,q1⟩=>?_
  refine thn (hb pins s1 σ H1 _ I1 q1) fun u s2 ⟨y,H2,I2,r2,q2⟩=>?_
  exact hf v u s2 x y H2 I2 r1 r2 q2
theorem zll{op:Operator}{r:R2}(ho:OpR X (binaryOp op) r)(ha:PE X a ta)(hb:PE X b tb):PE X (.BinOp a op b pos) (tOp r ta tb):=by
  intro pins s σ H Q I h
  exact wpAny_BinOp (zmb ha hb I h fun v u s2 x y H2 I2 rx ry q=>ho pins s2 σ H2 x y v u Q I2 rx ry q)
theorem zmI{op:UnaryOp}{r:V→Hp→VK→Prop}(ho:UnR X (unaryOp op) r)(ha:PE X a ta):PE X (.UnaryOp op a pos) (tUn r ta):=by
  intro pins s σ H Q I h
  exact UnaryOp_ (thn (ha pins s σ H _ I h) fun v s1 ⟨x,H1,I1,r1,q1⟩=>ho pins s1 σ H1 x v Q I1 r1 q1)
theorem opI{f:Value→Value→Sem Value}{C:Int→Int→Prop}{g:Int→Int→Int}
    (rule:∀ (i j:Int) (t u:Tok) (s:Shared) (Q:Value→Shared→Prop) (E:Value→Shared→Prop),C i j→Q (.int (g i j) s.toks) { s with toks:=s.toks+1 }→wpAny (model X.prog X.w) X.A (f (.int i t) (.int j u)) Q E s) :
    OpR X f (rI C fun i j=>.int (g i j)):=by
  intro pins s σ H x y v u Q I rx ry h
  obtain⟨i,j,rfl,rfl,hc,q⟩:=h
  obtain⟨t,rfl⟩:=rx
  obtain⟨t',rfl⟩:=ry
  exact rule i j t t' s _ _ hc ⟨.int (g i j),H,I.tok _,⟨_,rfl⟩,q⟩
theorem znx{f:Value→Value→Sem Value}{g:Int→Int→Int}
    (rule:∀ (i j:Int) (t u:Tok) (s:Shared) (Q:Value→Shared→Prop) (E:Value→Shared→Prop),Q (.int (g i j) s.toks) { s with toks:=s.toks+1 }→wpAny (model X.prog X.w) X.A (f (.int i t) (.int j u)) Q E s) :
    OpR X f (rI0 fun i j=>.int (g i j)):=by
  intro pins s σ H x y v u Q I rx ry h
  obtain⟨i,j,rfl,rfl,q⟩:=h
  obtain⟨t,rfl⟩:=rx
  obtain⟨t',rfl⟩:=ry
  exact rule i j t t' s _ _ ⟨.int (g i j),H,I.tok _,⟨_,rfl⟩,q⟩
theorem zl5{f:Value→Value→Sem Value}{g:Int→Int→Bool}
    (rule:∀ (i j:Int) (t u:Tok) (s:Shared) (Q:Value→Shared→Prop) (E:Value→Shared→Prop),Q (.bool (g i j)) s→wpAny (model X.prog X.w) X.A (f (.int i t) (.int j u)) Q E s) :
    OpR X f (rI0 fun i j=>.bl (g i j)):=by
  intro pins s σ H x y v u Q I rx ry h
  obtain⟨i,j,rfl,rfl,q⟩:=h
  obtain⟨t,rfl⟩:=rx
  obtain⟨t',rfl⟩:=ry
  exact rule i j t t' s _ _ ⟨.bl (g i j),H,I,rfl,q⟩
def zmZ(i j:Int):Prop:=0 < j∧j < 1073741824
def zm0(i j:Int):Prop:=0≤j∧j≤1000000∧i.natAbs < 2 ^ 64
theorem zk8:OpR X (binaryOp .Add) (rI0 fun i j=>.int (i+j)):=znx fun _ _ _ _ _ _ _ q=>add_int q
theorem zle:OpR X (binaryOp .Sub) (rI0 fun i j=>.int (i - j)):=znx fun _ _ _ _ _ _ _ q=>sub_int q
theorem ziY:OpR X (binaryOp .FloorDiv) (rI zmZ fun i j=>.int (i / j)):=opI fun i j _ _ _ _ _ hc q=>by
  have h1:(0:Int) < j:=hc.1
  have h2:j < 1073741824:=hc.2
  exact floordiv_int (by omega) (by rw [Int.fdiv_eq_ediv_of_nonneg i (by omega)];exact q) (.inl (PyProof.noPylong_small (by omega)))
theorem zlb:OpR X (binaryOp .Mod) (rI (fun _ j=>0 < j) fun i j=>.int (i % j)):=opI fun i j _ _ _ _ _ hc q=>by
  have h1:(0:Int) < j:=hc
  exact mod_int' (by omega) (by rw [Int.fmod_eq_emod_of_nonneg i (by omega)];exact q)
theorem zlc:OpR X (binaryOp .Pow) (rI zm0 fun i j=>.int (i ^ j.toNat)):=opI fun _ _ _ _ _ _ _ hc q=>pow_int_small hc.1 hc.2.1 hc.2.2 q
theorem unI{f:Value→Sem Value}{g:Int→Int}
    (rule:∀ (i:Int) (t:Tok) (s:Shared) (Q:Value→Shared→Prop) (E:Value→Shared→Prop),Q (.int (g i) s.toks) { s with toks:=s.toks+1 }→wpAny (model X.prog X.w) X.A (f (.int i t)) Q E s) :
    UnR X f (rU fun i=>.int (g i)):=by
  intro pins s σ H x v Q I rx h
  obtain⟨i,rfl,q⟩:=h
  obtain⟨t,rfl⟩:=rx
  exact rule i t s _ _ ⟨.int (g i),H,I.tok _,⟨_,rfl⟩,q⟩
theorem zlW:UnR X (unaryOp .USub) (rU fun i=>.int (-i)):=unI fun _ _ _ _ _ q=>neg_int q
end
def scal:V→V→Bool
  | .non,.non=>true | .non,.int _=>true | .int _,.non=>true | .non,.bl _=>true | .bl _,.non=>true | .non,.str _=>true | .str _,.non=>true
  | .int _,.int _=>true | .bl _,.bl _=>true | .str _,.str _=>true | .byt _,.byt _=>true
  | .int _,.str _=>true | .str _,.int _=>true | .bl _,.str _=>true | .str _,.bl _=>true
  | _,_=>false
def rEq:R2:=fun x y H Q=>scal x y=true∧Q (.bl (decide (x=y))) H
def rNe:R2:=fun x y H Q=>scal x y=true∧Q (.bl (!decide (x=y))) H
theorem zdX{i j:Int}:decide (V.int i=V.int j)=(i == j):=by
  rw [Bool.eq_iff_iff]
  simp
theorem zho{i j:Bool}:decide (V.bl i=V.bl j)=(i == j):=by
  rw [Bool.eq_iff_iff]
  simp
theorem zdY{i j:Str}:decide (V.str i=V.str j)=(i == j):=by
  rw [Bool.eq_iff_iff]
  simp
theorem zdW{i j:Array UInt8}:decide (V.byt i=V.byt j)=(i.toList == j.toList):=by
  rw [Bool.eq_iff_iff]
  cases i
  cases j
  simp
section
variable {X:Cx}{a b c:Expr}{ta tb tc:TE}{pos:Pos}
theorem zT{pins:List (Addr×Obj)}{σ:St}{H:Hp}{s:Shared}{Q:VK}{k k':Bool}(I:Inv X pins σ H s)(q:Q (.bl k) H)(e:k=k'):EP X pins σ Q (.bool k') s:=by
  subst e
  exact⟨.bl k,H,I,rfl,q⟩
theorem zbw:OpR X (compareOp .Eq) rEq:=by
  intro pins s σ H x y v u Q I rx ry h
  obtain⟨hs,q⟩:=h
  cases x with
  | non =>
    cases rx
    cases y with
    | non=>cases ry;exact PySem.EqNone.eq_none_none (zT I q (by simp))
    | bl j=>cases ry;exact PySem.EqNone.eq_none_bool (zT I q (by simp))
    | int j=>obtain⟨t',rfl⟩:=ry;exact PySem.EqNone.eq_none_int (zT I q (by simp))
    | str j=>obtain⟨t',rfl⟩:=ry;exact PySem.EqNone.eq_none_str (zT I q (by simp))
    | _=>exact absurd (show false=true from hs) Bool.false_ne_true
  | bl i =>
    cases rx
    cases y with
    | non=>cases ry;exact PySem.EqNone.eq_bool_none (zT I q (by simp))
    | bl j=>cases ry;exact eq_bool (zT I q zho)
    | str j=>obtain⟨t',rfl⟩:=ry;exact PySem.EqMixed.eq_bool_str (zT I q (by simp))
    | _=>exact absurd (show false=true from hs) Bool.false_ne_true
  | int i =>
    obtain⟨t,rfl⟩:=rx
    cases y with
    | non=>cases ry;exact PySem.EqNone.eq_int_none (zT I q (by simp))
    | int j=>obtain⟨t',rfl⟩:=ry;exact eq_int (zT I q zdX)
    | str j=>obtain⟨t',rfl⟩:=ry;exact PySem.EqMixed.eq_int_str (zT I q (by simp))
    | _=>exact absurd (show false=true from hs) Bool.false_ne_true
  | str i =>
    obtain⟨t,rfl⟩:=rx
    cases y with
    | non=>cases ry;exact PySem.EqNone.eq_str_none (zT I q (by simp))
    | bl j=>cases ry;exact PySem.EqMixed.eq_str_bool (zT I q (by simp))
    | int j=>obtain⟨t',rfl⟩:=ry;exact PySem.EqMixed.eq_str_int (zT I q (by simp))
    | str j=>obtain⟨t',rfl⟩:=ry;exact eq_str (zT I q zdY)
    | _=>exact absurd (show false=true from hs) Bool.false_ne_true
  | byt i =>
    obtain⟨t,rfl⟩:=rx
    cases y with
    | byt j=>obtain⟨t',rfl⟩:=ry;exact PySem.W.eq_bytes (zT I q zdW)
    | _=>exact absurd (show false=true from hs) Bool.false_ne_true
  | _=>cases y <;> exact absurd (show false=true from hs) Bool.false_ne_true
theorem zc9:OpR X (compareOp .NotEq) rNe:=by
  intro pins s σ H x y v u Q I rx ry h
  obtain⟨hs,q⟩:=h
  cases x with
  | non =>
    cases rx
    cases y with
    | non=>cases ry;exact PySem.EqNone.ne_none_none (zT I q (by simp))
    | bl j=>cases ry;exact PySem.EqNone.ne_none_bool (zT I q (by simp))
    | int j=>obtain⟨t',rfl⟩:=ry;exact PySem.EqNone.ne_none_int (zT I q (by simp))
    | str j=>obtain⟨t',rfl⟩:=ry;exact PySem.EqNone.ne_none_str (zT I q (by simp))
    | _=>exact absurd (show false=true from hs) Bool.false_ne_true
  | bl i =>
    cases rx
    cases y with
    | non=>cases ry;exact PySem.EqNone.ne_bool_none (zT I q (by simp))
    | bl j=>cases ry;exact ne_bool (zT I q (congrArg not zho))
    | str j=>obtain⟨t',rfl⟩:=ry;exact PySem.EqMixed.ne_bool_str (zT I q (by simp))
    | _=>exact absurd (show false=true from hs) Bool.false_ne_true
  | int i =>
    obtain⟨t,rfl⟩:=rx
    cases y with
    | non=>cases ry;exact PySem.EqNone.ne_int_none (zT I q (by simp))
    | int j=>obtain⟨t',rfl⟩:=ry;exact ne_int (zT I q (congrArg not zdX))
    | str j=>obtain⟨t',rfl⟩:=ry;exact PySem.EqMixed.ne_int_str (zT I q (by simp))
    | _=>exact absurd (show false=true from hs) Bool.false_ne_true
  | str i =>
    obtain⟨t,rfl⟩:=rx
    cases y with
    | non=>cases ry;exact PySem.EqNone.ne_str_none (zT I q (by simp))
    | bl j=>cases ry;exact PySem.EqMixed.ne_str_bool (zT I q (by simp))
    | int j=>obtain⟨t',rfl⟩:=ry;exact PySem.EqMixed.ne_str_int (zT I q (by simp))
    | str j=>obtain⟨t',rfl⟩:=ry;exact ne_str (zT I q (congrArg not zdY))
    | _=>exact absurd (show false=true from hs) Bool.false_ne_true
  | byt i =>
    obtain⟨t,rfl⟩:=rx
    cases y with
    | byt j=>obtain⟨t',rfl⟩:=ry;exact PySem.W.ne_bytes (zT I q (congrArg not zdW))
    | _=>exact absurd (show false=true from hs) Bool.false_ne_true
  | _=>cases y <;> exact absurd (show false=true from hs) Bool.false_ne_true
theorem vZ:OpR X (compareOp .Lt) (rI0 fun i j=>.bl (decide (i < j))):=zl5 fun _ _ _ _ _ _ _ q=>lt_int q
theorem zmF:OpR X (compareOp .LtE) (rI0 fun i j=>.bl (decide (i≤j))):=zl5 fun _ _ _ _ _ _ _ q=>le_int q
theorem zeB:OpR X (compareOp .Gt) (rI0 fun i j=>.bl (decide (j < i))):=zl5 fun _ _ _ _ _ _ _ q=>gt_int q
theorem zmE:OpR X (compareOp .GtE) (rI0 fun i j=>.bl (decide (j≤i))):=zl5 fun _ _ _ _ _ _ _ q=>ge_int q
theorem zla:OpR X (compareOp .Is) (fun x y H Q=>y=.non∧Q (.bl (decide (x=.non))) H):=by
  intro pins s σ H x y v u Q I rx ry h
  obtain⟨rfl,q⟩:=h
  cases ry
  refine is_none_gen (zT I q ?_)
  cases x <;> first
    | (cases rx;rfl)
    | (obtain⟨t,rfl⟩:=rx;rfl)
theorem zi0:OpR X (compareOp .IsNot) (fun x y H Q=>y=.non∧Q (.bl (!decide (x=.non))) H):=by
  intro pins s σ H x y v u Q I rx ry h
  obtain⟨rfl,q⟩:=h
  cases ry
  refine isnot_none_gen (zT I q ?_)
  cases x <;> first
    | (cases rx;rfl)
    | (obtain⟨t,rfl⟩:=rx;rfl)
theorem zI(b:Expr){op:CmpOp}(h:op≠.In:=by decide)(h2:op≠.NotIn:=by decide):behindInMarks op b=false:=by
  have e1:(op == CmpOp.In)=false:=by cases op <;> first | rfl | exact absurd rfl h
  have e2:(op == CmpOp.NotIn)=false:=by cases op <;> first | rfl | exact absurd rfl h2
  cases b <;> simp [behindInMarks,e1,e2]
theorem zi4{op:CmpOp}{r:R2}(ho:OpR X (compareOp op) r)(ha:PE X a ta)(hb:PE X b tb)(hm:behindInMarks op b=false):PE X (.Compare a [op] [b] pos) (tOp r ta tb):=by
  intro pins s σ H Q I h
  exact wpAny_Compare1 (zmb ha hb I h fun v u s2 x y H2 I2 rx ry q=>ho pins s2 σ H2 x y v u Q I2 rx ry q) hm
def zlS(t:TE):TT:=fun σ H Q=>t σ H fun x H'=>∃ k,x=.bl k∧Q k H'
theorem zji{op:CmpOp}{r:R2}(ho:OpR X (compareOp op) r)(ha:PE X a ta)(hb:PE X b tb)(hm:behindInMarks op b=false):PT X (.Compare a [op] [b] pos) (zlS (tOp r ta tb)):=by
  intro pins s σ H Q I h
  refine wpAny_isTrue_Compare1 (thn (ha pins s σ H _ I h) fun v s1 ⟨x,H1,I1,r1,q1⟩=>thn (hb pins s1 σ H1 _ I1 q1) fun u s2 ⟨y,H2,I2,r2,q2⟩ =>
    thn (ho pins s2 σ H2 x y v u _ I2 r1 r2 q2) fun c s3 ⟨z,H3,I3,r3,k,e,q3⟩=>?_) hm
  subst e
  cases r3
  exact wpAny_truthy_bool ⟨H3,I3,q3⟩
theorem zaD:(sizeLine:Nat) < 2 ^ 63:=by rw [sizeLine_eq];decide
theorem vals1{x:V}{us:List Value}(r:Vals [x] us):∃ u,us=[u]∧RelV x u:=by
  cases r with
  | cons r1 r2=>cases r2;exact⟨_,rfl,r1⟩
theorem vals2{x y:V}{us:List Value}(r:Vals [x,y] us):∃ u w',us=[u,w']∧RelV x u∧RelV y w':=by
  cases r with
  | cons r1 r2 =>
    cases r2 with
    | cons r3 r4=>cases r4;exact⟨_,_,rfl,r1,r3⟩
theorem y7:va X (.builtin "abs") (fun xs H Q=>∃ i,xs=[.int i]∧Q (.int (if i < 0 then -i else i)) H):=by
  intro pins s σ H xs us Q I r h
  obtain⟨i,rfl,q⟩:=h
  obtain⟨u,rfl,t,rfl⟩:=vals1 r
  exact call_abs_int fun u tk=>⟨.int (if i < 0 then -i else i),H,I.tok _,⟨_,rfl⟩,q⟩
theorem zdE (hc:X.calm=true):va X (.builtin "max") (fun xs H Q=>∃ i j,xs=[.int i,.int j]∧Q (.int (if j > i then j else i)) H):=by
  intro pins s σ H xs us Q I r h
  obtain⟨i,j,rfl,q⟩:=h
  obtain⟨u,w',rfl,⟨t,rfl⟩,⟨t',rfl⟩⟩:=vals2 r
  refine max_two_ints (I.ok.hd hc) fun h' tk k=>⟨_,H,I.kept k,?_,q⟩
  by_cases hj:j > i
  · rw [if_pos hj,if_pos hj];exact⟨_,rfl⟩
  · rw [if_neg hj,if_neg hj];exact⟨_,rfl⟩
theorem zdF (hc:X.calm=true):va X (.builtin "min") (fun xs H Q=>∃ i j,xs=[.int i,.int j]∧Q (.int (if j < i then j else i)) H):=by
  intro pins s σ H xs us Q I r h
  obtain⟨i,j,rfl,q⟩:=h
  obtain⟨u,w',rfl,⟨t,rfl⟩,⟨t',rfl⟩⟩:=vals2 r
  refine min_two_ints (I.ok.hd hc) fun h' tk k=>⟨_,H,I.kept k,?_,q⟩
  by_cases hj:j < i
  · rw [if_pos hj,if_pos hj];exact⟨_,rfl⟩
  · rw [if_neg hj,if_neg hj];exact⟨_,rfl⟩
end
end L2
namespace L2
open PySem PySem.Spec PyProof.Rows
structure zhX(h:Heap)(x dx C:Addr)(mA:Str→Option Value):Prop where
  obj:h.get? x=some (PySem.W.instObj C dx)
  ns:h.Ns1 dx mA
  ne:dx≠x
theorem zem{h:Heap}{dx:Addr}{mA:Str→Option Value}(n:h.Ns1 dx mA):∃ od,h.get? dx=some od∧∀ name,PySem.W.lookIn name od=some (mA name):=by
  obtain⟨o,es,ep,ho,hd,hk,_,hm⟩:=n
  refine⟨o,ho,fun name=>?_⟩
  have e:=hm name
  unfold nsFind findBy at e
  rw [← Array.find?_toList] at e
  unfold PySem.W.lookIn
  rw [hd]
  dsimp only
  split
  · rename_i y q
    rw [q] at e
    exact congrArg some e
  · rename_i q
    rw [q] at e
    have a:es.toList.any (·.refKey)=false:=by
      rw [List.any_eq_false]
      intro y hy
      obtain⟨z,t,hkey⟩:=hk y (Array.mem_toList_iff.mp hy)
      simp [DictEntry.refKey,hkey]
    have a':¬ es.toList.any (·.refKey)=true:=by rw [a];exact Bool.false_ne_true
    rw [if_neg a']
    exact congrArg some e
theorem zhX.look{h:Heap}{x dx C:Addr}{mA:Str→Option Value}(I:zhX h x dx C mA):∃ od,PySem.W.InstAt h x (PySem.W.instObj C dx) C (some od)∧∀ name,PySem.W.lookIn name od=some (mA name) :=
  let ⟨od,ho,hl⟩:=zem I.ns
  ⟨od,⟨I.obj,rfl,rfl,ho⟩,hl⟩
section
variable {prog:Program}{w:World}{A:Around}{E:Value→Shared→Prop}{s:Shared}{K:PySem.W.Frag}{x dx C f:Addr}{mA:Str→Option Value}{name:Str}{v:Value}
theorem get_map{expr:Bool}{Q:Value→Shared→Prop}(X:K.In s.heap)(I:zhX s.heap x dx C mA)(hg:PySem.W.plainGet K C name=true)(hh:PySem.W.hasDictIn K C=true)
    (ha:PySem.W.findIn K (.ref C) name=some none) (hv:mA name=some v) (hv':PySem.W.handedIn v=true) (h:Q v { s with toks:=s.toks+1 }) :
    wpAny (model prog w) A (getAttr (.ref x) name expr) Q E s:=by
  obtain⟨od,J,hl⟩:=I.look
  exact PySem.W.get_value X J (PySem.W.plainGet_of hg).1 (PySem.W.findObj_own hh ha rfl (by rw [hl,hv])) hv' h
theorem zga{pl:Sem Bool}{Q:Value×List Value→Shared→Prop}(X:K.In s.heap)(I:zhX s.heap x dx C mA)(hg:PySem.W.plainGet K C name=true)
    (hf:PySem.W.findIn K (.ref C) name=some (some (.ref f))) (ht:PySem.W.isFn K (.ref f)=true) (hv:mA name=none) (h:Q (.ref f,[.ref x]) s) :
    wpAny (model prog w) A (getMethod (.ref x) name pl) Q E s:=by
  obtain⟨od,J,hl⟩:=I.look
  exact PySem.W.method_fn X J (PySem.W.plainGet_of hg).1 (PySem.W.plainGet_of hg).2 hf (beq_iff_eq.mp ht) (by show (PySem.W.lookIn name od).map (·.isSome)=some false;rw [hl,hv];rfl) h
theorem zjF{ns:List Str}{Q:Unit→Shared→Prop}(X:K.In s.heap)(I:zhX s.heap x dx C mA)
    (hs:PySem.W.findIn K (.ref C) "__setattr__" = some (some (.builtin "object.__setattr__"))) (hp:PySem.W.plainOver K C=true) (ht:PySem.W.takerIn K C name=some none) (hh:PySem.W.hasDictIn K C=true)
    (hw:PySem.Within mA ns) (hsz:ns.length≤sizeLine)
    (h:∀ h',zhX h' x dx C (fun y=>if y=name then some v else mA y)→Heap.SameBut dx s.heap h'→Q () { s with heap:=h',toks:=s.toks+2 }) :
    wpAny (model prog w) A (setAttr (.ref x) name v) Q E s:=by
  obtain⟨od,J,hl⟩:=I.look
  refine PySem.W.set_plain X J hs (PySem.W.osa_open (s:={ s with toks:=s.toks+1 }) (r:=none) X J hp ht fun b=>?_)
  obtain⟨cd,hc,hd'⟩:=PySem.W.any_some hh
  have hx:s.heap.get? x=some ⟨.ref C,some dx,.plain,#[]⟩:=I.obj
  refine wpAny_bind (wpAny_pure (wpAny_bind (wpAny_bind (wpAny_loadPart hx (wpAny_bind (PySem.W.Looks.here (s:={ s with toks:=s.toks+1 }) (PySem.W.looks_clsIn X hc) ?_))))))
  rw [hd']
  refine wpAny_pure (a:=some dx) (wpAny_bind (wpAny_pure (wpAny_bind ?_)))
  refine wpAny_nsSet1 (s:={ s with toks:=s.toks+1 }) I.ns fun h' hn2 hs2=>?_
  obtain⟨oD,esD,epD,hoD,hdD,hcD⟩:=hn2.count (PySem.Within.cons name v hw)
  refine wpAny_bind (wpAny_lookBehind hoD (by rw [hdD];exact pastItsLine_dict (Nat.le_trans hcD (by rw [List.length_cons];omega))) ?_)
  exact wpAny_pure (h _ ⟨(hs2.2 _ (Ne.symm I.ne)).trans I.obj,hn2,I.ne⟩ hs2)
theorem zgo{R:Result→Shared→Prop}{vs:List Value}{kw:List (Str×Value)}(X:K.In s.heap)(hm:PySem.W.makesIn K C=true)
    (hi:PySem.W.findIn K (.ref C) "__init__" = some (some (.ref f))) (hf:PySem.W.typeIn K (.ref f)=some (.type "function"))
    (h:codeAny (model prog w) (A.under (.builtin "type.__call__" ⟨.ref C::vs,kw⟩)) (.call (.ref f) ⟨.ref (s.heap.objs.size+1)::vs,kw⟩) (PySem.W.InitBack (s.heap.objs.size+1) R)
      { s with heap:=(s.heap.push PySem.W.emptyDict).push (PySem.W.instObj C s.heap.objs.size) }) :
    codeAny (model prog w) A (.call (.ref C) ⟨vs,kw⟩) R s:=by
  obtain⟨hh,g,d,t,os⟩:=s
  exact PySem.W.make_core (PySem.W.makes_of X hm) (PySem.W.looks_findIn X hi) (fun self=>PySem.W.bind_fn X self hf) (.inl rfl) h
end
def putF(f:Str)(v:V):List (Str×V)→List (Str×V)
  | []=>[(f,v)]
  | (g,x)::r=>if g=f then (g,v)::r else (g,x)::putF f v r
theorem kN(f g:Str)(v:V):∀ fs:List (Str×V),(putF f v fs).lookup g=if g=f then some v else fs.lookup g
  | []=>by
    show List.lookup g [(f,v)]=_
    by_cases h:g=f
    · have hb:(g == f)=true:=beq_iff_eq.mpr h
      simp only [List.lookup,hb,if_pos h]
    · have hb:(g == f)=false:=beq_eq_false_iff_ne.mpr h
      simp only [List.lookup,hb,if_neg h]
  | (k,x)::r=>by
    have ih:=kN f g v r
    rw [show putF f v ((k,x)::r)=(if k=f then (k,v)::r else (k,x)::putF f v r) from rfl]
    by_cases hk:k=f
    · rw [if_pos hk]
      by_cases h:g=k
      · have hb:(g == k)=true:=beq_iff_eq.mpr h
        simp only [List.lookup,hb,if_pos (h.trans hk)]
      · have hb:(g == k)=false:=beq_eq_false_iff_ne.mpr h
        simp only [List.lookup,hb,if_neg (fun e:g=f=>h (e.trans hk.symm))]
    · rw [if_neg hk]
      by_cases h:g=k
      · have hb:(g == k)=true:=beq_iff_eq.mpr h
        simp only [List.lookup,hb,if_neg (fun e:g=f=>hk (h.symm.trans e))]
      · have hb:(g == k)=false:=beq_eq_false_iff_ne.mpr h
        simp only [List.lookup,hb]
        exact ih
theorem kJ(f:Str)(v:V):∀ fs:List (Str×V),f∈(putF f v fs).map (·.1)∧∀ g,g∈fs.map (·.1)→g∈(putF f v fs).map (·.1)
  | []=>⟨by simp [putF],fun g h=>by simp at h⟩
  | (k,x)::r=>by
    obtain⟨i1,i2⟩:=kJ f v r
    rw [show putF f v ((k,x)::r)=(if k=f then (k,v)::r else (k,x)::putF f v r) from rfl]
    by_cases hk:k=f
    · rw [if_pos hk]
      subst hk
      exact⟨by simp,fun g h=>by simpa using h⟩
    · rw [if_neg hk]
      refine⟨?_,fun g h=>?_⟩
      · rw [List.map_cons]
        exact List.mem_cons_of_mem _ i1
      · rw [List.map_cons] at h ⊢
        rcases List.mem_cons.mp h with e | e
        · exact List.mem_cons.mpr (.inl e)
        · exact List.mem_cons_of_mem _ (i2 g e)
theorem kL(f:Str)(v:V):∀ fs:List (Str×V),(putF f v fs).length≤fs.length+1
  | []=>by simp [putF]
  | (k,x)::r=>by
    have ih:=kL f v r
    rw [show putF f v ((k,x)::r)=(if k=f then (k,v)::r else (k,x)::putF f v r) from rfl]
    by_cases hk:k=f
    · rw [if_pos hk,List.length_cons,List.length_cons];omega
    · rw [if_neg hk,List.length_cons,List.length_cons];omega
theorem zfJ.some_of{v:V}{o:Option Value}(r:zfJ (some v) o):∃ u,o=some u∧RelV v u:=by
  cases o with
  | none=>exact (show False from r).elim
  | some u=>exact⟨u,rfl,r⟩
theorem zfJ.none_of{o:Option Value}(r:zfJ none o):o=none:=by
  cases o with
  | none=>rfl
  | some u=>exact (show False from r).elim
theorem zd9{v:V}{u:Value}(r:RelV v u):PySem.W.handedIn u=true:=by
  cases v with
  | non=>cases (show u=Value.none from r);rfl
  | bl b=>cases (show u=Value.bool b from r);rfl
  | int i=>obtain⟨t,e⟩:=(show ∃ t,u=Value.int i t from r);cases e;rfl
  | str x=>obtain⟨t,e⟩:=(show ∃ t,u=Value.str x t from r);cases e;rfl
  | byt b=>obtain⟨t,e⟩:=(show ∃ t,u=Value.bytes b t from r);cases e;rfl
  | flt b=>obtain⟨t,e⟩:=(show ∃ t,u=Value.float b t from r);cases e;rfl
  | ref a=>cases (show u=Value.ref a from r);rfl
  | ty n=>cases (show u=Value.type n from r);rfl
section
variable {P:Program}{w:World}{H H':Hp}{h h':Heap}{a C dx:Addr}{fs fs':List (Str×V)}
theorem wx(hok:HOk P w H h)(e:H a=some (.ins C dx fs)):∃ mA,zhX h a dx C mA∧(∀ f,zfJ (fs.lookup f) (mA f))∧PySem.Within mA (fs.map (·.1))∧fs.length≤1000∧H dx=some (.own a):=by
  obtain⟨d,z,ne,ob,mA,n,r,q⟩:=(show xA P w H h a (.ins C dx fs) from hok a _ e)
  exact⟨mA,⟨ob,n,ne⟩,r,q,z,d⟩
end
structure Cls(K:PySem.W.Frag)(C:Addr):Prop where
  pg:PySem.W.plainGet K C Str.empty=true
  hd:PySem.W.hasDictIn K C=true
  po:PySem.W.plainOver K C=true
  sa:PySem.W.findIn K (.ref C) "__setattr__" = some (some (.builtin "object.__setattr__"))
theorem Cls.get{K:PySem.W.Frag}{C:Addr}(c:Cls K C)(f:Str):PySem.W.plainGet K C f=true:=c.pg
def NoAttr(K:PySem.W.Frag)(C:Addr)(f:Str):Prop:=PySem.W.findIn K (.ref C) f=some none
theorem NoAttr.taker{K:PySem.W.Frag}{C:Addr}{f:Str}(n:NoAttr K C f):PySem.W.takerIn K C f=some none:=by
  unfold PySem.W.takerIn
  rw [show PySem.W.findIn K (.ref C) f=some none from n]
  rfl
structure Con(K:PySem.W.Frag)(C:Addr)(f:Str)(v:V)(u:Value):Prop where
  at_:PySem.W.findIn K (.ref C) f=some (some u)
  rel:RelV v u
  get:PySem.W.specialIn K u "__get__" = some none
  cp:PySem.W.copiedNames.contains f=false
structure Meth(K:PySem.W.Frag)(C:Addr)(m:Str)(f:Addr):Prop where
  at_:PySem.W.findIn K (.ref C) m=some (some (.ref f))
  fn:PySem.W.isFn K (.ref f)=true
  kp:PySem.W.keepIn K (.ref f)=true
section
variable {X:Cx}{pins:List (Addr×Obj)}{σ:St}{H:Hp}{s:Shared}{a C dx:Addr}{fs:List (Str×V)}{f:Str}{v:V}{A:Around}{E:Value→Shared→Prop}
theorem zcV{b:Bool}{Q:Value→Shared→Prop}(I:Inv X pins σ H s)(e:H a=some (.ins C dx fs))(c:Cls X.K C)(n:NoAttr X.K C f)(l:fs.lookup f=some v)
    (h:∀ u s',Inv X pins σ H s'→RelV v u→Q u s'):wpAny (model X.prog X.w) A (getAttr (.ref a) f b) Q E s:=by
  obtain⟨mA,O,r,_,_,_⟩:=wx I.hok e
  obtain⟨u,hu,ru⟩:=zfJ.some_of (v:=v) (o:=mA f) (by rw [← l];exact r f)
  exact get_map I.kIn O (c.get f) c.hd n hu (zd9 ru) (h u _ (I.tok _) ru)
theorem vC{m:Str}{g:Addr}{pl:Sem Bool}{Q:Value×List Value→Shared→Prop}(I:Inv X pins σ H s)(e:H a=some (.ins C dx fs))(c:Cls X.K C)(k:Meth X.K C m g)(l:fs.lookup m=none)
    (h:Q (.ref g,[.ref a]) s):wpAny (model X.prog X.w) A (getMethod (.ref a) m pl) Q E s:=by
  obtain⟨mA,O,r,_,_,_⟩:=wx I.hok e
  have hn:mA m=none:=zfJ.none_of (by rw [← l];exact r m)
  exact zga I.kIn O (c.get m) k.at_ k.fn hn h
theorem zdh{y:V}{u:Value}{Q:Unit→Shared→Prop}(I:Inv X pins σ H s)(e:H a=some (.ins C dx fs))(c:Cls X.K C)(n:NoAttr X.K C f)(hl:fs.length < 1000)(ry:RelV y u)
    (h:∀ s',Inv X pins σ (upd H a (.ins C dx (putF f y fs))) s'→Q () s'):wpAny (model X.prog X.w) A (setAttr (.ref a) f u) Q E s:=by
  obtain⟨mA,O,r,wi,_,ho⟩:=wx I.hok e
  have hz:(fs.map (·.1)).length≤sizeLine:=by rw [List.length_map,sizeLine_eq];omega
  refine zjF I.kIn O c.sa c.po n.taker c.hd wi hz fun h' O' sb=>h _ ?_
  have hd:∃ o,h'.get? dx=some o:=let ⟨o,_,_,e',_⟩:=O'.ns;⟨o,e'⟩
  refine I.write (x:=a) (e:=dx) (by rw [e];exact True.intro) (.inr ho) (fun b q hb z=>(sb.2 b hb).trans z) hd ?_
  refine⟨by rw [zu O.ne];exact ho,?_,O.ne,O'.obj,_,O'.ns,fun g=>?_,fun g hg=>?_⟩
  · have:=kL f y fs;omega
  · show zfJ ((putF f y fs).lookup g) (if g=f then some u else mA g)
    rw [kN]
    by_cases q:g=f
    · rw [if_pos q,if_pos q];exact ry
    · rw [if_neg q,if_neg q];exact r g
  · by_cases q:g=f
    · rw [q];exact (kJ f y fs).1
    · refine (kJ f y fs).2 g (wi g fun z=>hg ?_)
      show (if g=f then some u else mA g)=none
      rw [if_neg q];exact z
theorem Inv.made(I:Inv X pins σ H s):Inv X pins σ (upd (upd H s.heap.objs.size (.own (s.heap.objs.size+1))) (s.heap.objs.size+1) (.ins C s.heap.objs.size []))
    { s with heap:=(s.heap.push PySem.W.emptyDict).push (PySem.W.instObj C s.heap.objs.size) }:=by
  have e1:(s.heap.push PySem.W.emptyDict).get? s.heap.objs.size=some PySem.W.emptyDict:=Heap.get?_push_size s.heap rfl
  have e2:((s.heap.push PySem.W.emptyDict).push (PySem.W.instObj C s.heap.objs.size)).get? (s.heap.objs.size+1)=some (PySem.W.instObj C s.heap.objs.size):=by
    have:=Heap.get?_push_size (s.heap.push PySem.W.emptyDict) (o:=PySem.W.instObj C s.heap.objs.size) rfl
    rwa [Heap.size_push] at this
  have e3:(s.heap.push PySem.W.emptyDict).Ns s.heap.objs.size (fun _=>none):=⟨PySem.W.emptyDict,#[],_,e1,rfl,(fun e he=>absurd he (by simp)),fun _=>rfl⟩
  have I1:=I.laid (a:=s.heap.objs.size) (o:=.own (s.heap.objs.size+1)) (h':=s.heap.push PySem.W.emptyDict) (t':=s.toks) (fun b u q=>Heap.get?_push_of_some _ q) (Nat.le_refl _) ⟨_,e1⟩
  refine I1.laid (a:=s.heap.objs.size+1) (o:=.ins C s.heap.objs.size []) (t':=s.toks) (fun b u q=>Heap.get?_push_of_some _ q) (Nat.le_of_eq (Heap.size_push _ _)) ?_
  have ne:s.heap.objs.size≠s.heap.objs.size+1:=Nat.ne_of_lt (Nat.lt_succ_self _)
  refine⟨by rw [zu ne,qd],Nat.zero_le _,ne,e2,fun _=>none,(Heap.Ns1.of_empty e3).at fun o q=>Heap.get?_push_of_some _ q,fun _=>True.intro,fun y hy=>absurd rfl hy⟩
theorem zhZ{prog:Program}{w:World}{env:Env}{e:Expr}{f:Str}{pos:Pos}{s:Shared}{Q:Value→Shared→Prop}(hb:attributeBase e f env (eval e env)=eval e env)
    (h:wpAny (model prog w) A (eval e env) (fun o s₁=>wpAny (model prog w) A (getAttr o f true) Q E s₁) E s):wpAny (model prog w) A (eval (.Attribute e f pos) env) Q E s :=
  Attribute_any_ h (by rw [arm_eval_Attribute,hb])
end
def tFld(K:PySem.W.Frag)(ta:TE)(f:Str):TE:=fun σ H Q=>ta σ H fun x H1=>∃ a C dx fs v,x=.ref a∧H1 a=some (.ins C dx fs)∧Cls K C∧NoAttr K C f∧fs.lookup f=some v∧Q v H1
def zmQ(K:PySem.W.Frag)(ta tv:TE)(f:Str):TS:=fun D σ H=>tv σ H fun y H1=>ta σ H1 fun x H2=>∃ a C dx fs,x=.ref a∧H2 a=some (.ins C dx fs)∧Cls K C∧NoAttr K C f∧fs.length < 1000 ∧
  D.nx σ (upd H2 a (.ins C dx (putF f y fs)))
section
variable {X:Cx}{o e value:Expr}{f:Str}{pos pos' tpos:Pos}{ta tv:TE}
theorem zhF(he:PE X e ta)(hb:attributeBase e f X.env (eval e X.env)=eval e X.env):PE X (.Attribute e f pos) (tFld X.K ta f):=by
  intro pins s σ H Q I h
  refine zhZ hb (thn (he pins s σ H _ I h) fun u s1 ⟨x,H1,I1,rx,a,C,dx,fs,v,ex,ea,c,n,l,q⟩=>?_)
  subst ex
  obtain rfl:u=Value.ref a:=rx
  exact zcV I1 ea c n l fun u' s2 I2 ru=>⟨v,H1,I2,ru,q⟩
theorem zhJ(ha:PE X o ta)(hv:PE X value tv)(hs:swapsWith value (some (.Attribute o f pos')) pos.line X.env=pure false):PS X (.Assign [.Attribute o f pos'] value pos) (zmQ X.K ta tv f):=by
  intro pins s σ H D I h
  refine plainObj_wpAny_Assign_Attribute (thn (hv pins s σ H _ I h) fun u s1 ⟨y,H1,I1,ry,q⟩=>thn (ha pins s1 σ H1 _ I1 q) fun ov s2 ⟨x,H2,I2,rx,a,C,dx,fs,ex,ea,c,n,l,q2⟩=>?_) hs
  subst ex
  obtain rfl:ov=Value.ref a:=rx
  exact zdh I2 ea c n l ry fun s3 I3=>⟨σ,_,I3,q2⟩
theorem ziL{pl:Sem Bool}{m:Str}{apos:Pos}{args:List Expr}{pins:List (Addr×Obj)}{s:Shared}{σ:St}{H:Hp}{Q:Value→Shared→Prop}{te:TE}(he:PE X e te)(I:Inv X pins σ H s)
    (h:te σ H fun x H1=>∃ a C dx fs g,x=.ref a∧H1 a=some (.ins C dx fs)∧Cls X.K C∧Meth X.K C m g∧fs.lookup m=none ∧
      ∀ s1,Inv X pins σ H1 s1→wpAny (model X.prog X.w) X.A (callWith pos (.ref g) [.ref a] (backTo pos (starEach args X.env)) (backToKw pos (keywordEach [] X.env))) Q X.xe s1)
    (ht:eval (.Call (.Attribute e m apos) args [] pos) X.env=(do
      let ov ← eval e X.env
      standAt apos.atName
      let (f,first) ← holding [ov] (getMethod ov m pl)
      callWith pos f first (backTo pos (starEach args X.env)) (backToKw pos (keywordEach [] X.env)))) :
    wpAny (model X.prog X.w) X.A (eval (.Call (.Attribute e m apos) args [] pos) X.env) Q X.xe s:=by
  refine PySem.W.methodCall_KW (pl:=pl) (thn (he pins s σ H _ I h) fun u s1 ⟨x,H1,I1,rx,a,C,dx,fs,g,ex,ea,c,k,l,q⟩=>?_) ht
  subst ex
  obtain rfl:u=Value.ref a:=rx
  exact vC I1 ea c k l (q s1 I1)
end
section
variable {X:Cx}{pins:List (Addr×Obj)}{σ:St}{H:Hp}{s:Shared}{A:Around}{E:Value→Shared→Prop}{Q:Value→Shared→Prop}{c:Value}{b:Bool}
inductive zbU (K:PySem.W.Frag) (H:Hp):V→Value→Prop where
  | non:zbU K H .non (.type "NoneType")
  | bl (x:Bool):zbU K H (.bl x) (.type "bool")
  | int (i:Int):zbU K H (.int i) (.type "int")
  | str (x:Str):zbU K H (.str x) (.type "str")
  | flt (x:UInt64):zbU K H (.flt x) (.type "float")
  | lst {a:Addr} {xs:List V} (e:H a=some (.lst xs)):zbU K H (.ref a) (.type "list")
  | frz {a:Addr} {o:Obj} {xs:List V} (e:H a=some (.frz o (.lst xs))):zbU K H (.ref a) (.type "list")
  | tup {a:Addr} {xs:List V} (e:H a=some (.tup xs)):zbU K H (.ref a) (.type "tuple")
  | dK {a:Addr} {kvs:List (Key×V)} (e:H a=some (.dK kvs)):zbU K H (.ref a) (.type "dict")
  | dT {a:Addr} {kvs:List (List Key×V)} (e:H a=some (.dT kvs)):zbU K H (.ref a) (.type "dict")
  | ins {a C dx:Addr} {fs:List (Str×V)} (e:H a=some (.ins C dx fs)) (cl:Cls K C) (ha:PySem.W.findIn K (.ref C) "__class__" = some (some (.builtin "object.__class__")))
      (hn:PySem.W.specialIn K (.builtin "object.__class__") "__get__" = some (some (.builtin "getset_descriptor.__get__"))) (htk:PySem.W.takesIn K (.builtin "object.__class__")=some true)
      (hm:PySem.W.mroIn K C (.type "object")=some true):zbU K H (.ref a) (.ref C)
theorem zef{x:V}{u t:Value}(I:Inv X pins σ H s)(rx:RelV x u)(ty:zbU X.K H x t)(e:PySem.W.kitOne X.K t c=some b)(h:∀ tk,Q (.bool b) { s with toks:=tk }) :
    wpAny (model X.prog X.w) A (call (.builtin "isinstance") [u,c]) Q E s:=by
  cases ty with
  | non=>cases (show u=Value.none from rx);exact PySem.W.kia_one PySem.W.kitx_none I.kIn True.intro e (fun z=>nomatch z) h
  | bl y=>cases (show u=Value.bool y from rx);exact PySem.W.kia_one PySem.W.kitx_bool I.kIn True.intro e (fun z=>nomatch z) h
  | int i=>obtain⟨t,q⟩:=(show ∃ t,u=Value.int i t from rx);cases q;exact PySem.W.kia_one PySem.W.kitx_int I.kIn True.intro e (fun z=>nomatch z) h
  | str y=>obtain⟨t,q⟩:=(show ∃ t,u=Value.str y t from rx);cases q;exact PySem.W.kia_one PySem.W.kitx_str I.kIn True.intro e (fun z=>nomatch z) h
  | flt y=>obtain⟨t,q⟩:=(show ∃ t,u=Value.float y t from rx);cases q;exact PySem.W.kia_one PySem.W.kitx_float I.kIn True.intro e (fun z=>nomatch z) h
  | @lst a xs ea =>
    cases (show u=Value.ref a from rx)
    obtain⟨_,_,n,_,h1⟩:=(show xA X.prog X.w H s.heap a (.lst xs) from I.hok a _ ea)
    exact PySem.W.kia_one PySem.W.kitx_list I.kIn ⟨_,h1,rfl⟩ e (fun z=>nomatch z) h
  | @frz a ob xs ea =>
    cases (show u=Value.ref a from rx)
    obtain⟨_,_,_,n,_,h1⟩:=(show xA X.prog X.w H s.heap a (.frz ob (.lst xs)) from I.hok a _ ea)
    exact PySem.W.kia_one PySem.W.kitx_list I.kIn ⟨_,h1,rfl⟩ e (fun z=>nomatch z) h
  | @tup a xs ea =>
    cases (show u=Value.ref a from rx)
    obtain⟨_,_,_,p⟩:=(show xA X.prog X.w H s.heap a (.tup xs) from I.hok a _ ea)
    obtain⟨o,h1,h2,_⟩:=p
    exact PySem.W.kia_one PySem.W.kitx_tuple I.kIn ⟨o,h1,h2⟩ e (fun z=>nomatch z) h
  | @dK a kvs ea =>
    cases (show u=Value.ref a from rx)
    obtain⟨_,_,vs,_,p⟩:=(show xA X.prog X.w H s.heap a (.dK kvs) from I.hok a _ ea)
    obtain⟨o,es,ep,h1,h2,_⟩:=p
    exact PySem.W.kia_one PySem.W.kitx_dict I.kIn ⟨o,h1,h2.1⟩ e (fun z=>nomatch z) h
  | @dT a kvs ea =>
    cases (show u=Value.ref a from rx)
    obtain⟨_,_,xs,_,o,es,ep,h1,h2,_⟩:=(show xA X.prog X.w H s.heap a (.dT kvs) from I.hok a _ ea)
    exact PySem.W.kia_one PySem.W.kitx_dict I.kIn ⟨o,h1,h2.1⟩ e (fun z=>nomatch z) h
  | @ins a C dx fs ea cl ha hn htk hm =>
    cases (show u=Value.ref a from rx)
    obtain⟨mA,O,_⟩:=wx I.hok ea
    obtain⟨od,J,_⟩:=O.look
    exact PySem.W.kia_one (PySem.W.kitx_own (cl.get _) cl.hd ha hn htk hm) I.kIn J e (fun z=>nomatch z) h
end
end L2
namespace L2
open PySem PySem.Spec PyProof.Rows
structure ji(k:Nat)(A:Around):Prop where
  hd:A.handled=none
  dp:A.depth+3*k+5 < recursionLimit
  un:A.units+16*k+200 < cLine
theorem ji.mono{j k:Nat}{A:Around}(r:ji k A)(h:j≤k):ji j A:=⟨r.hd,by have:=r.dp;omega,by have:=r.un;omega⟩
theorem ji.deeper{k:Nat}{A:Around}(r:ji (k+1) A)(env:Env):ji k (A.deeper env) :=
  ⟨r.hd,by have:=r.dp;show A.depth+1+3*k+5 < _;omega,by have:=r.un;show A.units+3+16*k+200 < _;omega⟩
theorem zc2 {A:Around} {C:Addr} {us:List Value} {kw:List (Str×Value)}:(A.under (.builtin "type.__call__" ⟨.ref C::us,kw⟩)).depth=A.depth+1:=by
  first | rfl | simp [Around.under,Code.weight,Code.isCreation,Code.isGuard,Code.isCaller,Code.frames,Code.isFrame,guardIds]
theorem zc3 {A:Around} {C:Addr} {us:List Value} {kw:List (Str×Value)}:(A.under (.builtin "type.__call__" ⟨.ref C::us,kw⟩)).units=A.units+1:=by
  first | rfl | simp [Around.under,Code.cUnits,Code.frames,Code.isFrame]
theorem ji.make {k:Nat} {A:Around} (r:ji (k+1) A) (C:Addr) (us:List Value) (kw:List (Str×Value)):ji k (A.under (.builtin "type.__call__" ⟨.ref C::us,kw⟩)) :=
  ⟨r.hd,by have:=r.dp;rw [zc2];omega,by have:=r.un;rw [zc3];omega⟩
theorem ji.depth{k:Nat}{A:Around}(r:ji k A):A.depth < recursionLimit:=by have:=r.dp;omega
theorem ji.units{k:Nat}{A:Around}(r:ji k A):A.units+64 < cLine:=by have:=r.un;omega
def zlQ:TA:=fun _ H Q=>Q [] H
def zmU(ta:TE)(tr:TA):TA:=fun σ H Q=>ta σ H fun x H1=>tr σ H1 fun xs H2=>Q (x::xs) H2
section
variable {X:Cx}{e:Expr}{es:List Expr}{te:TE}{t:TA}{pos:Pos}
theorem zhE:PA X [] zlQ:=fun _ _ _ _ H Q I h=>Calls.spliced_nil ⟨[],H,I,.nil,h⟩
theorem zbx(ha:PE X e te)(hr:PA X es t)(hs:starEach (e::es) X.env=(false,eval e X.env)::starEach es X.env:=by rfl):PA X (e::es) (zmU te t):=by
  intro pos pins s σ H Q I h
  rw [hs]
  show wpAny _ _ (spliced ((false,eval e X.env)::backTo pos (starEach es X.env))) _ _ s
  refine Calls.spliced_cons (thn (ha pins s σ H _ I h) fun u s1 ⟨x,H1,I1,r1,q1⟩=>?_)
  exact thn (hr pos pins s1 σ H1 _ I1 q1) fun us s2 ⟨xs,H2,I2,r2,q2⟩=>⟨x::xs,H2,I2,.cons r1 r2,q2⟩
def zn9(t:TA):TE:=fun σ H Q=>t σ H fun xs H1=>xs.length≤sizeLine∧∀ p,H1 p=none→Q (.ref p) (upd H1 p (.tup xs))
def zn5(t:TA):TE:=fun σ H Q=>t σ H fun xs H1=>xs.length≤sizeLine∧∀ p,H1 p=none→Q (.ref p) (upd H1 p (.lst xs))
theorem zhG{x1}(h:PA X es t):PE X (.Tuple es x1 pos) (zn9 t):=by
  intro pins s σ H Q I hq
  refine wpAny_Tuple_spliced (thn (h pos pins s σ H _ I hq) fun us s1 ⟨xs,H1,I1,r,z,q⟩=>⟨by rw [← r.length];exact z,?_⟩)
  have hf:H1 s1.heap.objs.size=none:=I1.hok.fresh (Nat.le_refl _)
  refine⟨.ref s1.heap.objs.size,upd H1 s1.heap.objs.size (.tup xs),I1.laid (t':=s1.toks) (fun b u e=>Heap.get?_push_of_some _ e) (Nat.le_refl _) ?_,rfl,q _ hf⟩
  exact⟨z,us,r,⟨_,Heap.get?_push_size _ rfl,rfl,_,rfl⟩⟩
theorem zlh(h:PA X es t):PE X (.List es pos) (zn5 t):=by
  intro pins s σ H Q I hq
  refine wpAny_List_spliced (thn (h pos pins s σ H _ I hq) fun us s1 ⟨xs,H1,I1,r,z,q⟩=>⟨by rw [← r.length];exact z,?_⟩)
  have hf:H1 s1.heap.objs.size=none:=I1.hok.fresh (Nat.le_refl _)
  refine⟨.ref s1.heap.objs.size,upd H1 s1.heap.objs.size (.lst xs),I1.laid (t':=s1.toks) (fun b u e=>Heap.get?_push_of_some _ e) (Nat.le_refl _) ?_,rfl,q _ hf⟩
  exact⟨z,us,0,r,Heap.get?_push_size _ rfl⟩
end
abbrev Sp:=List V→Hp→VK→XK→Prop
abbrev CXT:=List Env→Hp→Shared→XK→Value→Shared→Prop
structure zhW(P:Program)(w:World)(K:PySem.W.Frag)(mg:Str→Option Value)(base:Heap)(A:Around)(outer:List Env)(s:Shared)(H:Hp):Prop where
  frames:A.frames=some outer
  mod:Mod K mg base
  bs:∀ b o,base.get? b=some o→s.heap.get? b=some o∧H b=none
  bsz:base.objs.size≤s.heap.objs.size
  funs:s.heap.FunFrames base outer
  frf:∀ b∈frs outer,H b=none
  hok:HOk P w H s.heap
  bare:AllBare s.gens
def CE(outer:List Env)(P:Program)(w:World)(H:Hp)(s:Shared)(Q:VK)(u:Value)(s':Shared):Prop :=
  ∃ v H',s'.os=s.os∧AllBare s'.gens∧Un (frs outer) [] H H' s.heap s'.heap∧HOk P w H' s'.heap∧RelV v u∧Q v H'
def CR(CX:CXT)(outer:List Env)(P:Program)(w:World)(H:Hp)(s:Shared)(Q:VK)(E:XK)(r:Result)(s':Shared):Prop :=
  match r with
  | .ok (.ret u)=>CE outer P w H s Q u s'
  | .ok _=>False
  | .error e=>CX outer H s E e s'
structure qr(P:Program)(w:World)(K:PySem.W.Frag)(mg:Str→Option Value)(base:Heap)(CX:CXT)(k:Nat)(f:Addr)(fd:FuncData)(ps:List Str)(sp:Sp):Prop where
  len:∀ vs H Q E,sp vs H Q E→vs.length=ps.length
  run:∀ (A:Around) (outer:List Env) (s:Shared) (H:Hp) (args:Args) (us:List Value) (vs:List V) (Q:VK) (E:XK),ji k A→zhW P w K mg base A outer s H→BindsTo s fd args (ps.zip us)→Vals vs us→sp vs H Q E →
    codeAny (model P w) A (.call (.ref f) args) (CR CX outer P w H s Q E) s
theorem qr.mono{P:Program}{w:World}{K:PySem.W.Frag}{mg:Str→Option Value}{base:Heap}{CX:CXT}{j k:Nat}{f:Addr}{fd:FuncData}{ps:List Str}{sp:Sp}(F:qr P w K mg base CX j f fd ps sp)(h:j≤k) :
    qr P w K mg base CX k f fd ps sp:=⟨F.len,fun A outer s H args us vs Q E hr=>F.run A outer s H args us vs Q E (hr.mono h)⟩
theorem qr.imp{P:Program}{w:World}{K:PySem.W.Frag}{mg:Str→Option Value}{base:Heap}{CX:CXT}{k:Nat}{f:Addr}{fd:FuncData}{ps:List Str}{sp sp':Sp}(F:qr P w K mg base CX k f fd ps sp)
    (h:∀ vs H Q E,sp' vs H Q E→sp vs H Q E):qr P w K mg base CX k f fd ps sp' :=
  ⟨fun vs H Q E q=>F.len vs H Q E (h _ _ _ _ q),fun A outer s H args us vs Q E hr he hb hv hs=>F.run A outer s H args us vs Q E hr he hb hv (h _ _ _ _ hs)⟩
theorem zhW.make{P:Program}{w:World}{K:PySem.W.Frag}{mg:Str→Option Value}{base:Heap}{A:Around}{outer:List Env}{s:Shared}{H:Hp}(e:zhW P w K mg base A outer s H)(C:Addr)(us:List Value)(kw:List (Str×Value)) :
    zhW P w K mg base (A.under (.builtin "type.__call__" ⟨.ref C::us,kw⟩)) outer s H:=⟨by first | exact e.frames | (simpa [Around.under,Code.envs,Code.isFrame,pushEnvs] using e.frames),e.mod,e.bs,e.bsz,e.funs,e.frf,e.hok,e.bare⟩
section
variable {X:Cx}{pins:List (Addr×Obj)}{σ:St}{H:Hp}{s s':Shared}
theorem Inv.env0(I:Inv X pins σ H s):zhW X.prog X.w X.K X.mg X.base X.A X.stack s H :=
  ⟨I.ok.frames,I.ok.mod,I.bs,Nat.le_trans I.ok.bsz I.sz,I.stack,I.stkFree,I.hok,I.bare⟩
theorem Inv.after{Q:VK}{u:Value}(I:Inv X pins σ H s)(h:CE X.stack X.prog X.w H s Q u s'):EP X pins σ Q u s':=by
  obtain⟨v,H',os,bare,un,hok,r,q⟩:=h
  obtain⟨hh,g,d,t,os'⟩:=s'
  obtain rfl:os'=s.os:=os
  exact⟨v,H',I.call (h':=hh) (g':=g) (d':=d) (t':=t) (ch:=[]) un hok bare (fun b z=>absurd z (by simp)),r,q⟩
end
def tCall(sp:Sp)(dvs:List V)(E:XK)(t:TA):TE:=fun σ H Q=>t σ H fun vs H1=>sp (vs++dvs) H1 Q E
def zdm(C:Addr)(m:Str)(sp:Sp)(dvs:List V)(E:XK)(ta:TE)(t:TA):TE:=fun σ H Q=>ta σ H fun x H1=>∃ a dx fs,x=.ref a∧H1 a=some (.ins C dx fs)∧fs.lookup m=none ∧
  t σ H1 fun vs H2=>sp (x::(vs++dvs)) H2 Q E
def zlO(C:Addr)(sp:Sp)(dvs:List V)(E:XK)(t:TA):TE:=fun σ H Q=>t σ H fun vs H1=>∀ x dx,H1 x=none→H1 dx=none→dx≠x →
  sp (.ref x::(vs++dvs)) (upd (upd H1 dx (.own x)) x (.ins C dx [])) (fun v H2=>v=.non∧Q (.ref x) H2) E
def Binds(K:PySem.W.Frag)(fd:FuncData)(ps:List Str)(ds:List Value):Prop :=
  ∀ (s:Shared) (us:List Value),K.In s.heap→(us++ds).length=ps.length→BindsTo s fd ⟨us,[]⟩ (ps.zip (us++ds))
theorem Binds.all{K:PySem.W.Frag}{fd:FuncData}{ps:List Str}(h:∀ us:List Value,us.length=ps.length→bindArgs fd ⟨us,[]⟩=pure (ps.zip us)):Binds K fd ps []:=fun s us _ hl=>by
  rw [List.append_nil] at hl ⊢
  exact .of_eq (h us hl)
def Passes(CX:CXT)(X:Cx)(E:XK):Prop:=∀ (pins:List (Addr×Obj)) (σ:St) (H:Hp) (s:Shared) (e:Value) (s':Shared),Inv X pins σ H s→CX X.stack H s E e s'→X.xe e s'
section
variable {X:Cx}{CX:CXT}{k:Nat}{f C:Addr}{fd:FuncData}{ps:List Str}{sp:Sp}{dvs:List V}{ds:List Value}{E:XK}{x m:Str}{p pos apos:Pos}{e o:Expr}{es:List Expr}{ta:TE}{t:TA}
theorem zfb{pins:List (Addr×Obj)}{σ:St}{H:Hp}{s:Shared}{Q:VK}{us:List Value}{vs:List V}(F:qr X.prog X.w X.K X.mg X.base CX k f fd ps sp)(hr:ji k X.A)(hb:Binds X.K fd ps ds)(hd:Vals dvs ds)(hx:Passes CX X E)
    (I:Inv X pins σ H s) (r:Vals vs us) (h:sp (vs++dvs) H Q E):wpAny (model X.prog X.w) X.A (call (.ref f) us) (EP X pins σ Q) X.xe s:=by
  have r2:Vals (vs++dvs) (us++ds):=r.append hd
  have hl:(us++ds).length=ps.length:=by rw [← r2.length];exact F.len _ _ _ _ h
  refine wpAny_call (codeAny_mono (F.run X.A X.stack s H ⟨us,[]⟩ (us++ds) (vs++dvs) Q E hr I.env0 (hb s us I.kIn hl) r2 h) fun r s' hq=>?_)
  cases r with
  | error e=>exact hx pins σ H s e s' I hq
  | ok fl =>
    cases fl with
    | ret u=>exact I.after hq
    | next=>exact False.elim hq
    | brk=>exact False.elim hq
    | cont=>exact False.elim hq
theorem zi3(F:qr X.prog X.w X.K X.mg X.base CX k f fd ps sp)(hr:ji k X.A)(hg:Gl X x)(hm:X.mg x=some (.ref f))(hk:PySem.W.keepIn X.K (.ref f)=true)(hb:Binds X.K fd ps ds)(hd:Vals dvs ds)(hx:Passes CX X E)
    (ha:PA X (e::es) t) (hdb:(x == ("__debug__" : Str))=false:=by decide) (he:starEach (e::es) X.env=(false,eval e X.env)::starEach es X.env:=by rfl) (hpl:(backTo pos (starEach es X.env)).any (·.1)=false:=by rfl) :
    PE X (.Call (.Name x p) (e::es) [] pos) (tCall sp dvs E t):=by
  intro pins s σ H Q I h
  refine wpAny_Call_Name_kw (zbo I hg hm ?_ hdb)
  refine PySem.W.callWith_K (h₀:=X.base) I.ok.mod.kin hk (thn (ha pos pins s σ H _ I h) fun us s1 ⟨vs,H1,I1,r,q⟩=>⟨I1.kIn,?_⟩) he hpl
  exact zfb F hr hb hd hx I1 r q
theorem zja{pl:Sem Bool}(he:PE X o ta)(c:Cls X.K C)(hm:Meth X.K C m f)(F:qr X.prog X.w X.K X.mg X.base CX k f fd ps sp)(hr:ji k X.A)(hb:Binds X.K fd ps ds)(hd:Vals dvs ds)(hx:Passes CX X E)(ha:PA X (e::es) t)
    (hst:starEach (e::es) X.env=(false,eval e X.env)::starEach es X.env:=by rfl) (hpl:(backTo pos (starEach es X.env)).any (·.1)=false:=by rfl)
    (ht:eval (.Call (.Attribute o m apos) (e::es) [] pos) X.env=(do
      let ov ← eval o X.env
      standAt apos.atName
      let (f,first) ← holding [ov] (getMethod ov m pl)
      callWith pos f first (backTo pos (starEach (e::es) X.env)) (backToKw pos (keywordEach [] X.env))):=by rfl) :
    PE X (.Call (.Attribute o m apos) (e::es) [] pos) (zdm C m sp dvs E ta t):=by
  intro pins s σ H Q I h
  refine PySem.W.methodCall_KW (pl:=pl) (thn (he pins s σ H _ I h) fun u s1 ⟨x,H1,I1,rx,a,dx,fs,ex,ea,l,q⟩=>?_) ht
  subst ex
  obtain rfl:u=Value.ref a:=rx
  refine vC I1 ea c hm l ?_
  refine PySem.W.callWith_K (first:=[.ref a]) (h₀:=X.base) I.ok.mod.kin hm.kp (thn (ha pos pins s1 σ H1 _ I1 q) fun us s2 ⟨vs,H2,I2,r,q2⟩=>⟨I2.kIn,?_⟩) hst hpl
  exact zfb (us:=.ref a::us) (vs:=.ref a::vs) F hr hb hd hx I2 (.cons rfl r) q2
theorem zcs{pl:Sem Bool}(he:PE X o ta)(c:Cls X.K C)(hm:Meth X.K C m f)(F:qr X.prog X.w X.K X.mg X.base CX k f fd ps sp)(hr:ji k X.A)(hb:Binds X.K fd ps ds)(hd:Vals dvs ds)(hx:Passes CX X E)
    (ht:eval (.Call (.Attribute o m apos) [] [] pos) X.env=(do
      let ov ← eval o X.env
      standAt apos.atName
      let (f,first) ← holding [ov] (getMethod ov m pl)
      callWith pos f first (backTo pos (starEach [] X.env)) (backToKw pos (keywordEach [] X.env))):=by rfl) :
    PE X (.Call (.Attribute o m apos) [] [] pos) (zdm C m sp dvs E ta zlQ):=by
  intro pins s σ H Q I h
  refine PySem.W.methodCall_KW (pl:=pl) (thn (he pins s σ H _ I h) fun u s1 ⟨x,H1,I1,rx,a,dx,fs,ex,ea,l,q⟩=>?_) ht
  subst ex
  obtain rfl:u=Value.ref a:=rx
  refine vC I1 ea c hm l ?_
  exact PySem.W.callWith_K0 (first:=[.ref a]) I1.kIn hm.kp (zfb (us:=[.ref a]) (vs:=[.ref a]) F hr hb hd hx I1 (.cons rfl .nil) q)
structure Mk(K:PySem.W.Frag)(C f:Addr):Prop where
  makes:PySem.W.makesIn K C=true
  init:PySem.W.findIn K (.ref C) "__init__" = some (some (.ref f))
  fn:PySem.W.isFn K (.ref f)=true
  kp:PySem.W.keepIn K (.ref C)=true
theorem zgS{pins:List (Addr×Obj)}{σ:St}{H:Hp}{s:Shared}{Q:VK}{us:List Value}{vs:List V}(M:Mk X.K C f)(F:qr X.prog X.w X.K X.mg X.base CX k f fd ps sp)(hr:ji (k+1) X.A)(hb:Binds X.K fd ps ds)(hd:Vals dvs ds)
    (hx:Passes CX X E) (I:Inv X pins σ H s) (r:Vals vs us)
    (h:∀ x dx,H x=none→H dx=none→dx≠x→sp (.ref x::(vs++dvs)) (upd (upd H dx (.own x)) x (.ins C dx [])) (fun v H2=>v=.non∧Q (.ref x) H2) E) :
    wpAny (model X.prog X.w) X.A (call (.ref C) us) (EP X pins σ Q) X.xe s:=by
  have hq:=h (s.heap.objs.size+1) s.heap.objs.size (I.hok.fresh (Nat.le_succ _)) (I.hok.fresh (Nat.le_refl _)) (Nat.ne_of_lt (Nat.lt_succ_self _))
  have I2:=Inv.made (C:=C) I
  have r2:Vals (V.ref (s.heap.objs.size+1)::(vs++dvs)) (Value.ref (s.heap.objs.size+1)::(us++ds)):=.cons rfl (r.append hd)
  have hl:(Value.ref (s.heap.objs.size+1)::us++ds).length=ps.length:=by
    have e:=r2.length
    rw [F.len _ _ _ _ hq] at e
    exact e.symm
  refine wpAny_call (zgo (f:=f) I.kIn M.makes M.init (beq_iff_eq.mp M.fn) (codeAny_mono (F.run _ X.stack _ _ ⟨Value.ref (s.heap.objs.size+1)::us,[]⟩ (Value.ref (s.heap.objs.size+1)::(us++ds)) _ _ E (hr.make C us [])
    (I2.env0.make C us []) (hb _ (Value.ref (s.heap.objs.size+1)::us) I2.kIn hl) r2 hq) fun r s' hq'=>?_))
  cases r with
  | error e=>exact hx pins σ _ _ e s' I2 hq'
  | ok fl =>
    cases fl with
    | ret u =>
      obtain⟨v,H',I3,rv,ev,q3⟩:=I2.after hq'
      subst ev
      exact⟨rv,⟨V.ref (s.heap.objs.size+1),H',I3,rfl,q3⟩⟩
    | next=>exact False.elim hq'
    | brk=>exact False.elim hq'
    | cont=>exact False.elim hq'
theorem zi9(M:Mk X.K C f)(F:qr X.prog X.w X.K X.mg X.base CX k f fd ps sp)(hr:ji (k+1) X.A)(hg:Gl X x)(hm:X.mg x=some (.ref C))(hb:Binds X.K fd ps ds)(hd:Vals dvs ds)(hx:Passes CX X E)
    (ha:PA X (e::es) t) (hdb:(x == ("__debug__" : Str))=false:=by decide) (he:starEach (e::es) X.env=(false,eval e X.env)::starEach es X.env:=by rfl) (hpl:(backTo pos (starEach es X.env)).any (·.1)=false:=by rfl) :
    PE X (.Call (.Name x p) (e::es) [] pos) (zlO C sp dvs E t):=by
  intro pins s σ H Q I h
  refine wpAny_Call_Name_kw (zbo I hg hm ?_ hdb)
  refine PySem.W.callWith_K (h₀:=X.base) I.ok.mod.kin M.kp (thn (ha pos pins s σ H _ I h) fun us s1 ⟨vs,H1,I1,r,q⟩=>⟨I1.kIn,?_⟩) he hpl
  exact zgS M F hr hb hd hx I1 r q
end
section
variable {X:Cx}{CX:CXT}{k:Nat}{f C:Addr}{fd:FuncData}{ps ks:List Str}{sp:Sp}{E:XK}{x m:Str}{p pos apos kpos:Pos}{e o:Expr}{es:List Expr}{kws:List Keyword}{te ta:TE}{t tk:TA}{nm:Option Str}
structure zm2(K:PySem.W.Frag)(fd:FuncData)(ps ks:List Str)(g:List Value→List Value→List Value)(gV:List V→List V→List V):Prop where
  to:∀ (s:Shared) (us ws:List Value),K.In s.heap→(g us ws).length=ps.length→BindsTo s fd ⟨us,ks.zip ws⟩ (ps.zip (g us ws))
  rel:∀ {vs:List V} {us:List Value} {zs:List V} {ws:List Value},Vals vs us→Vals zs ws→Vals (gV vs zs) (g us ws)
variable {g:List Value→List Value→List Value}{gV:List V→List V→List V}
end
structure FnScope(N P:List Str)(sc:Scope):Prop where
  kind:sc.kind=.function
  co:sc.isCoroutine=false
  gen:sc.isGenerator=false
  nd:N.Nodup
  pre:N.take P.length=P
  par:∀ x∈P,sc.names.lookup x=some .local∨sc.names.lookup x=some .cell
  nofree:∀ y∈sc.names,y.2≠.free
theorem zai{kindOf:Str→Option NameKind}{x:Str}:∀ {binds:List (Str×Value)} {m:Str→Option Value},(∀ v,(x,v)∉binds)→bindL kindOf binds m x=m x
  | [],_,_=>rfl
  | (n,v)::r,m,h=>by
    unfold bindL
    rw [zai fun w hw=>h w (List.mem_cons_of_mem _ hw)]
    split
    · have:x≠n:=by rintro rfl;exact h v List.mem_cons_self
      simp [this]
    · rfl
theorem zag{kindOf:Str→Option NameKind}{x:Str}:∀ {binds:List (Str×Value)} {m:Str→Option Value},(∀ v,(x,v)∉binds)→bindC kindOf binds m x=m x
  | [],_,_=>rfl
  | (n,v)::r,m,h=>by
    unfold bindC
    rw [zag fun w hw=>h w (List.mem_cons_of_mem _ hw)]
    split
    · rfl
    · have:x≠n:=by rintro rfl;exact h v List.mem_cons_self
      simp [this]
theorem zah{kindOf:Str→Option NameKind}{x:Str}{v:Value}:∀ {P:List Str} {vs:List Value} {i:Nat} {m:Str→Option Value},P.Nodup→P[i]?=some x→vs[i]?=some v→kindOf x=some .local →
    bindL kindOf (P.zip vs) m x=some v
  | [],_,_,_,_,h,_,_=>by simp at h
  | _::_,[],_,_,_,_,h,_=>by simp at h
  | p::P,w::vs,0,m,nd,h1,h2,hk=>by
    simp at h1 h2;subst h1;subst h2
    show bindL kindOf ((p,w)::P.zip vs) m p=_
    unfold bindL
    rw [zai fun v hv=>(List.nodup_cons.mp nd).1 (List.of_mem_zip hv).1,if_pos hk]
    simp
  | p::P,w::vs,i+1,m,nd,h1,h2,hk=>by
    show bindL kindOf ((p,w)::P.zip vs) m x=_
    unfold bindL
    exact zah (i:=i) (List.nodup_cons.mp nd).2 (by simpa using h1) (by simpa using h2) hk
theorem zaf{kindOf:Str→Option NameKind}{x:Str}{v:Value}:∀ {P:List Str} {vs:List Value} {i:Nat} {m:Str→Option Value},P.Nodup→P[i]?=some x→vs[i]?=some v→kindOf x≠some .local →
    bindC kindOf (P.zip vs) m x=some v
  | [],_,_,_,_,h,_,_=>by simp at h
  | _::_,[],_,_,_,_,h,_=>by simp at h
  | p::P,w::vs,0,m,nd,h1,h2,hk=>by
    simp at h1 h2;subst h1;subst h2
    show bindC kindOf ((p,w)::P.zip vs) m p=_
    unfold bindC
    rw [zag fun v hv=>(List.nodup_cons.mp nd).1 (List.of_mem_zip hv).1,if_neg hk]
    simp
  | p::P,w::vs,i+1,m,nd,h1,h2,hk=>by
    show bindC kindOf ((p,w)::P.zip vs) m x=_
    unfold bindC
    exact zaf (i:=i) (List.nodup_cons.mp nd).2 (by simpa using h1) (by simpa using h2) hk
def start(N:List Str)(vs:List V):St:=vs.map some++List.replicate (N.length - vs.length) none
def zdI(CX:CXT)(P:Program)(w:World)(K:PySem.W.Frag)(mg:Str→Option Value)(base:Heap)(N:List Str)(qual:Str)(scope:Scope)(f:Addr)(cd:Value)(A:Around)(outer:List Env)(s:Shared)(H:Hp)(E:XK):Cx where
  prog:=P
  w:=w
  K:=K
  mg:=mg
  base:=base
  A:=A.deeper (envOfC qual scope s.heap.objs.size f cd)
  N:=N
  s₀:=s
  H₀:=H
  env:=envOfC qual scope s.heap.objs.size f cd
  outer:=outer
  stack:=envOfC qual scope s.heap.objs.size f cd::outer
  ex:=[]
  calm:=true
  fn:=fun _=>true
  pn:=[]
  xe:=fun e s'=>wpAny (model P w) (A.deeper (envOfC qual scope s.heap.objs.size f cd)) (leaving (envOfC qual scope s.heap.objs.size f cd) e) (fun _ s''=>CX outer H s E e s'') (fun e' s''=>CX outer H s E e' s'') s'
theorem zbW{sc:Scope}{n:Nat}{x:Str}(h:sc.names.lookup x=some .cell):∃ c,(cellsFrom n sc.names []).lookup x=some c:=by
  have q:=PySem.W.cellsFrom_some sc.names n [] (.inl h)
  exact Option.isSome_iff_exists.mp q
theorem zee{CX:CXT}{P:Program}{w:World}{K:PySem.W.Frag}{mg:Str→Option Value}{base:Heap}{N ps:List Str}{qual:Str}{scope:Scope}{f:Addr}{cd:Value}{A:Around}{outer:List Env}{s s1:Shared}{H:Hp}{E:XK}{us:List Value}{vs:List V}
    (S:FnScope N ps scope) (hd:A.handled=none) (e0:zhW P w K mg base A outer s H) (hl:vs.length=ps.length) (r:Vals vs us)
    (x:InCallC s s.heap.objs.size (bindL (envOfC qual scope s.heap.objs.size f cd).kindOf (ps.zip us) fun _=>none) (cellsFrom (s.heap.objs.size+1) scope.names []) (bindC (envOfC qual scope s.heap.objs.size f cd).kindOf (ps.zip us) fun _=>none) s1) :
    Inv (zdI CX P w K mg base N qual scope f cd A outer s H E) [] (start N vs) H s1:=by
  have hpl:ps.length≤N.length:=by have:=congrArg List.length S.pre;rw [List.length_take] at this;omega
  obtain⟨h1,tk,rfl,hk⟩:=x.done
  have noA:∀ b:Addr,b∉(zdI CX P w K mg base N qual scope f cd A outer s H E).ex:=fun b z=>absurd (show b∈([]:List Addr) from z) (by simp)
  refine⟨⟨e0.mod,S.kind,rfl,rfl,Nat.le_refl _,fun y z c h1 h2=>?_,fun y hy=>?_,fun y c _ h=>?_,fun _=>hd,Around.frames_deeper e0.frames,.inr ⟨rfl,rfl⟩,fun b z=>absurd z (noA b),e0.bs,e0.bsz,fun b _ _=>noA b,fun b z=>absurd z (noA b),e0.funs,e0.frf⟩,
    rfl,e0.bare,Un.kept hk,⟨_,x.toInCall.ns,fun i y v h1 h2 h3=>?_⟩,fun y c h=>⟨_,x.cell y c h⟩,e0.hok.fresh (Nat.le_refl _),fun y c h=>?_,fun p hp=>absurd (show p∈([]:List (Addr×Obj)) from hp) (by simp),e0.hok.kept hk,?_⟩
  · exact name_of_addr x.apart (PySem.mem_of_lookup h1) (PySem.mem_of_lookup h2)
  · have hy:scope.names.lookup y=some .cell∨scope.names.lookup y=some .free:=hy
    rcases hy with hy | hy
    · exact zbW hy
    · exact absurd rfl (S.nofree _ (PySem.mem_of_lookup hy))
  · exact Nat.le_of_lt (x.above y c (PySem.mem_of_lookup h))
  · have hi:i < vs.length:=by
      unfold start at h2
      by_cases hi:i < vs.length
      · exact hi
      · rw [List.getElem?_append_right (by simpa using hi)] at h2
        rw [List.getElem?_replicate] at h2
        split at h2 <;> cases h2
    have ha:vs[i]?=some v:=by
      unfold start at h2
      rw [List.getElem?_append_left (by simpa using hi),List.getElem?_map] at h2
      cases e:vs[i]? with
      | none=>rw [e] at h2;cases h2
      | some a=>rw [e] at h2;cases h2;rfl
    obtain⟨u,hu,rv⟩:=r.get ha
    have hp:ps[i]?=some y:=by
      rw [← S.pre,List.getElem?_take_of_lt (by omega)];exact h1
    have ndP:ps.Nodup:=by rw [← S.pre];exact S.nd.sublist (List.take_sublist _ _)
    refine⟨u,rv,?_⟩
    rcases S.par y (List.mem_of_getElem? hp) with k | k
    · exact .inl ⟨k,zah ndP hp hu k⟩
    · obtain⟨c,e⟩:=zbW (n:=s.heap.objs.size+1) k
      refine .inr ⟨.inl k,c,e,?_⟩
      have q:=x.cell y c e
      rw [zaf ndP hp hu (by show scope.names.lookup y≠_;rw [k];decide)] at q
      exact q
  · exact e0.hok.fresh (Nat.le_of_lt (x.above y c (PySem.mem_of_lookup h)))
  · unfold start
    show _=N.length
    rw [List.length_append,List.length_map,List.length_replicate]
    omega
theorem zmi{CX:CXT}{P:Program}{w:World}{K:PySem.W.Frag}{mg:Str→Option Value}{base:Heap}{k:Nat}{f:Addr}{name qual:Str}{params:Arguments}{body:List Stmt}{scope:Scope}{dV kV doc pm cdv ct oc:Value}{an od:Option Addr}
    {osl:Array (Option Value)} {N ps:List Str} {sp:Sp} (lk:K.lookup f=some ⟨oc,od,.func (PySem.W.fnOf name qual params body scope dV kV doc pm an cdv ct),osl⟩) (hcd:PySem.W.codeIn K cdv qual=true) (S:FnScope N ps scope)
    (len:∀ vs H Q E,sp vs H Q E→vs.length=ps.length)
    (hbody:∀ (A:Around) (outer:List Env) (s:Shared) (H:Hp) (vs:List V) (Q:VK) (E:XK),ji k (A.deeper (envOfC qual scope s.heap.objs.size f cdv))→sp vs H Q E →
      ∃ t,PSs (zdI CX P w K mg base N qual scope f cdv A outer s H E) body t∧t { nx:=fun _ H'=>Q .non H',rt:=Q } (start N vs) H) :
    qr P w K mg base CX (k+1) f (PySem.W.fnOf name qual params body scope dV kV doc pm an cdv ct) ps sp:=by
  refine⟨len,fun A outer s H args us vs Q E hr e0 hb r hsp=>?_⟩
  have hl:=len _ _ _ _ hsp
  have KX:K.In s.heap:=e0.mod.kin.keeps fun b o e=>(e0.bs b o e).1
  have lim:s.heap.NoLimit:=e0.mod.nolimit.keeps fun b o e=>(e0.bs b o e).1
  have hkind:∀ y∈ps.zip us,scope.names.lookup y.1=some .local∨(scope.names.lookup y.1=some .cell∧((cellsFrom (s.heap.objs.size+1) scope.names []).lookup y.1).isSome=true):=fun⟨n,v⟩ hy=>by
    rcases S.par n (List.of_mem_zip hy).1 with q | q
    · exact .inl q
    · exact .inr ⟨q,PySem.W.cellsFrom_some _ _ _ (.inl q)⟩
  refine codeAny_call_function hr.depth (KX _ _ lk) rfl S.co S.gen rfl (PySem.W.codeRec_of KX hcd) (hb _ _ _ _ ?_)
  refine wpAny_newFunctionEnv_cells S.kind hkind fun env he s1 x=>?_
  subst he
  refine⟨lim.keeps x.toInCall.keep,codeAny_func ?_⟩
  obtain⟨t,ht,hq⟩:=hbody A outer s H vs Q E (hr.deeper _) hsp
  have I:Inv (zdI CX P w K mg base N qual scope f cdv A outer s H E) [] (start N vs) H s1:=zee S hr.hd e0 hl r x
  refine wpAny_mono (ht [] s1 (start N vs) H _ I hq) (fun fl s' hs=>?_) fun e s' hs=>hs
  have fin:∀ {σ':St} {H':Hp} {v:V} {u:Value},Inv (zdI CX P w K mg base N qual scope f cdv A outer s H E) [] σ' H' s'→RelV v u→Q v H'→CE outer P w H s Q u s' :=
    fun {σ' H' v u} J rv q=>⟨v,H',J.os,J.bare,J.base,J.hok,rv,q⟩
  cases fl with
  | ret u =>
    obtain⟨v,σ',H',J,rv,q⟩:=hs
    exact fin J rv q
  | next =>
    obtain⟨σ',H',J,q⟩:=hs
    exact fin (v:=V.non) (u:=Value.none) J rfl q
  | brk =>
    obtain⟨_,_,_,q⟩:=hs
    exact False.elim q
  | cont =>
    obtain⟨_,_,_,q⟩:=hs
    exact False.elim q
end L2
namespace L2
open PySem PySem.Spec PyProof.Rows
section
variable {X:Cx}{x:Str}{p pos:Pos}{e:Expr}{es:List Expr}{t:TA}{id T:String}{r:List V→Hp→VK→Prop}
def tCB(r:List V→Hp→VK→Prop)(t:TA):TE:=fun σ H Q=>t σ H fun vs H1=>r vs H1 Q
theorem zgB (hc:va X (.builtin id) r) (hg:Gl X x) (hm:X.mg x=none) (hv:bootBuiltins x=some (.builtin id)) (ha:PA X (e::es) t) (hn:x ≠ "__name__" := by decide) (hdb:(x == ("__debug__" : Str))=false:=by decide)
    (he:starEach (e::es) X.env=(false,eval e X.env)::starEach es X.env:=by rfl) (hpl:(backTo pos (starEach es X.env)).any (·.1)=false:=by rfl):PE X (.Call (.Name x p) (e::es) [] pos) (tCB r t):=by
  intro pins s σ H Q I h
  refine wpAny_Call_Name_kw (jg I hg hm hv ?_ hn hdb)
  exact PyProof.Rows.callWith_builtin1 (thn (ha pos pins s σ H _ I h) fun us s1 ⟨vs,H1,I1,r1,q1⟩=>hc pins s1 σ H1 vs us Q I1 r1 q1) he hpl
theorem zaR (hc:va X (.type T) r) (hg:Gl X x) (hm:X.mg x=none) (hv:bootBuiltins x=some (.type T)) (ha:PA X (e::es) t) (hn:x ≠ "__name__" := by decide) (hdb:(x == ("__debug__" : Str))=false:=by decide)
    (he:starEach (e::es) X.env=(false,eval e X.env)::starEach es X.env:=by rfl) (hpl:(backTo pos (starEach es X.env)).any (·.1)=false:=by rfl):PE X (.Call (.Name x p) (e::es) [] pos) (tCB r t):=by
  intro pins s σ H Q I h
  refine wpAny_Call_Name_kw (jg I hg hm hv ?_ hn hdb)
  exact PyProof.Rows.callWith_type1 (thn (ha pos pins s σ H _ I h) fun us s1 ⟨vs,H1,I1,r1,q1⟩=>hc pins s1 σ H1 vs us Q I1 r1 q1) he hpl
end
end L2
namespace HT
open PySem PyProof.Rows
def lexLt:List Int→List Int→Bool
  | [],[]=>false
  | [],_::_=>true
  | _::_,[]=>false
  | x::xs,y::ys=>if x=y then lexLt xs ys else decide (x < y)
theorem jG(x y:Int)(xs ys:List Int):lexLt (x::xs) (y::ys)=if x=y then lexLt xs ys else decide (x < y):=rfl
theorem wy:lexLt [] []=false:=rfl
theorem yz(y:Int)(ys:List Int):lexLt [] (y::ys)=true:=rfl
theorem yy(x:Int)(xs:List Int):lexLt (x::xs) []=false:=rfl
theorem zf7(A:Around)(s:Shared)(a:Int)(t:Tok)(c:Int)(u:Tok):∃ e,SeqAt.EqAt A s (.int a t) (.int c u) e∧(e=true↔a=c) :=
  ⟨(a == c),SeqAt.EqAt.int_int a t c u,by simp⟩
theorem zgL(A:Around)(s:Shared)(a:Int)(t:Tok)(c:Int)(u:Tok)(prog:Program)(w:World)(E:Value→Shared→Prop)(Q:Value→Shared→Prop)(h:Q (.bool (decide (a < c))) s) :
    wpAny (model prog w) A (richCompare .Lt (.int a t) (.int c u)) Q E s :=
  (PyProof.Rows.lt_int h:wpAny (model prog w) A (compareOp .Lt (.int a t) (.int c u)) Q E s)
section
open PySem.SeqAt
open PySem.AutoSeq1 (wpAny_loadPart')
open PySem.MeetsSeq PySem.MeetsSeq2 PySem.MeetsSeq3
theorem zab(l b:Addr)(items items2:Array Value)(n n2:Nat)(dd dd2:Option Addr)(sl sl2:Array (Option Value))(ns ms:List Int)(hi:IntsAre items.toList ns)(hj:IntsAre items2.toList ms) :
    Meets (Builtin.«tuple.__lt__» ⟨[.ref l,.ref b],[]⟩)
      (fun _ R s=>s.heap.get? l=some { cls:=.type "tuple",dict:=dd,data:=.seq items n,slots:=sl }∧s.heap.get? b=some { cls:=.type "tuple",dict:=dd2,data:=.seq items2 n2,slots:=sl2 } ∧
        R (.ok (.ret (.bool (lexLt ns ms)))) s) :=
  .of_wp fun prog w A R s h=>by
    obtain⟨hp,g,d,tk,os⟩:=s;obtain⟨hl,hb,h⟩:=h
    have f2:=AutoSeq1.sub_tuple_tuple
    have z1:items.size=ns.length:=by rw [← hi.length];simp
    have z2:items2.size=ms.length:=by rw [← hj.length];simp
    wp_walk using wpAny_loadPart' hl,wpAny_loadPart' hb,wpAny_forIn_list _ (fun rest b s'=>b.1=none∧s'=⟨hp,g,d,tk,os⟩∧∃ (vs ws:List Value) (ns' ms':List Int),rest=vs.zip ws ∧
      IntsAre vs ns'∧IntsAre ws ms'∧ns'.length+items2.size=ms'.length+items.size∧R (.ok (.ret (.bool (lexLt ns' ms')))) ⟨hp,g,d,tk,os⟩) _
    case turn =>
      rintro⟨y,x⟩ rest b s' ⟨hb',rfl,vs,ws,ns',ms',hz,hvi,hwi,hlen,hR⟩
      cases hvi with
      | nil=>rw [List.zip_nil_left] at hz;cases hz
      | cons a t hvi' =>
        cases hwi with
        | nil=>rw [List.zip_nil_right] at hz;cases hz
        | cons c u hwi' =>
          rw [List.zip_cons_cons] at hz
          injection hz with hyx hrest
          injection hyx with hy hx
          subst hy hx
          rw [jG] at hR
          simp only [List.length_cons] at hlen
          obtain⟨e,he,hiff⟩:=zf7 A.in1 ⟨hp,g,d,tk,os⟩ a t c u
          refine wpAny_bind (he prog w _ _ ?_)
          cases e with
          | true =>
            rw [if_pos (hiff.mp rfl)] at hR
            wp_walk
            exact⟨rfl,rfl,_,_,_,_,hrest,hvi',hwi',by omega,hR⟩
          | false =>
            rw [if_neg (fun q=>absurd (hiff.mpr q) Bool.false_ne_true)] at hR
            have hri:=zgL A.in1 ⟨hp,g,d,tk,os⟩ a t c u prog w
            wp_walk using hri
            exact⟨_,rfl,by simpa using hR⟩
    case fin =>
      rintro⟨b1,b2⟩ s' ⟨hb',rfl,vs,ws,ns',ms',hz,hvi,hwi,hlen,hR⟩
      simp only at hb'
      subst hb'
      have hv:lexLt ns' ms'=decide (items.size < items2.size):=by
        cases hvi with
        | nil =>
          cases hwi with
          | nil =>
            simp only [List.length_nil] at hlen
            rw [wy]
            exact (decide_eq_false (by omega)).symm
          | cons c u hw =>
            simp only [List.length_nil,List.length_cons] at hlen
            rw [yz]
            exact (decide_eq_true (by omega)).symm
        | cons a t hv =>
          cases hwi with
          | nil =>
            simp only [List.length_nil,List.length_cons] at hlen
            rw [yy]
            exact (decide_eq_false (by omega)).symm
          | cons c u hw =>
            rw [List.zip_cons_cons] at hz
            cases hz
      rw [hv] at hR
      wp_walk
      exact⟨_,rfl,by simpa [Builtin.Tuple.tupleCompareSizes] using hR⟩
    case h =>
      exact⟨rfl,rfl,items.toList,items2.toList,ns,ms,rfl,hi,hj,by omega,h⟩
end
section
variable {prog:Program}{w:World}{A:Around}{E:Value→Shared→Prop}{s:Shared}
theorem zh1{t b:Addr}{vs ws:List Value}{Q:Value→Shared→Prop}(ht:IsTup s.heap t vs.toArray)(hb:IsTup s.heap b ws.toArray)(hv:vs≠[])
    (h1:ws=[]→Q (.ref t) s) (h2:ws≠[]→Q (.ref s.heap.objs.size) { s with heap:=s.heap.push { cls:=.type "tuple",data:=.seq (vs++ws).toArray } })
    (hsz:vs.length+ws.length≤sizeLine):wpAny (model prog w) A (binaryOp .Add (.ref t) (.ref b)) Q E s:=by
  obtain⟨⟨cls,dd,data,sl⟩,ho,hc,n,hd⟩:=id ht
  obtain⟨⟨cls2,dd2,data2,sl2⟩,ho2,hc2,n2,hd2⟩:=id hb
  simp only at hc hd hc2 hd2
  subst hc hd hc2 hd2
  have e:vs.toArray++ws.toArray=(vs++ws).toArray:=by simp
  by_cases hw:ws=[]
  · exact concat_meets ⟨_,ho,rfl⟩ ⟨_,ho2,rfl⟩ noFill_tuple_add seq_tuple_add PySem.F.slot_tuple_add PySem.F.entry_tuple_add (PySem.F.args_tuple_add_2 _ _)
      (tuple_addW1 t b vs.toArray ws.toArray n n2 dd dd2 sl sl2 (by simpa using hv) (by simp [hw])) ⟨ho,ho2,h1 hw⟩
  · refine concat_meets ⟨_,ho,rfl⟩ ⟨_,ho2,rfl⟩ noFill_tuple_add seq_tuple_add PySem.F.slot_tuple_add PySem.F.entry_tuple_add (PySem.F.args_tuple_add_2 _ _)
      (tuple_addW2 t b vs.toArray ws.toArray n n2 dd dd2 sl sl2 (by simpa using hv) (by simpa using hw) (by rw [List.size_toArray,List.size_toArray];exact hsz)) ⟨ho,ho2,?_⟩
    rw [e]
    exact h2 hw
def sIx(n d:Nat):Option Int→Nat
  | none=>d
  | some v=>if v < 0 then (v+(n:Int)).toNat else min v.toNat n
theorem zgT(n d:Nat):sIx n d none=d:=rfl
theorem zjz(n d k:Nat):sIx n d (some (k:Int))=min k n:=by
  show (if (k:Int) < 0 then ((k:Int)+(n:Int)).toNat else min (k:Int).toNat n)=min k n
  rw [if_neg (by omega),Int.toNat_natCast]
end
end HT
namespace L2
open PySem PySem.Spec PyProof.Rows
abbrev TO:=St→Hp→(Option Int→Hp→Prop)→Prop
def PO(X:Cx)(e:Option Expr)(t:TO):Prop :=
  ∀ (pins:List (Addr×Obj)) (s:Shared) (σ:St) (H:Hp) (Q:Option Int→Hp→Prop),Inv X pins σ H s→t σ H Q →
    wpAny (model X.prog X.w) X.A (evalPart e X.env) (fun u s'=>∃ o H',Inv X pins σ H' s'∧IsPart u o∧Q o H') X.xe s
def zjP:TO:=fun _ H Q=>Q none H
def zmX(t:TE):TO:=fun σ H Q=>t σ H fun x H1=>∃ i,x=.int i∧Q (some i) H1
theorem intsAre_of{ns:List Int}:∀ {us:List Value},Vals (ns.map V.int) us→IntsAre us ns:=by
  induction ns with
  | nil=>intro us r;rw [List.map_nil] at r;cases r;exact .nil
  | cons n ns ih =>
    intro us r
    rw [List.map_cons] at r
    cases r with
    | cons r1 r2 =>
      obtain⟨t,e⟩:=r1
      subst e
      exact .cons n t (ih r2)
section
variable {X:Cx}{e:Expr}{te:TE}{lo hi:Option Expr}{tl th:TO}{pos p2:Pos}
theorem zjf:PO X none zjP:=by
  intro pins s σ H Q I h
  rw [evalPart_none]
  exact wpAny_pure ⟨none,H,I,.none,h⟩
theorem zjg(h:PE X e te):PO X (some e) (zmX te):=by
  intro pins s σ H Q I hw
  rw [evalPart_some]
  refine thn (h pins s σ H _ I hw) fun u s1 ⟨x,H1,I1,r1,q1⟩=>?_
  obtain⟨i,rfl,q⟩:=q1
  obtain⟨t,rfl⟩:=r1
  exact⟨some i,H1,I1,.int i t,q⟩
def SlR(X:Cx)(r:V→Option Int→Option Int→Hp→VK→Prop):Prop :=
  ∀ (pins:List (Addr×Obj)) (s:Shared) (σ:St) (H:Hp) (x:V) (v vl vu:Value) (lo hi:Option Int) (sl:Addr) (Q:VK),Inv X pins σ H s→RelV x v→s.heap.IsSliceOf sl vl vu .none→IsPart vl lo→IsPart vu hi→r x lo hi H Q →
    ∃ T id,typeLookup (.type T) "__getitem__" = pure (some (.builtin id))∧s.TypeIs v T∧wpAny (model X.prog X.w) X.A (getItem v (.ref sl)) (EP X pins σ Q) X.xe s
def tSl(r:V→Option Int→Option Int→Hp→VK→Prop)(te:TE)(tl th:TO):TE:=fun σ H Q=>te σ H fun x H1=>tl σ H1 fun l H2=>th σ H2 fun u H3=>r x l u H3 Q
theorem zgE{r:V→Option Int→Option Int→Hp→VK→Prop}(hr:SlR X r)(he:PE X e te)(hl:PO X lo tl)(hu:PO X hi th):PE X (.Subscript e (.Slice lo hi none p2) pos) (tSl r te tl th):=by
  intro pins s σ H Q I h
  refine Subscript_ (thn (he pins s σ H _ I h) fun v s1 ⟨x,H1,I1,r1,q1⟩=>?_)
  refine wpAny_Slice (thn (hl pins s1 σ H1 _ I1 q1) fun vl s2 ⟨l,H2,I2,pl,q2⟩=>thn (hu pins s2 σ H2 _ I2 q2) fun vu s3 ⟨u,H3,I3,pu,q3⟩=>?_)
  rw [evalPart_none]
  refine wpAny_pure ?_
  have I4:Inv X pins σ H3 { s3 with heap:=s3.heap.push { cls:=.type "slice",data:=.fields #[vl,vu,.none] } }:=I3.kept (t':=s3.toks) fun b ob q=>Heap.get?_push_of_some _ q
  obtain⟨T,id,hT,ht,hg⟩:=hr pins { s3 with heap:=s3.heap.push { cls:=.type "slice",data:=.fields #[vl,vu,.none] } } σ H3 x v vl vu l u s3.heap.objs.size Q I4 r1 (Heap.IsSliceOf.new ..) pl pu q3
  show wpAny (model X.prog X.w) X.A (subscriptTail e (.Slice lo hi none p2) v (.ref s3.heap.objs.size)) (EP X pins σ Q) X.xe { s3 with heap:=s3.heap.push { cls:=.type "slice",data:=.fields #[vl,vu,.none] } }
  exact tail_any (ops:=[.ref s3.heap.objs.size,v]) ht hT hg (by with_unfolding_all rfl)
def zke(xs:List V)(lo hi:Option Int):List V:=(xs.drop (HT.sIx xs.length 0 lo)).take (HT.sIx xs.length xs.length hi - HT.sIx xs.length 0 lo)
theorem zbe(xs:List V)(lo hi:Option Int):(zke xs lo hi).length≤xs.length:=by
  unfold zke
  rw [List.length_take,List.length_drop]
  omega
def zmL(K:PySem.W.Frag):R2:=fun x y H Q=>∃ a b xs ys,x=.ref a∧y=.ref b∧SqT K H a xs∧SqT K H b ys∧xs≠[]∧xs.length+ys.length≤sizeLine ∧
  (ys=[]→Q (.ref a) H)∧(ys≠[]→∀ p,H p=none→Q (.ref p) (upd H p (.tup (xs++ys))))
theorem Vals.nil_iff{xs:List V}{us:List Value}(r:Vals xs us):us=[]↔xs=[]:=by
  cases r with
  | nil=>simp
  | cons _ _=>simp
theorem ziX:OpR X (binaryOp .Add) (zmL X.K):=by
  intro pins s σ H x y v u Q I rx ry h
  obtain⟨a,b,xs,ys,rfl,rfl,ha,hb,hx,hz,q1,q2⟩:=h
  cases rx
  cases ry
  obtain⟨its,r1,p1,_⟩:=I.tuple ha
  obtain⟨its2,r2,p2,_⟩:=I.tuple hb
  refine HT.zh1 p1 p2 (fun z=>hx (r1.nil_iff.mp z)) (fun z=>⟨.ref a,H,I,rfl,q1 (r2.nil_iff.mp z)⟩) (fun z=>?_) (by rw [← r1.length,← r2.length];exact hz)
  refine⟨.ref s.heap.objs.size,_,I.laid (t':=s.toks) (o:=.tup (xs++ys)) (fun b ob q=>Heap.get?_push_of_some _ q) (Nat.le_refl _) ?_,rfl,q2 (fun w=>z (r2.nil_iff.mpr w)) _ (I.hok.fresh (Nat.le_refl _))⟩
  exact⟨by rw [List.length_append];exact hz,_,r1.append r2,IsTup.new _ _⟩
end
end L2
namespace L2
open PySem PySem.Spec PyProof.Rows
def ixN(n:Nat)(i:Int):Option Nat:=if 0≤i then (if i < n then some i.toNat else none) else if -(n:Int)≤i then some (i+n).toNat else none
def atI{α:Type}(xs:List α)(i:Int):Option α:=(ixN xs.length i).bind fun j=>xs[j]?
theorem zeg{n:Nat}{i:Int}{j:Nat}(h:ixN n i=some j):seqIndex? i n=some j∧j < n∧-(n:Int)≤i∧i < n:=by
  unfold ixN at h
  by_cases h0:0≤i
  · rw [if_pos h0] at h
    by_cases h1:i < n
    · rw [if_pos h1] at h
      have e:i.toNat=j:=Option.some.inj h
      exact⟨by rw [seqIndex_of h0 h1,e],by omega,by omega,h1⟩
    · rw [if_neg h1] at h;cases h
  · rw [if_neg h0] at h
    by_cases h1:-(n:Int)≤i
    · rw [if_pos h1] at h
      have e:(i+n).toNat=j:=Option.some.inj h
      exact⟨by rw [seqIndex_neg (by omega) h1,e],by omega,h1,by omega⟩
    · rw [if_neg h1] at h;cases h
theorem za6{α:Type}{xs:List α}{i:Int}{v:α}(h:atI xs i=some v):∃ j,seqIndex? i xs.length=some j∧xs[j]?=some v∧j < xs.length∧-(xs.length:Int)≤i∧i < xs.length:=by
  unfold atI at h
  cases e:ixN xs.length i with
  | none=>rw [e] at h;cases h
  | some j =>
    rw [e] at h
    obtain⟨h1,h2,h3,h4⟩:=zeg e
    exact⟨j,h1,h,h2,h3,h4⟩
theorem zdz{α:Type}{xs:List α}{j:Nat}{v:α}(h:xs[j]?=some v):atI xs (j:Int)=some v:=by
  have hj:j < xs.length:=(List.getElem?_eq_some_iff.mp h).1
  have e:ixN xs.length (j:Int)=some j:=by
    unfold ixN
    rw [if_pos (by omega),if_pos (by omega)];simp
  unfold atI;rw [e];exact h
theorem zfQ{α:Type}(xs:List α)(v:α):atI (xs++[v]) (-1)=some v:=by
  have hl:(xs++[v]).length=xs.length+1:=by simp
  have e:ixN (xs++[v]).length (-1)=some xs.length:=by
    unfold ixN
    rw [hl,if_neg (by decide),if_pos (by omega)]
    congr 1
    omega
  unfold atI
  rw [e]
  show (xs++[v])[xs.length]?=some v
  simp
def zdw(b:Expr):Prop:=∀ o i,subscripted b false o i=operate [o,i] (getItem o i)
def IxR(X:Cx)(r:R2):Prop :=
  ∀ (value slice:Expr) (pins:List (Addr×Obj)) (s:Shared) (σ:St) (H:Hp) (x y:V) (v u:Value) (Q:VK),Inv X pins σ H s→RelV x v→RelV y u→r x y H Q →
    subscripted slice false v u=operate [v,u] (getItem v u)→wpAny (model X.prog X.w) X.A (subscriptTail value slice v u) (EP X pins σ Q) X.xe s
def MtR(X:Cx)(id:String)(r:V→List V→Hp→VK→Prop):Prop :=
  ∀ (pins:List (Addr×Obj)) (s:Shared) (σ:St) (H:Hp) (x:V) (xs:List V) (v:Value) (us:List Value) (Q:VK),Inv X pins σ H s→RelV x v→Vals xs us→r x xs H Q →
    wpAny (model X.prog X.w) X.A (call (.builtin id) (v::us)) (EP X pins σ Q) X.xe s
section
variable {X:Cx}{a b:Expr}{ta tb:TE}{pos:Pos}
theorem IxR.or{r r':R2}(h:IxR X r)(h':IxR X r'):IxR X (fun x y H Q=>r x y H Q∨r' x y H Q):=by
  intro value slice pins s σ H x y v u Q I rx ry q hs
  rcases q with q | q
  · exact h value slice pins s σ H x y v u Q I rx ry q hs
  · exact h' value slice pins s σ H x y v u Q I rx ry q hs
theorem zi8{r:R2}(hr:IxR X r)(ha:PE X a ta)(hb:PE X b tb)(hs:zdw b):PE X (.Subscript a b pos) (tOp r ta tb):=by
  intro pins s σ H Q I h
  exact Subscript_ (zmb ha hb I h fun v u s2 x y H2 I2 rx ry q=>hr a b pins s2 σ H2 x y v u Q I2 rx ry q (hs _ _))
def znA(K:PySem.W.Frag):R2:=fun x y H Q=>∃ p xs i v,x=.ref p∧y=.int i∧SqL K H p xs∧atI xs i=some v∧Q v H
def zl6(K:PySem.W.Frag):R2:=fun x y H Q=>∃ p xs i v,x=.ref p∧y=.int i∧SqT K H p xs∧atI xs i=some v∧Q v H
def znB:R2:=fun x y H Q=>∃ z i c,x=.str z∧y=.int i∧z.length≤sizeLine∧atI z.cps.toList i=some c∧Q (.str ⟨#[c]⟩) H
theorem zix:IxR X (znA X.K):=by
  intro value slice pins s σ H x y v u Q I rx ry h hs
  obtain⟨p,xs,i,z,rfl,rfl,hq,he,q⟩:=h
  cases rx
  obtain⟨t,rfl⟩:=ry
  obtain⟨its,r,pl,hz⟩:=I.list hq
  obtain⟨j,h1,h2,h3,h4,h5⟩:=za6 he
  obtain⟨w,ew,rw'⟩:=r.get h2
  have hl:=r.length
  have hn:=zaD
  have fin:EP X pins σ Q w s:=⟨z,H,I,rw',q⟩
  by_cases h0:0≤i
  · have hj:i.toNat=j:=by
      rw [seqIndex_of h0 h5] at h1
      exact Option.some.inj h1
    exact item_listR pl.isList h0 (by omega) (by rw [hj];simpa using ew) fin hs
  · have hj:(i+(its.toArray.size:Int)).toNat=j:=by
      rw [seqIndex_neg (by omega) h4] at h1
      rw [List.size_toArray,← hl]
      exact Option.some.inj h1
    exact subscriptTail_builtinR (x:=w) pl.isList.typeIs slot_list_getitem.lookup
      (wpAny_getItem_list_neg (Q:=fun r s'=>r=w∧EP X pins σ Q r s') pl.isList (by omega) (by rw [List.size_toArray] <;> omega) (by omega) (by rw [hj];simpa using ew) ⟨rfl,fin⟩) hs
theorem zeh:IxR X (zl6 X.K):=by
  intro value slice pins s σ H x y v u Q I rx ry h hs
  obtain⟨p,xs,i,z,rfl,rfl,hq,he,q⟩:=h
  cases rx
  obtain⟨t,rfl⟩:=ry
  obtain⟨its,r,pl,hz⟩:=I.tuple hq
  obtain⟨j,h1,h2,h3,h4,h5⟩:=za6 he
  obtain⟨w,ew,rw'⟩:=r.get h2
  have hl:=r.length
  have hn:=zaD
  have fin:EP X pins σ Q w s:=⟨z,H,I,rw',q⟩
  exact subscriptTail_builtinR (x:=w) pl.typeIs slot_tuple_getitem.lookup
    (getItem_tuple (j:=j) (Q:=fun r s'=>r=w∧EP X pins σ Q r s') pl (by omega) (by omega) (by rw [List.size_toArray,← hl];exact h1) (by simpa using ew) ⟨rfl,fin⟩) hs
theorem zkI:IxR X znB:=by
  intro value slice pins s σ H x y v u Q I rx ry h hs
  obtain⟨z,i,c,rfl,rfl,hz,he,q⟩:=h
  obtain⟨t,rfl⟩:=rx
  obtain⟨t',rfl⟩:=ry
  obtain⟨j,h1,h2,h3,h4,h5⟩:=za6 he
  have hl:z.cps.toList.length=z.length:=by simp [Str.length]
  rw [hl] at h1 h4 h5
  have hn:=zaD
  exact tail_any (typeIs_str s z t) slot_str_getitem.lookup (getItem_str (c:=c) (by
    have e1:decide (i < -(2 ^ 63:Int))=false:=decide_eq_false (by omega)
    have e2:decide (i ≥ 2 ^ 63)=false:=decide_eq_false (by omega)
    rw [e1,e2,Bool.or_false]) (by rw [h1];simpa using h2) ⟨.str ⟨#[c]⟩,H,I.tok _,⟨_,rfl⟩,q⟩) hs
def rIx(K:PySem.W.Frag):R2:=fun x y H Q=>znA K x y H Q∨zl6 K x y H Q∨znB x y H Q
theorem zkH:IxR X (rIx X.K):=zix.or (zeh.or zkI)
theorem zc4(its:List Value)(n j:Nat)(u:Value):Obj.mapSeq (·.setIfInBounds j u) { cls:=.type "list",data:=.seq its.toArray n }={ cls:=.type "list",data:=.seq (its.set j u).toArray n }:=by
  simp [Obj.mapSeq]
theorem Inv.lst{pins:List (Addr×Obj)}{σ:St}{H:Hp}{s:Shared}{p:Addr}{xs:List V}(I:Inv X pins σ H s)(h:H p=some (.lst xs)) :
    ∃ (its:List Value) (n:Nat),Vals xs its∧s.heap.get? p=some { cls:=.type "list",data:=.seq its.toArray n }∧xs.length≤sizeLine:=by
  obtain⟨z,its,n,r,e⟩:=I.hok p _ h
  exact⟨its,n,r,e,z⟩
theorem Inv.lstUpd{pins:List (Addr×Obj)}{σ:St}{H:Hp}{s:Shared}{p:Addr}{xs ys:List V}{its its':List Value}{n n':Nat}{f:Obj→Obj}(I:Inv X pins σ H s)(h:H p=some (.lst xs))
    (ho:s.heap.get? p=some { cls:=.type "list",data:=.seq its.toArray n }) (hf:f { cls:=.type "list",data:=.seq its.toArray n }={ cls:=.type "list",data:=.seq its'.toArray n' }) (r:Vals ys its') (hz:ys.length≤sizeLine) (t:Nat) :
    Inv X pins σ (upd H p (.lst ys)) { s with heap:=s.heap.update p f,toks:=t }:=by
  have e:(s.heap.update p f).get? p=some { cls:=.type "list",data:=.seq its'.toArray n' }:=by
    rw [Heap.get?_update_self f ho (by rw [hf] <;> rfl),hf]
  refine I.write (x:=p) (e:=p) (by rw [h];trivial) (.inl rfl) (fun b u hb q=>(Heap.get?_update_other _ _ (Ne.symm hb)).trans q) ⟨_,e⟩ ?_
  exact⟨hz,its',n',r,e⟩
def zlA:V→V→V→Hp→(Hp→Prop)→Prop:=fun o i v H Q=>∃ p xs k j,o=.ref p∧i=.int k∧H p=some (.lst xs)∧ixN xs.length k=some j∧Q (upd H p (.lst (xs.set j v)))
theorem set_list:zm3 X zlA:=by
  intro pins s σ H o i v ov iv u Q I ro ri rv h
  obtain⟨p,xs,k,j,rfl,rfl,hp,hj,q⟩:=h
  cases ro
  obtain⟨t,rfl⟩:=ri
  obtain⟨its,n,r,ho,hz⟩:=I.lst hp
  obtain⟨h1,h2,h3,h4⟩:=zeg hj
  have hl:=r.length
  have hn:=zaD
  have I':Inv X pins σ (upd H p (.lst (xs.set j v))) { s with heap:=s.heap.update p (Obj.mapSeq (·.setIfInBounds j u)) } :=
    I.lstUpd hp ho (zc4 its n j u) (r.set rv j) (by rw [List.length_set];exact hz) s.toks
  by_cases h0:0≤k
  · have hk:k.toNat=j:=by
      rw [seqIndex_of h0 h4] at h1
      exact Option.some.inj h1
    exact PySem.W.ki_setAt ho h0 (by omega) (by rw [List.size_toArray,← hl];exact h4) (by rw [hk];exact⟨_,I',q⟩)
  · have hk:(k+(its.toArray.size:Int)).toNat=j:=by
      rw [seqIndex_neg (by omega) h3] at h1
      rw [List.size_toArray,← hl]
      exact Option.some.inj h1
    exact PySem.W.ki_setBack ho (by omega) (by rw [List.size_toArray,← hl];exact h3) (by omega) (by rw [hk];exact⟨_,I',q⟩)
theorem zaZ(lo hi:Option Int)(n:Nat):(sliceBounds lo hi none n).1=((HT.sIx n 0 lo:Nat):Int)∧(sliceBounds lo hi none n).2.1=((HT.sIx n n hi:Nat):Int)∧(sliceBounds lo hi none n).2.2=1:=by
  refine⟨?_,?_,rfl⟩
  · cases lo with
    | none=>simp [sliceBounds,HT.sIx]
    | some i =>
      simp only [sliceBounds,HT.sIx,Option.getD_none,show (1:Int) > 0 by decide,if_true]
      by_cases h:i < 0
      · simp only [h,if_true] <;> omega
      · simp only [h,if_false] <;> omega
  · cases hi with
    | none=>simp [sliceBounds,HT.sIx]
    | some i =>
      simp only [sliceBounds,HT.sIx,Option.getD_none,show (1:Int) > 0 by decide,if_true]
      by_cases h:i < 0
      · simp only [h,if_true] <;> omega
      · simp only [h,if_false] <;> omega
theorem wX(its:List Value)(lo hi:Option Int):slicePick its.toArray lo hi none=((its.drop (HT.sIx its.length 0 lo)).take (HT.sIx its.length its.length hi - HT.sIx its.length 0 lo)).toArray:=by
  obtain⟨h1,h2,h3⟩:=zaZ lo hi its.toArray.size
  unfold slicePick
  rw [h1,h2,h3]
  simp only [sliceRange_one,pick_run,List.size_toArray] <;> rfl
def zn1(K:PySem.W.Frag):V→Option Int→Option Int→Hp→VK→Prop:=fun x lo hi H Q=>∃ a xs,x=.ref a∧SqL K H a xs∧∀ p,H p=none→Q (.ref p) (upd H p (.lst (zke xs lo hi)))
theorem zjJ:SlR X (zn1 X.K):=by
  intro pins s σ H x v vl vu lo hi sl Q I rx hs pl pu h
  obtain⟨a,xs,rfl,hx,q⟩:=h
  cases rx
  obtain⟨its,r,ht,hz⟩:=I.list hx
  have hlen:=r.length
  refine⟨"list",_,slot_list_getitem.lookup,ht.isList.typeIs,?_⟩
  refine wpAny_getItem_list_slice ht.isList hs pl pu .none (by simp) ?_ (by rw [List.size_toArray] <;> omega)
  rw [wX,← hlen]
  refine⟨.ref s.heap.objs.size,_,I.laid (t':=s.toks) (o:=.lst (zke xs lo hi)) (fun b ob q=>Heap.get?_push_of_some _ q) (Nat.le_refl _) ?_,rfl,q _ (I.hok.fresh (Nat.le_refl _))⟩
  exact⟨Nat.le_trans (zbe xs lo hi) hz,_,0,(r.drop (HT.sIx xs.length 0 lo)).take (HT.sIx xs.length xs.length hi - HT.sIx xs.length 0 lo),Heap.get?_push_size _ rfl⟩
def wk:V→Bool
  | .non=>true
  | .bl _=>true
  | .int _=>true
  | .str _=>true
  | _=>false
def eqV:V→V→Bool
  | .non,.non=>true
  | .bl a,.bl b=>a == b
  | .bl a,.int b=>(if a then 1 else 0) == b
  | .int a,.bl b=>a == (if b then 1 else 0)
  | .int a,.int b=>a == b
  | .str a,.str b=>a == b
  | _,_=>false
theorem zkB{A:Around}{s:Shared}{y x:V}{u v:Value}(ry:RelV y u)(rx:RelV x v)(fy:wk y=true)(fx:wk x=true):SeqAt.EqAt A s u v (eqV y x):=by
  cases y with
  | non =>
    cases ry
    cases x with
    | non=>cases rx;exact SeqAt.EqAt.same _
    | bl b=>cases rx;exact SeqAt.EqAt.none_bool b
    | int b=>obtain⟨t,rfl⟩:=rx;exact SeqAt.EqAt.none_int b t
    | str b=>obtain⟨t,rfl⟩:=rx;exact SeqAt.EqAt.none_str b t
    | _=>exact absurd (show false=true from fx) Bool.false_ne_true
  | bl a =>
    cases ry
    cases x with
    | non=>cases rx;exact SeqAt.EqAt.bool_none a
    | bl b=>cases rx;exact SeqAt.EqAt.bool_bool a b
    | int b=>obtain⟨t,rfl⟩:=rx;exact SeqAt.EqAt.bool_int a b t
    | str b=>obtain⟨t,rfl⟩:=rx;exact SeqAt.EqAt.bool_str a b t
    | _=>exact absurd (show false=true from fx) Bool.false_ne_true
  | int a =>
    obtain⟨t',rfl⟩:=ry
    cases x with
    | non=>cases rx;exact SeqAt.EqAt.int_none a t'
    | bl b=>cases rx;exact SeqAt.EqAt.int_bool a t' b
    | int b=>obtain⟨t,rfl⟩:=rx;exact SeqAt.EqAt.int_int a t' b t
    | str b=>obtain⟨t,rfl⟩:=rx;exact SeqAt.EqAt.int_str a t' b t
    | _=>exact absurd (show false=true from fx) Bool.false_ne_true
  | str a =>
    obtain⟨t',rfl⟩:=ry
    cases x with
    | non=>cases rx;exact SeqAt.EqAt.str_none a t'
    | bl b=>cases rx;exact SeqAt.EqAt.str_bool a t' b
    | int b=>obtain⟨t,rfl⟩:=rx;exact SeqAt.EqAt.str_int a t' b t
    | str b=>obtain⟨t,rfl⟩:=rx;exact SeqAt.EqAt.str_str a t' b t
    | _=>exact absurd (show false=true from fx) Bool.false_ne_true
  | _=>exact absurd (show false=true from fy) Bool.false_ne_true
def eqU(x:V)(u:Value):Bool:=match u with
  | .none=>eqV .non x
  | .bool b=>eqV (.bl b) x
  | .int i _=>eqV (.int i) x
  | .str z _=>eqV (.str z) x
  | _=>false
theorem zht{x y:V}{u:Value}(r:RelV y u)(f:wk y=true):eqU x u=eqV y x:=by
  cases y with
  | non=>cases r;rfl
  | bl b=>cases r;rfl
  | int i=>obtain⟨t,rfl⟩:=r;rfl
  | str z=>obtain⟨t,rfl⟩:=r;rfl
  | _=>exact absurd (show false=true from f) Bool.false_ne_true
theorem kq{x:V}:∀ {xs:List V} {us:List Value},Vals xs us→xs.all wk=true→us.any (eqU x)=xs.any fun y=>eqV y x
  | _,_,.nil,_=>rfl
  | y::xs,u::us,.cons r t,f=>by
    rw [List.all_cons,Bool.and_eq_true] at f
    rw [List.any_cons,List.any_cons,zht r f.1,kq t f.2]
theorem vk{A:Around}{s:Shared}{x:V}{v:Value}(rx:RelV x v)(fx:wk x=true):∀ {xs:List V} {us:List Value},Vals xs us→xs.all wk=true→∀ u∈us,SeqAt.EqAt A s u v (eqU x u)
  | _,_,.nil,_=>fun u hu=>by cases hu
  | y::xs,u::us,.cons r t,f=>fun u' hu=>by
    rw [List.all_cons,Bool.and_eq_true] at f
    rcases List.mem_cons.mp hu with rfl | hu
    · rw [zht r f.1];exact zkB r rx f.1 fx
    · exact vk rx fx t f.2 u' hu
def inV(x:V)(xs:List V):Bool:=xs.any fun y=>eqV y x
def rIn(K:PySem.W.Frag)(neg:Bool):R2:=fun x y H Q=>∃ p xs,y=.ref p∧(SqL K H p xs∨SqT K H p xs)∧wk x=true∧xs.all wk=true∧Q (.bl (if neg then !inV x xs else inV x xs)) H
theorem vo:OpR X (compareOp .In) (rIn X.K false):=by
  intro pins s σ H x y v u Q I rx ry h
  obtain⟨p,xs,rfl,hq,fx,fs,q⟩:=h
  cases ry
  rcases hq with hq | hq
  · obtain⟨its,r,pl,hz⟩:=I.list hq
    refine SeqAt.in_listAt (eqU x) pl.isList (fun w hw=>vk rx fx r fs w (by simpa using hw)) ⟨.bl _,H,I,rfl,?_⟩
    rw [show its.toArray.any (eqU x)=its.any (eqU x) by simp,kq r fs]
    exact q
  · obtain⟨its,r,pl,hz⟩:=I.tuple hq
    refine SeqAt.in_tupleAt (eqU x) pl (fun w hw=>vk rx fx r fs w (by simpa using hw)) ⟨.bl _,H,I,rfl,?_⟩
    rw [show its.toArray.any (eqU x)=its.any (eqU x) by simp,kq r fs]
    exact q
theorem zaO:OpR X (compareOp .NotIn) (rIn X.K true):=by
  intro pins s σ H x y v u Q I rx ry h
  obtain⟨p,xs,rfl,hq,fx,fs,q⟩:=h
  cases ry
  rcases hq with hq | hq
  · obtain⟨its,r,pl,hz⟩:=I.list hq
    refine SeqAt.notIn_listAt (eqU x) pl.isList (fun w hw=>vk rx fx r fs w (by simpa using hw)) ⟨.bl _,H,I,rfl,?_⟩
    rw [show its.toArray.any (eqU x)=its.any (eqU x) by simp,kq r fs]
    exact q
  · obtain⟨its,r,pl,hz⟩:=I.tuple hq
    refine SeqAt.notIn_tupleAt (eqU x) pl (fun w hw=>vk rx fx r fs w (by simpa using hw)) ⟨.bl _,H,I,rfl,?_⟩
    rw [show its.toArray.any (eqU x)=its.any (eqU x) by simp,kq r fs]
    exact q
theorem zw:va X (.builtin "len") (fun xs H Q=>∃ p ys,xs=[.ref p]∧(SqL X.K H p ys∨SqT X.K H p ys)∧Q (.int ys.length) H):=by
  intro pins s σ H xs us Q I r h
  obtain⟨p,ys,rfl,hq,q⟩:=h
  obtain⟨u,rfl,rx⟩:=vals1 r
  cases rx
  have hn:=zaD
  rcases hq with hq | hq
  · obtain⟨its,r',pl,hz⟩:=I.list hq
    have hlen:=r'.length
    exact Calls.call_len_list pl.isList (by simp only [List.size_toArray] <;> omega) ⟨.int ys.length,H,I.tok _,⟨s.toks+1,by rw [List.size_toArray,hlen]⟩,q⟩
  · obtain⟨its,r',pl,hz⟩:=I.tuple hq
    have hlen:=r'.length
    exact len_tuple pl (by simp only [List.size_toArray] <;> omega) ⟨.int ys.length,H,I.tok _,⟨s.toks+1,by rw [List.size_toArray,hlen]⟩,q⟩
theorem jm:va X (.type "list") (fun xs H Q=>∃ p ys,xs=[.ref p]∧(SqL X.K H p ys∨SqT X.K H p ys)∧∀ l,H l=none→Q (.ref l) (upd H l (.lst ys))):=by
  intro pins s σ H xs us Q I r h
  obtain⟨p,ys,rfl,hq,q⟩:=h
  obtain⟨u,rfl,rx⟩:=vals1 r
  cases rx
  have fin:∀ (its:List Value),Vals ys its→ys.length≤sizeLine→∀ (h':Heap) (c':Nat),(∀ b o',s.heap.get? b=some o'→h'.get? b=some o') →
      h'.get? s.heap.objs.size=some { cls:=.type "list",dict:=none,data:=.seq its.toArray c',slots:=#[] }→EP X pins σ Q (.ref s.heap.objs.size) { s with heap:=h' }:=fun its r' hz h' c' kp e =>
    ⟨.ref s.heap.objs.size,_,I.laid (t':=s.toks) kp (Nat.le_refl _) (show xA X.prog X.w _ h' _ (.lst ys) from⟨hz,its,c',r',e⟩),rfl,q _ (I.hok.fresh (Nat.le_refl _))⟩
  rcases hq with hq | hq
  · obtain⟨its,r',pl,hz⟩:=I.list hq
    have hlen:=r'.length
    obtain⟨o,ho,hc,n,hd⟩:=pl.isList
    exact call_list_seq p (.inl rfl) ho hc hd (fun h' c' kp e=>fin its r' hz h' c' kp e) (by simp only [List.size_toArray] <;> omega)
  · obtain⟨its,r',pl,hz⟩:=I.tuple hq
    have hlen:=r'.length
    obtain⟨o,ho,hc,n,hd⟩:=pl
    exact call_list_seq p (.inr rfl) ho hc hd (fun h' c' kp e=>fin its r' hz h' c' kp e) (by simp only [List.size_toArray] <;> omega)
theorem y8:va X (.type "tuple") (fun xs H Q=>∃ p ys,xs=[.ref p]∧((SqL X.K H p ys∧∀ l,H l=none→Q (.ref l) (upd H l (.tup ys)))∨(SqT X.K H p ys∧Q (.ref p) H))):=by
  intro pins s σ H xs us Q I r h
  obtain⟨p,ys,rfl,h⟩:=h
  obtain⟨u,rfl,rx⟩:=vals1 r
  cases rx
  rcases h with ⟨hq,q⟩ | ⟨hq,q⟩
  · obtain⟨its,r',pl,hz⟩:=I.list hq
    have hlen:=r'.length
    refine call_tuple_list pl.isList (fun h' kp=>?_) (by simp only [List.size_toArray] <;> omega)
    have I1:Inv X pins σ H { s with heap:=h' }:=I.kept (t':=s.toks) kp
    have I2:Inv X pins σ (upd H h'.objs.size (.tup ys)) { s with heap:=h'.push { cls:=.type "tuple",data:=.seq its.toArray } } :=
      I1.laid (t':=s.toks) (fun b o e=>Heap.get?_push_of_some _ e) (Nat.le_refl _) (show xA X.prog X.w _ _ _ (.tup ys) from⟨hz,its,r',IsTup.new _ _⟩)
    exact⟨.ref h'.objs.size,_,I2,rfl,q _ (I1.hok.fresh (Nat.le_refl _))⟩
  · obtain⟨its,r',pl,hz⟩:=I.tuple hq
    exact call_tuple_same pl ⟨.ref p,H,I,rfl,q⟩
def tyV(K:PySem.W.Frag)(T:String)(x:V)(H:Hp):Prop:=match x with
  | .str _=>T = "str"
  | .int _=>T = "int"
  | .ref p=>(T = "list" ∧ ∃ xs,SqL K H p xs)∨(T = "tuple" ∧ ∃ o,K.lookup p=some o∧o.cls=.type "tuple" ∧ o.dict=none) ∨
      (T = "dict" ∧ ((∃ kvs,H p=some (.dK kvs))∨∃ kvs,H p=some (.dT kvs)))∨(T = "set" ∧ ∃ S n,H p=some (.set S n))
  | _=>False
theorem zhS{pins:List (Addr×Obj)}{σ:St}{H:Hp}{s:Shared}{T:String}{x:V}{v:Value}(I:Inv X pins σ H s)(r:RelV x v)(ty:tyV X.K T x H) :
    s.TypeIs v T∧∀ a,v=.ref a→∃ ob,s.heap.get? a=some ob∧ob.dict=none:=by
  cases x with
  | str z =>
    obtain⟨t,rfl⟩:=r
    cases (show T = "str" from ty)
    exact⟨typeIs_str s z t,fun _ e=>nomatch e⟩
  | int i =>
    obtain⟨t,rfl⟩:=r
    cases (show T = "int" from ty)
    exact⟨typeIs_int s i t,fun _ e=>nomatch e⟩
  | ref p =>
    cases r
    rcases ty with ⟨rfl,xs,hq⟩ | ⟨rfl,o,hk,hc,hd⟩ | ⟨rfl,hk⟩ | ⟨rfl,S,n,hk⟩
    · obtain⟨its,_,pl,_⟩:=I.list hq
      refine⟨pl.isList.typeIs,fun a e=>?_⟩
      cases e
      obtain⟨o,n,e,c,hd,_⟩:=pl
      exact⟨o,e,hd⟩
    · refine⟨⟨o,I.kIn p o hk,hc⟩,fun a e=>?_⟩
      cases e
      exact⟨o,I.kIn _ o hk,hd⟩
    · have z:∃ o,s.heap.get? p=some o∧o.ExactDict:=by
        rcases hk with ⟨kvs,hk⟩ | ⟨kvs,hk⟩
        · obtain⟨_,_,_,_,o,_,_,e,ex,_⟩:=I.hok p _ hk
          exact⟨o,e,ex⟩
        · obtain⟨_,_,_,_,o,_,_,e,ex,_⟩:=I.hok p _ hk
          exact⟨o,e,ex⟩
      obtain⟨o,e,ex⟩:=z
      refine⟨⟨o,e,ex.1⟩,fun a e2=>?_⟩
      cases e2
      exact⟨o,e,ex.2.1⟩
    · obtain⟨o,_,_,_,e,ex,_⟩:=I.hok p _ hk
      refine⟨⟨o,e,ex.1⟩,fun a e2=>?_⟩
      cases e2
      exact⟨o,e,ex.2.1⟩
  | _=>exact False.elim ty
def znE(K:PySem.W.Frag)(T:String)(r:V→List V→Hp→VK→Prop)(to:TE):TE:=fun σ H Q=>to σ H fun x H1=>tyV K T x H1∧r x [] H1 Q
def tBM(K:PySem.W.Frag)(T:String)(r:V→List V→Hp→VK→Prop)(to:TE)(t:TA):TE:=fun σ H Q=>to σ H fun x H1=>tyV K T x H1∧t σ H1 fun xs H2=>r x xs H2 Q
variable {o e:Expr}{es:List Expr}{to:TE}{t:TA}{name:Str}{apos cpos:Pos}{T id:String}{r:V→List V→Hp→VK→Prop}
theorem zlg (pa:PlainAttrs T) (slot:Slot T name id) (hty:typeOf (.builtin id)=pure (.type "method_descriptor")) (hm:MtR X id r) (ho:PE X o to)
    (hbase:attributeBase o name X.env (eval o X.env)=eval o X.env:=by rfl) (hline:(apos.endLine == cpos.line)=true:=by rfl):PE X (.Call (.Attribute o name apos) [] [] cpos) (znE X.K T r to):=by
  intro pins s σ H Q I h
  refine wpAny_Call_method0_late hbase hline (thn (ho pins s σ H _ I h) fun v s1 ⟨x,H1,I1,r1,ty,q1⟩=>?_)
  obtain⟨h1,h2⟩:=zhS I1 r1 ty
  exact⟨T,id,pa,slot,hty,h1,h2,Calls.callWith_builtin rfl (PySem.evalArgs_none (hm pins s1 σ H1 x [] v [] Q I1 r1 .nil q1))⟩
theorem zbz (pa:PlainAttrs T) (slot:Slot T name id) (hty:typeOf (.builtin id)=pure (.type "method_descriptor")) (hm:MtR X id r) (ho:PE X o to) (ha:PA X (e::es) t)
    (hbase:attributeBase o name X.env (eval o X.env)=eval o X.env:=by rfl)
    (hfew:((backTo cpos (starEach (e::es) X.env)).all (fun x=>!x.1) && (backToKw cpos (keywordEach [] X.env)).all (fun x=>x.1.isSome)
      && decide ((e::es).length+([]:List Keyword).length+(if ([]:List Keyword).isEmpty then 0 else 1) < 30))=true:=by rfl)
    (hline:(apos.endLine == cpos.line)=true:=by rfl) (hs:starEach (e::es) X.env=(false,eval e X.env)::starEach es X.env:=by rfl) (hplain:(backTo cpos (starEach es X.env)).any (·.1)=false:=by rfl) :
    PE X (.Call (.Attribute o name apos) (e::es) [] cpos) (tBM X.K T r to t):=by
  intro pins s σ H Q I h
  refine wpAny_Call_method_late hbase hfew hline rfl (thn (ho pins s σ H _ I h) fun v s1 ⟨x,H1,I1,r1,ty,q1⟩=>?_)
  obtain⟨h1,h2⟩:=zhS I1 r1 ty
  refine⟨T,id,pa,slot,hty,h1,h2,?_⟩
  have hA:=ha cpos pins s1 σ H1 _ I1 q1
  rw [hs] at hA ⊢
  refine Calls.callWith_builtin (by show (false || (backTo cpos (starEach es X.env)).any (·.1))=false;rw [hplain] <;> rfl) (Calls.evalArgs_plain ?_)
  exact thn hA fun us s2 ⟨vs,H2,I2,r2,q2⟩=>hm pins s2 σ H2 x vs v us Q I2 r1 r2 q2
/- xs.append(e),list.index on a module's tuple .. are MtR facts of 06m -/
end
end L2
namespace L2
open PySem PySem.Spec PyProof.Rows
def MtM(X:Cx)(id:String)(r:V→List V→Hp→VK→Prop):Prop :=
  ∀ (pins:List (Addr×Obj)) (s:Shared) (σ:St) (H:Hp) (x:V) (xs:List V) (v:Value) (us:List Value) (Q:VK),Inv X pins σ H s→RelV x v→Vals xs us→r x xs H Q →
    wpAny (model X.prog X.w) X.A (call (.builtin id) (v::us)) (EP X pins σ Q) X.xe s
theorem Vals.one:∀ {x:V} {us:List Value},Vals [x] us→∃ u,us=[u]∧RelV x u
  | _,_,.cons r .nil=>⟨_,rfl,r⟩
theorem Vals.zero:∀ {us:List Value},Vals [] us→us=[]
  | _,.nil=>rfl
theorem Vals.dropLast{xs:List V}{us:List Value}(h:Vals xs us):Vals xs.dropLast us.dropLast:=by
  induction h with
  | nil=>exact .nil
  | cons r t ih =>
    cases t with
    | nil=>exact .nil
    | cons q t'=>exact .cons r ih
theorem Vals.rep{xs:List V}{us:List Value}(h:Vals xs us):∀ k:Nat,Vals (List.replicate k xs).flatten (List.replicate k us).flatten
  | 0=>.nil
  | k+1=>by
    rw [List.replicate_succ,List.replicate_succ,List.flatten_cons,List.flatten_cons]
    exact Vals.append h (Vals.rep h k)
theorem zcT{α:Type}(l:List α):l.eraseIdx (l.length - 1)=l.dropLast:=by
  induction l with
  | nil=>rfl
  | cons a r ih =>
    cases r with
    | nil=>rfl
    | cons b r =>
      have e:(a::b::r).length - 1=((b::r).length - 1)+1:=by
        have h1:(a::b::r).length=r.length+2:=rfl
        have h2:(b::r).length=r.length+1:=rfl
        omega
      rw [e,List.eraseIdx_cons_succ,ih]
      all_goals rfl
theorem foldl_rep(its:List Value):∀ (k:Nat) (acc:List Value),
    List.foldl (fun x1 x2=>x1++x2) acc.toArray (List.replicate k its.toArray)=(acc++(List.replicate k its).flatten).toArray
  | 0,acc=>by simp
  | k+1,acc=>by
    have e:acc.toArray++its.toArray=(acc++its).toArray:=by simp
    have e2:(acc++its)++(List.replicate k its).flatten=acc++(List.replicate (k+1) its).flatten:=by
      rw [List.replicate_succ,List.flatten_cons,List.append_assoc]
    rw [← e2,← foldl_rep its k (acc++its),← e,List.replicate_succ,List.foldl_cons]
section
variable {X:Cx}{pins:List (Addr×Obj)}{σ:St}{H:Hp}{s:Shared}{l b:Addr}{xs ys zs:List V}
theorem Inv.lset{its its':List Value}{n:Nat}{f:Array Value→Array Value}{t':Nat}(I:Inv X pins σ H s)(hH:H l=some (.lst xs))
    (e:s.heap.get? l=some { cls:=.type "list",data:=.seq its.toArray n }) (hf:f its.toArray=its'.toArray) (hv:Vals ys its') (hz:ys.length≤sizeLine) :
    Inv X pins σ (upd H l (.lst ys)) { s with heap:=s.heap.update l (Obj.mapSeq f),toks:=t' }:=by
  have q:=PySem.IsL.update e f
  rw [hf] at q
  refine I.write (x:=l) (e:=l) (by rw [hH];exact trivial) (.inl rfl) (fun b' u hb hu=>(Heap.get?_update_other s.heap (Obj.mapSeq f) (Ne.symm hb)).trans hu) ⟨_,q⟩ ?_
  exact⟨hz,its',_,hv,q⟩
theorem Inv.lnew{its:List Value}{t':Nat}(I:Inv X pins σ H s)(hv:Vals ys its)(hz:ys.length≤sizeLine) :
    Inv X pins σ (upd H s.heap.objs.size (.lst ys)) { s with heap:=s.heap.push { cls:=.type "list",data:=.seq its.toArray },toks:=t' } :=
  I.laid (fun _ _ q=>Heap.get?_push_of_some _ q) (Nat.le_refl _) ⟨hz,its,0,hv,Heap.get?_push_size _ rfl⟩
theorem Inv.fresh(I:Inv X pins σ H s):H s.heap.objs.size=none:=I.hok.fresh (Nat.le_refl _)
theorem Inv.lstM(I:Inv X pins σ H s)(hH:H l=some (.lst xs)):xs.length≤sizeLine∧∃ (its:List Value) (n:Nat),Vals xs its∧xs.length=its.length∧s.heap.get? l=some { cls:=.type "list",data:=.seq its.toArray n }:=by
  obtain⟨z,its,n,r,e⟩:=I.hok l _ hH
  exact⟨z,its,n,r,r.length,e⟩
theorem zcn{n:Nat}(h:n≤sizeLine):Builtin.List.listTooLong n=false:=by
  unfold Builtin.List.listTooLong
  exact decide_eq_false (by omega)
end
section
variable {X:Cx}
def zbC:V→List V→Hp→VK→Prop:=fun x vs H Q=>∃ l xs y,x=.ref l∧vs=[y]∧H l=some (.lst xs)∧xs.length < sizeLine∧Q .non (upd H l (.lst (xs++[y])))
theorem xD:MtM X "list.append" zbC:=by
  intro pins s σ H x vs v us Q I rx rv h
  obtain⟨l,xs,y,rfl,rfl,hH,hz,q⟩:=h
  cases rx
  obtain⟨u,rfl,ru⟩:=rv.one
  obtain⟨z,its,n,r,hl,e⟩:=I.lstM hH
  refine call_meets F.slot_list_append ⟨_,e,rfl⟩ F.entry_list_append (F.args_list_append_2 _ _) (PySem.list_append l its.toArray n u (by rw [List.size_toArray];omega)) ⟨e,?_⟩
  refine⟨.non,_,I.lset (its':=its++[u]) hH e (by simp) (r.append (.cons ru .nil)) ?_,rfl,q⟩
  rw [List.length_append,List.length_singleton]
  omega
def zjk:V→List V→Hp→VK→Prop:=fun x vs H Q=>∃ l b xs zs,x=.ref l∧vs=[.ref b]∧H l=some (.lst xs)∧H b=some (.lst zs)∧xs.length+zs.length≤sizeLine∧Q .non (upd H l (.lst (xs++zs)))
theorem zk3:MtM X "list.extend" zjk:=by
  intro pins s σ H x vs v us Q I rx rv h
  obtain⟨l,b,xs,zs,rfl,rfl,hH,hB,hz,q⟩:=h
  cases rx
  obtain⟨u,rfl,ru⟩:=rv.one
  cases ru
  obtain⟨z,its,n,r,hl,e⟩:=I.lstM hH
  obtain⟨z2,its2,n2,r2,hl2,e2⟩:=I.lstM hB
  have hsz:its.toArray.size+its2.toArray.size≤sizeLine:=by rw [List.size_toArray,List.size_toArray];omega
  have hlong:¬ (!its.toArray.isEmpty && Builtin.List.listTooLong (its.toArray.size+its2.toArray.size))=true:=by
    rw [zcn hsz,Bool.and_false]
    exact Bool.false_ne_true
  refine call_meets F.slot_list_extend ⟨_,e,rfl⟩ F.entry_list_extend (F.args_list_extend_2 _ _)
    (AutoSeq1.list_extend_list_list_0 l its.toArray n b its2.toArray n2 hlong (by rw [List.size_toArray];omega) (by omega)) ⟨e,e2,?_⟩
  refine⟨.non,_,I.lset (its':=its++its2) hH e (by simp) (r.append r2) ?_,rfl,q⟩
  rw [List.length_append]
  omega
def zn0:V→List V→Hp→VK→Prop:=fun x vs H Q=>∃ l xs y,x=.ref l∧vs=[]∧H l=some (.lst xs)∧xs[xs.length - 1]?=some y∧Q y (upd H l (.lst xs.dropLast))
theorem znw:MtM X "list.pop" zn0:=by
  intro pins s σ H x vs v us Q I rx rv h
  obtain⟨l,xs,y,rfl,rfl,hH,hy,q⟩:=h
  cases rx
  have hus:=rv.zero
  subst hus
  obtain⟨z,its,n,r,hl,e⟩:=I.lstM hH
  obtain⟨u,hu,ru⟩:=r.get hy
  have hy':its.toArray[its.toArray.size - 1]?=some u:=by
    show its.toArray[its.length - 1]?=some u
    rw [← Array.getElem?_toList,← hl]
    exact hu
  refine call_meets F.slot_list_pop ⟨_,e,rfl⟩ F.entry_list_pop (F.args_list_pop_1 _) (MeetsSeq.list_pop_last l its.toArray n u hy' (by rw [List.size_toArray];omega)) ⟨e,?_⟩
  refine⟨y,_,I.lset (its':=its.dropLast) hH e ?_ r.dropLast ?_,ru,q⟩
  · show its.toArray.eraseIdxIfInBounds (its.toArray.size - 1)=its.dropLast.toArray
    rw [List.size_toArray,List.eraseIdxIfInBounds_toArray,zcT]
  · rw [List.length_dropLast]
    omega
def zhK:V→List V→Hp→VK→Prop:=fun x vs H Q=>∃ l xs,x=.ref l∧vs=[]∧H l=some (.lst xs)∧Q .non (upd H l (.lst []))
theorem zgp:MtM X "list.clear" zhK:=by
  intro pins s σ H x vs v us Q I rx rv h
  obtain⟨l,xs,rfl,rfl,hH,q⟩:=h
  cases rx
  have hus:=rv.zero
  subst hus
  obtain⟨z,its,n,r,hl,e⟩:=I.lstM hH
  refine call_meets F.slot_list_clear ⟨_,e,rfl⟩ F.entry_list_clear (F.args_list_clear_1 _) (AutoSeq1.list_clear_list_0 l its.toArray n (by rw [List.size_toArray];omega)) ⟨e,?_⟩
  exact⟨.non,_,I.lset (its':=[]) (ys:=[]) hH e rfl .nil (Nat.zero_le _),rfl,q⟩
def znz:R2:=fun x y H Q=>∃ l b xs zs,x=.ref l∧y=.ref b∧H l=some (.lst xs)∧H b=some (.lst zs)∧xs.length+zs.length≤sizeLine∧∀ p,H p=none→Q (.ref p) (upd H p (.lst (xs++zs)))
theorem zk9:OpR X (binaryOp .Add) znz:=by
  intro pins s σ H x y v u Q I rx ry h
  obtain⟨l,b,xs,zs,rfl,rfl,hH,hB,hz,q⟩:=h
  cases rx
  cases ry
  obtain⟨z,its,n,r,hl,e⟩:=I.lstM hH
  obtain⟨z2,its2,n2,r2,hl2,e2⟩:=I.lstM hB
  refine PySem.P.add_list e e2 ?_ (by rw [List.size_toArray,List.size_toArray];omega)
  have ea:its.toArray++its2.toArray=(its++its2).toArray:=by simp
  rw [ea]
  exact⟨.ref _,_,I.lnew (t':=s.toks) (r.append r2) (by rw [List.length_append];omega),rfl,q _ I.fresh⟩
def znD:R2:=fun x y H Q=>∃ l k xs,x=.ref l∧y=.int k∧H l=some (.lst xs)∧-(2 ^ 63)≤k∧k < 2 ^ 63∧xs.length*k.toNat≤sizeLine ∧
  ∀ p,H p=none→Q (.ref p) (upd H p (.lst (List.replicate k.toNat xs).flatten))
theorem len_rep{α:Type}(xs:List α)(k:Nat):(List.replicate k xs).flatten.length=k*xs.length:=by
  induction k with
  | zero=>simp
  | succ k ih=>rw [List.replicate_succ,List.flatten_cons,List.length_append,ih,Nat.succ_mul,Nat.add_comm]
theorem zld:OpR X (binaryOp .Mult) znD:=by
  intro pins s σ H x y v u Q I rx ry h
  obtain⟨l,k,xs,rfl,rfl,hH,h1,h2,hz,q⟩:=h
  cases rx
  obtain⟨t,rfl⟩:=ry
  obtain⟨z,its,n,r,hl,e⟩:=I.lstM hH
  have hlen:its.toArray.size*k.toNat≤sizeLine:=by rw [List.size_toArray,← hl];exact hz
  have hcap:¬ its.toArray.size*k.toNat > (2 ^ 63 - 1) / 8:=by
    have:(sizeLine:Nat)≤(2 ^ 63 - 1) / 8:=by decide
    omega
  have hfit:¬ (!Builtin.List.listFitsIndex k)=true:=by
    rw [fitsIndex_both h1 h2]
    exact Bool.false_ne_true
  have hlong:¬ Builtin.List.listTooLong (its.toArray.size*k.toNat)=true:=by
    rw [zcn hlen]
    exact Bool.false_ne_true
  have hnew:List.foldl (fun x1 x2=>x1++x2) #[] (List.replicate (if its.toArray.isEmpty=true then 0 else k.toNat) its.toArray)=(List.replicate k.toNat its).flatten.toArray:=by
    have f0:∀ m:Nat,List.foldl (fun x1 x2=>x1++x2) #[] (List.replicate m its.toArray)=(List.replicate m its).flatten.toArray:=fun m=>by
      have:=foldl_rep its m []
      rw [List.nil_append] at this
      exact this
    rw [f0]
    cases its with
    | nil=>simp
    | cons a r'=>rw [if_neg (by simp)]
  refine wpAny_binaryOp_repeat_ref (T := "list") (U := "int") (by decide) ⟨_,e,rfl⟩ (fun s'=>typeIs_int s' k t) noFill_list_mul F.fills_int_mul F.slot_int_rmul repeat_list F.slot_int_index.lookup
    (call_meets F.slot_int_rmul (typeIs_int s k t) F.entry_int_rmul (F.args_int_rmul_2 _ _) (int___rmul___int_list k t l its.toArray n)
      ⟨e,rfl,⟨_,e,rfl⟩,call_meets F.slot_list_mul ⟨_,e,rfl⟩ F.entry_list_mul (F.args_list_mul_2 _ _) (AutoListH.list___mul___list_int_3 l its.toArray n k t hfit hcap hlong) ⟨e,?_⟩⟩)
  rw [hnew]
  exact⟨.ref _,_,I.lnew (t':=s.toks) (r.rep k.toNat) (by rw [len_rep,Nat.mul_comm];exact hz),rfl,q _ I.fresh⟩
end
end L2
namespace Att
open PySem PySem.W PySem.Calls PyProof.Rows
theorem kI{P:Params}{h:Heap}:∀ (ns:List Int) (vs:List Value),WellAll P h vs (ns.map WData.int)→IntsAre vs ns:=by
  intro ns
  induction ns with
  | nil =>
    intro vs w
    rw [List.map_nil] at w
    cases w
    exact .nil
  | cons n ns ih =>
    intro vs w
    rw [List.map_cons] at w
    cases w with
    | cons a b =>
      cases a
      exact .cons _ _ (ih _ b)
theorem zfe{l:OpenLaw}{n:Nat}(hn:l.most=some n){P:Params}{h:Heap}{args:List WData}{vals:List Value}
    (hpre:l.row.toRowW.claim.pre args=true) (hwl:WellAll P h vals args) :
    ∃ a vs ns,vals=[Value.ref a]∧args=[WData.list (ns.map WData.int)]∧h.get? a=some { cls:=.type "list",data:=.seq vs.toArray }∧IntsAre vs ns∧ns.length≤n:=by
  have hsh:WShape.hasAll [] args [.list .int]=true:=(pre_splitW hpre).1
  have hc:l.pre.holds [] { args:=args }=true:=(pre_splitW hpre).2
  obtain⟨d,r,rfl,h1,h2⟩:=hasAllW_cons hsh
  obtain rfl:=hasAllW_nil h2
  obtain⟨xs,rfl,h3⟩:=hasW_list h1
  obtain⟨ns,rfl⟩:=items_int h3
  have hlen:ns.length≤n:=by
    unfold OpenLaw.pre at hc
    have h4:(WTm.not (.lt (.lit (.int (n:Int))) (.len (.arg 0)))).holds [] { args:=[.list (ns.map .int)] }=true:=by
      have h4:=(holds_andW hc).1
      rw [hn] at h4
      exact h4
    have h5:=condW_of h4 (w_not (w_lt w_lit (w_len_list (w_arg rfl))))
    rw [List.length_map] at h5
    refine Nat.le_of_not_lt fun q=>?_
    have q':(n:Int) < ((ns.length:Nat):Int):=by omega
    first
      | (rw [decide_eq_true q'] at h5;exact absurd h5 (by decide))
      | (simp at h5;omega)
  cases hwl with
  | cons w1 w2 =>
    cases w2
    cases w1 with
    | list ho hall=>exact⟨_,_,ns,rfl,rfl,ho,kI ns _ hall,hlen⟩
theorem zeO(l:OpenLaw)(args:List WData):l.row.toRowW.claim.post args (.bool true) args=true :=
  postW_of (r:=l.row.toRowW) (X:=(true == true))
    (show WShape.has [] (.bool true) .bool=true by first | rfl | decide | simp [WShape.has,WShape.arms,WShape.armsAll])
    (show (WTm.eq .res (.lit (.bool true))).value [] { args:=args,res:=some (.bool true),after:=args }=some (.bool (true == true)) from w_eq_bool (w_res rfl) w_lit) rfl
theorem za7{l:OpenLaw}{n:Nat}{q:Program}{loose:List Str}{XP:(Str→Option Value)→Heap→Prop}{YP:World→Heap→Prop}{d:DefRec}
    (hn:l.most=some n) (hdf:d.params.defaults=[])
    (call:∀ (w:World) (s₀ s₁:Shared) (mg mb:Str→Option Value) (fa:Addr) (o:Obj) (pm cd doc:Value) (a:Addr) (vs:List Value) (ns:List Int),
      Ground q loose [] XP w s₀ mg mb s₁.heap→YP w s₁.heap →
      s₁.heap.get? fa=some o→o.data=.func (docDef d.name d.params d.body d.scope pm cd doc)→s₁.heap.CodeRec cd d.name→mg d.name=some (.ref fa) →
      s₁.heap.get? a=some { cls:=.type "list",data:=.seq vs.toArray }→IntsAre vs ns→ns.length≤n→s₁.gens=#[] →
      codeAny (model l.prog w) callerA (.call (.ref fa) ⟨[.ref a],[]⟩) (fun r s'=>r=.ok (.ret (.bool true))∧OldK s₁.heap s'.heap∧s'.os=s₁.os∧AllBare s'.gens) s₁) :
    WalkO q loose XP YP l.row.toRowW d [] (fun f vs=>PySem.call f vs):=by
  intro w s₀ s₁ mg mb G Y fa o pm cd doc dV kV ho hd hcd hD hmg hg args vals as hpre hlay hrd hwl hlo
  obtain rfl:dV=.none:=Dflts.none hD hdf
  obtain rfl:kV=.none:=Dflts.noKw hD
  obtain⟨a,vs,ns,rfl,rfl,hobj,hints,hlen⟩:=zfe hn hpre hwl
  refine enter_call (codeAny_mono (call w s₀ s₁ mg mb fa o pm cd doc a vs ns G Y ho (fd_plain hd) hcd hmg hobj hints hlen hg) fun r s' hq=>?_)
  obtain⟨rfl,h2,h3,h4⟩:=hq
  exact⟨.inl ⟨.bool true,.bool true,[],rfl,fun _=>rfl,.bool true,zeO l _,fun _=>⟨List.Pairwise.nil,fun _ hm=>(nomatch hm)⟩⟩,h2,h3,h4⟩
end Att
namespace L2
open PySem PySem.Spec PyProof.Rows
theorem yt:∀ {vs:List Value} {ns:List Int},IntsAre vs ns→Vals (ns.map V.int) vs
  | _,_,.nil=>.nil
  | _,_,.cons n t h=>.cons ⟨t,rfl⟩ (yt h)
def zl9(H:Hp):Prop:=∀ b,H b=none∨∃ o xs,H b=some (.frz o (.lst xs))
theorem zgk{P:Program}{w:World}{K:PySem.W.Frag}{mg mb:Str→Option Value}{CX:CXT}{k:Nat}{fa a:Addr}{fd:FuncData}{x:Str}{sp:Sp}{s₁:Shared}{vs:List Value}{ns:List Int}
    (KX:K.In s₁.heap) (hns:s₁.heap.Ns mainGlobals mg) (hb:s₁.heap.Ns builtinsNs mb) (hbb:∀ x:Str,x ≠ "__name__" → mb x=bootBuiltins x) (hlim:s₁.heap.NoLimit) (hg:s₁.gens=#[])
    (ha:s₁.heap.get? a=some { cls:=.type "list",data:=.seq vs.toArray }) (hi:IntsAre vs ns) (hl:ns.length≤sizeLine) (hr:ji k callerA)
    (F:∀ base:Heap,K.In base→base.Ns mainGlobals mg→qr P w K mg base CX k fa fd [x] sp) (hbind:∀ (s:Shared) (u:Value),BindsTo s fd ⟨[u],[]⟩ [(x,u)])
    (hsp:∀ H:Hp,zl9 H→SqL K H a (ns.map V.int)→sp [.ref a] H (fun v _=>v=.bl true) fun _ _ _=>False)
    (hCX:∀ H e s',CX [] H s₁ (fun _ _ _=>False) e s'→False) :
    codeAny (model P w) callerA (.call (.ref fa) ⟨[.ref a],[]⟩) (fun r s'=>r=.ok (.ret (.bool true))∧OldK s₁.heap s'.heap∧s'.os=s₁.os∧AllBare s'.gens) s₁:=by
  have rv:=yt hi
  have lenV:=hi.length
  have core:∀ H:Hp,zl9 H→SqL K H a (ns.map V.int)→HOk P w H s₁.heap→(∀ b,H b≠none→b=a)→(H a≠none→K.lookup a=none) →
      codeAny (model P w) callerA (.call (.ref fa) ⟨[.ref a],[]⟩) (fun r s'=>r=.ok (.ret (.bool true))∧OldK s₁.heap s'.heap∧s'.os=s₁.os∧AllBare s'.gens) s₁:=by
    intro H hO hS hok hA hK
    have base_of:∀ {b:Addr} {o:Obj},s₁.heap.get? b=some o→H b=none→(zgd s₁.heap H).get? b=some o:=fun e n=>zge e n
    have noA:∀ {b:Addr} {o:Obj} {es:Array DictEntry} {ep:Nat},s₁.heap.get? b=some o→o.data=.dict es ep→H b=none:=fun {b o es ep} e d=>by
      cases q:H b with
      | none=>rfl
      | some u =>
        have e':b=a:=hA b (by rw [q];simp)
        subst e'
        rw [ha] at e;cases e
        have d':Data.seq vs.toArray _=Data.dict es ep:=d
        cases d'
    have nsK:∀ {b:Addr} {m:Str→Option Value},s₁.heap.Ns b m→(zgd s₁.heap H).Ns b m:=fun {b m} ⟨o,es,ep,e,d,r⟩=>⟨o,es,ep,base_of e (noA e d),d,r⟩
    have hKb:K.In (zgd s₁.heap H):=fun b o e=>base_of (KX b o e) (by
      cases q:H b with
      | none=>rfl
      | some u =>
        have e':b=a:=hA b (by rw [q];simp)
        subst e'
        rw [hK (by rw [q];simp)] at e;cases e)
    have hM:Mod K mg (zgd s₁.heap H):=⟨hKb,nsK hns,⟨mb,nsK hb,hbb⟩,let ⟨mc,h1,h2⟩:=hlim;⟨mc,nsK h1,h2⟩⟩
    have e0:zhW P w K mg (zgd s₁.heap H) callerA [] s₁ H:=⟨rfl,hM,fun b o e=>ziQ e,Nat.le_of_eq (zea _ _),trivial,fun b hb=>absurd (show b∈([]:List Addr) from hb) (by simp),hok,.of_eq hg⟩
    refine codeAny_mono ((F _ hKb (nsK hns)).run callerA [] s₁ H ⟨[.ref a],[]⟩ [.ref a] [.ref a] _ _ hr e0 (hbind s₁ (.ref a)) (.cons rfl .nil) (hsp H hO hS)) fun r s' h=>?_
    cases r with
    | error e=>exact (hCX H e s' h).elim
    | ok fl =>
      cases fl with
      | next=>exact False.elim h
      | brk=>exact False.elim h
      | cont=>exact False.elim h
      | ret u =>
        obtain⟨v,H',os,bare,un,hok',r',q⟩:=h
        have q':v=.bl true:=q
        subst q'
        obtain rfl:u=Value.bool true:=r'
        refine⟨rfl,OldK.of_keep fun b o e=>?_,os,bare⟩
        cases q:H b with
        | none=>exact un.keep b o e q (by intro z;exact absurd (show b∈([]:List Addr) from z) (by simp)) (by simp)
        | some u =>
          rcases hO b with z | ⟨ob,xs,z⟩
          · rw [q] at z;cases z
          · have z2:=un.frzs b ob _ z
            obtain⟨e1,_⟩:=hok b _ z
            obtain⟨e2,_⟩:=hok' b _ z2
            rw [e] at e1;cases e1
            exact e2
  cases hk:K.lookup a with
  | some o =>
    have e:=KX a o hk
    rw [ha] at e
    cases e
    refine core (fun _=>none) (fun _=>.inl rfl) (.inr ⟨_,vs.toArray,_,hk,rfl,rfl,rfl,by rw [List.size_toArray,lenV];exact hl,by simpa using rv⟩) (fun b u z=>by have z':(none:Option HO)=some u:=z;cases z') (fun b z=>absurd rfl z) fun z=>absurd rfl z
  | none =>
    refine core (fun b=>if b=a then some (.frz { cls:=.type "list",data:=.seq vs.toArray } (.lst (ns.map V.int))) else none) (fun b=>?_) (.inl (.inr ⟨{ cls:=.type "list",data:=.seq vs.toArray },if_pos rfl⟩)) (fun b u z=>?_) (fun b z=>?_) fun _=>hk
    · by_cases hb:b=a
      · exact .inr ⟨_,_,if_pos hb⟩
      · exact .inl (if_neg hb)
    · by_cases hb:b=a
      · have z':=(if_pos hb).symm.trans z
        cases z'
        subst hb
        exact⟨ha,by rw [List.length_map];exact hl,vs,_,rv,ha⟩
      · have z':=(if_neg hb).symm.trans z
        cases z'
    · by_cases hb:b=a
      · exact hb
      · exact absurd (if_neg hb) z
end L2
namespace L2
open PySem PySem.Spec PyProof.Rows
theorem zfF{l:PySem.W.OpenLaw}{n k:Nat}{q:Program}{loose:List Str}{XP:(Str→Option Value)→Heap→Prop}{YP:World→Heap→Prop}{d:DefRec}{K:Params→PySem.W.Frag}{CX:World→CXT}{sp:World→Sp}{x:Str}
    (hn:l.most=some n) (hn2:n≤sizeLine) (hdf:d.params.defaults=[]) (hr:ji k callerA)
    (hY:∀ (w:World) (h:Heap),YP w h→(K w.params).In h)
    (F:∀ (w:World) (mg:Str→Option Value) (fa:Addr) (h:Heap),(K w.params).In h→h.Ns mainGlobals mg→mg d.name=some (.ref fa) →
      ∃ fd:FuncData,(∀ (s:Shared) (u:Value),BindsTo s fd ⟨[u],[]⟩ [(x,u)]) ∧
        ∀ base:Heap,(K w.params).In base→base.Ns mainGlobals mg→qr l.prog w (K w.params) mg base (CX w) k fa fd [x] (sp w))
    (hsp:∀ (w:World) (H:Hp) (a:Addr) (ns:List Int),ns.length≤n→zl9 H→SqL (K w.params) H a (ns.map V.int)→sp w [.ref a] H (fun v _=>v=.bl true) fun _ _ _=>False)
    (hCX:∀ (w:World) (H:Hp) (s:Shared) (e:Value) (s':Shared),CX w [] H s (fun _ _ _=>False) e s'→False) :
    PySem.W.WalkO q loose XP YP l.row.toRowW d [] (fun f vs=>PySem.call f vs):=by
  refine Att.za7 hn hdf fun w s₀ s₁ mg mb fa o pm cd doc a vs ns G Y ho hd hcd hmg hobj hints hlen hg=>?_
  have KX:=hY w _ Y
  obtain⟨fd,hb,hF⟩:=F w mg fa _ KX G.T.g hmg
  exact zgk KX G.T.g G.T.b G.T.builtins G.T.nolimit hg hobj hints (Nat.le_trans hlen hn2) hr hF hb (fun H hO hS=>hsp w H a ns hlen hO hS) fun H e s'=>hCX w H s₁ e s'
end L2
/- THE LAST THEOREM (shape;LID,My.* are yours):
   My.Adr: a structure of the addresses that your layer names (classes,functions);My.Txt K t: a structure (Prop) of the equations over K;
   My.txt_mk:{K} {implicit addresses ..} (e1:nsIn K mainGlobals "law" = some (some (.ref f))) (e2:K.lookup f=some ⟨oc,od,.func (fnOf "law" "law" params body scope dV kV doc pm an cdv ct),sl⟩) (e3:codeIn K cdv "law" = true) ..:∃ t,My.Txt K t
set_option maxRecDepth 100000 in
set_option maxHeartbeats 0 in
theorem PySem.Challenge.cw_LID_holds:PySem.Challenge.rw_LID.Holds:=by
  w_on;o_law;k_head;(case hw=>w_witness2)
  k_fill
  refine L2.zfF (l:=PySem.Challenge.rw_LID) (n:=63) (k:=40) (x := "script") (CX:=fun w=>..) (sp:=fun _=>My.sp_law) rfl (by decide) rfl ⟨rfl,by decide,by decide⟩ (fun w h Y=>PySem.W.kIn_of Y) ?F ?S ?C
  case F =>
    intro w mg fa h KX G hmg
    have T:∃ t,My.Txt (L2.KOf KX) t:=by
      dsimp only [L2.KOf]                          -- K must stand as «<heap const> w.params» for k_is
      refine' My.txt_mk ?e1 ?e2 ?e3 ..
      (case e1=>PySem.W.k_is)                    -- in the order: a name -> its address -> its object -> its parts
      (case e2=>PySem.W.k_is)
      ..
    obtain⟨t,T⟩:=T
    have e0:=hmg.symm.trans (PySem.W.mg_of KX G T.law)
    cases e0                                       -- fa is the law's own address
    exact⟨_,fun s u=>.of_eq rfl,fun base kb nb=>My.law_fn T kb nb⟩     -- if «.of_eq rfl» comes too early: refine' ⟨_,?b,fun base kb nb=>My.law_fn T kb nb⟩;exact fun s u=>.of_eq rfl
  case S=>exact fun w H a ns hl hO hS=>..
  case C=>exact ..
(the tactic k_is has no namespace: write k_is) -/
namespace L2
open PySem PySem.Spec PyProof.Rows
def inClass(s:Stmt)(j:Nat):Stmt:=match s with
  | .ClassDef _ _ _ body _ _ _ _ _ _ _=>body.getD j (.Pass ⟨0,0,0,0⟩)
  | _=>.Pass ⟨0,0,0,0⟩
def zo(s:Stmt):Arguments:=match s with
  | .FunctionDef _ a _ _ _ _ _ _ _ _=>a
  | _=>{ posonlyargs:=[],args:=[],vararg:=none,kwonlyargs:=[],kw_defaults:=[],kwarg:=none,defaults:=[] }
def zm(s:Stmt):List Stmt:=match s with
  | .FunctionDef _ _ b _ _ _ _ _ _ _=>b
  | _=>[]
def zc(s:Stmt):Scope:=match s with
  | .FunctionDef _ _ _ _ _ _ sc _ _ _=>sc
  | _=>{ kind:=.function,names:=[],isGenerator:=false,isCoroutine:=false }
abbrev CX0:CXT:=fun _ _ _ _ _ _=>False
abbrev E0:XK:=fun _ _ _=>False
theorem zeG{X:Cx}:Passes CX0 X E0:=fun _ _ _ _ _ _ _ h=>h.elim
structure Fun(K:PySem.W.Frag)(x qual:Str)(st:Stmt)(f:Addr)(fd:FuncData):Prop where
  ex:∃ (oc:Value) (od:Option Addr) (kV doc pm:Value) (an:Option Addr) (cdv ct:Value) (osl:Array (Option Value)),
    fd=PySem.W.fnOf x qual (zo st) (zm st) (zc st) .none kV doc pm an cdv ct∧K.lookup f=some ⟨oc,od,.func fd,osl⟩∧PySem.W.codeIn K cdv qual=true
  kp:PySem.W.keepIn K (.ref f)=true
section
variable {P:Program}{w:World}{K:PySem.W.Frag}{mg:Str→Option Value}{base:Heap}
theorem Fun.ok{x qual:Str}{st:Stmt}{f:Addr}{fd:FuncData}{N ps:List Str}{k:Nat}{sp:Sp}(F:Fun K x qual st f fd)(S:FnScope N ps (zc st))(len:∀ vs H Q E,sp vs H Q E→vs.length=ps.length)
    (hbody:∀ (cdv:Value) (A:Around) (outer:List Env) (s:Shared) (H:Hp) (vs:List V) (Q:VK) (E:XK),ji k (A.deeper (envOfC qual (zc st) s.heap.objs.size f cdv))→sp vs H Q E →
      ∃ t,PSs (zdI CX0 P w K mg base N qual (zc st) f cdv A outer s H E).nox (zm st) t∧t { nx:=fun _ H'=>Q .non H',rt:=Q } (start N vs) H):qr P w K mg base CX0 (k+1) f fd ps sp:=by
  obtain⟨oc,od,kV,doc,pm,an,cdv,ct,osl,rfl,lk,hcd⟩:=F.ex
  refine zmi lk hcd S len fun A outer s H vs Q E hr hsp=>?_
  obtain⟨t,h,q⟩:=hbody cdv A outer s H vs Q E hr hsp
  exact⟨t,h.nox,q⟩
theorem Fun.binds{x qual:Str}{st:Stmt}{f:Addr}{fd:FuncData}{ps:List Str}(F:Fun K x qual st f fd)
    (h:∀ (kV doc pm:Value) (an:Option Addr) (cdv ct:Value) (us:List Value),us.length=ps.length→bindArgs (PySem.W.fnOf x qual (zo st) (zm st) (zc st) .none kV doc pm an cdv ct) ⟨us,[]⟩=pure (ps.zip us)):Binds K fd ps []:=by
  obtain⟨oc,od,kV,doc,pm,an,cdv,ct,osl,rfl,lk,hcd⟩:=F.ex
  exact .all (h kV doc pm an cdv ct)
theorem zz{x qual:Str}{st:Stmt}{f:Addr}{oc:Value}{od an:Option Addr}{osl:Array (Option Value)}{kV doc pm cdv ct:Value}(l:K.lookup f=some ⟨oc,od,.func (PySem.W.fnOf x qual (zo st) (zm st) (zc st) .none kV doc pm an cdv ct),osl⟩)
    (c:PySem.W.codeIn K cdv qual=true) (k:PySem.W.keepIn K (.ref f)=true):Fun K x qual st f (PySem.W.fnOf x qual (zo st) (zm st) (zc st) .none kV doc pm an cdv ct):=⟨⟨oc,od,kV,doc,pm,an,cdv,ct,osl,rfl,l,c⟩,k⟩
end
section
variable {X:Cx}
theorem pv(i:Nat){x:Str}{pos:Pos}(hN:X.N[i]?=some x:=by rfl)(hv:Vis X.env.scope x:=by first | exact Or.inl rfl | exact Or.inr (Or.inl rfl) | exact Or.inr (Or.inr rfl))(hd:(x == ("__debug__" : Str))=false:=by decide)
    (hcd:(x == ("__classdict__" : Str))=false:=by decide):PE X (.Name x pos) (zfM i):=zlm hN hv hd hcd
end
theorem iteF{A B:Prop}(h:B):if false=true then A else B:=by
  rw [if_neg Bool.false_ne_true]
  exact h
theorem zmr{A B:Prop}(h:A):if true=true then A else B:=by
  rw [if_pos rfl]
  exact h
theorem j9{c A B:Prop}[Decidable c](h1:c→A)(h2:¬ c→B):if c then A else B:=by
  by_cases h:c
  · rw [if_pos h]
    exact h1 h
  · rw [if_neg h]
    exact h2 h
def Same(H H':Hp):Prop:=∀ b o,H b=some o→H' b=some o
theorem Same.refl(H:Hp):Same H H:=fun _ _ h=>h
theorem Same.trans{H H1 H2:Hp}(a:Same H H1)(b:Same H1 H2):Same H H2:=fun c o h=>b c o (a c o h)
theorem Same.free{H H':Hp}(e:Same H H'){l:Addr}(h:H' l=Option.none):H l=Option.none:=by
  cases q:H l with
  | none=>rfl
  | some o =>
    rw [e l o q] at h
    cases h
theorem Same.seq{K:PySem.W.Frag}{H H':Hp}{a:Addr}{xs:List V}(e:Same H H')(h:SqL K H a xs):SqL K H' a xs:=by
  rcases h with (h | ⟨o,h⟩) | h
  · exact .inl (.inl (e _ _ h))
  · exact .inl (.inr ⟨o,e _ _ h⟩)
  · exact .inr h
end L2
set_option maxHeartbeats 4000000
namespace GS
open PySem
def Inc(l:List Nat):Prop:=l.Pairwise (· < ·)
theorem wu{l:List Nat}(h:Inc l){i j:Nat}{x y:Nat}(hi:l[i]?=some x)(hj:l[j]?=some y)(hij:i < j):x < y:=by
  obtain⟨h1,e1⟩:=List.getElem?_eq_some_iff.mp hi
  obtain⟨h2,e2⟩:=List.getElem?_eq_some_iff.mp hj
  have:=List.pairwise_iff_getElem.mp h i j h1 h2 hij
  rw [e1,e2] at this
  exact this
theorem y6{xs:Array Nat}{j:Nat}(h:Inc xs.toList):∀ (fuel lo hi:Nat),hi≤xs.size→lo≤hi→hi - lo≤fuel→(∀ i x,i < lo→xs.toList[i]?=some x→x < j)→(∀ i x,hi≤i→xs.toList[i]?=some x→j≤x) →
    ∃ k,SetTable.below.go xs j fuel lo hi=k∧k≤xs.size∧(∀ i x,i < k→xs.toList[i]?=some x→x < j)∧(∀ i x,k≤i→xs.toList[i]?=some x→j≤x)
  | 0,lo,hi,hz,hl,hf,a,b=>by
    have e:lo=hi:=by omega
    subst e
    exact⟨lo,rfl,hz,a,b⟩
  | fuel+1,lo,hi,hz,hl,hf,a,b=>by
    unfold SetTable.below.go
    by_cases hlt:lo < hi
    · rw [if_pos hlt]
      have hm:(lo+hi) / 2 < xs.size:=by omega
      have hg:xs.toList[(lo+hi) / 2]?=some (xs.getD ((lo+hi) / 2) j):=by
        rw [Array.getElem?_toList,Array.getD_eq_getD_getElem?,Array.getElem?_eq_getElem hm]
        rfl
      dsimp only
      by_cases hc:xs.getD ((lo+hi) / 2) j < j
      · rw [if_pos hc]
        refine y6 h fuel _ hi hz (by omega) (by omega) (fun i x hi' hx=>?_) b
        rcases Nat.lt_or_ge i ((lo+hi) / 2) with q | q
        · exact Nat.lt_trans (wu h hx hg q) hc
        · have e:i=(lo+hi) / 2:=by omega
          subst e
          rw [hg] at hx
          cases hx
          exact hc
      · rw [if_neg hc]
        refine y6 h fuel lo _ (by omega) (by omega) (by omega) a (fun i x hi' hx=>?_)
        rcases Nat.eq_or_lt_of_le hi' with q | q
        · subst q
          rw [hg] at hx
          cases hx
          omega
        · have:=wu h hg hx q
          omega
    · rw [if_neg hlt]
      have e:lo=hi:=by omega
      subst e
      exact⟨lo,rfl,hz,a,b⟩
theorem qV{xs:Array Nat}(j:Nat)(h:Inc xs.toList):SetTable.below xs j≤xs.size∧(∀ i x,i < SetTable.below xs j→xs.toList[i]?=some x→x < j)∧(∀ i x,SetTable.below xs j≤i→xs.toList[i]?=some x→j≤x):=by
  obtain⟨k,e,r⟩:=y6 (j:=j) h xs.size 0 xs.size (Nat.le_refl _) (Nat.zero_le _) (by omega) (fun i x hi=>absurd hi (Nat.not_lt_zero _)) (fun i x hi hx=>by
    have:=(List.getElem?_eq_some_iff.mp hx).1
    rw [Array.length_toList] at this
    omega)
  have e':SetTable.below xs j=k:=e
  rw [e']
  exact r
theorem za8{xs:Array Nat}{i j:Nat}(h:Inc xs.toList)(hi:xs.toList[i]?=some j):SetTable.below xs j=i:=by
  obtain⟨h1,h2,h3⟩:=qV j h
  rcases Nat.lt_trichotomy (SetTable.below xs j) i with q | q | q
  · -- the item at below is at least j,and less than the one at i
    have hb:SetTable.below xs j < xs.toList.length:=Nat.lt_trans q (List.getElem?_eq_some_iff.mp hi).1
    have hx:xs.toList[SetTable.below xs j]?=some xs.toList[SetTable.below xs j]:=List.getElem?_eq_getElem hb
    have:=h3 _ _ (Nat.le_refl _) hx
    have:=wu h hx hi q
    omega
  · exact q
  · have:=h2 i j q hi
    omega
theorem below_at{xs:Array Nat}{j x:Nat}(h:Inc xs.toList)(hx:xs[SetTable.below xs j]?=some x)(hj:j∉xs.toList):j < x:=by
  obtain⟨h1,h2,h3⟩:=qV j h
  have hx':xs.toList[SetTable.below xs j]?=some x:=by rw [Array.getElem?_toList];exact hx
  have:=h3 _ _ (Nat.le_refl _) hx'
  have:j≠x:=fun e=>hj (e ▸ List.mem_of_getElem? hx')
  omega
theorem xp{α:Type}(xs:Array α)(p:Nat)(x:α):(SetTable.insertAt xs p x).toList=xs.toList.take p++x::xs.toList.drop p:=by
  unfold SetTable.insertAt
  rw [Array.toList_append,Array.toList_push,Array.toList_extract,Array.toList_extract,List.append_assoc]
  simp [List.extract_eq_drop_take]
  exact List.take_of_length_le (by simp)
theorem zcW{xs:Array Nat}{j:Nat}(h:Inc xs.toList)(hj:j∉xs.toList):Inc (SetTable.insertAt xs (SetTable.below xs j) j).toList:=by
  obtain⟨h1,h2,h3⟩:=qV j h
  rw [xp]
  unfold Inc at *
  rw [List.pairwise_append]
  refine⟨h.sublist (List.take_sublist _ _),List.pairwise_cons.mpr ⟨fun y hy=>?_,h.sublist (List.drop_sublist _ _)⟩,fun a ha b hb=>?_⟩
  · obtain⟨i,hi⟩:=List.getElem?_of_mem hy
    rw [List.getElem?_drop] at hi
    have:=h3 _ _ (Nat.le_add_right _ _) hi
    have:j≠y:=fun e=>hj (e ▸ List.mem_of_getElem? hi)
    omega
  · obtain⟨i,hi⟩:=List.getElem?_of_mem ha
    have hi':i < SetTable.below xs j:=by
      have:=(List.getElem?_eq_some_iff.mp hi).1
      rw [List.length_take] at this
      omega
    rw [List.getElem?_take_of_lt hi'] at hi
    have h4:=h2 i a hi' hi
    rcases List.mem_cons.mp hb with e | e
    · rw [e];exact h4
    · obtain⟨k,hk⟩:=List.getElem?_of_mem e
      rw [List.getElem?_drop] at hk
      have:=h3 _ _ (Nat.le_add_right _ _) hk
      omega
def adv(mask:Nat)(p:SetTable.Probe):SetTable.Probe :=
  if p.more > 0 then { p with j:=p.j+1,more:=p.more - 1 } else
  { p with j:=(SetTable.leap mask p.i p.perturb).1,more:=SetTable.runEnd mask (SetTable.leap mask p.i p.perturb).1 - (SetTable.leap mask p.i p.perturb).1,i:=(SetTable.leap mask p.i p.perturb).1,perturb:=(SetTable.leap mask p.i p.perturb).2 }
theorem yI(t:SetTable)(p:SetTable.Probe):t.advance p=adv t.mask p:=rfl
theorem zdx(mask:Nat)(p:SetTable.Probe)(h:p.dummy=none):(adv mask p).dummy=none:=by
  unfold adv
  split <;> exact h
def zac(mask:Nat):Nat→SetTable.Probe→List Nat
  | 0,_=>[]
  | n+1,p=>p.j::zac mask n (adv mask p)
def zbJ(mask:Nat)(h:Int):SetTable.Probe :=
  { j:=SetTable.bits h % (mask+1),more:=SetTable.runEnd mask (SetTable.bits h % (mask+1)) - SetTable.bits h % (mask+1),i:=SetTable.bits h % (mask+1),perturb:=SetTable.bits h,dummy:=none }
def way(mask:Nat)(h:Int):List Nat:=zac mask (10*SetTable.turns mask) (zbJ mask h)
theorem yk{t:SetTable}{i j:Nat}(h:Inc t.place.toList)(hi:t.place.toList[i]?=some j):t.slot j=.live i:=by
  unfold SetTable.slot
  have e:=za8 h hi
  have hi':t.place[i]?=some j:=by rw [← Array.getElem?_toList];exact hi
  simp only [e,hi',beq_self_eq_true,if_true]
theorem zdj{t:SetTable}{j:Nat}(hd:t.dummies=#[])(hj:j∉t.place.toList):t.slot j=.empty:=by
  unfold SetTable.slot
  have h1:¬ ((t.place[SetTable.below t.place j]? == some j)=true):=by
    intro e
    have e':t.place[SetTable.below t.place j]?=some j:=by simpa using e
    rw [← Array.getElem?_toList] at e'
    exact hj (List.mem_of_getElem? e')
  have h2:SetTable.has t.dummies j=false:=by
    rw [hd]
    unfold SetTable.has
    simp
  simp only [h1,h2,if_false,Bool.false_eq_true]
theorem zca{t:SetTable}{hashAt:Nat→Int}{h:Int}(hi:Inc t.place.toList):∀ (fuel:Nat) (p:SetTable.Probe) (n:Nat) (j0 i0:Nat),(zac t.mask fuel p)[n]?=some j0→t.place.toList[i0]?=some j0→hashAt i0=h →
    (∀ m q,m < n→(zac t.mask fuel p)[m]?=some q→q∈t.place.toList)→∃ j i next,SetTable.probe.go t hashAt h fuel p=some (.candidate j i next)∧t.place.toList[i]?=some j∧hashAt i=h
  | 0,p,n,j0,i0,hn,_,_,_=>by
    unfold zac at hn
    simp at hn
  | fuel+1,p,n,j0,i0,hn,h0,hh,hb=>by
    unfold SetTable.probe.go
    cases n with
    | zero =>
      have e:p.j=j0:=by
        unfold zac at hn
        simpa using hn
      rw [e,yk hi h0]
      dsimp only
      rw [hh,if_pos (by simp)]
      exact⟨j0,i0,_,rfl,h0,hh⟩
    | succ n =>
      have hq:p.j∈t.place.toList:=hb 0 p.j (Nat.succ_pos _) (by unfold zac;rfl)
      obtain⟨i1,hi1⟩:=List.getElem?_of_mem hq
      rw [yk hi hi1]
      dsimp only
      by_cases hc:(hashAt i1 == h)=true
      · rw [if_pos hc]
        exact⟨p.j,i1,_,rfl,hi1,by simpa using hc⟩
      · rw [if_neg hc,yI]
        refine zca hi fuel (adv t.mask p) n j0 i0 ?_ h0 hh (fun m q hm hq'=>hb (m+1) q (by omega) ?_)
        · unfold zac at hn
          simpa using hn
        · unfold zac
          simpa using hq'
theorem zd6{t:SetTable}{hashAt:Nat→Int}{h:Int}(hi:Inc t.place.toList)(hd:t.dummies=#[])(hno:∀ i j,t.place.toList[i]?=some j→hashAt i≠h):∀ (fuel:Nat) (p:SetTable.Probe),p.dummy=none→∀ (n j0:Nat),(zac t.mask fuel p)[n]?=some j0→j0∉t.place.toList →
    ∃ (n j:Nat),SetTable.probe.go t hashAt h fuel p=some (.empty j none)∧(zac t.mask fuel p)[n]?=some j∧j∉t.place.toList∧∀ (m q:Nat),m < n→(zac t.mask fuel p)[m]?=some q→q∈t.place.toList
  | 0,p,_,n,j0,hn,_=>by
    unfold zac at hn
    simp at hn
  | fuel+1,p,hp,n,j0,hn,h0=>by
    unfold SetTable.probe.go
    by_cases hq:p.j∈t.place.toList
    · obtain⟨i1,hi1⟩:=List.getElem?_of_mem hq
      rw [yk hi hi1]
      dsimp only
      rw [if_neg (by simpa using hno i1 _ hi1),yI]
      cases n with
      | zero =>
        have e:p.j=j0:=by
          unfold zac at hn
          simpa using hn
        exact absurd (e ▸ hq) h0
      | succ n =>
        obtain⟨n',j',e1,e2,e3,e4⟩:=zd6 hi hd hno fuel (adv t.mask p) (zdx _ _ hp) n j0 (by unfold zac at hn;simpa using hn) h0
        refine⟨n' + 1,j',e1,by unfold zac;simpa using e2,e3,fun m q hm hq'=>?_⟩
        cases m with
        | zero =>
          unfold zac at hq'
          have e:p.j=q:=by simpa using hq'
          exact e ▸ hq
        | succ m=>exact e4 m q (by omega) (by unfold zac at hq';simpa using hq')
    · rw [zdj hd hq]
      dsimp only
      rw [hp]
      exact⟨0,p.j,rfl,by unfold zac;rfl,hq,fun m q hm=>absurd hm (Nat.not_lt_zero _)⟩
@[irreducible] def hp(k:Int×Int):Int:=reduceHash (Builtin.Tuple.tupleHashOf [hashInt k.1,hashInt k.2])
def zL:List (Int×Int):=[(0,1),(0,2),(0,3),(0,4),(0,5),(1,2),(1,3),(1,4),(1,5),(2,3),(2,4),(2,5),(3,4),(3,5),(4,5)]
theorem zhv:∀ k∈zL,∀ l∈zL,hp k=hp l→k=l:=by decide +kernel
theorem zob:∀ k∈zL,∀ j∈List.range 8,j∈way 7 (hp k):=by decide +kernel
theorem zmY:∀ k∈zL,∀ j∈List.range 32,j∈way 31 (hp k):=by decide +kernel
theorem zfG:∀ k∈zL,(∀ j∈way 7 (hp k),j≤7)∧(∀ j∈way 31 (hp k),j≤31):=by decide +kernel
def runs(mask:Nat):Nat→Nat→Nat→List Nat
  | 0,_,_=>[]
  | f+1,i,p=>(List.range (SetTable.runEnd mask i+1 - i)).map (i + ·)++runs mask f (SetTable.leap mask i p).1 (SetTable.leap mask i p).2
theorem zlH:∀ k∈zL,runs 31 (SetTable.turns 31) (SetTable.bits (hp k) % 32) (SetTable.bits (hp k)) <+: way 31 (hp k)∧∀ j∈List.range 32,j∈runs 31 (SetTable.turns 31) (SetTable.bits (hp k) % 32) (SetTable.bits (hp k)):=by decide +kernel
end GS
namespace GS
open PySem
abbrev Ent:=(Int×Int)×Addr
def enc(e:Ent):Int×Value:=(hp e.1,.ref e.2)
def Met(mask:Nat)(taken:Nat→Prop)(k:Int×Int)(j:Nat):Prop:=∃ n:Nat,(way mask (hp k))[n]?=some j∧∀ (m q:Nat),m < n→(way mask (hp k))[m]?=some q→taken q
theorem Met.mono{mask:Nat}{T T':Nat→Prop}{k:Int×Int}{j:Nat}(h:Met mask T k j)(hT:∀ q,T q→T' q):Met mask T' k j :=
  let ⟨n,e,r⟩:=h
  ⟨n,e,fun m q hm hq=>hT q (r m q hm hq)⟩
structure Tab(t:SetTable)(ents:List Ent):Prop where
  dm:t.dummies=#[]
  inc:Inc t.place.toList
  sz:t.place.toList.length=ents.length
  le:∀ j∈t.place.toList,j≤t.mask
  msk:t.mask=7∨t.mask=31
  in15:∀ e∈ents,e.1∈zL
  nd:(ents.map (·.1)).Nodup
  way:∀ (i j:Nat) (e:Ent),t.place.toList[i]?=some j→ents[i]?=some e→Met t.mask (·∈t.place.toList) e.1 j
theorem hole{l:List Nat}(hi:Inc l){mask:Nat}(hl:l.length≤mask):∃ j,j < mask+1∧j∉l:=by
  have go:∀ (n:Nat) (l:List Nat),l.Nodup→(∀ j,j < n→j∈l)→n≤l.length:=by
    intro n
    induction n with
    | zero=>intro l _ _;exact Nat.zero_le _
    | succ n ih =>
      intro l hn h
      have hm:=h n (Nat.lt_succ_self _)
      have h1:=ih (l.erase n) (hn.sublist (List.erase_sublist ..)) (fun j hj=>(List.mem_erase_of_ne (by omega)).mpr (h j (by omega)))
      rw [List.length_erase_of_mem hm] at h1
      have:0 < l.length:=List.length_pos_of_mem hm
      omega
  have hn:l.Nodup:=hi.imp (fun h=>Nat.ne_of_lt h)
  by_cases hx:∃ j,j < mask+1∧j∉l
  · exact hx
  · have:=go (mask+1) l hn (fun j hj=>by
      by_cases q:j∈l
      · exact q
      · exact absurd ⟨j,hj,q⟩ hx)
    omega
theorem zjY{t:SetTable}{k:Int×Int}(hm:t.mask=7∨t.mask=31)(hk:k∈zL){j:Nat}(hj:j < t.mask+1):j∈way t.mask (hp k):=by
  rcases hm with e | e
  · rw [e] at hj ⊢;exact zob k hk j (List.mem_range.mpr hj)
  · rw [e] at hj ⊢;exact zmY k hk j (List.mem_range.mpr hj)
def xo(es:List (Int×Value))(i:Nat):Int:=(es[i]?.map (·.1)).getD 0
theorem zbm{es:List (Int×Value)}{i:Nat}{q:Int×Value}(h:es[i]?=some q):xo es i=q.1:=by
  unfold xo
  rw [h]
  rfl
theorem zig(e:Ent):(enc e).1=hp e.1:=by
  unfold enc
  rfl
theorem jt{ents:List Ent}{i:Nat}{e:Ent}(h:ents[i]?=some e):xo (ents.map enc) i=hp e.1:=by
  have h2:(ents.map enc)[i]?=some (enc e):=by rw [List.getElem?_map,h];simp only [Option.map_some]
  rw [zbm h2]
  exact zig e
section
variable {t:SetTable}{ents:List Ent}{k:Int×Int}
theorem Tab.ent(T:Tab t ents){i j:Nat}(h:t.place.toList[i]?=some j):∃ e,ents[i]?=some e:=by
  have:=(List.getElem?_eq_some_iff.mp h).1
  rw [T.sz] at this
  exact⟨ents[i],List.getElem?_eq_getElem this⟩
theorem Tab.slotOf(T:Tab t ents){i:Nat}{e:Ent}(h:ents[i]?=some e):∃ j,t.place.toList[i]?=some j:=by
  have:=(List.getElem?_eq_some_iff.mp h).1
  rw [← T.sz] at this
  exact⟨_,List.getElem?_eq_getElem this⟩
theorem Tab.found(T:Tab t ents)(hk:k∈ents.map (·.1)):∃ j i next e,t.probe (xo (ents.map enc)) (hp k) (t.probeStart (hp k))=some (.candidate j i next)∧ents[i]?=some e∧e.1=k:=by
  obtain⟨e,he,rfl⟩:=List.mem_map.mp hk
  obtain⟨i,hi⟩:=List.getElem?_of_mem he
  obtain⟨j,hj⟩:=T.slotOf hi
  obtain⟨n,hn,hb⟩:=T.way i j e hj hi
  obtain⟨j',i',next,e1,e2,e3⟩:=zca (hashAt:=xo (ents.map enc)) T.inc (10*SetTable.turns t.mask) (zbJ t.mask (hp e.1)) n j i hn hj (jt hi) (fun m q hm hq=>hb m q hm hq)
  obtain⟨e',he'⟩:=T.ent e2
  rw [jt he'] at e3
  refine⟨j',i',next,e',e1,he',zhv _ (T.in15 _ (List.mem_of_getElem? he')) _ (T.in15 _ he) e3⟩
theorem Tab.free(T:Tab t ents)(hk:k∈zL)(hn:k∉ents.map (·.1))(hl:ents.length≤t.mask) :
    ∃ j,t.probe (xo (ents.map enc)) (hp k) (t.probeStart (hp k))=some (.empty j none)∧j∉t.place.toList∧j≤t.mask∧Met t.mask (·∈t.place.toList) k j:=by
  obtain⟨j0,h0,h1⟩:=hole T.inc (mask:=t.mask) (by rw [T.sz];exact hl)
  obtain⟨n0,hn0⟩:=List.getElem?_of_mem (zjY T.msk hk h0)
  obtain⟨n,j,e1,e2,e3,e4⟩:=zd6 (hashAt:=xo (ents.map enc)) (h:=hp k) T.inc T.dm (fun i j hj e=>by
    obtain⟨e',he'⟩:=T.ent hj
    rw [jt he'] at e
    have:=zhv _ (T.in15 _ (List.mem_of_getElem? he')) _ hk e
    exact hn (List.mem_map.mpr ⟨e',List.mem_of_getElem? he',this⟩)) (10*SetTable.turns t.mask) (zbJ t.mask (hp k)) rfl n0 j0 hn0 h1
  refine⟨j,e1,e3,?_,n,e2,e4⟩
  have hm:j∈GS.way t.mask (hp k):=List.mem_of_getElem? (show (GS.way t.mask (hp k))[n]?=some j from e2)
  rcases T.msk with e | e
  · rw [e] at hm ⊢;exact (zfG k hk).1 j hm
  · rw [e] at hm ⊢;exact (zfG k hk).2 j hm
theorem vz{α:Type}(l:List α)(p:Nat)(x:α)(hp:p≤l.length)(i:Nat):(l.take p++x::l.drop p)[i]?=if i < p then l[i]? else if i=p then some x else l[i - 1]?:=by
  by_cases h1:i < p
  · rw [if_pos h1,List.getElem?_append_left (by rw [List.length_take];omega),List.getElem?_take_of_lt h1]
  · rw [if_neg h1,List.getElem?_append_right (by rw [List.length_take];omega),List.length_take,Nat.min_eq_left hp]
    by_cases h2:i=p
    · rw [if_pos h2,h2,Nat.sub_self];rfl
    · rw [if_neg h2]
      obtain⟨d,hd⟩:∃ d,i - p=d+1:=⟨i - p - 1,by omega⟩
      rw [hd,List.getElem?_cons_succ,List.getElem?_drop]
      congr 1
      omega
theorem Tab.put(T:Tab t ents){j:Nat}{a:Addr}(hk:k∈zL)(hn:k∉ents.map (·.1))(hj:j∉t.place.toList)(hle:j≤t.mask)(hm:Met t.mask (·∈t.place.toList) k j) :
    Tab (t.put j).1 (ents.take (t.put j).2++(k,a)::ents.drop (t.put j).2)∧(t.put j).1.mask=t.mask∧(t.put j).1.led=t.led∧(t.put j).1.plain=t.plain:=by
  have hhas:SetTable.has t.dummies j=false:=by
    rw [T.dm];unfold SetTable.has;simp
  have e1:(t.put j).1={ t with place:=SetTable.insertAt t.place (SetTable.below t.place j) j }:=by
    unfold SetTable.put
    simp only [hhas,Bool.false_eq_true,if_false]
  have e2:(t.put j).2=SetTable.below t.place j:=rfl
  rw [e1,e2]
  refine⟨?_,rfl,rfl,rfl⟩
  generalize hp':SetTable.below t.place j=p
  have hpl:p≤t.place.toList.length:=by rw [← hp',Array.length_toList];exact (qV j T.inc).1
  have hpe:p≤ents.length:=by rw [← T.sz];exact hpl
  have hlist:(SetTable.insertAt t.place p j).toList=t.place.toList.take p++j::t.place.toList.drop p:=xp _ _ _
  have hmem:∀ q,q∈(SetTable.insertAt t.place p j).toList↔q=j∨q∈t.place.toList:=fun q=>by
    rw [hlist,List.mem_append,List.mem_cons]
    constructor
    · rintro (z | z | z)
      · exact .inr (List.mem_of_mem_take z)
      · exact .inl z
      · exact .inr (List.mem_of_mem_drop z)
    · rintro (z | z)
      · exact .inr (.inl z)
      · rw [← List.take_append_drop p t.place.toList] at z
        rcases List.mem_append.mp z with z | z
        · exact .inl z
        · exact .inr (.inr z)
  refine⟨T.dm,by rw [← hp'];exact zcW T.inc hj,?_,fun q hq=>?_,T.msk,fun e he=>?_,?_,fun i q e hq he=>?_⟩
  · show (SetTable.insertAt t.place p j).toList.length=_
    rw [hlist]
    simp only [List.length_append,List.length_cons,List.length_take,List.length_drop]
    have:=T.sz
    omega
  · rcases (hmem q).mp hq with z | z
    · rw [z];exact hle
    · exact T.le q z
  · rcases List.mem_append.mp he with z | z
    · exact T.in15 e (List.mem_of_mem_take z)
    · rcases List.mem_cons.mp z with z | z
      · rw [z];exact hk
      · exact T.in15 e (List.mem_of_mem_drop z)
  · rw [List.map_append,List.map_cons]
    have hnd:=T.nd
    rw [← List.take_append_drop p ents,List.map_append] at hnd hn
    rw [List.nodup_append] at hnd ⊢
    obtain⟨n1,n2,n3⟩:=hnd
    refine⟨n1,List.nodup_cons.mpr ⟨fun z=>hn (List.mem_append_right _ z),n2⟩,fun x hx y hy=>?_⟩
    rcases List.mem_cons.mp hy with z | z
    · intro e
      have e':x=k:=e.trans (congrArg id z)
      exact hn (List.mem_append_left _ (e' ▸ hx))
    · exact n3 x hx y z
  · have hq':(t.place.toList.take p++j::t.place.toList.drop p)[i]?=some q:=by rw [← hlist];exact hq
    rw [vz _ _ _ hpl] at hq'
    rw [vz _ _ _ hpe] at he
    have up:∀ q',q'∈t.place.toList→q'∈(SetTable.insertAt t.place p j).toList:=fun q' z=>(hmem q').mpr (.inr z)
    by_cases h1:i < p
    · rw [if_pos h1] at hq' he
      exact (T.way i q e hq' he).mono up
    · rw [if_neg h1] at hq' he
      by_cases h2:i=p
      · rw [if_pos h2] at hq' he
        cases hq';cases he
        exact hm.mono up
      · rw [if_neg h2] at hq' he
        exact (T.way _ q e hq' he).mono up
end
end GS
namespace GS
open PySem
theorem free_eq(mask:Nat)(own:Array (Option Nat)):∀ (f i p:Nat),SetTable.layClean.free mask own f i p=(runs mask f i p).find? fun j=>(own.getD j (some 0)).isNone
  | 0,_,_=>rfl
  | f+1,i,p=>by
    unfold SetTable.layClean.free runs
    rw [List.find?_append,List.find?_map]
    have e:((fun j=>(own.getD j (some 0)).isNone) ∘ fun k=>i+k)=fun k=>(own.getD (i+k) (some 0)).isNone:=rfl
    rw [e]
    cases q:(List.range (SetTable.runEnd mask i+1 - i)).find? fun k=>(own.getD (i+k) (some 0)).isNone with
    | some k=>simp
    | none =>
      simp only [Option.map_none,Option.none_or]
      exact free_eq mask own f _ _
def Taken(own:Array (Option Nat))(j:Nat):Prop:=∃ i,own[j]?=some (some i)
structure Own(own:Array (Option Nat))(ks:List (Int×Int))(n:Nat):Prop where
  size:own.size=32
  lt:∀ (j i:Nat),own[j]?=some (some i)→i < n
  inj:∀ (j j' i:Nat),own[j]?=some (some i)→own[j']?=some (some i)→j=j'
  at_:∀ (i:Nat) (k:Int×Int),i < n→ks[i]?=some k→∃ j,own[j]?=some (some i)∧Met 31 (Taken own) k j
theorem zeE(ks:List (Int×Int)):Own (Array.replicate 32 none) ks 0 where
  size:=by simp
  lt:=fun j i h=>by
    rw [Array.getElem?_replicate] at h
    split at h <;> cases h
  inj:=fun j j' i h=>by
    rw [Array.getElem?_replicate] at h
    split at h <;> cases h
  at_:=fun i k h=>absurd h (Nat.not_lt_zero _)
theorem zgw{own:Array (Option Nat)}{ks:List (Int×Int)}{n:Nat}(O:Own own ks n)(hn:n < 32):∃ j,j < 32∧own[j]?=some none:=by
  by_cases hx:∃ j,j < 32∧own[j]?=some none
  · exact hx
  · have all:∀ j,j < 32→∃ i,own[j]?=some (some i):=fun j hj=>by
      have hs:j < own.size:=by rw [O.size];exact hj
      cases e:own[j] with
      | none=>exact absurd ⟨j,hj,by rw [Array.getElem?_eq_getElem hs,e]⟩ hx
      | some i=>exact⟨i,by rw [Array.getElem?_eq_getElem hs,e]⟩
    have g:∀ j,∃ i,j < 32→own[j]?=some (some i):=fun j=>by
      by_cases h:j < 32
      · obtain⟨i,hi⟩:=all j h
        exact⟨i,fun _=>hi⟩
      · exact⟨0,fun h'=>absurd h' h⟩
    have nd:((List.range 32).map fun j=>Classical.choose (g j)).Nodup:=by
      unfold List.Nodup
      rw [List.pairwise_map]
      refine List.pairwise_lt_range.imp_of_mem fun {a b} ha hb hab e=>?_
      have h1:=Classical.choose_spec (g a) (List.mem_range.mp ha)
      have h2:=Classical.choose_spec (g b) (List.mem_range.mp hb)
      rw [← e] at h2
      have:=O.inj a b _ h1 h2
      omega
    have sub:∀ x∈(List.range 32).map (fun j=>Classical.choose (g j)),x < n:=fun x hx=>by
      obtain⟨j,hj,rfl⟩:=List.mem_map.mp hx
      exact O.lt j _ (Classical.choose_spec (g j) (List.mem_range.mp hj))
    have cnt:∀ (l:List Nat) (m:Nat),l.Nodup→(∀ x∈l,x < m)→l.length≤m:=by
      intro l m
      induction m generalizing l with
      | zero =>
        intro _ h
        cases l with
        | nil=>exact Nat.le_refl _
        | cons a r=>exact absurd (h a List.mem_cons_self) (Nat.not_lt_zero _)
      | succ m ih =>
        intro hn h
        have h1:=ih (l.erase m) (hn.sublist (List.erase_sublist ..)) (fun x hx=>by
          have hx':=(List.Nodup.mem_erase_iff hn).mp hx
          have:=h x hx'.2
          have:=hx'.1
          omega)
        by_cases hm:m∈l
        · rw [List.length_erase_of_mem hm] at h1
          omega
        · rw [List.erase_of_not_mem hm] at h1
          omega
    have:=cnt _ n nd sub
    rw [List.length_map,List.length_range] at this
    omega
theorem zgx{own:Array (Option Nat)}{ks:List (Int×Int)}{n:Nat}{k:Int×Int}(O:Own own ks n)(hn:n < 32)(hk:ks[n]?=some k)(h15:k∈zL) :
    ∃ j,SetTable.layClean.free 31 own (SetTable.turns 31) (SetTable.bits (hp k) % (31+1)) (SetTable.bits (hp k))=some j∧Own (own.setIfInBounds j (some n)) ks (n+1):=by
  obtain⟨j0,h0,h1⟩:=zgw O hn
  obtain⟨pre,cov⟩:=zlH k h15
  have hm0:=cov j0 (List.mem_range.mpr h0)
  rw [free_eq]
  have gd:∀ j,j < 32→((own.getD j (some 0)).isNone=true↔own[j]?=some none):=fun j hj=>by
    have hs:j < own.size:=by rw [O.size];exact hj
    rw [Array.getD_eq_getD_getElem?,Array.getElem?_eq_getElem hs,Option.getD_some]
    constructor
    · intro e
      rw [Option.isNone_iff_eq_none] at e
      rw [e]
    · intro e
      have:=Option.some.inj e
      rw [this]
      rfl
  cases q:(runs 31 (SetTable.turns 31) (SetTable.bits (hp k) % (31+1)) (SetTable.bits (hp k))).find? fun j=>(own.getD j (some 0)).isNone with
  | none =>
    have:=List.find?_eq_none.mp q j0 hm0
    exact absurd ((gd j0 h0).mpr h1) this
  | some j =>
    obtain⟨hj,i,hi,e,hb⟩:=List.find?_eq_some_iff_getElem.mp q
    have hjm:j∈runs 31 (SetTable.turns 31) (SetTable.bits (hp k) % (31+1)) (SetTable.bits (hp k)):=e ▸ List.getElem_mem hi
    have hle:∀ x∈runs 31 (SetTable.turns 31) (SetTable.bits (hp k) % (31+1)) (SetTable.bits (hp k)),x < 32:=fun x hx=>by
      have:=(zfG k h15).2 x (pre.subset hx)
      omega
    have hj32:=hle j hjm
    have hnone:=(gd j hj32).mp hj
    have hs:j < own.size:=by rw [O.size];exact hj32
    have get:∀ q,(own.setIfInBounds j (some n))[q]?=if q=j then some (some n) else own[q]?:=fun q=>by
      rw [Array.getElem?_setIfInBounds]
      by_cases h:j=q
      · rw [if_pos h,if_pos h.symm,if_pos (h ▸ hs)]
      · rw [if_neg h,if_neg (Ne.symm h)]
    have up:∀ q,Taken own q→Taken (own.setIfInBounds j (some n)) q:=fun q ⟨i,hi⟩=>by
      unfold Taken
      rw [get]
      by_cases h:q=j
      · exact⟨n,by rw [if_pos h]⟩
      · exact⟨i,by rw [if_neg h];exact hi⟩
    refine⟨j,rfl,⟨by rw [Array.size_setIfInBounds];exact O.size,fun a b h=>?_,fun a b c h1 h2=>?_,fun a b ha hb'=>?_⟩⟩
    · rw [get] at h
      by_cases z:a=j
      · rw [if_pos z] at h
        cases h
        exact Nat.lt_succ_self _
      · rw [if_neg z] at h
        exact Nat.lt_succ_of_lt (O.lt a b h)
    · rw [get] at h1 h2
      by_cases z1:a=j
      · by_cases z2:b=j
        · rw [z1,z2]
        · rw [if_pos z1] at h1
          rw [if_neg z2] at h2
          cases h1
          exact absurd (O.lt b n h2) (Nat.lt_irrefl _)
      · by_cases z2:b=j
        · rw [if_neg z1] at h1
          rw [if_pos z2] at h2
          cases h2
          exact absurd (O.lt a n h1) (Nat.lt_irrefl _)
        · rw [if_neg z1] at h1
          rw [if_neg z2] at h2
          exact O.inj a b c h1 h2
    · rcases Nat.eq_or_lt_of_le (Nat.le_of_lt_succ ha) with z | z
      · subst z
        rw [hk] at hb'
        cases hb'
        refine⟨j,by rw [get,if_pos rfl],i,?_,fun m x hm hx=>?_⟩
        · have:=(List.prefix_iff_getElem?.mp pre) i hi
          rw [this,e]
        · have hml:m < (runs 31 (SetTable.turns 31) (SetTable.bits (hp k) % (31+1)) (SetTable.bits (hp k))).length:=Nat.lt_trans hm hi
          have h2:=(List.prefix_iff_getElem?.mp pre) m hml
          rw [h2] at hx
          cases hx
          have h3:=hb m hm
          refine up _ ?_
          have hx32:=hle _ (List.getElem_mem hml)
          have hs2:(runs 31 (SetTable.turns 31) (SetTable.bits (hp k) % (31+1)) (SetTable.bits (hp k)))[m] < own.size:=by rw [O.size];exact hx32
          cases e4:own[(runs 31 (SetTable.turns 31) (SetTable.bits (hp k) % (31+1)) (SetTable.bits (hp k)))[m]] with
          | none =>
            have:=(gd _ hx32).mpr (by rw [Array.getElem?_eq_getElem hs2,e4])
            rw [this] at h3
            cases h3
          | some i'=>exact⟨i',by rw [Array.getElem?_eq_getElem hs2,e4]⟩
      · obtain⟨j',hj',hm'⟩:=O.at_ a b z hb'
        refine⟨j',?_,hm'.mono up⟩
        rw [get]
        by_cases z2:j'=j
        · rw [z2,hnone] at hj'
          cases hj'
        · rw [if_neg z2]
          exact hj'
end GS
namespace GS
open PySem
def kK(mask:Nat)(acc:Option (Array (Option Nat)×Nat))(h:Int):Option (Array (Option Nat)×Nat):=do
  let (owner,k) ← acc
  let j ← SetTable.layClean.free mask owner (SetTable.turns mask) (SetTable.bits h % (mask+1)) (SetTable.bits h)
  pure (owner.setIfInBounds j (some k),k+1)
theorem zcZ{mask:Nat}{own:Array (Option Nat)}{n j:Nat}{h:Int}(hj:SetTable.layClean.free mask own (SetTable.turns mask) (SetTable.bits h % (mask+1)) (SetTable.bits h)=some j) :
    kK mask (some (own,n)) h=some (own.setIfInBounds j (some n),n+1):=by
  unfold kK
  show (SetTable.layClean.free mask own (SetTable.turns mask) (SetTable.bits h % (mask+1)) (SetTable.bits h)).bind _=_
  rw [hj]
  rfl
theorem zbn(mask:Nat)(hs:List Int):SetTable.layClean mask hs.toArray=(hs.foldl (kK mask) (some (Array.replicate (mask+1) none,0))).map (·.1):=by
  unfold SetTable.layClean
  rw [List.foldl_toArray]
  rfl
theorem zce{ks:List (Int×Int)}(h15:∀ k∈ks,k∈zL)(hl:ks.length < 32):∀ (rest dn:List (Int×Int)) (own:Array (Option Nat)),ks=dn++rest→Own own ks dn.length →
    ∃ own',(rest.map hp).foldl (kK 31) (some (own,dn.length))=some (own',ks.length)∧Own own' ks ks.length
  | [],dn,own,e,O=>by
    rw [List.append_nil] at e
    subst e
    exact⟨own,rfl,O⟩
  | k::rest,dn,own,e,O=>by
    have hk:ks[dn.length]?=some k:=by rw [e];simp
    have hn:dn.length < 32:=by
      have:ks.length=dn.length+(k::rest).length:=by rw [e,List.length_append]
      omega
    obtain⟨j,hj,O'⟩:=zgx O hn hk (h15 k (List.mem_of_getElem? hk))
    have e':ks=(dn++[k])++rest:=by rw [e];simp
    have l':(dn++[k]).length=dn.length+1:=by simp
    obtain⟨own',h1,h2⟩:=zce h15 hl rest (dn++[k]) _ e' (by rw [l'];exact O')
    refine⟨own',?_,h2⟩
    rw [List.map_cons,List.foldl_cons]
    have es:=zcZ (n:=dn.length) hj
    rw [es,← l']
    exact h1
theorem zkQ{ks:List (Int×Int)}(h15:∀ k∈ks,k∈zL)(hl:ks.length < 32):∃ own,SetTable.layClean 31 (ks.map hp).toArray=some own∧Own own ks ks.length:=by
  obtain⟨own,h1,h2⟩:=zce h15 hl ks [] _ rfl (zeE ks)
  refine⟨own,?_,h2⟩
  rw [zbn]
  have h1':(ks.map hp).foldl (kK 31) (some (Array.replicate (31+1) none,0))=some (own,ks.length):=h1
  rw [h1']
  rfl
def qL(own:Array (Option Nat)):List (Nat×Nat):=(List.range (31+1)).filterMap fun j=>(own.getD j none).map (j,·)
theorem x9{own:Array (Option Nat)}(hs:own.size=32){j i:Nat}:(j,i)∈qL own↔own[j]?=some (some i):=by
  unfold qL
  rw [List.mem_filterMap]
  constructor
  · rintro⟨a,ha,e⟩
    obtain⟨b,hb,e2⟩:=Option.map_eq_some_iff.mp e
    cases e2
    have:j < own.size:=by rw [hs];exact List.mem_range.mp ha
    rw [Array.getD_eq_getD_getElem?,Array.getElem?_eq_getElem this,Option.getD_some] at hb
    rw [Array.getElem?_eq_getElem this,hb]
  · intro h
    have hj:j < own.size:=(Array.getElem?_eq_some_iff.mp h).1
    refine⟨j,List.mem_range.mpr (by omega),?_⟩
    rw [Array.getD_eq_getD_getElem?,h]
    rfl
theorem zch(own:Array (Option Nat)):Inc ((qL own).map (·.1)):=by
  have e:(qL own).map (·.1)=(List.range (31+1)).filter fun j=>((own.getD j none).map (j,·)).isSome:=by
    unfold qL
    generalize List.range (31+1)=l
    induction l with
    | nil=>rfl
    | cons a r ih =>
      rw [List.filterMap_cons,List.filter_cons]
      cases q:own.getD a none with
      | none=>simpa using ih
      | some i=>simpa using ih
  rw [e]
  exact List.pairwise_lt_range.sublist List.filter_sublist
theorem zaF{own:Array (Option Nat)}{ks:List (Int×Int)}{n:Nat}(O:Own own ks n)(hn:n=ks.length):((qL own).map (·.2)).Perm (List.range n):=by
  have nd:((qL own).map (·.2)).Nodup:=by
    have h1:(qL own).Pairwise (fun a b=>a.1 < b.1):=List.pairwise_map.mp (zch own)
    unfold List.Nodup
    rw [List.pairwise_map]
    refine h1.imp_of_mem fun {a b} ha hb hab e=>?_
    have h2:=(x9 O.size (j:=a.1) (i:=a.2)).mp ha
    have h3:=(x9 O.size (j:=b.1) (i:=b.2)).mp hb
    rw [← e] at h3
    have:=O.inj _ _ _ h2 h3
    omega
  refine (List.perm_ext_iff_of_nodup nd List.nodup_range).mpr fun x=>?_
  rw [List.mem_range]
  constructor
  · intro h
    obtain⟨⟨j,i⟩,hm,rfl⟩:=List.mem_map.mp h
    exact O.lt j i ((x9 O.size).mp hm)
  · intro h
    have hx:x < ks.length:=hn ▸ h
    obtain⟨j,hj,_⟩:=O.at_ x ks[x] h (List.getElem?_eq_getElem hx)
    exact List.mem_map.mpr ⟨(j,x),(x9 O.size).mpr hj,rfl⟩
theorem wJ{α:Type}:∀ (l:List α),(List.range l.length).filterMap (fun i=>l[i]?)=l
  | []=>rfl
  | a::r=>by
    have ih:=wJ r
    rw [List.length_cons,List.range_succ_eq_map,List.filterMap_cons,List.getElem?_cons_zero,List.filterMap_map]
    exact congrArg (a :: ·) ih
theorem yj:SetTable.sizeAbove 20=32:=by decide +kernel
theorem zc5{α:Type}{l l':List α}(h:l.Perm l')(hn:l'.Nodup):l.Nodup:=h.nodup_iff.mpr hn
theorem Tab.relaid{t:SetTable}{ents:List Ent}(T:Tab t ents)(hl:ents.length < 32)(hw:ents.length=5) :
    ∃ (t':SetTable) (order:Array Nat),t.relaid ((ents.map (·.1)).map hp).toArray 20=some (t',order)∧Tab t' (order.toList.filterMap fun i=>ents[i]?)∧(order.toList.filterMap fun i=>ents[i]?).Perm ents∧t'.mask=31∧t'.led=t.led∧t'.plain=t.plain:=by
  have h15:∀ k∈ents.map (·.1),k∈zL:=fun k hk=>by
    obtain⟨e,he,rfl⟩:=List.mem_map.mp hk
    exact T.in15 e he
  obtain⟨own,ho,O⟩:=zkQ h15 (by rw [List.length_map];exact hl)
  have hlen:(ents.map (·.1)).length=ents.length:=List.length_map _
  rw [hlen] at O
  refine⟨{ mask:=31,place:=((qL own).map (·.1)).toArray,dummies:=#[],finger:=t.finger,led:=t.led,moves:=t.movedTo 31,plain:=t.plain },((qL own).map (·.2)).toArray,?_,?_,?_,rfl,rfl,rfl⟩
  · unfold SetTable.relaid SetTable.laid
    rw [yj]
    show (SetTable.layClean 31 ((ents.map (·.1)).map hp).toArray).bind _=_
    rw [ho]
    rfl
  · have hp2:=zaF O hlen.symm
    have pk:∀ i:Nat,((qL own).map (·.2)).filterMap (fun i=>ents[i]?)=((qL own).map (·.2)).filterMap (fun i=>ents[i]?):=fun _=>rfl
    have full:∀ (l:List Nat),(∀ x∈l,x < ents.length)→∀ i:Nat,(l.filterMap fun i=>ents[i]?)[i]?=(l[i]?).bind fun x=>ents[x]?:=by
      intro l
      induction l with
      | nil=>intro _ i;simp
      | cons a r ih =>
        intro h i
        have ha:=h a List.mem_cons_self
        rw [List.filterMap_cons,List.getElem?_eq_getElem ha]
        cases i with
        | zero=>simp [List.getElem?_eq_getElem ha]
        | succ i =>
          rw [List.getElem?_cons_succ,List.getElem?_cons_succ]
          exact ih (fun x hx=>h x (List.mem_cons_of_mem _ hx)) i
    have hlt:∀ x∈(qL own).map (·.2),x < ents.length:=fun x hx=>List.mem_range.mp (hp2.mem_iff.mp hx)
    have perm:(((qL own).map (·.2)).filterMap fun i=>ents[i]?).Perm ents:=by
      have:=hp2.filterMap (fun i=>ents[i]?)
      rw [wJ] at this
      exact this
    have memp:∀ q,q∈(((qL own).map (·.1)).toArray:Array Nat).toList↔Taken own q:=fun q=>by
      show q∈(qL own).map (·.1)↔_
      constructor
      · intro h
        obtain⟨⟨j,i⟩,hm,rfl⟩:=List.mem_map.mp h
        exact⟨i,(x9 O.size).mp hm⟩
      · rintro⟨i,hi⟩
        exact List.mem_map.mpr ⟨(q,i),(x9 O.size).mpr hi,rfl⟩
    refine⟨rfl,zch own,?_,fun j hj=>?_,.inr rfl,fun e he=>T.in15 e (perm.mem_iff.mp he),?_,fun i j e hj he=>?_⟩
    · show ((qL own).map (·.1)).length=_
      rw [perm.length_eq,← List.length_range (n:=ents.length),← hp2.length_eq,List.length_map,List.length_map]
    · obtain⟨i,hi⟩:=(memp j).mp hj
      have:=(Array.getElem?_eq_some_iff.mp hi).1
      rw [O.size] at this
      show j≤31
      omega
    · exact zc5 (perm.map (·.1)) T.nd
    · have he':(((qL own).map (·.2)).filterMap fun i=>ents[i]?)[i]?=some e:=he
      rw [full _ hlt] at he'
      have hj':((qL own).map (·.1))[i]?=some j:=hj
      rw [List.getElem?_map] at he' hj'
      cases q:(qL own)[i]? with
      | none=>rw [q] at hj';cases hj'
      | some z =>
        obtain⟨a,b⟩:=z
        rw [q] at he' hj'
        have hj2:a=j:=Option.some.inj hj'
        have he2:ents[b]?=some e:=he'
        subst hj2
        have hown:=(x9 O.size).mp (List.mem_of_getElem? q)
        have hb:b < ents.length:=(List.getElem?_eq_some_iff.mp he2).1
        obtain⟨j',h1,h2⟩:=O.at_ b e.1 hb (by rw [List.getElem?_map,he2];rfl)
        have:=O.inj _ _ _ hown h1
        subst this
        exact h2.mono fun q hq=>(memp q).mpr hq
  · have hp2:=zaF O hlen.symm
    have:=hp2.filterMap (fun i=>ents[i]?)
    rw [wJ] at this
    exact this
end GS
namespace GS
open PySem
section
variable {prog:Program}{w:World}{A:Around}{E:Value→Shared→Prop}{s:Shared}
structure ko(prog:Program)(w:World)(h:Heap)(S:Addr)(t:SetTable)(ents:List Ent):Prop where
  obj:∃ es ep,h.get? S=some { cls:=.type "set",dict:=none,data:=.set es ep t,slots:=#[] }∧es.toList=ents.map enc
  tab:Tab t ents
  keys:∀ e∈ents,IsTupleKey (intKind prog w) h [e.1.1,e.1.2] e.2
  room:t.mask=7→ents.length≤4
  plain:t.plain=true
  led:t.led=!(w.params.followText "set-order")
theorem zih{ents:List Ent}(h:∀ e∈ents,e.1∈zL)(hn:(ents.map (·.1)).Nodup):ents.length≤15:=by
  have go:∀ (l m:List (Int×Int)),l.Nodup→(∀ x∈l,x∈m)→l.length≤m.length:=by
    intro l
    induction l with
    | nil=>intro m _ _;exact Nat.zero_le _
    | cons a r ih =>
      intro m hn hs
      have ha:=hs a List.mem_cons_self
      obtain⟨n1,n2⟩:=List.nodup_cons.mp hn
      have:=ih (m.erase a) n2 (fun x hx=>(List.mem_erase_of_ne (fun (e:x=a)=>n1 (e ▸ hx))).mpr (hs x (List.mem_cons_of_mem _ hx)))
      rw [List.length_erase_of_mem ha] at this
      have:0 < m.length:=List.length_pos_of_mem ha
      rw [List.length_cons]
      omega
  have:=go (ents.map (·.1)) zL hn (fun x hx=>by
    obtain⟨e,he,rfl⟩:=List.mem_map.mp hx
    exact h e he)
  rw [List.length_map] at this
  exact this
theorem Tab.small{t:SetTable}{ents:List Ent}(T:Tab t ents):ents.length≤15:=zih T.in15 T.nd
theorem Tab.fits{t:SetTable}{ents:List Ent}(T:Tab t ents)(hl:ents.length≤t.mask){n:Nat}(hn:n=ents.length):t.fits n=true:=by
  have h1:t.place.size=ents.length:=by rw [← Array.length_toList];exact T.sz
  unfold SetTable.fits SetTable.fill
  rw [h1,T.dm,hn]
  simp only [beq_self_eq_true,Bool.true_and,decide_eq_true_eq]
  simpa using hl
theorem ko.le{h:Heap}{S:Addr}{t:SetTable}{ents:List Ent}(X:ko prog w h S t ents):ents.length≤t.mask:=by
  rcases X.tab.msk with e | e
  · have:=X.room e
    omega
  · have:=X.tab.small
    omega
theorem zmm(k:Int×Int):tupleKeyHash (intKind prog w) [k.1,k.2]=hp k:=by
  unfold hp tupleKeyHash
  rfl
theorem zaQ{a:Addr}{ks:List Int}{Q:Bool→Shared→Prop}(hk:IsTupleKey (intKind prog w) s.heap ks a)(h:Q false s):wpAny (model prog w) A (ofAClassStatement 8 (.ref a)) Q E s:=by
  have hT:=hk.typeIs
  obtain⟨o,items,n,ho,_,hd,hi⟩:=hk
  unfold ofAClassStatement
  refine wpAny_bind (wpAny_typeOf hT ?_)
  simp only [beq_self_eq_true,if_true]
  refine wpAny_bind (wpAny_pure ?_)
  simp only [Bool.not_true,Bool.false_eq_true,if_false]
  refine wpAny_bind (wpAny_seqItems ho hd ?_)
  refine wpAny_bind ?_
  rw [← Array.forIn_toList]
  refine wpAny_forIn_list _ (fun rest r s'=>r.1=none∧s'=s∧∀ v∈rest,carriedByValue v=true) _ ?_ ?_ _ _ ⟨rfl,rfl,hi.byValue⟩
  · rintro v rest r s' ⟨hr,rfl,hall⟩
    have hv:=hall v List.mem_cons_self
    have e:ofAClassStatement 7 v=pure false:=by
      cases v with
      | ref b=>simp [carriedByValue] at hv
      | _=>unfold ofAClassStatement;rfl
    rw [e]
    refine wpAny_bind (wpAny_pure ?_)
    simp only [Bool.false_eq_true,if_false]
    exact wpAny_pure ⟨rfl,rfl,fun u hu'=>hall u (List.mem_cons_of_mem _ hu')⟩
  · rintro⟨r1,r2⟩ s' ⟨hr,rfl,_⟩
    simp only at hr
    subst hr
    exact wpAny_pure h
theorem zlX{a:Addr}{k:Int×Int}(ha:IsTupleKey (intKind prog w) s.heap [k.1,k.2] a):∀ (l:List Ent) {Q:Bool→Shared→Prop},(∀ e∈l,IsTupleKey (intKind prog w) s.heap [e.1.1,e.1.2] e.2)→Q false s →
    wpAny (model prog w) A (searchCouldBeSeen (.ref a) (l.map fun e=>Value.ref e.2)) Q E s:=by
  intro l Q hl h
  unfold searchCouldBeSeen
  refine wpAny_bind ?_
  refine wpAny_forIn_list _ (fun rest r s'=>r.1=none∧s'=s∧∃ l':List Ent,rest=(l'.map fun (e:Ent)=>Value.ref e.2)∧∀ e∈l',IsTupleKey (intKind prog w) s.heap [e.1.1,e.1.2] e.2) _ ?_ ?_ _ _ ⟨rfl,rfl,l,rfl,hl⟩
  · rintro v rest r s' ⟨hr,rfl,l',he,hl'⟩
    cases l' with
    | nil=>cases he
    | cons e l'' =>
      rw [List.map_cons] at he
      injection he with he1 he2
      subst he1
      have hk:=hl' e List.mem_cons_self
      have fin:r.1=none∧s'=s'∧∃ l':List Ent,rest=(l'.map fun (e:Ent)=>Value.ref e.2)∧∀ e∈l',IsTupleKey (intKind prog w) s'.heap [e.1.1,e.1.2] e.2:=⟨hr,rfl,l'',he2,fun e' h'=>hl' e' (List.mem_cons_of_mem _ h')⟩
      dsimp only
      by_cases hv:(a == e.2)=true
      · rw [hv]
        simp only [Bool.true_or,if_true]
        exact wpAny_pure ⟨rfl,fin.2⟩
      · have hv':(a == e.2)=false:=by simpa using hv
        rw [hv']
        have hc:(carriedByValue (.ref a) && carriedByValue (.ref e.2))=false:=rfl
        rw [hc]
        simp only [Bool.or_self,Bool.false_eq_true,if_false]
        refine wpAny_bind (wpAny_eqIsQuiet_tuple ha ?_)
        simp only [Bool.not_true,Bool.false_eq_true,if_false]
        refine wpAny_bind (wpAny_eqIsQuiet_tuple hk ?_)
        simp only [Bool.not_true,Bool.false_eq_true,if_false]
        refine wpAny_bind (zaQ ha ?_)
        simp only [Bool.false_eq_true,if_false]
        refine wpAny_bind (zaQ hk ?_)
        simp only [Bool.false_eq_true,if_false]
        exact wpAny_pure ⟨rfl,fin.2⟩
  · rintro⟨r1,r2⟩ s' ⟨hr,rfl,_⟩
    simp only at hr
    subst hr
    exact wpAny_pure h
theorem zeQ(es:Array (Int×Value)):(fun i=>(es[i]?.map (·.1)).getD 0)=xo es.toList:=by
  funext i
  unfold xo
  rw [Array.getElem?_toList]
theorem zgq{t:SetTable}{ents:List Ent}(T:Tab t ents):t.gaveWay=false:=by
  unfold SetTable.gaveWay
  rcases T.msk with e | e <;> rw [e] <;> rfl
theorem zbk{ents:List Ent}(h:Int):∃ l:List Ent,(∀ e∈l,e∈ents)∧(((ents.map enc).filter (fun x=>x.1 == h)).map (·.2))=l.map fun e=>Value.ref e.2:=by
  refine⟨ents.filter (fun e=>(enc e).1 == h),fun e he=>(List.mem_filter.mp he).1,?_⟩
  rw [List.filter_map,List.map_map]
  rfl
theorem zdg{S a:Addr}{t:SetTable}{ents:List Ent}{k:Int×Int}{Q:SetFound→Shared→Prop}(hu:A.units < cLine)(X:ko prog w s.heap S t ents)(hk:k∈zL)(ha:IsTupleKey (intKind prog w) s.heap [k.1,k.2] a)
    (h1:k∈ents.map (·.1)→Q (.there none) s)
    (h2:k∉ents.map (·.1)→∀ j,j∉t.place.toList→j≤t.mask→Met t.mask (·∈t.place.toList) k j→Q (.free j false) s) :
    wpAny (model prog w) A (setSearch S (.ref a) (hp k) true) Q E s:=by
  obtain⟨es,ep,ho,hes⟩:=X.obj
  have hz:es.size=ents.length:=by rw [← Array.length_toList,hes,List.length_map]
  have hf:t.fits es.size=true:=X.tab.fits X.le hz
  unfold setSearch setSearchFrom
  refine wpAny_bind (wpAny_setState_of ho rfl hf ?_)
  dsimp only
  rw [zgq X.tab]
  simp only [Bool.false_eq_true,if_false,Option.getD_none]
  generalize hq:t.probe _ (hp k) (t.probeStart (hp k))=r
  have hq':t.probe (fun i=>(es[i]?.map (·.1)).getD 0) (hp k) (t.probeStart (hp k))=r:=hq
  rw [zeQ,hes] at hq'
  by_cases hm:k∈ents.map (·.1)
  · obtain⟨j,i,next,e,e1,e2,e3⟩:=X.tab.found hm
    rw [e1] at hq'
    subst hq'
    dsimp only
    have hei:es[i]?=some (enc e):=by rw [← Array.getElem?_toList,hes,List.getElem?_map,e2];simp only [Option.map_some]
    have hke:=X.keys e (List.mem_of_getElem? e2)
    rw [hei]
    unfold enc
    dsimp only
    have ed:decide ([e.1.1,e.1.2]=[k.1,k.2])=true:=by rw [e3];simp
    cases hl:t.led with
    | true =>
      simp only [Bool.not_true,Bool.false_eq_true,if_false]
      refine wpAny_bind (wpAny_holding (wpAny_eqBool_tuple hu hke ha ?_))
      refine wpAny_bind (wpAny_setState_of ho rfl hf ?_)
      rw [ed]
      simp only [Bool.and_self,if_true]
      exact wpAny_pure (h1 hm)
    | false =>
      simp only [Bool.not_false,if_true]
      obtain⟨l,hl1,hl2⟩:=zbk (ents:=ents) (hp k)
      have el:List.map (fun (x:Int×Value)=>x.2) (Array.filter (fun x=>x.1 == hp k) es).toList=l.map fun e=>Value.ref e.2:=by
        rw [Array.toList_filter,hes]
        exact hl2
      rw [el]
      refine wpAny_bind (zlX ha l (fun e' h'=>X.keys e' (hl1 e' h')) ?_)
      simp only [Bool.false_eq_true,if_false]
      refine wpAny_bind (wpAny_holding (wpAny_eqBool_tuple hu hke ha ?_))
      refine wpAny_bind (wpAny_setState_of ho rfl hf ?_)
      rw [ed]
      simp only [Bool.and_self,if_true]
      exact wpAny_pure (h1 hm)
  · obtain⟨j,e1,e2,e3,e4⟩:=X.tab.free hk hm X.le
    rw [e1] at hq'
    subst hq'
    dsimp only
    exact wpAny_pure (h2 hm j e2 e3 e4)
theorem ke{h h':Heap}{S a:Addr}{ks:List Int}{es ep t}(hS:h.get? S=some { cls:=.type "set",dict:=none,data:=.set es ep t,slots:=#[] })(x:IsTupleKey (intKind prog w) h ks a)(hs:Heap.SameBut S h h') :
    IsTupleKey (intKind prog w) h' ks a:=by
  obtain⟨o',items,n,ho',hc,hd',hi⟩:=x
  have hne:a≠S:=by
    rintro rfl
    obtain rfl:o'=_:=Option.some.inj (ho'.symm.trans hS)
    exact nomatch hd'
  exact⟨o',items,n,(hs.2 a hne).trans ho',hc,hd',hi⟩
theorem zdo{a:Addr}{ks:List Int}{Q:Bool→Shared→Prop}(hk:IsTupleKey (intKind prog w) s.heap ks a)(h:Q true s):wpAny (model prog w) A (hashByValue 8 (.ref a)) Q E s:=by
  have hT:=hk.typeIs
  obtain⟨o,items,n,ho,_,hd,hi⟩:=hk
  unfold hashByValue
  refine wpAny_bind (wpAny_specialOf hT F.slot_tuple_hash.lookup ?_)
  dsimp only
  refine wpAny_bind (wpAny_seqItems ho hd ?_)
  refine wpAny_bind ?_
  show wpAny _ _ (forIn items _ _) _ _ s
  rw [← Array.forIn_toList]
  refine wpAny_forIn_list _ (fun rest r s'=>r.1=none∧s'=s∧∀ v∈rest,carriedByValue v=true∧∃ (i:Int) (u:Tok),v=.int i u) _ ?_ ?_ _ _ ⟨rfl,rfl,?_⟩
  · rintro v rest r s' ⟨hr,rfl,hall⟩
    obtain⟨_,i,u,rfl⟩:=hall v List.mem_cons_self
    have e:hashByValue 7 (.int i u)=pure true:=by
      unfold hashByValue
      rfl
    rw [e]
    refine wpAny_bind (wpAny_pure ?_)
    simp only [Bool.not_true,Bool.false_eq_true,if_false]
    exact wpAny_pure ⟨rfl,rfl,fun u hu'=>hall u (List.mem_cons_of_mem _ hu')⟩
  · rintro⟨r1,r2⟩ s' ⟨hr,rfl,_⟩
    simp only at hr
    subst hr
    exact wpAny_pure h
  · have go:∀ (ks:List Int) (vs:List Value),ItemsAre (intKind prog w) ks vs→∀ v∈vs,carriedByValue v=true∧∃ (i:Int) (u:Tok),v=.int i u:=by
      intro ks vs hh
      induction hh with
      | nil=>intro v hv;cases hv
      | cons h1 _ ih =>
        intro v hv
        rcases List.mem_cons.mp hv with e | e
        · obtain⟨t',e'⟩:=Value.isInt_shape h1
          rw [e,e']
          exact⟨rfl,_,_,rfl⟩
        · exact ih v e
    exact go _ _ hi
theorem zjE{S a:Addr}{t:SetTable}{ents:List Ent}{k:Int×Int}{Q:Bool→Shared→Prop}(hu:A.units < cLine)(X:ko prog w s.heap S t ents)(hk:k∈zL)(ha:IsTupleKey (intKind prog w) s.heap [k.1,k.2] a)
    (h:∀ (b:Bool) (h':Heap) (tk:Nat) (t':SetTable) (ents':List Ent),Heap.SameBut S s.heap h'→ko prog w h' S t' ents'→ents'.Perm (if k∈ents.map (·.1) then ents else (k,a)::ents)→Q b { s with heap:=h',toks:=tk }) :
    wpAny (model prog w) A (setAdd S (.ref a)) Q E s:=by
  unfold setAdd
  refine wpAny_holding (wpAny_bind (wpAny_pyHash_tuple hu ha ?_))
  rw [zmm]
  obtain⟨es,ep,ho,hes⟩:=X.obj
  have hz:es.size=ents.length:=by rw [← Array.length_toList,hes,List.length_map]
  have hf:t.fits es.size=true:=X.tab.fits X.le hz
  unfold setAddHashed setAddHashedIn
  refine wpAny_holding (wpAny_bind (wpAny_setState_of ho rfl hf ?_))
  dsimp only
  have hsc:byScan (.ref a) es=false:=by
    unfold byScan Value.scannable
    simp
  rw [hsc]
  simp only [Bool.false_eq_true,if_false]
  refine wpAny_bind (zdg (s:={ s with toks:=s.toks+([k.1,k.2].length+1) }) hu X hk ha (fun hm=>?_) (fun hm j j1 j2 j3=>?_))
  · dsimp only
    refine wpAny_pure ?_
    have:=h false s.heap (s.toks+([k.1,k.2].length+1)) t ents (Heap.SameBut.refl S s.heap) X (by rw [if_pos hm])
    exact this
  · dsimp only
    refine wpAny_bind (wpAny_setState_of ho rfl hf ?_)
    dsimp only
    obtain⟨T',m1,m2,m3⟩:=X.tab.put (a:=a) hk hm j1 j2 j3
    have hpl:(t.put j).1.plain=true:=by rw [m3];exact X.plain
    rw [if_pos hpl]
    refine wpAny_bind (zdo (s:={ s with toks:=s.toks+([k.1,k.2].length+1) }) ha ?_)
    simp only [if_true]
    generalize hP:(t.put j).2=p at *
    generalize hT:(t.put j).1=t1 at *
    have hpe:p≤ents.length:=by
      rw [← hP]
      show SetTable.below t.place j≤_
      rw [← X.tab.sz,Array.length_toList]
      exact (qV j X.tab.inc).1
    have hes1:(SetTable.insertAt es p (hp k,Value.ref a)).toList=(ents.take p++(k,a)::ents.drop p).map enc:=by
      rw [xp,hes,List.map_append,List.map_cons,List.map_take,List.map_drop]
      rfl
    have hperm:(ents.take p++(k,a)::ents.drop p).Perm ((k,a)::ents):=by
      have:=List.perm_middle (a:=(k,a)) (l₁:=ents.take p) (l₂:=ents.drop p)
      rw [List.take_append_drop] at this
      exact this
    have hlen1:(ents.take p++(k,a)::ents.drop p).length=ents.length+1:=by rw [hperm.length_eq,List.length_cons]
    have hz1:(SetTable.insertAt es p (hp k,Value.ref a)).size=ents.length+1:=by rw [← Array.length_toList,hes1,List.length_map,hlen1]
    have hsm:=T'.small
    rw [hlen1] at hsm
    refine wpAny_bind (wpAny_storeSet_of ho rfl ?_ (by rw [hz1,sizeLine_eq];omega))
    have hg:=Heap.get?_update_self (Obj.putSet (SetTable.insertAt es p (hp k,Value.ref a)) t1) ho (by rfl)
    have hsb:=Heap.SameBut.update s.heap S (Obj.putSet (SetTable.insertAt es p (hp k,Value.ref a)) t1)
    have hkeys:∀ e∈ents.take p++(k,a)::ents.drop p,IsTupleKey (intKind prog w) (s.heap.update S (Obj.putSet (SetTable.insertAt es p (hp k,Value.ref a)) t1)) [e.1.1,e.1.2] e.2:=fun e he=>by
      rcases List.mem_cons.mp (hperm.mem_iff.mp he) with z | z
      · rw [z];exact ke ho ha hsb
      · exact ke ho (X.keys e z) hsb
    have hfill:t1.fill=ents.length+1:=by
      unfold SetTable.fill
      rw [T'.dm,← Array.length_toList,T'.sz,hlen1]
      rfl
    have h1e:(if k∈ents.map (·.1) then ents else (k,a)::ents)=(k,a)::ents:=if_neg hm
    rw [h1e] at h
    by_cases hfull:t1.tooFull=true
    · rw [hfull]
      simp only [Bool.not_false,Bool.and_self,if_true]
      have n5:ents.length+1=5∧t1.mask=7:=by
        unfold SetTable.tooFull at hfull
        rw [hfill] at hfull
        have hd:=of_decide_eq_true hfull
        rcases T'.msk with e | e
        · rw [e] at hd
          have:=X.room (by rw [← m1];exact e)
          exact⟨by omega,e⟩
        · rw [e] at hd
          omega
      have hgr:SetTable.grown (es.size+1)=20:=by rw [hz,n5.1];rfl
      rw [hgr]
      have hlen5:(ents.take p++(k,a)::ents.drop p).length=5:=by rw [hlen1];exact n5.1
      obtain⟨t2,order,r1,r2,r3,r4,r5,r6⟩:=T'.relaid (by omega) hlen5
      have hho:(s.heap.update S (Obj.putSet (SetTable.insertAt es p (hp k,Value.ref a)) t1)).get? S=some { cls:=.type "set",dict:=none,data:=.set (SetTable.insertAt es p (hp k,Value.ref a)) (ep+1) t1,slots:=#[] }:=hg
      have hfit1:t1.fits (SetTable.insertAt es p (hp k,Value.ref a)).size=true:=T'.fits (by rw [hlen5,n5.2];decide) (by rw [hz1,hlen1])
      unfold setRelay
      refine wpAny_bind (wpAny_bind (wpAny_setState_of hho rfl hfit1 ?_))
      dsimp only
      rw [yj,if_neg (by rw [sizeLine_eq];decide)]
      have hmap:(SetTable.insertAt es p (hp k,Value.ref a)).map (·.1)=(((ents.take p++(k,a)::ents.drop p).map (·.1)).map hp).toArray:=by
        apply Array.toList_inj.mp
        rw [Array.toList_map,hes1,List.map_map,List.map_map]
        rfl
      rw [hmap,r1]
      have hpick:(order.filterMap (fun i=>(SetTable.insertAt es p (hp k,Value.ref a))[i]?)).toList=(order.toList.filterMap fun i=>(ents.take p++(k,a)::ents.drop p)[i]?).map enc:=by
        rw [Array.toList_filterMap,List.map_filterMap]
        congr 1
        funext i
        rw [← Array.getElem?_toList,hes1,List.getElem?_map]
      have hpsz:(order.filterMap (fun i=>(SetTable.insertAt es p (hp k,Value.ref a))[i]?)).size=5:=by
        rw [← Array.length_toList,hpick,List.length_map,r3.length_eq,hlen5]
      refine wpAny_bind (wpAny_of_eq (a:=(order.filterMap (fun i=>(SetTable.insertAt es p (hp k,Value.ref a))[i]?),t2)) ?_ ?_)
      · show (if ((order.filterMap (fun i=>(SetTable.insertAt es p (hp k,Value.ref a))[i]?)).size != (SetTable.insertAt es p (hp k,Value.ref a)).size)=true then _ else _)=_
        rw [if_neg (by rw [hpsz,hz1,n5.1];decide)]
      · dsimp only
        have hsb2:=hsb.trans (Heap.SameBut.update (s.heap.update S (Obj.putSet (SetTable.insertAt es p (hp k,Value.ref a)) t1)) S (Obj.putSet (order.filterMap (fun i=>(SetTable.insertAt es p (hp k,Value.ref a))[i]?)) t2))
        have hg2:=Heap.get?_update_self (Obj.putSet (order.filterMap (fun i=>(SetTable.insertAt es p (hp k,Value.ref a))[i]?)) t2) hho (by rfl)
        refine wpAny_storeSet_of hho rfl (wpAny_pure ?_) (by rw [hpsz,sizeLine_eq];decide)
        have r3':=r3.trans hperm
        refine h true _ _ t2 _ hsb2 ⟨⟨_,_,hg2,hpick⟩,r2,fun e he=>?_,fun e7=>?_,by rw [r6];exact hpl,by rw [r5,m2];exact X.led⟩ r3'
        · rcases List.mem_cons.mp (r3'.mem_iff.mp he) with z | z
          · rw [z];exact ke ho ha hsb2
          · exact ke ho (X.keys e z) hsb2
        · rw [r4] at e7
          cases e7
    · have hfull':t1.tooFull=false:=by simpa using hfull
      rw [hfull']
      simp only [Bool.and_false,Bool.false_eq_true,if_false]
      refine wpAny_pure (h true _ _ t1 _ hsb ⟨⟨_,_,hg,hes1⟩,T',hkeys,fun e7=>?_,hpl,by rw [m2];exact X.led⟩ hperm)
      unfold SetTable.tooFull at hfull'
      rw [hfill,e7] at hfull'
      have:=of_decide_eq_false hfull'
      omega
end
end GS
namespace GS
open PySem
theorem qP:Slot "set_iterator" "__next__" "set_iterator.__next__" :=
  .of (owner := "set_iterator") (n := "__next__") (by rw [typeLookup_type,builtinLookup_eq_fast];kernel_rfl) (by decide +kernel) (by decide +kernel) (by decide +kernel)
    (by first | exact .inl (by decide +kernel) | exact .inr (by decide +kernel)) (by rw [isSubtype_type];kernel_rfl)
theorem vg:entryFor table "set_iterator.__next__" = some Builtin.«set_iterator.__next__»:=entryFor_of_fast (by kernel_rfl)
theorem vM (a:Value):argsOk "set_iterator.__next__" ⟨[a],[]⟩:=by unfold argsOk;kernel_rfl
theorem zau:entryFor table "set.__iter__" = some Builtin.«frozenset.__iter__»:=entryFor_alias (id' := "frozenset.__iter__") (by kernel_rfl) rfl (by decide +kernel) (by kernel_rfl)
theorem yM{α:Type}:∀ (l:List α) (i:Nat) (x:α),l[i]?=some x→(x::l.eraseIdx i).Perm l
  | [],i,x,h=>by simp at h
  | a::r,0,x,h=>by
    have:a=x:=by simpa using h
    subst this
    exact List.Perm.refl _
  | a::r,i+1,x,h=>by
    have ih:=yM r i x (by simpa using h)
    rw [List.eraseIdx_cons_succ]
    exact (List.Perm.swap a x _).trans (List.Perm.cons a ih)
theorem zeM{α:Type}(next:Nat→Nat):∀ (fuel k:Nat) (left:List α) (out:Array α),left.length≤fuel→(pickOrder.go next fuel k left out).toList.Perm (out.toList++left)
  | 0,k,left,out,h=>by
    have:left=[]:=List.eq_nil_of_length_eq_zero (by omega)
    subst this
    unfold pickOrder.go
    simp
  | fuel+1,k,left,out,h=>by
    unfold pickOrder.go
    cases q:left[next k % left.length]? with
    | none =>
      have:left.length=0:=by
        by_cases hz:left.length=0
        · exact hz
        · have:=Nat.mod_lt (next k) (Nat.pos_of_ne_zero hz)
          rw [List.getElem?_eq_getElem this] at q
          cases q
      have:left=[]:=List.eq_nil_of_length_eq_zero this
      subst this
      simp
    | some x =>
      obtain⟨hlt,e⟩:=List.getElem?_eq_some_iff.mp q
      have ih:=zeM next fuel (k+1) (left.eraseIdx (next k % left.length)) (out.push x) (by rw [List.length_eraseIdx_of_lt hlt];omega)
      refine ih.trans ?_
      rw [Array.toList_push,List.append_assoc]
      refine List.Perm.append_left _ ?_
      exact yM left _ x q
theorem zaS{α:Type}(next:Nat→Nat)(xs:Array α):(pickOrder next xs).toList.Perm xs.toList:=by
  have:=zeM next xs.size 0 xs.toList #[] (by simp)
  unfold pickOrder
  simpa using this
section
variable {prog:Program}{w:World}{A:Around}{E:Value→Shared→Prop}{s:Shared}
theorem zaj {Q:Bool→Shared→Prop} (h:Q (w.params.followText "set-order") s):wpAny (model prog w) A setsByText Q E s:=by
  unfold setsByText
  exact wpAny_bind (wpAny_askSetting (wpAny_pure h))
def jZ(w:World)(S:Addr)(ep:Nat)(es:Array (Int×Value)):Array (Int×Value):=if w.params.followText "set-order" = true then pickOrder (w.params.setOrder S ep) es else es
theorem ki(w:World)(S:Addr)(ep:Nat)(es:Array (Int×Value)):(jZ w S ep es).toList.Perm es.toList:=by
  unfold jZ
  split
  · exact zaS _ _
  · exact List.Perm.refl _
theorem zf3{a:Addr}{o:Obj}{es:Array (Int×Value)}{ep:Nat}{t:SetTable}{Q:Bool→Shared→Prop}(ho:s.heap.get? a=some o)(hd:o.data=.set es ep t)(hf:t.fits es.size=true)(hp:t.plain=true)(h:Q false s) :
    wpAny (model prog w) A (setDrawn a) Q E s:=by
  unfold setDrawn
  refine wpAny_bind (wpAny_setState_of ho hd hf ?_)
  dsimp only
  refine wpAny_bind (zaj (wpAny_pure ?_))
  have e:(!w.params.followText "set-order" && (!t.plain && decide (es.size > 1)))=false:=by rw [hp];simp
  show Q (!w.params.followText "set-order" && (!t.plain && decide (es.size > 1))) s
  rw [e]
  exact h
def vU(S:Addr)(n ep slot i:Nat):Obj:={ cls:=.type "set_iterator",data:=.fields #[rawInt slot,rawInt i,.ref S,rawInt n,rawInt ep] }
theorem zgg{S:Addr}{es:Array (Int×Value)}{ep:Nat}{t:SetTable}{Q:Value→Shared→Prop}(ho:s.heap.get? S=some { cls:=.type "set",dict:=none,data:=.set es ep t,slots:=#[] })(hf:t.fits es.size=true)(hp:t.plain=true)
    (h:Q (.ref s.heap.objs.size) { s with heap:=s.heap.push (vU S es.size ep 0 0) }):wpAny (model prog w) A (pyIter (.ref S)) Q E s:=by
  have hT:s.TypeIs (.ref S) "set" := ⟨_,ho,rfl⟩
  refine wpAny_pyIter_slot hT F.slot_set_iter (wpAny_call_entry F.slot_set_iter hT zau ?_ (F.args_set_iter_1 _))
  unfold Builtin.«frozenset.__iter__» Builtin.Frozenset.slot0 slotArgs
  simp only [List.isEmpty_nil,Bool.not_true,Bool.false_eq_true,↓reduceIte,bind_assoc,List.length_nil,bne_self_eq_false]
  unfold Builtin.Frozenset.addrOf Builtin.Frozenset.sizeOf
  refine wpAny_bind (wpAny_pure ?_)
  try dsimp only
  refine wpAny_bind (wpAny_pure ?_)
  refine wpAny_bind (wpAny_bind (wpAny_setEntries_of ho rfl hf (wpAny_pure ?_)))
  refine wpAny_bind (zf3 ho rfl hf hp ?_)
  simp only [Bool.false_eq_true,if_false]
  refine wpAny_bind (wpAny_pure ?_)
  refine wpAny_bind (wpAny_setEpoch_of ho rfl hf ?_)
  refine wpAny_bind (wpAny_newObj_type (wpAny_pure ⟨_,rfl, "set_iterator",_,⟨_,Heap.get?_push_size _ rfl,rfl⟩,qP.lookup,h⟩))
def slotAt(w:World)(t:SetTable)(i:Nat):Nat:=if w.params.followText "set-order" = true then 0 else if i=0 then 0 else t.place.getD (i - 1) 0+1
theorem zaw{a:Addr}{o:Obj}{vs:Array Value}{Q:Array Value→Shared→Prop}(ho:s.heap.get? a=some o)(hd:o.data=.fields vs)(h:Q vs s):wpAny (model prog w) A (fieldsOf (.ref a)) Q E s:=by
  unfold fieldsOf
  dsimp only
  refine wpAny_bind (wpAny_load ho ?_)
  rw [hd]
  exact wpAny_pure h
end
end GS
namespace GS
open PySem
theorem vS:Slot "set_iterator" "__iter__" "set_iterator.__iter__" :=
  .of (owner := "set_iterator") (n := "__iter__") (by rw [typeLookup_type,builtinLookup_eq_fast];kernel_rfl) (by decide +kernel) (by decide +kernel) (by decide +kernel)
    (by first | exact .inl (by decide +kernel) | exact .inr (by decide +kernel)) (by rw [isSubtype_type];kernel_rfl)
theorem wj:entryFor table "set_iterator.__iter__" = some Builtin.«dict_keyiterator.__iter__»:=entryFor_alias (id' := "dict_keyiterator.__iter__") (by kernel_rfl) rfl (by decide +kernel) (by kernel_rfl)
theorem zae (a:Value):argsOk "set_iterator.__iter__" ⟨[a],[]⟩:=by unfold argsOk;kernel_rfl
section
variable {prog:Program}{w:World}{A:Around}{E:Value→Shared→Prop}{s:Shared}{S I:Addr}{es:Array (Int×Value)}{ep:Nat}{t:SetTable}{ents:List Ent}
theorem zfh{w:World}{t:SetTable}:slotAt w t 0=0:=by unfold slotAt;split <;> rfl
theorem zaY:typeLookup (.type "set") "__len__" = pure (some (.builtin "set.__len__")):=F.slot_set_len.lookup
end
end GS
namespace GS.J
open PySem
section
variable {prog:Program}{w:World}{A:Around}{E:Value→Shared→Prop}{s:Shared}
theorem psz{t:SetTable}{n:Nat}(h:t.fits n=true):t.place.toList.length=n:=by
  unfold SetTable.fits at h
  rw [Bool.and_eq_true] at h
  rw [Array.length_toList]
  exact eq_of_beq h.1
section
variable {S:Addr}{es:Array (Int×Value)}{ep:Nat}{t:SetTable}{i:Nat}{Q:Option (Value×Nat)→Shared→Prop}
theorem zgi{x:Int×Value}(ho:s.heap.get? S=some { cls:=.type "set",dict:=none,data:=.set es ep t,slots:=#[] })(hf:t.fits es.size=true)(T:Inc t.place.toList)(hp:t.plain=true)(hled:t.led=!(w.params.followText "set-order"))
    (hx:(jZ w S ep es)[i]?=some x) (h:Q (some (x.2,slotAt w t (i+1))) s):wpAny (model prog w) A (setNext S (slotAt w t i) i ep) Q E s:=by
  unfold setNext
  refine wpAny_bind (wpAny_setState_of ho rfl hf ?_)
  dsimp only
  refine wpAny_bind (zaj ?_)
  cases hb:w.params.followText "set-order" with
  | true =>
    simp only [if_true]
    have e:(ep != ep)=false:=by simp
    rw [e]
    simp only [Bool.false_eq_true,if_false]
    unfold setWalk
    refine wpAny_bind (wpAny_bind (wpAny_setState_of ho rfl hf ?_))
    dsimp only
    refine wpAny_bind (zaj ?_)
    rw [hb]
    simp only [if_true]
    refine wpAny_bind (wpAny_askSetting (wpAny_pure (wpAny_pure ?_)))
    unfold jZ at hx
    rw [hb,if_pos rfl] at hx
    show Q (((pickOrder (w.params.setOrder S ep) es)[i]?).map fun e=>(e.2,slotAt w t i)) s
    rw [hx]
    unfold slotAt at h ⊢
    rw [hb,if_pos rfl] at h
    rw [hb,if_pos rfl]
    exact h
  | false =>
    simp only [Bool.false_eq_true,if_false]
    unfold jZ at hx
    rw [hb,if_neg Bool.false_ne_true] at hx
    have hd:(!t.plain && decide (es.size > 1))=false:=by rw [hp];simp
    have hl2:(!t.led && !es.isEmpty)=false:=by rw [hled,hb];simp
    show wpAny _ _ (if (!t.plain && decide (es.size > 1))=true then _ else _) _ _ s
    rw [hd]
    simp only [Bool.false_eq_true,if_false]
    refine wpAny_bind (m:=(if (!t.led && !es.isEmpty)=true then unsupported "set:maker-not-led" else pure ())) ?_
    rw [hl2]
    simp only [Bool.false_eq_true,if_false]
    refine wpAny_pure ?_
    have hi:i < es.size:=(Array.getElem?_eq_some_iff.mp hx).1
    have hpl:i < t.place.toList.length:=by rw [psz hf];exact hi
    have hbel:SetTable.below t.place (slotAt w t i)=i:=by
      unfold slotAt
      rw [hb,if_neg Bool.false_ne_true]
      obtain⟨b1,b2,b3⟩:=qV (if i=0 then 0 else t.place.getD (i - 1) 0+1) T
      have gi:t.place.toList[i]?=some t.place.toList[i]:=List.getElem?_eq_getElem hpl
      rcases Nat.lt_trichotomy (SetTable.below t.place (if i=0 then 0 else t.place.getD (i - 1) 0+1)) i with q | q | q
      · -- then the one ahead of i is at least its own successor
        have i0:i≠0:=by omega
        have hp1:i - 1 < t.place.toList.length:=by omega
        have g1:t.place.toList[i - 1]?=some t.place.toList[i - 1]:=List.getElem?_eq_getElem hp1
        have gd:t.place.getD (i - 1) 0=t.place.toList[i - 1]:=by
          have hs:i - 1 < t.place.size:=by rw [← Array.length_toList];exact hp1
          rw [Array.getD_eq_getD_getElem?,Array.getElem?_eq_getElem hs]
          simp
        have:=b3 (i - 1) _ (by omega) g1
        rw [if_neg i0,gd] at this
        omega
      · exact q
      · have:=b2 i _ q gi
        by_cases i0:i=0
        · rw [if_pos i0] at this
          omega
        · have hp1:i - 1 < t.place.toList.length:=by omega
          have g1:t.place.toList[i - 1]?=some t.place.toList[i - 1]:=List.getElem?_eq_getElem hp1
          have gd:t.place.getD (i - 1) 0=t.place.toList[i - 1]:=by
            have hs:i - 1 < t.place.size:=by rw [← Array.length_toList];exact hp1
            rw [Array.getD_eq_getD_getElem?,Array.getElem?_eq_getElem hs]
            simp
          have h4:=wu T g1 gi (by omega)
          rw [if_neg i0,gd] at this
          omega
    rw [hbel,hx]
    have hs:i < t.place.size:=by rw [← Array.length_toList];exact hpl
    rw [Array.getElem?_eq_getElem hs]
    refine wpAny_pure ?_
    unfold slotAt at h
    rw [hb,if_neg Bool.false_ne_true,if_neg (Nat.succ_ne_zero i)] at h
    have e5:t.place.getD (i+1 - 1) 0=t.place[i]:=by
      rw [Nat.add_sub_cancel,Array.getD_eq_getD_getElem?,Array.getElem?_eq_getElem hs]
      rfl
    rw [e5] at h
    exact h
theorem zcX(ho:s.heap.get? S=some { cls:=.type "set",dict:=none,data:=.set es ep t,slots:=#[] })(hf:t.fits es.size=true)(T:Inc t.place.toList)(hp:t.plain=true)(hled:t.led=!(w.params.followText "set-order"))
    (hx:i=es.size) (h:Q none s):wpAny (model prog w) A (setNext S (slotAt w t i) i ep) Q E s:=by
  unfold setNext
  refine wpAny_bind (wpAny_setState_of ho rfl hf ?_)
  dsimp only
  refine wpAny_bind (zaj ?_)
  cases hb:w.params.followText "set-order" with
  | true =>
    simp only [if_true]
    have e:(ep != ep)=false:=by simp
    rw [e]
    simp only [Bool.false_eq_true,if_false]
    unfold setWalk
    refine wpAny_bind (wpAny_bind (wpAny_setState_of ho rfl hf ?_))
    dsimp only
    refine wpAny_bind (zaj ?_)
    rw [hb]
    simp only [if_true]
    refine wpAny_bind (wpAny_askSetting (wpAny_pure (wpAny_pure ?_)))
    show Q (((pickOrder (w.params.setOrder S ep) es)[i]?).map fun e=>(e.2,slotAt w t i)) s
    have hn:(pickOrder (w.params.setOrder S ep) es)[i]?=none:=by
      rw [Array.getElem?_eq_none_iff,← Array.length_toList,(zaS _ _).length_eq,Array.length_toList,hx]
      exact Nat.le_refl _
    rw [hn]
    exact h
  | false =>
    simp only [Bool.false_eq_true,if_false]
    have hd:(!t.plain && decide (es.size > 1))=false:=by rw [hp];simp
    have hl2:(!t.led && !es.isEmpty)=false:=by rw [hled,hb];simp
    show wpAny _ _ (if (!t.plain && decide (es.size > 1))=true then _ else _) _ _ s
    rw [hd]
    simp only [Bool.false_eq_true,if_false]
    refine wpAny_bind (m:=(if (!t.led && !es.isEmpty)=true then unsupported "set:maker-not-led" else pure ())) ?_
    rw [hl2]
    simp only [Bool.false_eq_true,if_false]
    refine wpAny_pure ?_
    have hbel:es.size≤SetTable.below t.place (slotAt w t i):=by
      unfold slotAt
      rw [hb,if_neg Bool.false_ne_true]
      obtain⟨b1,b2,b3⟩:=qV (if i=0 then 0 else t.place.getD (i - 1) 0+1) T
      rcases Nat.lt_or_ge (SetTable.below t.place (if i=0 then 0 else t.place.getD (i - 1) 0+1)) es.size with q | q
      · have i0:i≠0:=by omega
        have hp1:i - 1 < t.place.toList.length:=by rw [psz hf];omega
        have g1:t.place.toList[i - 1]?=some t.place.toList[i - 1]:=List.getElem?_eq_getElem hp1
        have gd:t.place.getD (i - 1) 0=t.place.toList[i - 1]:=by
          have hs:i - 1 < t.place.size:=by rw [← Array.length_toList];exact hp1
          rw [Array.getD_eq_getD_getElem?,Array.getElem?_eq_getElem hs]
          simp
        have:=b3 (i - 1) _ (by omega) g1
        rw [if_neg i0,gd] at this
        omega
      · exact q
    rw [Array.getElem?_eq_none_iff.mpr hbel]
    exact wpAny_pure h
end
theorem jnext_item{S I:Addr}{es:Array (Int×Value)}{ep:Nat}{t:SetTable}{i:Nat}{x:Int×Value}{Q:Option Value→Shared→Prop}
    (ho:s.heap.get? S=some { cls:=.type "set",dict:=none,data:=.set es ep t,slots:=#[] }) (hf:t.fits es.size=true) (T:Inc t.place.toList) (hp:t.plain=true) (hled:t.led=!(w.params.followText "set-order"))
    (hI:s.heap.get? I=some (vU S es.size ep (slotAt w t i) i)) (hx:(jZ w S ep es)[i]?=some x)
    (h:∀ h',h'.get? I=some (vU S es.size ep (slotAt w t (i+1)) (i+1))→Heap.SameBut I s.heap h'→Q (some x.2) { s with heap:=h' }):wpAny (model prog w) A (pyNext (.ref I)) Q E s:=by
  have hT:s.TypeIs (.ref I) "set_iterator" := ⟨_,hI,rfl⟩
  unfold pyNext
  refine wpAny_bind (wpAny_attempt (wpAny_callSpecial?_slot (name:=Str.ofString "__next__") hT qP (wpAny_call_entry qP hT vg ?_ (vM _))))
  unfold Builtin.«set_iterator.__next__» slotArgs
  simp only [List.isEmpty_nil,Bool.not_true,Bool.false_eq_true,↓reduceIte,bind_assoc,List.length_nil,bne_self_eq_false]
  refine wpAny_bind (wpAny_pure ?_)
  refine wpAny_bind (zaw hI rfl ?_)
  show wpAny _ _ (setEntries S >>= _) _ _ s
  refine wpAny_bind (wpAny_setEntries_of ho rfl hf ?_)
  have e1:(((es.size:Nat):Int) != ((es.size:Nat):Int))=false:=by simp
  show wpAny _ _ (if (((es.size:Nat):Int) != ((es.size:Nat):Int))=true then _ else _) _ _ s
  rw [e1]
  simp only [Bool.false_eq_true,if_false]
  show wpAny _ _ (setNext S ((slotAt w t i:Nat):Int).toNat ((i:Nat):Int).toNat ((ep:Nat):Int).toNat >>= _) _ _ s
  rw [Int.toNat_natCast,Int.toNat_natCast,Int.toNat_natCast]
  refine wpAny_bind (zgi ho hf T hp hled hx ?_)
  dsimp only
  refine wpAny_bind (wpAny_setField_rec hI (by simp) fun h1 g1 b1=>?_)
  refine wpAny_bind (wpAny_setField_rec g1 (by simp) fun h2 g2 b2=>?_)
  refine wpAny_pure ⟨x.2,rfl,wpAny_pure (h h2 ?_ (b1.trans b2))⟩
  rw [g2]
  rfl
theorem zei{S I:Addr}{es:Array (Int×Value)}{ep:Nat}{t:SetTable}{i:Nat}{Q:Option Value→Shared→Prop}(hh:A.handled=none)
    (ho:s.heap.get? S=some { cls:=.type "set",dict:=none,data:=.set es ep t,slots:=#[] }) (hf:t.fits es.size=true) (T:Inc t.place.toList) (hp:t.plain=true) (hled:t.led=!(w.params.followText "set-order"))
    (hI:s.heap.get? I=some (vU S es.size ep (slotAt w t i) i)) (hx:i=es.size)
    (h:∀ h',Heap.ExtBut I s.heap h'→Q none { s with heap:=h' }):wpAny (model prog w) A (pyNext (.ref I)) Q E s:=by
  have hT:s.TypeIs (.ref I) "set_iterator" := ⟨_,hI,rfl⟩
  unfold pyNext
  refine wpAny_bind (wpAny_attempt (wpAny_callSpecial?_slot (name:=Str.ofString "__next__") hT qP (wpAny_call_entry qP hT vg ?_ (vM _))))
  unfold Builtin.«set_iterator.__next__» slotArgs
  simp only [List.isEmpty_nil,Bool.not_true,Bool.false_eq_true,↓reduceIte,bind_assoc,List.length_nil,bne_self_eq_false]
  refine wpAny_bind (wpAny_pure ?_)
  refine wpAny_bind (zaw hI rfl ?_)
  show wpAny _ _ (setEntries S >>= _) _ _ s
  refine wpAny_bind (wpAny_setEntries_of ho rfl hf ?_)
  have e1:(((es.size:Nat):Int) != ((es.size:Nat):Int))=false:=by simp
  show wpAny _ _ (if (((es.size:Nat):Int) != ((es.size:Nat):Int))=true then _ else _) _ _ s
  rw [e1]
  simp only [Bool.false_eq_true,if_false]
  show wpAny _ _ (setNext S ((slotAt w t i:Nat):Int).toNat ((i:Nat):Int).toNat ((ep:Nat):Int).toNat >>= _) _ _ s
  rw [Int.toNat_natCast,Int.toNat_natCast,Int.toNat_natCast]
  refine wpAny_bind (zcX ho hf T hp hled hx ?_)
  dsimp only
  refine wpAny_bind (wpAny_setField hI rfl (by simp) ?_)
  show wpAny _ _ (newExc (.type "StopIteration") [] >>= _) _ _ _
  refine wpAny_bind ?_
  simp only [newExc,newTuple]
  refine wpAny_bind (wpAny_newObj_type ?_ (by size_fits))
  refine wpAny_bind (m:=firstArgMember _ _) (wpAny_of_eq (a:=Value.none) (by first | rfl | (simp only [firstArgMember];rfl)) ?_)
  refine wpAny_newObj_type ?_ (by size_fits)
  simp only [raiseNew]
  refine wpAny_bind (wpAny_handled ?_)
  rw [show A.in1.handled=none from hh]
  refine wpAny_bind (wpAny_pure (wpAny_throw ?_))
  refine wpAny_bind (wpAny_isInstance (T := "StopIteration") (b:=true) ⟨_,Heap.get?_push_size _ rfl,rfl⟩ isSubtype_stop ?_)
  exact wpAny_pure (h _ (((Heap.SameBut.update ..).extBut.push _).push _))
end
section
variable {prog:Program}{w:World}{A:Around}{E:Value→Shared→Prop}{s:Shared}{S I:Addr}{es:Array (Int×Value)}{ep:Nat}{t:SetTable}
theorem zcY (hh:A.handled=none) (hf:t.fits es.size=true) (T:Inc t.place.toList) (hp:t.plain=true) (hled:t.led=!(w.params.followText "set-order")) (hne:S≠I) :
    Walks prog w A I [I,S] [I] es.size (fun i v=>∃ x,(jZ w S ep es)[i]?=some x∧v=x.2)
      (fun i h=>h.get? I=some (vU S es.size ep (slotAt w t i) i)∧h.get? S=some { cls:=.type "set",dict:=none,data:=.set es ep t,slots:=#[] }) where
  sub:=fun b hb=>by simp at hb;simp [hb]
  frame:=fun i h h' st hk=>⟨hk I (by simp) _ st.1,hk S (by simp) _ st.2⟩
  item:=fun i s Q E hi st hQ=>by
    have hlen:(jZ w S ep es).size=es.size:=by rw [← Array.length_toList,(ki w S ep es).length_eq,Array.length_toList]
    have hx:(jZ w S ep es)[i]?=some (jZ w S ep es)[i]:=Array.getElem?_eq_getElem (by rw [hlen];exact hi)
    refine jnext_item st.2 hf T hp hled st.1 hx fun h' g sb=>?_
    exact hQ _ h' s.toks ⟨_,hx,rfl⟩ ⟨g,(sb.2 S hne).trans st.2⟩ fun b o hb e=>(sb.2 b (fun h=>hb (by simp [h]))).trans e
  done:=fun s Q E st hQ=>zei hh st.2 hf T hp hled st.1 rfl fun h' he=>hQ h' s.toks fun b o hb e=>he b o (fun h=>hb (by simp [h])) e
  self:=fun i s Q E st hQ=>by
    have hT:s.TypeIs (.ref I) "set_iterator" := ⟨_,st.1,rfl⟩
    refine wpAny_pyIter_slot hT vS (wpAny_call_entry vS hT wj ?_ (zae _))
    show wpAny _ _ (ret (.ref I)) _ _ s
    exact wpAny_pure ⟨_,rfl, "set_iterator",_,hT,qP.lookup,hQ⟩
theorem vP{Q:List Value→Shared→Prop}(hh:A.handled=none)(ho:s.heap.get? S=some { cls:=.type "set",dict:=none,data:=.set es ep t,slots:=#[] })(hf:t.fits es.size=true)(T:Inc t.place.toList)(hp:t.plain=true)
    (hled:t.led=!(w.params.followText "set-order")) (hn:es.size≤sizeLine)
    (h:∀ h' tk,(∀ b o,s.heap.get? b=some o→h'.get? b=some o)→Q ((jZ w S ep es).toList.map (·.2)) { s with heap:=h',toks:=tk }):wpAny (model prog w) A (collect (.ref S)) Q E s:=by
  have hlt:S < s.heap.objs.size:=Heap.lt_size ho
  unfold collect
  refine wpAny_bind (wpAny_runValue (codeAny_builtin F.entry_proto_collect ?_))
  rw [Around.under_plainId F.plain_proto_collect _]
  show wpAny _ A.in1 (newList [] >>= fun l=>again (.builtin "list.__iadd__" ⟨[l,.ref S],[]⟩)) _ _ s
  refine wpAny_bind (wpAny_newObj_type ?_)
  refine wpAny_pure ⟨plainId_quiet F.plain_list_iadd _,codeAny_builtin F.entry_list_iadd ?_⟩
  rw [Around.under_plainId F.plain_list_iadd _]
  have ho1:(s.heap.push { cls:=.type "list",data:=.seq ([]:List Value).toArray }).get? S=some { cls:=.type "set",dict:=none,data:=.set es ep t,slots:=#[] }:=Heap.get?_push_of_some _ ho
  have hT1:Shared.TypeIs { s with heap:=s.heap.push { cls:=.type "list",data:=.seq ([]:List Value).toArray } } (.ref S) "set" := ⟨_,ho1,rfl⟩
  have hL1:(s.heap.push { cls:=.type "list",data:=.seq ([]:List Value).toArray }).get? s.heap.objs.size=some { cls:=.type "list",data:=.seq ([]:List Value).toArray }:=Heap.get?_push_size _ rfl
  show wpAny _ A.in1 (Builtin.List.listExtendWith (.ref s.heap.objs.size) (.ref S) (.ref s.heap.objs.size)) _ _ _
  unfold Builtin.List.listExtendWith
  refine wpAny_bind (wpAny_typeOf hT1 ?_)
  have h1:Builtin.List.listSameRef (.ref s.heap.objs.size) (.ref S)=false:=by
    have:s.heap.objs.size≠S:=Nat.ne_of_gt hlt
    simp [Builtin.List.listSameRef,this]
  have h2:(Value.type "set" == Value.type "list")=false:=by decide
  have h3:(Value.type "set" == Value.type "tuple")=false:=by decide
  simp only [h1,h2,h3,Bool.or_false,Bool.false_eq_true,if_false]
  refine wpAny_bind (zgg ho1 hf hp ?_)
  have hT2:Shared.TypeIs { s with heap:=(s.heap.push { cls:=.type "list",data:=.seq ([]:List Value).toArray }).push (vU S es.size ep 0 0) } (.ref S) "set" := ⟨_,Heap.get?_push_of_some _ ho1,rfl⟩
  refine wpAny_bind (wpAny_holding ?_)
  unfold Builtin.List.listLengthHint
  refine wpAny_bind (wpAny_specialOf hT2 zaY ?_)
  dsimp only
  have e1:splitId "set.__len__" = some ("set", "__len__"):=by kernel_rfl
  rw [e1]
  dsimp only
  refine wpAny_bind (wpAny_isInstance (b:=true) hT2 (by rw [isSubtype_type];kernel_rfl) ?_)
  rw [if_neg (by decide)]
  rw [if_pos (by decide +kernel)]
  refine wpAny_bind (wpAny_typeOf hT2 (wpAny_pure ?_))
  rw [if_pos (by decide +kernel)]
  refine wpAny_bind (wpAny_rule ?_)
  have hL2:((s.heap.push { cls:=.type "list",data:=.seq ([]:List Value).toArray }).push (vU S es.size ep 0 0)).get? s.heap.objs.size=some { cls:=.type "list",data:=.seq ([]:List Value).toArray }:=Heap.get?_push_of_some _ hL1
  refine wpAny_bind ?_
  show wpAny _ A.in1 (updateSeq s.heap.objs.size (·.push .none) >>= fun _=>updateSeq s.heap.objs.size (·.pop)) _ _ _
  refine wpAny_bind (wpAny_updateSeq hL2 rfl ?_)
  have hL3:=Heap.get?_update_self (Obj.mapSeq (·.push Value.none)) hL2 rfl
  refine wpAny_updateSeq hL3 rfl ?_
  have hL4:=Heap.get?_update_self (Obj.mapSeq (·.pop)) hL3 rfl
  have hI:(s.heap.push { cls:=.type "list",data:=.seq ([]:List Value).toArray }).objs.size=s.heap.objs.size+1:=Heap.size_push _ _
  generalize hIe:(s.heap.push { cls:=.type "list",data:=.seq ([]:List Value).toArray }).objs.size=I at *
  have hLI:s.heap.objs.size≠I:=by rw [hI];exact Nat.ne_of_lt (Nat.lt_succ_self _)
  have hSL:S≠s.heap.objs.size:=Nat.ne_of_lt hlt
  have hSI:S≠I:=by rw [hI];exact Nat.ne_of_lt (Nat.lt_succ_of_lt hlt)
  have W:=(zcY (prog:=prog) (w:=w) (A:=A.in1) (ep:=ep) hh hf T hp hled hSI).toS
  have oth:∀ b o,b≠s.heap.objs.size→((s.heap.push { cls:=.type "list",data:=.seq ([]:List Value).toArray }).push (vU S es.size ep 0 0)).get? b=some o →
      ((((s.heap.push { cls:=.type "list",data:=.seq ([]:List Value).toArray }).push (vU S es.size ep 0 0)).update s.heap.objs.size (Obj.mapSeq (·.push Value.none))).update s.heap.objs.size (Obj.mapSeq (·.pop))).get? b=some o :=
    fun b o hb e=>(Heap.get?_update_other _ _ (Ne.symm hb)).trans ((Heap.get?_update_other _ _ (Ne.symm hb)).trans e)
  have g1:((s.heap.push { cls:=.type "list",data:=.seq ([]:List Value).toArray }).push (vU S es.size ep 0 0)).get? I=some (vU S es.size ep (slotAt w t 0) 0):=by rw [← hIe,zfh];exact Heap.get?_push_size _ rfl
  have g2:=Heap.get?_push_of_some (vU S es.size ep 0 0) ho1
  have hSf:s.heap.objs.size∉[I,S]:=fun hm=>by
    rcases List.mem_cons.mp hm with e | hm
    · exact hLI e
    · exact hSL (List.mem_singleton.mp hm).symm
  refine wpAny_pure ⟨plainId_quiet F.plain_extend_loop _,codeAny_extend_loopS W hn s.heap.objs.size hSf _ es.size 0 _ _ _ rfl (Nat.zero_le _) ⟨oth _ _ (Ne.symm hLI) g1,oth _ _ hSL g2⟩ hL4 (ItemsOf.nil _) fun s' acc' c' hm hS' hacc=>?_⟩
  show wpAny _ A (load s.heap.objs.size >>= _) _ _ s'
  refine wpAny_bind (wpAny_load hS' ?_)
  have es':s'={ s with heap:=s'.heap,toks:=s'.toks }:=by
    have e1:s'.gens=s.gens:=hm.gens
    have e2:s'.drawn=s.drawn:=hm.drawn
    have e3:s'.os=s.os:=hm.os
    cases s'
    simp only at e1 e2 e3
    rw [e1,e2,e3]
  have hlen:(jZ w S ep es).size=es.size:=by rw [← Array.length_toList,(ki w S ep es).length_eq,Array.length_toList]
  have eacc:acc'.toList=(jZ w S ep es).toList.map (·.2):=by
    apply List.ext_getElem?
    intro i
    rw [List.getElem?_map,Array.getElem?_toList,Array.getElem?_toList]
    by_cases hi:i < es.size
    · have h1:acc'[i]?=some (acc'[i]'(by rw [hacc.1];exact hi)):=Array.getElem?_eq_getElem _
      obtain⟨x,hx,hv⟩:=hacc.2 i _ h1
      rw [h1,hx,hv]
      rfl
    · rw [Array.getElem?_eq_none (by rw [hacc.1];omega),Array.getElem?_eq_none (by rw [hlen];omega)]
      rfl
  refine wpAny_pure ?_
  rw [eacc,es']
  refine h _ _ fun b o e=>?_
  have hb1:b≠s.heap.objs.size:=Nat.ne_of_lt (Heap.lt_size e)
  have hb2:b≠I:=by rw [hI];exact Nat.ne_of_lt (Nat.lt_succ_of_lt (Heap.lt_size e))
  exact hm.heap b o (fun z=>by
    rcases List.mem_cons.mp z with z | z
    · exact hb1 z
    · exact hb2 (List.mem_singleton.mp z)) (oth b o hb1 (Heap.get?_push_of_some _ (Heap.get?_push_of_some _ e)))
end
end GS.J
namespace GS
open PySem
section
variable {prog:Program}{w:World}{A:Around}{E:Value→Shared→Prop}{s:Shared}
theorem zfy{led:Bool}:Tab (.fresh 0 0 led) [] where
  dm:=rfl
  inc:=by unfold SetTable.fresh;simp [Inc]
  sz:=rfl
  le:=fun j hj=>by simp [SetTable.fresh] at hj
  msk:=.inl rfl
  in15:=fun e he=>by simp at he
  nd:=by simp
  way:=fun i j e hi=>by simp [SetTable.fresh] at hi
theorem kg{h h':Heap}{a:Addr}{ks:List Int}(k:IsTupleKey (intKind prog w) h ks a)(hk:∀ o,h.get? a=some o→h'.get? a=some o):IsTupleKey (intKind prog w) h' ks a:=by
  obtain⟨o,its,n,e,c⟩:=k
  exact⟨o,its,n,hk o e,c⟩
theorem ko.kept{h h':Heap}{S:Addr}{t:SetTable}{ents:List Ent}(x:ko prog w h S t ents)(hS:∀ o,h.get? S=some o→h'.get? S=some o)(hk:∀ e∈ents,∀ o,h.get? e.2=some o→h'.get? e.2=some o):ko prog w h' S t ents where
  obj:=by
    obtain⟨es,ep,e,c⟩:=x.obj
    exact⟨es,ep,hS _ e,c⟩
  tab:=x.tab
  keys:=fun e he=>kg (x.keys e he) (hk e he)
  room:=x.room
  plain:=x.plain
  led:=x.led
structure zfP(prog:Program)(w:World)(h:Heap)(S:Addr)(val:Nat→Int×Int)(ad:Nat→Addr)(i:Nat):Prop where
  ex:∃ t ents,ko prog w h S t ents∧(∀ k,k∈ents.map (·.1)↔∃ j,j < i∧val j=k)∧∀ e∈ents,∃ j,j < i∧val j=e.1∧ad j=e.2
theorem zfP.kept{h h':Heap}{S:Addr}{val:Nat→Int×Int}{ad:Nat→Addr}{i n:Nat}(hin:i≤n)(x:zfP prog w h S val ad i)(hS:∀ o,h.get? S=some o→h'.get? S=some o)(hk:∀ j,j < n→∀ o,h.get? (ad j)=some o→h'.get? (ad j)=some o):zfP prog w h' S val ad i:=by
  obtain⟨t,ents,a,b,c⟩:=x.ex
  refine⟨t,ents,a.kept hS fun e he o q=>?_,b,c⟩
  obtain⟨j,hj,_,e2⟩:=c e he
  rw [← e2] at q ⊢
  exact hk j (by omega) o q
theorem zfE{h':Heap}{S:Addr}{val:Nat→Int×Int}{ad:Nat→Addr}{i:Nat}{t':SetTable}{ents ents':List Ent}(x:ko prog w h' S t' ents')(b:∀ k,k∈ents.map (·.1)↔∃ j,j < i∧val j=k)(c:∀ e∈ents,∃ j,j < i∧val j=e.1∧ad j=e.2)
    (p:ents'.Perm (if val i∈ents.map (·.1) then ents else (val i,ad i)::ents)):zfP prog w h' S val ad (i+1):=by
  refine⟨t',ents',x,fun k=>?_,fun e he=>?_⟩
  · rw [(p.map (·.1)).mem_iff]
    by_cases hm:val i∈ents.map (·.1)
    · rw [if_pos hm,b k]
      constructor
      · rintro⟨j,hj,e⟩;exact⟨j,by omega,e⟩
      · rintro⟨j,hj,e⟩
        by_cases hji:j=i
        · subst hji;rw [e] at hm;exact (b k).mp hm
        · exact⟨j,by omega,e⟩
    · rw [if_neg hm,List.map_cons,List.mem_cons,b k]
      constructor
      · rintro (e | ⟨j,hj,e⟩)
        · exact⟨i,by omega,e.symm⟩
        · exact⟨j,by omega,e⟩
      · rintro⟨j,hj,e⟩
        by_cases hji:j=i
        · subst hji;exact .inl e.symm
        · exact .inr ⟨j,by omega,e⟩
  · have he':=p.mem_iff.mp he
    by_cases hm:val i∈ents.map (·.1)
    · rw [if_pos hm] at he'
      obtain⟨j,hj,e1⟩:=c e he'
      exact⟨j,by omega,e1⟩
    · rw [if_neg hm] at he'
      rcases List.mem_cons.mp he' with e1 | e1
      · subst e1;exact⟨i,by omega,rfl,rfl⟩
      · obtain⟨j,hj,e2⟩:=c e e1
        exact⟨j,by omega,e2⟩
theorem zc1{R:Result→Shared→Prop}{I:Addr}{fp wr:List Addr}{n:Nat}{P:Nat→Value→Prop}{St:Nat→Heap→Prop}(W:Walks prog w A.in1 I fp wr n P St)(hu:A.in1.units < cLine)(S:Addr)(hSf:S∉fp)(val:Nat→Int×Int)(ad:Nat→Addr)
    (hval:∀ i v,P i v→v=.ref (ad i)) (h15:∀ i,i < n→val i∈zL) (hadS:∀ i,i < n→ad i≠S) (hadw:∀ i,i < n→ad i∉wr) :
    ∀ (k i:Nat) (s:Shared),n - i=k→i≤n→St i s.heap→(∀ j,j < n→IsTupleKey (intKind prog w) s.heap [(val j).1,(val j).2] (ad j))→zfP prog w s.heap S val ad i →
      (∀ h' tk,(∀ b o,b≠S→b∉wr→s.heap.get? b=some o→h'.get? b=some o)→zfP prog w h' S val ad n→R (.ok (.ret .none)) { s with heap:=h',toks:=tk }) →
      codeAny (model prog w) A (.builtin "set.update.loop" ⟨[.ref S,.ref I],[]⟩) R s:=by
  have hSw:S∉wr:=fun h=>hSf (W.sub _ h)
  intro k
  induction k with
  | zero =>
    intro i s hk hi hst hkey hS hR
    obtain rfl:i=n:=by omega
    refine codeAny_builtin PyProof.Rows.F.entry_set_update_loop ?_
    rw [Around.under_plainId PyProof.Rows.F.plain_set_update_loop _]
    show wpAny _ A.in1 (pyNext (.ref I) >>= _) _ _ s
    refine wpAny_bind (W.done s _ _ hst fun h' tk hm=>?_)
    refine wpAny_pure (hR h' tk (fun b o _ hb e=>hm b o hb e) (hS.kept (Nat.le_refl _) (fun o e=>hm S o hSw e) fun j hj o e=>hm _ o (hadw j hj) e))
  | succ k ih =>
    intro i s hk hi hst hkey hS hR
    have hlt:i < n:=by omega
    refine codeAny_builtin PyProof.Rows.F.entry_set_update_loop ?_
    rw [Around.under_plainId PyProof.Rows.F.plain_set_update_loop _]
    show wpAny _ A.in1 (pyNext (.ref I) >>= _) _ _ s
    refine wpAny_bind (W.item i s _ _ hlt hst fun v h1 tk hP hst1 hm=>?_)
    obtain rfl:=hval i v hP
    have hS1:zfP prog w h1 S val ad i:=hS.kept hi (fun o e=>hm S o hSw e) fun j hj o e=>hm _ o (hadw j hj) e
    have hkey1:∀ j,j < n→IsTupleKey (intKind prog w) h1 [(val j).1,(val j).2] (ad j):=fun j hj=>kg (hkey j hj) fun o e=>hm _ o (hadw j hj) e
    show wpAny _ A.in1 (holding [Value.ref (ad i)] (setAdd S (.ref (ad i))) >>= _) _ _ _
    obtain⟨t,ents,x,b,c⟩:=hS1.ex
    refine wpAny_bind (wpAny_holding (zjE (s:={ s with heap:=h1,toks:=tk }) hu x (h15 i hlt) (hkey1 i hlt) fun bb h2 tk2 t2 ents2 sb x2 p2=>?_))
    have oth:∀ b o,b≠S→h1.get? b=some o→h2.get? b=some o:=fun b o hb e=>(sb.2 b hb).trans e
    refine wpAny_pure ⟨plainId_quiet PyProof.Rows.F.plain_set_update_loop _,ih (i+1) { s with heap:=h2,toks:=tk2 } (by omega) hlt (W.frame _ h1 h2 hst1 fun b hb o e=>oth b o (fun z=>hSf (z ▸ hb)) e)
      (fun j hj=>kg (hkey1 j hj) fun o e=>oth _ o (hadS j hj) e) (zfE x2 b c p2) fun h3 tk3 hm3 hS3=>?_⟩
    exact hR h3 tk3 (fun b o hb hw e=>hm3 b o hb hw (oth b o hb (hm b o hw e))) hS3
end
section
variable {prog:Program}{w:World}{A:Around}{E:Value→Shared→Prop}{s:Shared}
def zr(w:World):Obj:={ cls:=.type "set",dict:=none,data:=.set #[] 0 (.fresh 0 0 !(w.params.followText "set-order")) }
theorem zbp(a:Value){Q₁:Value→Shared→Prop}(h:Q₁ (.ref s.heap.objs.size) { s with heap:=s.heap.push (zr w) }) :
    codeAny (model prog w) A (.call (.builtin "set.__new__") ⟨[.type "set",a],[]⟩) (wants Q₁ E) s:=by
  refine codeAny_of_tree ?_
  show wpAny _ A.in1 (checkBuiltinCall "set.__new__" ⟨[.type "set",a],[]⟩ >>= fun _=>again (.builtin "set.__new__" ⟨[.type "set",a],[]⟩)) _ _ s
  refine wpAny_bind (wpAny_of_eq (F.newCall_set_1 a) (wpAny_pure ⟨plainId_quiet F.plain_set_new _,codeAny_builtin F.entry_set_new ?_⟩))
  rw [Around.under_plainId F.plain_set_new _]
  unfold Builtin.«set.__new__» Builtin.Frozenset.newClass
  have hsub:=sub_set_self
  obtain⟨hp,g,d,tk,os⟩:=s
  dsimp only
  wp_walk
  refine wpAny_askSetting (wpAny_pure ?_)
  dsimp only
  simp only [newObj]
  refine wpAny_bind (wpAny_alloc (wpAny_pure ?_))
  exact wpAny_pure h
theorem zfS{l:Addr}{its:Array Value}{val:Nat→Int×Int}{ad:Nat→Addr}{Q:Value→Shared→Prop}(hh:A.handled=none)(hu:A.units+8 < cLine)(hl:s.heap.IsList l its)(hval:∀ (i:Nat) (v:Value),its[i]?=some v→v=.ref (ad i))
    (h15:∀ i,i < its.size→val i∈zL) (hkey:∀ i,i < its.size→IsTupleKey (intKind prog w) s.heap [(val i).1,(val i).2] (ad i))
    (h:∀ (h':Heap) (tk:Nat),zfP prog w h' s.heap.objs.size val ad its.size→(∀ b o,s.heap.get? b=some o→h'.get? b=some o)→Q (.ref s.heap.objs.size) { s with heap:=h',toks:=tk }) :
    wpAny (model prog w) A (call (.type "set") [.ref l]) Q E s:=by
  obtain⟨c,tl,hmro⟩:=F.called_set.mro
  have hmade:=F.called_set.made
  have hsub:=F.called_set.sub
  refine wpAny_call (codeAny_of_tree ?_)
  show wpAny _ _ (callAny (.type "set") _) _ _ _
  refine wpAny_pure ⟨Code.quiet_builtin _ (by decide +kernel),codeAny_builtin F.entry_type_call ?_⟩
  rw [Around.under_plain (weight_type_call_type "set" [.ref l] []) rfl]
  have h1:=F.called_set.notType
  have h2:=F.called_set.canCreate
  have hct:=F.typeCall_set_1 (.ref l)
  repeat (any_goals (first | assumption | wp_step))
  refine codeAny_mono (zbp (.ref l) (E:=E) (Q₁:=fun ob s₁=>ob=.ref s.heap.objs.size∧s₁={ s with heap:=s.heap.push (zr w) }) ⟨rfl,rfl⟩) fun r s₁ hr=>?_
  cases r with
  | error e=>exact hr
  | ok fl =>
    cases fl with
    | ret ob =>
      obtain⟨rfl,rfl⟩:=hr
      have hS:(s.heap.push (zr w)).get? s.heap.objs.size=some (zr w):=Heap.get?_push_size _ rfl
      have hT:Shared.TypeIs { s with heap:=s.heap.push (zr w) } (.ref s.heap.objs.size) "set" := ⟨_,hS,rfl⟩
      have hli:=F.called_set.init.lookup
      have hbi:=F.called_set.init.bind (.ref s.heap.objs.size)
      repeat (any_goals (first | assumption | wp_step))
      refine codeAny_mono (codeAny_call_builtin (R:=wants (fun r s₂=>r=.none∧∃ h' tk,s₂={ s with heap:=h',toks:=tk }∧zfP prog w h' s.heap.objs.size val ad its.size∧(∀ b o,s.heap.get? b=some o→h'.get? b=some o)) E)
        F.called_set.init.plain F.entry_set_init (check_set_init_1 hT ?_)) fun r₂ s₂ hr₂=>?_
      · obtain⟨ol,hol,hcl,nl,hdl⟩:=hl
        obtain⟨ocls,odict,odata,oslots⟩:=ol
        simp only at hcl hdl
        subst hcl;subst hdl
        have hol':(s.heap.push (zr w)).get? l=some { cls:=.type "list",dict:=odict,data:=.seq its nl,slots:=oslots }:=Heap.get?_push_of_some _ hol
        have hsls:=F.sub_list_set
        have hslf:=F.sub_list_frozenset
        have hne:(Value.type "list" == Value.type "dict")=false:=by decide
        have hl1:(s.heap.push (zr w)).IsList l its:=⟨_,hol',rfl,nl,rfl⟩
        have hS':(s.heap.push (zr w)).get? s.heap.objs.size=some { cls:=.type "set",dict:=none,data:=.set #[] 0 (.fresh 0 0 !(w.params.followText "set-order")) }:=hS
        unfold Builtin.«set.__init__» noKeywords Builtin.Frozenset.updateFrom
        generalize hPI:pyIter=PI
        wp_walk
        subst hPI
        refine wpAny_pyIter_list hl1 ?_
        refine wpAny_bind (wpAny_runValue ?_)
        have hlS:l < s.heap.objs.size:=Heap.lt_size hol
        have hh3:A.in1.in1.in1.handled=none:=by simp [hh]
        have hsz:(s.heap.push (zr w)).objs.size=s.heap.objs.size+1:=Heap.size_push _ _
        have hneI:l≠(s.heap.push (zr w)).objs.size:=by rw [hsz];exact Nat.ne_of_lt (Nat.lt_succ_of_lt hlS)
        have hSf:s.heap.objs.size∉[(s.heap.push (zr w)).objs.size,l]:=fun z=>by
          rcases List.mem_cons.mp z with z | z
          · rw [hsz] at z;exact Nat.ne_of_lt (Nat.lt_succ_self _) z
          · exact Nat.ne_of_gt hlS (List.mem_singleton.mp z)
        have up:∀ b o,s.heap.get? b=some o→((s.heap.push (zr w)).push { cls:=.type "list_iterator",data:=.fields #[.ref l,.int 0 0] }).get? b=some o:=fun b o e=>Heap.get?_push_of_some _ (Heap.get?_push_of_some _ e)
        have adlt:∀ i,i < its.size→ad i < s.heap.objs.size:=fun i hi=>by
          obtain⟨_,_,_,e,_⟩:=hkey i hi
          exact Heap.lt_size e
        refine zc1 (Walks.list hh3 _ l hneI its) (by simp only [Around.in1_units];omega) s.heap.objs.size hSf val ad hval h15 (fun i hi=>Nat.ne_of_lt (adlt i hi))
          (fun i hi z=>by have q:=adlt i hi;rw [List.mem_singleton.mp z,hsz] at q;exact Nat.lt_irrefl _ (Nat.lt_of_succ_lt q)) its.size 0 _ rfl (Nat.zero_le _) ⟨⟨_,Heap.get?_push_size _ rfl,rfl,rfl⟩,hl1.push _⟩ (fun j hj=>kg (hkey j hj) fun o e=>up _ o e) ?hS0 ?hR
        case hS0 =>
          refine⟨_,[],⟨⟨#[],0,Heap.get?_push_of_some _ hS',rfl⟩,zfy,fun e he=>by simp at he,fun _=>Nat.zero_le _,rfl,rfl⟩,fun k=>?_,fun e he=>by simp at he⟩
          simp
        case hR =>
          intro h' tk hm hS'
          show wpAny _ _ _ _ _ _
          refine wpAny_pure ?_
          show wpAny _ _ (ret Value.none) _ _ _
          refine wpAny_pure ⟨rfl,h',tk,rfl,hS',fun b o e=>?_⟩
          have hb:=Heap.lt_size e
          refine hm b o (Nat.ne_of_lt hb) (fun z=>?_) (up b o e)
          rw [List.mem_singleton.mp z,hsz] at hb
          exact Nat.lt_irrefl _ (Nat.lt_of_succ_lt hb)
      · cases r₂ with
        | error e=>exact hr₂
        | ok fl₂ =>
          cases fl₂ with
          | ret r =>
            obtain⟨rfl,h',tk,rfl,hS',hk'⟩:=hr₂
            repeat (any_goals (first | assumption | wp_step))
            exact h _ _ hS' hk'
          | _=>exact hr₂.elim
    | _=>exact hr.elim
end
end GS
namespace GS.J
open PySem PyProof.Rows
def tb(l:List Int)(led:Bool):SetTable:={ mask:=if l.length≤4 then 7 else 31,place:=(l.map Int.toNat).toArray,dummies:=#[],finger:=0,led,moves:=if l.length≤4 then 0 else 1,plain:=true }
def tb1(l:List Int)(x:Int)(led:Bool):SetTable:={ tb l led with place:=((l++[x]).map Int.toNat).toArray }
def six:List (List Int):=(List.range 64).map fun n=>((List.range 6).filter fun i=>n / 2 ^ i % 2 == 1).map Int.ofNat
def stepOk(led:Bool)(l:List Int)(x:Int):Bool :=
  decide ((tb l led).freeSlot (hashInt x)=some (x.toNat,false)) && decide ((tb l led).put x.toNat=(tb1 l x led,l.length)) && (tb1 l x led).fits (l.length+1) && (tb l led).fits l.length && decide (x∉l) &&
  (if (tb1 l x led).tooFull then decide ((tb1 l x led).relaid ((l++[x]).map hashInt).toArray (SetTable.grown (l.length+1))=some (tb (l++[x]) led,(List.range (l.length+1)).toArray)) && (tb (l++[x]) led).fits (l.length+1) && coversAll (List.range (l.length+1)).toArray (l.length+1)
    else decide (tb1 l x led=tb (l++[x]) led))
theorem steps:∀ led,∀ g∈six,∀ n,n < g.length→stepOk led (g.take n) (g.getD n 0)=true:=by
  intro led
  cases led <;> decide +kernel
theorem zlK:∀ g∈six,g.Pairwise (· < ·):=by decide +kernel
theorem wW:∀ g∈six,g.length≤6:=by decide +kernel
theorem zg2:∀ led,∀ g∈six,(tb g led).fits g.length=true:=by
  intro led
  cases led <;> decide +kernel
def zkA(p:Int×Tok):Int×Value:=(hashInt p.1,.int p.1 p.2)
section
variable {prog:Program}{w:World}{A:Around}{E:Value→Shared→Prop}{s:Shared}
structure SI(w:World)(h:Heap)(S:Addr)(l:List Int):Prop where
  ex:∃ es ep,h.get? S=some { cls:=.type "set",dict:=none,data:=.set es ep (tb l !(w.params.followText "set-order")),slots:=#[] }∧∃ L:List (Int×Tok),es.toList=L.map zkA∧L.map (·.1)=l
theorem SI.kept{h h':Heap}{S:Addr}{l:List Int}(x:SI w h S l)(k:∀ o,h.get? S=some o→h'.get? S=some o):SI w h' S l:=by
  obtain⟨es,ep,a,b⟩:=x.ex
  exact⟨es,ep,k _ a,b⟩
theorem elems(L:List (Int×Tok)):ElemsOf (intKind prog w) (L.map zkA):=fun e he=>by
  obtain⟨p,_,rfl⟩:=List.mem_map.mp he
  exact⟨⟨p.1,by simp [intKind,Value.isInt,zkA],rfl⟩,rfl⟩
theorem yN{α:Type}(es:Array α)(x:α):(SetTable.insertAt es es.size x).toList=es.toList++[x]:=by
  rw [xp]
  rw [← Array.length_toList,List.take_length,List.drop_length]
theorem zgY{S:Addr}{l:List Int}{x:Int}{tk:Tok}{Q:Bool→Shared→Prop}(hx:∀ led,stepOk led l x=true)(hl:l.length≤6)(X:SI w s.heap S l)
    (h:∀ (b:Bool) (h':Heap) (tk':Nat),Heap.SameBut S s.heap h'→SI w h' S (l++[x])→Q b { s with heap:=h',toks:=tk' }) :
    wpAny (model prog w) A (setAdd S (.int x tk)) Q E s:=by
  obtain⟨es,ep,ho,L,hes,hL⟩:=X.ex
  generalize hled:(!(w.params.followText "set-order"))=led at *
  have hx:=hx led
  unfold stepOk at hx
  simp only [Bool.and_eq_true,decide_eq_true_eq] at hx
  obtain⟨⟨⟨⟨⟨f1,f2⟩,f3⟩,f4⟩,f5⟩,f6⟩:=hx
  have hz:es.size=l.length:=by rw [← Array.length_toList,hes,List.length_map,← hL,List.length_map]
  have hf:(tb l led).fits es.size=true:=by rw [hz];exact f4
  have hkey:(intKind prog w).is x (.int x tk)=true:=by simp [intKind,Value.isInt]
  have hel:ElemsOf (intKind prog w) es.toList:=by rw [hes];exact elems L
  have hb:es.size < scanBound:=by unfold scanBound;omega
  unfold setAdd
  refine wpAny_holding (wpAny_bind ((intKind prog w).pyHash hkey ?_))
  unfold setAddHashed setAddHashedIn
  refine wpAny_holding (wpAny_bind (wpAny_setState_of ho rfl hf ?_))
  dsimp only
  rw [byScan_of (knd:=intKind prog w) rfl hb hel]
  simp only [↓reduceIte]
  unfold setAddByScan
  refine wpAny_bind ?_
  refine wpAny_bind (wpAny_rule ?_)
  refine wpAny_bind (wpAny_setScan_of (knd:=intKind prog w) hkey ho rfl hf hel ?_)
  have hnone:List.findIdx? (fun e=>(intKind prog w).is x e.2) es.toList=none:=by
    rw [List.findIdx?_eq_none_iff,hes]
    intro e he
    obtain⟨p,hp,rfl⟩:=List.mem_map.mp he
    have:x≠p.1:=fun e=>f5 (by rw [← hL,e];exact List.mem_map_of_mem hp)
    simp [intKind,Value.isInt,zkA,this]
    omega
  rw [hnone]
  dsimp only
  have hlay:layNew (tb l led) es (hashInt x) (.int x tk)=(SetTable.insertAt es es.size (hashInt x,.int x tk),tb1 l x led,false,false):=by
    unfold layNew
    rw [f1]
    simp only
    rw [f2]
    simp only
    have hsz:(SetTable.insertAt es l.length (hashInt x,Value.int x tk)).size=l.length+1:=by
      rw [← hz,← Array.length_toList,yN,List.length_append,Array.length_toList,hz]
      rfl
    rw [hsz,f3,← hz]
    unfold SetTable.orStandIn
    rw [hz,if_pos f3]
    rfl
  have hlay':layNew (tb l led) es ((intKind prog w).hash x) (.int x tk)=(SetTable.insertAt es es.size (hashInt x,.int x tk),tb1 l x led,false,false):=hlay
  rw [hlay']
  dsimp only
  refine wpAny_bind (wpAny_pure (a:=()) ?_)
  have hpl:(tb1 l x led).plain=true:=rfl
  rw [hpl]
  simp only [if_true]
  refine wpAny_bind ?_
  rw [hashByValue_scannable 8 rfl]
  refine wpAny_pure ?_
  rw [show plainKind (Value.int x tk)=true from rfl]
  simp only [if_true]
  generalize hes1:SetTable.insertAt es es.size (hashInt x,Value.int x tk)=es1
  have hl1:es1.toList=(L++[(x,tk)]).map zkA:=by
    rw [← hes1,yN,hes,List.map_append]
    rfl
  have hL1:(L++[(x,tk)]).map (·.1)=l++[x]:=by
    rw [List.map_append,hL]
    rfl
  have hz1:es1.size=l.length+1:=by
    rw [← Array.length_toList,hl1,List.length_map,List.length_append,← hL,List.length_map]
    rfl
  refine wpAny_bind (wpAny_storeSet_of ho rfl ?_ (by rw [hz1,sizeLine_eq];omega))
  have hg:=Heap.get?_update_self (Obj.putSet es1 (tb1 l x led)) ho (by rfl)
  have hsb:=Heap.SameBut.update s.heap S (Obj.putSet es1 (tb1 l x led))
  by_cases hfull:(tb1 l x led).tooFull=true
  · rw [if_pos hfull] at f6
    rw [Bool.and_eq_true,Bool.and_eq_true,decide_eq_true_eq] at f6
    obtain⟨⟨r1,r2⟩,r3⟩:=f6
    rw [hfull]
    simp only [Bool.not_false,Bool.and_self,if_true]
    have hrel:relayAll (tb1 l x led) es1 (SetTable.grown es1.size)=(es1,tb (l++[x]) led,false):=by
      unfold relayAll
      have e1:es1.map (·.1)=((l++[x]).map hashInt).toArray:=by
        apply Array.toList_inj.mp
        rw [Array.toList_map,hl1,← hL1,List.map_map,List.map_map]
        rfl
      rw [e1,hz1,r1]
      dsimp only
      have e2:(List.range (l.length+1)).toArray.filterMap (fun i=>es1[i]?)=es1:=by
        apply Array.toList_inj.mp
        rw [Array.toList_filterMap,← hz1]
        have:=List.filterMap_getElem?_range_length es1.toList
        rw [Array.length_toList] at this
        simpa using this
      rw [e2,hz1,r2,r3]
      rfl
    rw [hrel]
    dsimp only
    refine wpAny_bind (wpAny_pure (a:=()) ?_)
    have hho:(s.heap.update S (Obj.putSet es1 (tb1 l x led))).get? S=some { cls:=.type "set",dict:=none,data:=.set es1 (ep+1) (tb1 l x led),slots:=#[] }:=hg
    refine wpAny_bind (wpAny_storeSet_of hho rfl ?_ (by rw [hz1,sizeLine_eq];omega))
    have hg2:=Heap.get?_update_self (Obj.putSet es1 (tb (l++[x]) led)) hho (by rfl)
    refine wpAny_pure (wpAny_pure (h true _ _ (hsb.trans (Heap.SameBut.update _ S (Obj.putSet es1 (tb (l++[x]) led)))) ⟨es1,ep+1+1,?_,_,hl1,hL1⟩))
    rw [hled]
    exact hg2
  · rw [if_neg hfull,decide_eq_true_eq] at f6
    have hff:(tb1 l x led).tooFull=false:=by simpa using hfull
    rw [hff]
    simp only [Bool.not_false,Bool.and_false,Bool.false_eq_true,if_false]
    refine wpAny_pure (wpAny_pure (h true _ _ hsb ⟨es1,ep+1,?_,_,hl1,hL1⟩))
    rw [hled,← f6]
    exact hg
theorem take_succ{g:List Int}{i:Nat}(hi:i < g.length):g.take i++[g.getD i 0]=g.take (i+1):=by
  rw [List.take_succ,List.getElem?_eq_getElem hi,List.getD_eq_getElem?_getD,List.getElem?_eq_getElem hi]
  rfl
theorem zep{R:Result→Shared→Prop}{I:Addr}{fp wr:List Addr}{n:Nat}{P:Nat→Value→Prop}{St:Nat→Heap→Prop}(W:Walks prog w A.in1 I fp wr n P St)(S:Addr)(hSf:S∉fp){g:List Int}(hg:g∈six)(hn:g.length=n)
    (hval:∀ i v,P i v→∃ t,v=.int (g.getD i 0) t) :
    ∀ (k i:Nat) (s:Shared),n - i=k→i≤n→St i s.heap→SI w s.heap S (g.take i) →
      (∀ h' tk,(∀ b o,b≠S→b∉wr→s.heap.get? b=some o→h'.get? b=some o)→SI w h' S g→R (.ok (.ret .none)) { s with heap:=h',toks:=tk }) →
      codeAny (model prog w) A (.builtin "set.update.loop" ⟨[.ref S,.ref I],[]⟩) R s:=by
  have hSw:S∉wr:=fun h=>hSf (W.sub _ h)
  intro k
  induction k with
  | zero =>
    intro i s hk hi hst hS hR
    obtain rfl:i=n:=by omega
    refine codeAny_builtin PyProof.Rows.F.entry_set_update_loop ?_
    rw [Around.under_plainId PyProof.Rows.F.plain_set_update_loop _]
    show wpAny _ A.in1 (pyNext (.ref I) >>= _) _ _ s
    rw [← hn,List.take_length] at hS
    refine wpAny_bind (W.done s _ _ hst fun h' tk hm=>?_)
    refine wpAny_pure (hR h' tk (fun b o _ hb e=>hm b o hb e) (hS.kept fun o e=>hm S o hSw e))
  | succ k ih =>
    intro i s hk hi hst hS hR
    have hlt:i < n:=by omega
    refine codeAny_builtin PyProof.Rows.F.entry_set_update_loop ?_
    rw [Around.under_plainId PyProof.Rows.F.plain_set_update_loop _]
    show wpAny _ A.in1 (pyNext (.ref I) >>= _) _ _ s
    refine wpAny_bind (W.item i s _ _ hlt hst fun v h1 tk hP hst1 hm=>?_)
    obtain⟨t,rfl⟩:=hval i v hP
    have hS1:SI w h1 S (g.take i):=hS.kept fun o e=>hm S o hSw e
    show wpAny _ A.in1 (holding [Value.int (g.getD i 0) t] (setAdd S (.int (g.getD i 0) t)) >>= _) _ _ _
    refine wpAny_bind (wpAny_holding (zgY (s:={ s with heap:=h1,toks:=tk }) (fun led=>steps led g hg i (by omega)) (Nat.le_trans (List.length_take_le' _ _) (wW g hg)) hS1 fun bb h2 tk2 sb x2=>?_))
    rw [take_succ (by omega)] at x2
    have oth:∀ b o,b≠S→h1.get? b=some o→h2.get? b=some o:=fun b o hb e=>(sb.2 b hb).trans e
    refine wpAny_pure ⟨plainId_quiet PyProof.Rows.F.plain_set_update_loop _,ih (i+1) { s with heap:=h2,toks:=tk2 } (by omega) hlt (W.frame _ h1 h2 hst1 fun b hb o e=>oth b o (fun z=>hSf (z ▸ hb)) e) x2 fun h3 tk3 hm3 hS3=>?_⟩
    exact hR h3 tk3 (fun b o hb hw e=>hm3 b o hb hw (oth b o hb (hm b o hw e))) hS3
end
end GS.J
namespace GO
open PySem PySem.W PyProof.Rows
def Go{α:Type}(lt:Nat→Nat→Bool)(n:Nat):KasT α→(α→Prop)→Prop
  | .ret a,Q=>Q a
  | .ask i j k,Q=>i < n∧j < n∧Go lt n (k (lt i j)) Q
section
variable {lt:Nat→Nat→Bool}{n:Nat}
theorem Go.bind{α β:Type}{f:α→KasT β}{Q:β→Prop}:∀ {t:KasT α},Go lt n t (fun a=>Go lt n (f a) Q)→Go lt n (t.bind f) Q
  | .ret _,h=>h
  | .ask _ _ _,⟨h1,h2,h3⟩=>⟨h1,h2,h3.bind⟩
theorem Go.wp{α:Type}{cmp:Nat→Nat→(Bool→Shared→Prop)→Shared→Prop}{s:Shared}{Q:α→Prop}{R:α→Shared→Prop}(hc:∀ i j C,i < n→j < n→C (lt i j) s→cmp i j C s)(hR:∀ a,Q a→R a s) :
    ∀ {t:KasT α},Go lt n t Q→t.kasWp cmp R s
  | .ret _,h=>hR _ h
  | .ask _ _ _,⟨h1,h2,h3⟩=>hc _ _ _ h1 h2 (h3.wp hc hR)
structure Ord(lt:Nat→Nat→Bool)(n:Nat):Prop where
  trans:∀ i j k,i < n→j < n→k < n→lt i j=true→lt j k=true→lt i k=true
  tot:∀ i j,i < n→j < n→i≠j→lt i j=false→lt j i=true
  asym:∀ i j,i < n→j < n→lt i j=true→lt j i=false
structure Pm(n:Nat)(p:Array Nat):Prop where
  size:p.size=n
  perm:p.toList.Perm (List.range n)
theorem Pm.bd{p:Array Nat}(h:Pm n p){i:Nat}(hi:i < n):p.getD i 0 < n:=by
  have hs:i < p.size:=by rw [h.size];exact hi
  have e:p.getD i 0=p[i]:=by simp [Array.getD,hs]
  rw [e]
  have hm:p[i]∈p.toList:=by rw [← Array.getElem_toList];exact List.getElem_mem _
  exact List.mem_range.mp (h.perm.mem_iff.mp hm)
theorem Pm.ne{p:Array Nat}(h:Pm n p){i j:Nat}(hi:i < n)(hj:j < n)(hne:i≠j):p.getD i 0≠p.getD j 0:=by
  have hs:i < p.size:=by rw [h.size];exact hi
  have ht:j < p.size:=by rw [h.size];exact hj
  have e:p.getD i 0=p[i]:=by simp [Array.getD,hs]
  have e':p.getD j 0=p[j]:=by simp [Array.getD,ht]
  have nd:p.toList.Nodup:=h.perm.nodup_iff.mpr List.nodup_range
  rw [e,e']
  intro q
  rw [← Array.getElem_toList,← Array.getElem_toList] at q
  exact hne ((List.getElem_inj nd).mp q)
theorem Pm.start:Pm n (List.toArray (List.range n)):=⟨by simp,by simp⟩
theorem Pm.of{p q:Array Nat}(h:Pm n p)(hq:q.Perm p):Pm n q:=⟨by rw [hq.size_eq,h.size],(Array.perm_iff_toList_perm.mp hq).trans h.perm⟩
def Up(lt:Nat→Nat→Bool)(p:Array Nat)(k:Nat):Prop:=∀ i j,i < j→j < k→lt (p.getD i 0) (p.getD j 0)=true
def Down(lt:Nat→Nat→Bool)(p:Array Nat)(k:Nat):Prop:=∀ i j,i < j→j < k→lt (p.getD j 0) (p.getD i 0)=true
theorem wm{p q:Array Nat}{i j:Nat}(h:p[i]?=q[j]?):p.getD i 0=q.getD j 0:=by
  rw [Array.getD_eq_getD_getElem?,Array.getD_eq_getD_getElem?,h]
theorem zdy{p:Array Nat}{Q:Nat→Prop}(O:Ord lt n)(hp:Pm n p):∀ (f m:Nat),1≤m→m+f≤n→Up lt p m →
    (∀ r,m≤r→r≤m+f→Up lt p r→(r < m+f→lt (p.getD r 0) (p.getD (r - 1) 0)=true)→Q r)→Go lt n (kas_asc p f m) Q
  | 0,m,_,_,hu,h=>h m (Nat.le_refl _) (Nat.le_refl _) hu fun q=>absurd q (by omega)
  | f+1,m,h1,h2,hu,h=>by
    refine⟨hp.bd (by omega),hp.bd (by omega),?_⟩
    cases c:lt (p.getD m 0) (p.getD (m - 1) 0) with
    | true=>exact h m (Nat.le_refl _) (by omega) hu fun _=>c
    | false =>
      have c':=O.tot _ _ (hp.bd (by omega)) (hp.bd (by omega)) (hp.ne (i:=m) (j:=m - 1) (by omega) (by omega) (by omega)) c
      have hu':Up lt p (m+1):=fun i j hij hj=>by
        by_cases hjm:j < m
        · exact hu i j hij hjm
        · have:j=m:=by omega
          subst this
          by_cases hi:i=j - 1
          · rw [hi];exact c'
          · exact O.trans _ _ _ (hp.bd (by omega)) (hp.bd (by omega)) (hp.bd (by omega)) (hu i (j - 1) (by omega) (by omega)) c'
      exact zdy O hp f (m+1) (by omega) (by omega) hu' fun r a b c d=>h r (by omega) (by omega) c fun q=>d (by omega)
theorem zdZ{p:Array Nat}{Q:Array Nat×Nat×Nat→Prop}(O:Ord lt n)(hp:Pm n p):∀ (f m:Nat),1≤m→m+f≤n→Down lt p m →
    (∀ r,m≤r→r≤m+f→Down lt p r→Q (p,r,0))→Go lt n (kas_desc f p m 0) Q
  | 0,m,_,_,hu,h=>h m (Nat.le_refl _) (Nat.le_refl _) hu
  | f+1,m,h1,h2,hu,h=>by
    refine⟨hp.bd (by omega),hp.bd (by omega),?_⟩
    cases c:lt (p.getD m 0) (p.getD (m - 1) 0) with
    | true =>
      have hu':Down lt p (m+1):=fun i j hij hj=>by
        by_cases hjm:j < m
        · exact hu i j hij hjm
        · have:j=m:=by omega
          subst this
          by_cases hi:i=j - 1
          · rw [hi];exact c
          · exact O.trans _ _ _ (hp.bd (by omega)) (hp.bd (by omega)) (hp.bd (by omega)) c (hu i (j - 1) (by omega) (by omega))
      exact zdZ O hp f (m+1) (by omega) (by omega) hu' fun r a b c=>h r (by omega) (by omega) c
    | false =>
      have c':=O.tot _ _ (hp.bd (by omega)) (hp.bd (by omega)) (hp.ne (i:=m) (j:=m - 1) (by omega) (by omega) (by omega)) c
      refine⟨hp.bd (by omega),hp.bd (by omega),?_⟩
      rw [c']
      exact h m (Nat.le_refl _) (by omega) hu
theorem zhb{p:Array Nat}{m:Nat}{Q:Nat×Array Nat→Prop}(O:Ord lt n)(hp:Pm n p)(h1:1≤m)(hm:m≤n)(hd:Down lt p m)(h:∀ r q,Pm n q→1≤r→r≤n→Up lt q r→Q (r,q)):Go lt n (kas_tail3 m n p) Q:=by
  have hq:Pm n (kas_rev p 0 m):=hp.of (mirror_perm _ _ _ _)
  have hu:Up lt (kas_rev p 0 m) m:=fun i j hij hj=>by
    have e:∀ k,k < m→(kas_rev p 0 m).getD k 0=p.getD (m - 1 - k) 0:=fun k hk=>by
      refine wm ?_
      unfold kas_rev
      rw [getElem?_mirror_all (by rw [hp.size];exact hm),if_pos ⟨by omega,hk⟩,Nat.zero_add]
    rw [e i (by omega),e j hj]
    exact hd _ _ (by omega) (by omega)
  exact Go.bind (zdy O hq (n - m) m h1 (by omega) hu fun r a b c _=>h r _ hq (by omega) (by omega) c)
theorem zfW{p:Array Nat}{Q:Nat×Array Nat→Prop}(O:Ord lt n)(hp:Pm n p)(h2:2≤n)(h:∀ r q,Pm n q→1≤r→r≤n→Up lt q r→Q (r,q)):Go lt n (kas_count n p) Q:=by
  refine Go.bind (zdy O hp (n - 1) 1 (Nat.le_refl _) (by omega) (fun i j a b=>absurd b (by omega)) fun r a b hu hs=>?_)
  by_cases hr:r=n
  · subst hr
    rw [if_pos (by simp)]
    exact h r p hp (by omega) (Nat.le_refl _) hu
  · rw [if_neg (by simpa using hr)]
    by_cases h1:r > 1
    · rw [if_pos h1]
      refine⟨hp.bd (by omega),hp.bd (by omega),?_⟩
      rw [hu 0 (r - 1) (by omega) (by omega)]
      exact h r p hp (by omega) (by omega) hu
    · rw [if_neg h1]
      have e1:r=1:=by omega
      subst e1
      have c:=hs (by omega)
      have hd:Down lt p 2:=fun i j hij hj=>by
        have e1:j=1:=by omega
        have e2:i=0:=by omega
        subst e1;subst e2
        exact c
      refine Go.bind (zdZ O hp (n - (1+1)) (1+1) (by omega) (by omega) hd fun m a b hd'=>?_)
      show Go lt n (if (0:Nat) > 0 then _ else _) Q
      rw [if_neg (by omega)]
      exact zhb O hp (m:=m) (by omega) (by omega) hd' h
theorem wK{p:Array Nat}{k:Nat}{Q:Nat→Prop}(O:Ord lt n)(hp:Pm n p)(hk:k < n):∀ (f l r:Nat),l≤r→r≤k→r - l≤f→(∀ i,i < l→lt (p.getD i 0) (p.getD k 0)=true)→(∀ i,r≤i→i < k→lt (p.getD k 0) (p.getD i 0)=true)→Up lt p k →
    (∀ m,m≤k→(∀ i,i < m→lt (p.getD i 0) (p.getD k 0)=true)→(∀ i,m≤i→i < k→lt (p.getD k 0) (p.getD i 0)=true)→Q m)→Go lt n (kas_place p k f l r) Q
  | 0,l,r,h1,h2,h3,ha,hb,_,h=>h l (by omega) ha fun i q=>hb i (by omega)
  | f+1,l,r,h1,h2,h3,ha,hb,hu,h=>by
    show Go lt n (if l ≥ r then _ else _) Q
    by_cases hlr:l ≥ r
    · rw [if_pos hlr];exact h l (by omega) ha fun i q=>hb i (by omega)
    · rw [if_neg hlr]
      refine⟨hp.bd hk,hp.bd (by omega),?_⟩
      cases c:lt (p.getD k 0) (p.getD ((l+r) / 2) 0) with
      | true =>
        refine wK O hp hk f l ((l+r) / 2) (by omega) (by omega) (by omega) ha (fun i hi hik=>?_) hu h
        by_cases e:i=(l+r) / 2
        · rw [e];exact c
        · exact O.trans _ _ _ (hp.bd hk) (hp.bd (i:=(l+r) / 2) (by omega)) (hp.bd (by omega)) c (hu _ _ (by omega) hik)
      | false =>
        have c':=O.tot _ _ (hp.bd hk) (hp.bd (by omega)) (hp.ne (i:=k) (j:=(l+r) / 2) hk (by omega) (by omega)) c
        refine wK O hp hk f ((l+r) / 2+1) r (by omega) (by omega) (by omega) (fun i hi=>?_) hb hu h
        by_cases e:i=(l+r) / 2
        · rw [e];exact c'
        · exact O.trans _ _ _ (hp.bd (by omega)) (hp.bd (i:=(l+r) / 2) (by omega)) (hp.bd hk) (hu _ _ (by omega) (by omega)) c'
theorem zdC{p:Array Nat}{k m:Nat}(O:Ord lt n)(hp:Pm n p)(hk:k < n)(hm:m≤k)(hu:Up lt p k)(ha:∀ i,i < m→lt (p.getD i 0) (p.getD k 0)=true)(hb:∀ i,m≤i→i < k→lt (p.getD k 0) (p.getD i 0)=true) :
    Up lt (bubble p k (k - m)) (k+1):=by
  have e:∀ i,(bubble p k (k - m)).getD i 0=if i=m then p.getD k 0 else if m < i∧i≤k then p.getD (i - 1) 0 else p.getD i 0:=fun i=>by
    have q:=getElem?_bubble (xs:=p) (src:=k) (by rw [hp.size];exact hk) (k - m) (by omega) i
    rw [show k - (k - m)=m by omega] at q
    by_cases h1:i=m
    · rw [if_pos h1] at q ⊢;exact wm q
    · rw [if_neg h1] at q ⊢
      by_cases h2:m < i∧i≤k
      · rw [if_pos h2] at q ⊢;exact wm q
      · rw [if_neg h2] at q ⊢;exact wm q
  intro i j hij hj
  rw [e i,e j]
  by_cases h1:i=m
  · rw [if_pos h1,if_neg (by omega),if_pos (by omega)]
    exact hb _ (by omega) (by omega)
  · rw [if_neg h1]
    by_cases h2:m < i∧i≤k
    · rw [if_pos h2,if_neg (by omega),if_pos (by omega)]
      exact hu _ _ (by omega) (by omega)
    · rw [if_neg h2]
      by_cases h3:j=m
      · rw [if_pos h3];exact ha _ (by omega)
      · rw [if_neg h3]
        by_cases h4:m < j∧j≤k
        · rw [if_pos h4]
          exact hu _ _ (by omega) (by omega)
        · rw [if_neg h4]
          exact hu _ _ hij (by omega)
theorem zhi{Q:Array Nat→Prop}(O:Ord lt n):∀ (f k:Nat) (p:Array Nat),Pm n p→1≤k→k+f=n→Up lt p k→(∀ q,Pm n q→Up lt q n→Q q)→Go lt n (kas_bin f p k) Q
  | 0,k,p,hp,_,e,hu,h=>h p hp (by rw [← e];exact hu)
  | f+1,k,p,hp,h1,e,hu,h=>by
    have hk:k < n:=by omega
    refine Go.bind (wK O hp hk k 0 k (Nat.zero_le _) (Nat.le_refl _) (by omega) (fun i q=>absurd q (by omega)) (fun i q r=>absurd r (by omega)) hu fun m hm ha hb=>?_)
    exact zhi O f (k+1) _ (hp.of (bubble_perm _ _ _)) (by omega) (by omega) (zdC O hp hk hm hu ha hb) h
theorem zjK{Q:Array Nat→Prop}(O:Ord lt n)(h2:2≤n)(h:∀ q,Pm n q→Up lt q n→Q q):Go lt n (kas_sort n) Q:=by
  refine Go.bind (zfW O Pm.start h2 fun r q hq h1 hr hu=>?_)
  dsimp only
  by_cases hlt:r < n
  · rw [if_pos hlt]
    rw [show max r 1=r by omega]
    exact zhi O (n - r) r q hq h1 (by omega) hu h
  · rw [if_neg hlt]
    have e:r=n:=by omega
    subst e
    exact h q hq hu
end
end GO
namespace GO
open PySem PySem.W PyProof.Rows
section
variable {prog:Program}{w:World}{A:Around}{E:Value→Shared→Prop}{s:Shared}
def zfO(prog:Program)(w:World)(A:Around)(κ:SortKind)(vs:List Value)(R:Array Nat→Prop)(s:Shared):Prop :=
  ∀ (Q:SortSt→Shared→Prop) (E:Value→Shared→Prop),(∀ p st',p.size=vs.length→arrOf st'=p.map (kas_item (vs.toArray.zip vs.toArray))→failedOf st'=none→R p→Q st' s) →
    wpAny (model prog w) A ((sortRuns').run (SortSt.mk' κ (vs.toArray.zip vs.toArray) #[] 7 none)) (fun r s'=>Q r.2 s') E s
theorem zaV{κ:SortKind}{vs:List Value}{lt:Nat→Nat→Bool}(h2:2≤vs.length)(h64:vs.length < 64)(O:Ord lt vs.length)(hc:∀ i j C,i < vs.length→j < vs.length→C (lt i j) s→kas_ask prog w A κ vs i j C s) :
    zfO prog w A κ vs (fun p=>Pm vs.length p∧Up lt p vs.length) s:=fun Q E h =>
  kat_run (G:=fun p s'=>s'=s∧Pm vs.length p∧Up lt p vs.length) rfl h2 h64 (fun p st' s' a1 a2 a3 a4=>by obtain⟨rfl,a4⟩:=a4;exact h p st' a1 a2 a3 a4)
    ((zjK O h2 (Q:=fun p=>Pm vs.length p∧Up lt p vs.length) fun q a b=>⟨a,b⟩).wp hc fun p hp=>⟨rfl,hp⟩)
theorem zaE {a:Addr} {vs:List Value} {n:Nat} {κ:SortKind} {R:Array Nat→Prop} {P:PySem.Fin→Shared→Prop} (ho:s.heap.get? a=some (seqObj "list" vs.toArray n)) (h2:2≤vs.length) (hz:vs.length≤sizeLine)
    (hk:∀ h',(∀ b o,b≠a→s.heap.get? b=some o→h'.get? b=some o)→∀ (Q:SortKind→Shared→Prop) (E:Value→Shared→Prop),Q κ { s with heap:=h' }→wpAny (model prog w) A (keyKind' vs.toArray) Q E { s with heap:=h' })
    (hrun:∀ h',(∀ b o,b≠a→s.heap.get? b=some o→h'.get? b=some o)→zfO prog w A κ vs R { s with heap:=h' })
    (h:∀ p h' c,p.size=vs.length→R p→h'.get? a=some (seqObj "list" (List.toArray (p.toList.map fun i=>vs.getD i Value.none)) c)→(∀ b o,b≠a→s.heap.get? b=some o→h'.get? b=some o)→P (.done (.ret .none)) { s with heap:=h' }) :
    wpAny (model prog w) A (Builtin.«list.sort» ⟨[.ref a],[]⟩) P E s:=by
  have hlt:=Heap.lt_size ho
  rw [list_sort_plain]
  refine wpAny_bind (listItems_at ho rfl (wpAny_bind (listUpdate_at ho rfl ?_ (by rw [List.size_toArray];exact hz) (Nat.zero_le _))))
  obtain⟨c1,ho1⟩:∃ c1,(s.heap.update a (Obj.mapSeq fun _=>(#[]:Array Value))).get? a=some (seqObj "list" #[] c1):=⟨_,get?_update_seq ho fun _=>#[]⟩
  refine wpAny_bind (seqEpoch_at ho1 rfl (wpAny_bind (wpAny_newTuple ?_ hz)))
  refine wpAny_bind (wpAny_newList ?_ (Nat.zero_le _))
  refine wpAny_holding ?_
  generalize hH:((s.heap.update a (Obj.mapSeq fun _=>(#[]:Array Value))).push (seqObj "tuple" vs.toArray 0)).push (seqObj "list" #[] 0)=H3
  have k3:∀ b o,b≠a→s.heap.get? b=some o→H3.get? b=some o:=fun b o hb e=>by
    rw [← hH]
    exact Heap.get?_push_of_some _ (Heap.get?_push_of_some _ ((Heap.get?_update_other _ _ (Ne.symm hb)).trans e))
  have a3:H3.get? a=some (seqObj "list" #[] c1):=by
    rw [← hH]
    exact Heap.get?_push_of_some _ (Heap.get?_push_of_some _ ho1)
  show wpAny (model prog w) A _ P E { s with heap:=H3 }
  dsimp only
  have hn2:¬ vs.toArray.size < 2:=by rw [List.size_toArray];omega
  rw [if_neg hn2,if_neg hn2]
  refine wpAny_bind (hk H3 k3 _ _ ?_)
  refine wpAny_bind (wpAny_mono (hrun H3 k3 (fun st' s'=>∃ p:Array Nat,p.size=vs.length∧arrOf st'=p.map (kas_item (vs.toArray.zip vs.toArray))∧failedOf st'=none∧R p∧s'={ s with heap:=H3 }) E fun p st' b1 b2 b3 b4=>⟨p,b1,b2,b3,b4,rfl⟩) ?_ fun _ _ e=>e)
  rintro⟨⟨⟩,st'⟩ s' ⟨p,hp,har,hf,hR,rfl⟩
  dsimp only
  have hout:=kat_snds rfl har
  rw [hout]
  have hsz:(List.toArray (p.toList.map fun i=>vs.getD i Value.none)).size≤sizeLine:=by rw [List.size_toArray,List.length_map,Array.length_toList,hp];exact hz
  refine wpAny_bind (seqEpoch_at a3 rfl (wpAny_bind (listUpdate_at a3 rfl ?_ (Nat.zero_le _) (Nat.le_succ_of_le hsz))))
  rw [hf]
  simp only [bne_self_eq_false,Bool.false_eq_true,if_false]
  refine wpAny_pure (h p _ _ hp hR (get?_update_seq a3 fun _=>_) fun b o hb e=>(Heap.get?_update_other _ _ (Ne.symm hb)).trans (k3 b o hb e))
def plt(p q:Int×Int):Bool:=decide (p.1 < q.1) || (decide (p.1=q.1) && decide (p.2 < q.2))
def zfI(h:Heap)(a:Addr)(p:Int×Int):Prop:=∃ o n t u,h.get? a=some o∧o.cls=.type "tuple" ∧ o.data=.seq #[.int p.1 t,.int p.2 u] n
theorem zfI.kept{h h':Heap}{a:Addr}{p:Int×Int}(x:zfI h a p)(k:∀ o,h.get? a=some o→h'.get? a=some o):zfI h' a p:=by
  obtain⟨o,n,t,u,e,r⟩:=x
  exact⟨o,n,t,u,k o e,r⟩
theorem zi1{a b:Addr}{p q:Int×Int}{Q:Bool→Shared→Prop}(ha:zfI s.heap a p)(hb:zfI s.heap b q)(h:Q (plt p q) s):wpAny (model prog w) A (keyLt' (tuples' true) (.ref a) (.ref b)) Q E s:=by
  obtain⟨o,n,t,u,e,c,d⟩:=ha
  obtain⟨o',n',t',u',e',c',d'⟩:=hb
  refine kat_lt e d e' d' ?_
  show KatLex prog w A true (decide (2 < 2)) Q [(.int p.1 t,.int q.1 t'),(.int p.2 u,.int q.2 u')] 0 s
  refine kat_cons (wpAny_eqBool_int ?_)
  by_cases h1:p.1=q.1
  · have e1:(p.1 == q.1)=true:=by simp [h1]
    rw [e1]
    refine kat_yes (kat_cons (wpAny_eqBool_int ?_))
    by_cases h2:p.2=q.2
    · have e2:(p.2 == q.2)=true:=by simp [h2]
      rw [e2]
      refine kat_yes (kat_nil ?_)
      have:plt p q=decide (2 < 2):=by unfold plt;simp [h1,h2]
      rw [this] at h
      exact h
    · have e2:(p.2 == q.2)=false:=by simp [h2]
      rw [e2]
      refine kat_no ?_
      show wpAny _ _ (oneLt' false _ _) _ _ _
      refine kat_one _ _ (lt_int ?_)
      have:plt p q=decide (p.2 < q.2):=by unfold plt;simp [h1]
      rw [this] at h
      exact h
  · have e1:(p.1 == q.1)=false:=by simp [h1]
    rw [e1]
    refine kat_no ?_
    show wpAny _ _ (oneLt' true _ _) _ _ _
    refine oneLt_int ?_
    have:plt p q=decide (p.1 < q.1):=by unfold plt;simp [h1]
    rw [this] at h
    exact h
theorem zdb{vs:List Value}{ps:List (Int×Int)}(hne:ps≠[])(hv:Paired (fun (p:Int×Int) v=>∃ a,v=.ref a∧zfI s.heap a p) ps vs){Q:SortKind→Shared→Prop}(h:Q (tuples' true) s):wpAny (model prog w) A (keyKind' vs.toArray) Q E s:=by
  have go:∀ {ps:List (Int×Int)} {vs:List Value},Paired (fun (p:Int×Int) v=>∃ a,v=.ref a∧zfI s.heap a p) ps vs→∃ fs,fs.length=ps.length∧KatTups s.heap vs fs∧∀ v∈fs,∃ i t,v=.int i t:=by
    intro ps vs hv
    induction hv with
    | nil=>exact⟨[],rfl,.nil,fun v hv=>by simp at hv⟩
    | cons h1 _ ih =>
      obtain⟨a,rfl,o,n,t,u,e,c,d⟩:=h1
      obtain⟨fs,l,k,g⟩:=ih
      exact⟨_::fs,by simp [l],.cons e c d rfl k,fun v hv=>by
        rcases List.mem_cons.mp hv with rfl | hv
        · exact⟨_,_,rfl⟩
        · exact g v hv⟩
  obtain⟨fs,l,k,g⟩:=go hv
  have hp:0 < ps.length:=List.length_pos_iff.mpr hne
  refine kat_kind (T:=.type "int") k (by omega) (fun v hv=>?_) (by decide) h
  obtain⟨i,t,rfl⟩:=g v hv
  exact .now
theorem zeN{p q r:Int×Int}(h1:plt p q=true)(h2:plt q r=true):plt p r=true:=by
  unfold plt at *
  simp only [Bool.or_eq_true,Bool.and_eq_true,decide_eq_true_eq] at *
  omega
theorem zje{p q:Int×Int}(hne:p≠q)(h:plt p q=false):plt q p=true:=by
  have hne':p.1≠q.1∨p.2≠q.2:=by
    by_cases h1:p.1=q.1
    · exact .inr fun h2=>hne (Prod.ext h1 h2)
    · exact .inl h1
  unfold plt at *
  simp only [Bool.or_eq_true,Bool.and_eq_true,decide_eq_true_eq,Bool.or_eq_false_iff,Bool.and_eq_false_iff,decide_eq_false_iff_not] at *
  omega
theorem zct{p q:Int×Int}(h:plt p q=true):plt q p=false:=by
  unfold plt at *
  simp only [Bool.or_eq_true,Bool.and_eq_true,decide_eq_true_eq,Bool.or_eq_false_iff,Bool.and_eq_false_iff,decide_eq_false_iff_not] at *
  omega
theorem zgy{ps:List (Int×Int)}(hn:ps.Nodup):Ord (fun i j=>plt (ps.getD i (0,0)) (ps.getD j (0,0))) ps.length where
  trans:=fun i j k _ _ _ h1 h2=>zeN h1 h2
  tot:=fun i j hi hj hne h=>zje (fun e=>hne (by
    rw [List.getD_eq_getElem?_getD,List.getD_eq_getElem?_getD,List.getElem?_eq_getElem hi,List.getElem?_eq_getElem hj] at e
    exact (List.getElem_inj hn).mp e)) h
  asym:=fun i j _ _ h=>zct h
end
end GO
set_option exponentiation.threshold 10000
namespace L2
open PySem PySem.Spec PyProof.Rows
open Builtin.Int (intBits)
section
variable {X:Cx}
def zhU(i j:Int):Prop:=intBits i≤60000000∧intBits j≤60000000
theorem ziZ:OpR X (binaryOp .Mult) (rI zhU fun i j=>.int (i*j)):=opI fun _ _ _ _ _ _ _ hc q=>mul_int q (IntMulOk.of_le hc.1 hc.2 (by decide))
theorem zdB{j:Int}(h0:j≠0)(h:intBits j≤8000):j.natAbs.log2 < 9000:=by
  have h1:j.natAbs < 2 ^ 8000:=intBits_le_iff.mp h
  have h2:j.natAbs≠0:=by omega
  have h3:j.natAbs.log2 < 8000:=(Nat.log2_lt h2).mpr h1
  omega
def zj9(_ j:Int):Prop:=j≠0∧intBits j≤8000
theorem zgv:OpR X (binaryOp .FloorDiv) (rI zj9 fun i j=>.int (i.fdiv j)):=opI fun _ _ _ _ _ _ _ hc q=>floordiv_int hc.1 q (.inl (PyProof.noPylong_of_log2 (zdB hc.1 hc.2)))
theorem za9:va X (.builtin "isinstance") (fun xs H Q=>∃ x t c b,xs=[x,.ty c]∧zbU X.K H x t∧PySem.W.kitOne X.K t (.type c)=some b∧Q (.bl b) H):=by
  intro pins s σ H xs us Q I r h
  obtain⟨x,t,c,b,rfl,ty,e,q⟩:=h
  obtain⟨u,w',rfl,rx,rc⟩:=vals2 r
  cases rc
  exact zef I rx ty e fun tk=>⟨.bl b,H,I.tok tk,rfl,q⟩
mutual
def RepD(K:PySem.W.Frag)(H:Hp):PyData→V→Prop
  | .none,v=>v=.non
  | .bool b,v=>v=.bl b
  | .int i,v=>v=.int i
  | .str x,v=>v=.str x
  | .tuple ds,v=>∃ a xs,v=.ref a∧SqT K H a xs∧xc K H ds xs
  | .list ds,v=>∃ a xs,v=.ref a∧SqL K H a xs∧xc K H ds xs
  | .dict _,_=>False
def xc(K:PySem.W.Frag)(H:Hp):List PyData→List V→Prop
  | [],xs=>xs=[]
  | d::ds,xs=>∃ x r,xs=x::r∧RepD K H d x∧xc K H ds r
end
mutual
theorem RepD.reads{pins:List (Addr×Obj)}{σ:St}{H:Hp}{s:Shared}(I:Inv X pins σ H s):∀ (d:PyData) (v:V) (u:Value),RepD X.K H d v→RelV v u→∃ as,Reads s.heap u d as
  | .none,v,u,h,r=>by
    unfold RepD at h;subst h;cases r;exact⟨_,.none⟩
  | .bool b,v,u,h,r=>by
    unfold RepD at h;subst h;cases r;exact⟨_,.bool b⟩
  | .int i,v,u,h,r=>by
    unfold RepD at h;subst h;obtain⟨t,rfl⟩:=r;exact⟨_,.int i t⟩
  | .str x,v,u,h,r=>by
    unfold RepD at h;subst h;obtain⟨t,rfl⟩:=r;exact⟨_,.str x t⟩
  | .tuple ds,v,u,h,r=>by
    unfold RepD at h
    obtain⟨a,xs,rfl,hq,ha⟩:=h
    cases r
    obtain⟨its,rv,⟨o,e,c,n,d⟩,_⟩:=I.tuple hq
    obtain⟨as,ra⟩:=xc.reads I ds xs its ha rv
    exact⟨_,.tuple e c d (by simpa using ra)⟩
  | .list ds,v,u,h,r=>by
    unfold RepD at h
    obtain⟨a,xs,rfl,hq,ha⟩:=h
    cases r
    obtain⟨its,rv,⟨o,n,e,c,_,d⟩,_⟩:=I.list hq
    obtain⟨as,ra⟩:=xc.reads I ds xs its ha rv
    exact⟨_,.list e c d (by simpa using ra)⟩
  | .dict _,v,u,h,r=>by
    unfold RepD at h;exact h.elim
theorem xc.reads{pins:List (Addr×Obj)}{σ:St}{H:Hp}{s:Shared}(I:Inv X pins σ H s):∀ (ds:List PyData) (xs:List V) (us:List Value),xc X.K H ds xs→Vals xs us→∃ as,ReadsAll s.heap us ds as
  | [],xs,us,h,r=>by
    unfold xc at h;subst h;cases r;exact⟨_,.nil⟩
  | d::ds,xs,us,h,r=>by
    unfold xc at h
    obtain⟨x,xr,rfl,h1,h2⟩:=h
    cases r with
    | cons r1 r2 =>
      obtain⟨as,ra⟩:=RepD.reads I d _ _ h1 r1
      obtain⟨bs,rb⟩:=xc.reads I ds _ _ h2 r2
      exact⟨_,.cons ra rb⟩
end
def rEqD(K:PySem.W.Frag):R2:=fun x y H Q=>∃ d e,RepD K H d x∧RepD K H e y∧d.canLay0=true∧e.canLay0=true∧d.depth≤64∧Q (.bl (PyData.eqv d e)) H
def znC(K:PySem.W.Frag):R2:=fun x y H Q=>∃ d e,RepD K H d x∧RepD K H e y∧d.canLay0=true∧e.canLay0=true∧d.depth≤64∧Q (.bl (!PyData.eqv d e)) H
theorem zco(hu:X.A.units+64 < cLine):OpR X (compareOp .Eq) (rEqD X.K):=by
  intro pins s σ H x y v u Q I rx ry h
  obtain⟨d,e,hd,he,cd,ce,hz,q⟩:=h
  obtain⟨as,ra⟩:=RepD.reads I d x v hd rx
  obtain⟨bs,rb⟩:=RepD.reads I e y u he ry
  exact SeqAt.eqOverData X.prog X.w X.A X.xe s v u d e as bs _ ra rb cd ce (by omega) ⟨.bl _,H,I,rfl,q⟩
theorem zeD(hu:X.A.units+64 < cLine):OpR X (compareOp .NotEq) (znC X.K):=by
  intro pins s σ H x y v u Q I rx ry h
  obtain⟨d,e,hd,he,cd,ce,hz,q⟩:=h
  obtain⟨as,ra⟩:=RepD.reads I d x v hd rx
  obtain⟨bs,rb⟩:=RepD.reads I e y u he ry
  exact SeqAt.neOverData X.prog X.w X.A X.xe s v u d e as bs _ ra rb cd ce (by omega) ⟨.bl _,H,I,rfl,q⟩
abbrev wc(ns:List Int):PyData:=.tuple (ns.map .int)
theorem yb{K:PySem.W.Frag}{H:Hp}:∀ ns:List Int,xc K H (ns.map .int) (ns.map V.int)
  | []=>by unfold xc;rfl
  | n::ns=>by
    show xc K H (.int n::ns.map .int) (.int n::ns.map V.int)
    unfold xc
    exact⟨_,_,rfl,by unfold RepD;rfl,yb ns⟩
theorem zgP{K:PySem.W.Frag}{H:Hp}{a:Addr}{ns:List Int}(h:SqT K H a (ns.map V.int)):RepD K H (wc ns) (.ref a):=by
  unfold RepD
  exact⟨a,_,rfl,h,yb ns⟩
theorem kC:∀ ns ms:List Int,PyData.eqvAll (ns.map .int) (ms.map .int)=decide (ns=ms)
  | [],[]=>rfl
  | [],_::_=>rfl
  | _::_,[]=>rfl
  | n::ns,m::ms=>by
    show (PyData.eqv (.int n) (.int m) && PyData.eqvAll (ns.map .int) (ms.map .int))=_
    rw [kC ns ms]
    show ((n == m) && decide (ns=ms))=_
    rw [Bool.eq_iff_iff]
    simp
theorem zf8(ns ms:List Int):PyData.eqv (wc ns) (wc ms)=decide (ns=ms):=by
  unfold PyData.eqv
  exact kC ns ms
theorem lay_ints:∀ ns:List Int,PyData.canLayAll0 (ns.map .int)=true
  | []=>rfl
  | n::ns=>by
    show (PyData.canLay0 (.int n) && PyData.canLayAll0 (ns.map .int))=true
    rw [lay_ints ns]
    rfl
theorem vA:∀ ns:List Int,PyData.depthAll (ns.map .int)≤1
  | []=>by decide
  | n::ns=>by
    show max (PyData.depth (.int n)) (PyData.depthAll (ns.map .int))≤1
    have:=vA ns
    have e:PyData.depth (.int n)≤1:=by unfold PyData.depth;decide
    omega
theorem zbh(ns:List Int):(wc ns).depth≤64:=by
  have:=vA ns
  unfold PyData.depth
  omega
end
theorem same_new{H:Hp}{p:Addr}(h:H p=none)(o:HO):Same H (upd H p o):=fun b u q=>by rw [zu (zx q h)];exact q
theorem Same.seqT{K:PySem.W.Frag}{H H':Hp}{a:Addr}{xs:List V}(e:Same H H')(h:SqT K H a xs):SqT K H' a xs:=by
  rcases h with (h | ⟨o,h⟩) | h
  · exact .inl (.inl (e _ _ h))
  · exact .inl (.inr ⟨o,e _ _ h⟩)
  · exact .inr h
def Dn(P:Program)(w:World)(K:PySem.W.Frag)(mg:Str→Option Value)(base:Heap)(x:Str)(ps:List Str)(k:Nat)(sp:Sp):Prop :=
  ∃ f fd,qr P w K mg base CX0 k f fd ps sp∧mg x=some (.ref f)∧PySem.W.keepIn K (.ref f)=true∧Binds K fd ps []
section
variable {X:Cx}{x:Str}{ps:List Str}{k k':Nat}{sp:Sp}{e:Expr}{es:List Expr}{t:TA}{p pos:Pos}
theorem zi6(D:Dn X.prog X.w X.K X.mg X.base x ps k sp)(hr:ji k' X.A)(hg:Gl X x)(ha:PA X (e::es) t)(hk:k≤k':=by decide)
    (hdb:(x == ("__debug__" : Str))=false:=by decide) (he:starEach (e::es) X.env=(false,eval e X.env)::starEach es X.env:=by rfl) (hpl:(backTo pos (starEach es X.env)).any (·.1)=false:=by rfl) :
    PE X (.Call (.Name x p) (e::es) [] pos) (tCall sp [] E0 t):=by
  obtain⟨f,fd,F,hm,hkp,hb⟩:=D
  exact zi3 (F.mono hk) hr hg hm hkp hb .nil zeG ha hdb he hpl
end
end L2
namespace L2
open PySem PySem.Spec PyProof.Rows
def zcO(scope:Scope)(env:Env):List (Str×Addr):=((scope.names.filter fun y=>y.2 == .free).map fun y=>(y.1,(env.cells.lookup y.1).getD 0)).reverse
theorem zba{scope:Scope}{env:Env}(h:∀ y∈scope.names,y.2=.free→∃ c,env.cells.lookup y.1=some c):closureFor scope env=pure (zcO scope env):=by
  have go:∀ (names:List (Str×NameKind)) (acc:List (Str×Addr)),(∀ y∈names,y.2=.free→∃ c,env.cells.lookup y.1=some c) →
      (forIn names acc fun (x:Str×NameKind) r=>if (x.2 == NameKind.free)=true then do let a ← cellOf env x.1;pure (ForInStep.yield ((x.1,a)::r)) else pure (ForInStep.yield r):Sem (List (Str×Addr)))
      = pure (((names.filter fun y=>y.2 == .free).map fun y=>(y.1,(env.cells.lookup y.1).getD 0)).reverse++acc):=by
    intro names
    induction names with
    | nil=>intro acc _;rfl
    | cons y r ih =>
      intro acc hh
      obtain⟨n,k⟩:=y
      rw [List.forIn_cons]
      have hr:∀ y∈r,y.2=.free→∃ c,env.cells.lookup y.1=some c:=fun y hy=>hh y (List.mem_cons_of_mem _ hy)
      by_cases hk:k=.free
      · subst hk
        obtain⟨c,hc⟩:=hh (n,.free) List.mem_cons_self rfl
        have hc':List.lookup n env.cells=some c:=hc
        have hcell:cellOf env n=pure c:=by unfold cellOf;rw [hc']
        simp only [beq_self_eq_true,if_true]
        rw [hcell]
        simp only [pure_bind]
        rw [ih _ hr,List.filter_cons_of_pos (by rfl),List.map_cons,List.reverse_cons]
        simp [hc']
      · have hb:(k == NameKind.free)=false:=by simpa using hk
        simp only [hb,Bool.false_eq_true,if_false,pure_bind]
        rw [ih _ hr,List.filter_cons_of_neg (by simp [hb])]
  have e:=go scope.names [] h
  rw [List.append_nil] at e
  have e2:closureFor scope env=(forIn scope.names ([]:List (Str×Addr)) fun (x:Str×NameKind) r=>if (x.2 == NameKind.free)=true then do let a ← cellOf env x.1;pure (ForInStep.yield ((x.1,a)::r)) else pure (ForInStep.yield r):Sem (List (Str×Addr))) >>= fun r=>pure r:=rfl
  rw [e2,e,pure_bind]
  rfl
theorem qI{α:Type}{y:Str}{c:α}:∀ {l:List (Str×α)},l.lookup y=some c→(y,c)∈l
  | [],h=>by simp at h
  | z::r,h=>by
    rw [List.lookup_cons] at h
    cases e:y == z.1 with
    | true =>
      rw [e] at h
      have:z.2=c:=Option.some.inj h
      have e':y=z.1:=by simpa using e
      rw [e',← this]
      exact List.mem_cons_self
    | false =>
      rw [e] at h
      exact List.mem_cons_of_mem _ (qI h)
theorem zR{scope:Scope}{env:Env}{y:Str}{c:Addr}(hs:∀ y∈scope.names,y.2=.free→∃ c,env.cells.lookup y.1=some c)(h:(zcO scope env).lookup y=some c):env.cells.lookup y=some c:=by
  have hm:=qI h
  unfold zcO at hm
  obtain⟨z,hz,e⟩:=List.mem_map.mp (List.mem_reverse.mp hm)
  obtain⟨hz1,hz2⟩:=List.mem_filter.mp hz
  obtain⟨d,hd⟩:=hs z hz1 (by simpa using hz2)
  cases e
  rw [hd];rfl
theorem ka{scope:Scope}{env:Env}{y:Str}(h:(y,NameKind.free)∈scope.names):∃ c,(zcO scope env).lookup y=some c:=by
  have:(y,(env.cells.lookup y).getD 0)∈zcO scope env:=by
    unfold zcO
    exact List.mem_reverse.mpr (List.mem_map.mpr ⟨(y,.free),List.mem_filter.mpr ⟨h,rfl⟩,rfl⟩)
  have:((zcO scope env).lookup y).isSome=true:=by
    generalize zcO scope env=l at this
    induction l with
    | nil=>cases this
    | cons z r ih =>
      rw [List.lookup_cons]
      cases e:y == z.1 with
      | true=>rfl
      | false =>
        rcases List.mem_cons.mp this with q | q
        · rw [← q] at e
          simp at e
        · exact ih q
  exact Option.isSome_iff_exists.mp this
theorem qW{env:Env}:∀ {names:List (Str×NameKind)} {x:Str},names.lookup x=some .free →
    (names.map fun (n,k)=>if (k == NameKind.free && env.scope.kind == .function && env.kindOf n == some .cell) then (n,NameKind.cell) else (n,k)).lookup x=some .cell ∨
    (names.map fun (n,k)=>if (k == NameKind.free && env.scope.kind == .function && env.kindOf n == some .cell) then (n,NameKind.cell) else (n,k)).lookup x=some .free
  | [],_,h=>by simp at h
  | (n,k)::r,x,h=>by
    have ih:=@qW env r x
    show List.lookup x ((if (k == NameKind.free && env.scope.kind == .function && env.kindOf n == some .cell)=true then (n,NameKind.cell) else (n,k))::_)=_ ∨
      List.lookup x ((if (k == NameKind.free && env.scope.kind == .function && env.kindOf n == some .cell)=true then (n,NameKind.cell) else (n,k))::_)=_
    cases hx:x == n with
    | true =>
      simp only [List.lookup_cons,hx] at h
      cases h
      by_cases hc:(NameKind.free == NameKind.free && env.scope.kind == .function && env.kindOf n == some .cell)=true
      · rw [if_pos hc];left;simp only [List.lookup_cons,hx]
      · rw [if_neg hc];right;simp only [List.lookup_cons,hx]
    | false =>
      simp only [List.lookup_cons,hx] at h
      by_cases hc:(k == NameKind.free && env.scope.kind == .function && env.kindOf n == some .cell)=true
      · rw [if_pos hc];simp only [List.lookup_cons,hx];exact ih h
      · rw [if_neg hc];simp only [List.lookup_cons,hx];exact ih h
theorem ya{env:Env}{scope:Scope}{y:Str}(nocell:∀ z∈scope.names,z.2≠.cell)(h:(relabel scope env).names.lookup y=some .cell∨(relabel scope env).names.lookup y=some .free):(y,NameKind.free)∈scope.names:=by
  have go:∀ k,(k=NameKind.cell∨k=NameKind.free)→(relabel scope env).names.lookup y=some k→(y,NameKind.free)∈scope.names:=by
    intro k hk h
    obtain⟨z,hz,e⟩:=List.mem_map.mp (qI h)
    obtain⟨n,k0⟩:=z
    dsimp only at e
    by_cases hc:(k0 == NameKind.free && env.scope.kind == .function && env.kindOf n == some .cell)=true
    · rw [if_pos hc] at e
      have:k0=.free:=by
        rw [Bool.and_eq_true,Bool.and_eq_true] at hc
        simpa using hc.1.1
      cases e
      rw [← this];exact hz
    · rw [if_neg hc] at e
      cases e
      rcases hk with hk | hk
      · exact absurd hk (nocell _ hz)
      · rw [← hk];exact hz
  rcases h with h | h
  · exact go _ (.inl rfl) h
  · exact go _ (.inr rfl) h
structure jk(X:Cx)(scope:Scope)(x:Str)(N':List Str)(caps:List Nat):Prop where
  nd:N'.Nodup
  n0:N'[0]?=some x
  len:N'.length=caps.length+1
  cap:∀ (j i:Nat) (y:Str),caps[j]?=some i→N'[j+1]?=some y→X.N[i]?=some y
  capf:∀ (j:Nat) (y:Str),N'[j+1]?=some y→scope.names.lookup y=some .free
  nocell:∀ y∈scope.names,y.2≠.cell
  kind:scope.kind=.function
  names:∀ y∈scope.names,y.2=.local→scope.names.lookup y.1=some .local
  loc:scope.names.lookup x=some .local
  free:∀ y∈scope.names,y.2=.free→(X.env.kindOf y.1=some .cell∨X.env.kindOf y.1=some .free)
def jn(caps:List Nat)(σ:St):St:=caps.map fun i=>(σ[i]?).getD none
abbrev zC(X:Cx)(scope:Scope)(N':List Str)(C:Addr)(ex:List Addr)(s₀:Shared)(H₀:Hp):Cx :=
  { X with N:=N',s₀:=s₀,H₀:=H₀,env:=compEnvC scope (zcO scope X.env) C X.env,outer:=X.stack,stack:=X.stack,ex:=ex,fn:=fun _=>false,pn:=[],xe:=fun _ _=>False }
def zhg(X:Cx)(ifs:List Expr)(t:TT):Prop :=
  ∀ (pins:List (Addr×Obj)) (s:Shared) (σ:St) (H:Hp) (Q:Bool→Hp→Prop),Inv X pins σ H s→t σ H Q →
    wpAny (model X.prog X.w) X.A (forIn ifs true fun c r=>if r=true then do let ok ← isTrue c X.env (eval c X.env);pure (ForInStep.yield ok) else pure (ForInStep.yield r)) (TP X pins σ Q) X.xe s
def zoa:TT:=fun _ H Q=>Q true H
theorem zgG{X:Cx}:zhg X [] zoa:=fun _ _ _ H _ I h=>wpAny_tests_nil ⟨H,I,h⟩
theorem zgH{X:Cx}{c:Expr}{t:TT}(h:PT X c t):zhg X [c] t:=fun pins s σ H Q I hw=>wpAny_tests_one (h pins s σ H Q I hw)
def zjN(caps:List Nat)(wi:TI)(tt:TT)(te:TE):TE:=fun σ H Q=>wi σ H fun J H1=>∃ W:Nat→Nat→List V→Hp→Prop,(∃ m,W 0 m [] H1)∧∀ i m ys H,W i m ys H →
  (J.stop i H∧∀ p,H p=none→Q (.ref p) (upd H p (.lst ys))) ∨
  (J.go i H∧∀ v H',J.yld i H v H'→tt (some v::jn caps σ) H' fun b H2=>if b=true then te (some v::jn caps σ) H2 fun y H3=>ys.length < sizeLine∧∃ m',m' < m∧W (i+1) m' (ys++[y]) H3 else ∃ m',m' < m∧W (i+1) m' ys H2)
section
variable {X:Cx}{pins:List (Addr×Obj)}{σ:St}{H₂:Hp}{scope:Scope}{x:Str}{N':List Str}{caps:List Nat}
theorem jk.cells{s:Shared}(S:jk X scope x N' caps)(I:Inv X pins σ H₂ s):∀ y∈scope.names,y.2=.free→∃ c,X.env.cells.lookup y.1=some c:=fun y hy hf=>I.ok.has y.1 (S.free y hy hf)
theorem zh3{s₃:Shared}{C:Addr}{ex:List Addr}(S:jk X scope x N' caps)(I:Inv X pins σ H₂ s₃)(hC:s₃.heap.objs.size≤C)(hex:∀ b∈ex,vT X pins H₂ b∧b < C):(zC X scope N' C ex s₃ H₂).Ok where
  mod:=I.ok.mod
  kind:=S.kind
  glob:=I.ok.glob
  blt:=I.ok.blt
  above:=hC
  inj:=fun y z c h1 h2=>I.ok.inj y z c (zR (S.cells I) h1) (zR (S.cells I) h2)
  has:=fun y hy=>ka (ya S.nocell hy)
  cab:=fun y c h=>nomatch h
  hd:=I.ok.hd
  frames:=I.ok.frames
  stk:=.inl rfl
  exf:=fun b hb=>⟨Nat.ne_of_lt (hex b hb).2,fun y c h=>(hex b hb).1.2.2.2.2.1 y c (zR (S.cells I) h)⟩
  bs:=I.bs
  bsz:=Nat.le_trans I.ok.bsz I.sz
  noex:=fun b o e hb=>by
    rcases (hex b hb).1.2.2.2.1 with z | z
    · exact I.ok.noex b o e z
    · exact absurd (Nat.lt_of_lt_of_le (Heap.lt_size e) (Nat.le_trans I.ok.bsz z)) (Nat.lt_irrefl _)
  exfs:=fun b hb hm=>by
    obtain⟨_,f1,f2,_⟩:=(hex b hb).1
    rcases List.mem_cons.mp (I.stkSub b hm) with z | z
    · exact f1 z
    · exact f2 z
  funs:=I.stack
  frf:=I.stkFree
theorem zdG{j:Nat}{v:V}(h:(jn caps σ)[j]?=some (some v)):∃ i,caps[j]?=some i∧σ[i]?=some (some v):=by
  unfold jn at h
  rw [List.getElem?_map] at h
  cases e:caps[j]? with
  | none=>rw [e] at h;cases h
  | some i =>
    rw [e] at h
    refine⟨i,rfl,?_⟩
    have h':(σ[i]?).getD none=some v:=Option.some.inj h
    cases e2:σ[i]? with
    | none=>rw [e2] at h';cases h'
    | some o=>rw [e2] at h';exact congrArg some h'
theorem zcQ{s₃:Shared}{C:Addr}{ex:List Addr}{h₁:Heap}{t:Nat}{m:Str→Option Value}(S:jk X scope x N' caps)(I:Inv X pins σ H₂ s₃)(hC:s₃.heap.objs.size≤C)(hex:∀ b∈ex,vT X pins H₂ b∧b < C)
    (ns:h₁.Ns C m) (old:∀ b o,s₃.heap.get? b=some o→h₁.get? b=some o):Inv (zC X scope N' C ex s₃ H₂) [] (none::jn caps σ) H₂ { s₃ with heap:=h₁,toks:=t } where
  ok:=zh3 S I hC hex
  os:=rfl
  bare:=I.bare
  base:=Un.kept old
  loc:=by
    refine⟨m,ns,fun i y v h1 h2 h3=>?_⟩
    cases i with
    | zero=>cases h2
    | succ j =>
      obtain⟨i,hi,hv⟩:=zdG (show (jn caps σ)[j]?=some (some v) from h2)
      have hN:=S.cap j i y hi h1
      have hfree:scope.names.lookup y=some .free:=S.capf j y h1
      have hk:X.env.kindOf y=some .cell∨X.env.kindOf y=some .free:=S.free (y,.free) (qI hfree) rfl
      obtain⟨m0,_,hl⟩:=I.loc
      obtain⟨u,r,l⟩:=hl i y v hN hv (by rcases hk with k | k;exact .inr (.inl k);exact .inr (.inr k))
      refine⟨u,r,.inr ⟨qW hfree,?_⟩⟩
      rcases l with ⟨k,_⟩ | ⟨_,c,hc,z⟩
      · rcases hk with k' | k' <;> rw [k] at k' <;> cases k'
      · obtain⟨c',hc'⟩:=ka (env:=X.env) (qI hfree)
        have:=zR (S.cells I) hc'
        rw [hc] at this;cases this
        obtain⟨o,ho,hd⟩:=z
        exact⟨c,hc',o,old _ _ ho,hd⟩
  cell:=fun y c h=>by
    obtain⟨v,o,ho,hd⟩:=I.cell y c (zR (S.cells I) h)
    exact⟨v,o,old _ _ ho,hd⟩
  free:=I.hok.fresh hC
  freeC:=fun y c h=>I.freeC y c (zR (S.cells I) h)
  pin:=fun p hp=>by simp at hp
  hok:=I.hok.kept old
  len:=by
    show (none::jn caps σ).length=N'.length
    rw [S.len]
    simp [jn]
theorem yK{s₃ s':Shared}{C D:Addr}{ex:List Addr}{H':Hp}{σ':St}{pins':List (Addr×Obj)}{ys:List V}{its:List Value}{n:Nat}(I:Inv X pins σ H₂ s₃)(J:Inv (zC X scope N' C ex s₃ H₂) pins' σ' H' s')
    (hex:∀ b∈ex,vT X pins H₂ b) (hD:D∈ex) (fD:H' D=none) (gD:s'.heap.get? D=some { cls:=.type "list",data:=.seq its.toArray n }) (rv:Vals ys its) (hz:ys.length≤sizeLine) :
    Inv X pins σ (upd H' D (.lst ys)) s':=by
  have hD2:H₂ D=none:=(hex D hD).1
  have u:=J.base
  have hok:HOk X.prog X.w (upd H' D (.lst ys)) s'.heap:=fun b o e=>by
    by_cases hb:b=D
    · subst hb;rw [qd] at e;cases e
      exact⟨hz,its,n,rv,gD⟩
    · rw [zu hb] at e
      exact (J.hok b o e).stay (fun c v _ q=>q) (fun c q=>by rw [zu (zx q fD)];exact q) fun c xs q=>by rw [zu (zx q fD)];exact q
  refine I.call' (ch:=ex) J.os ⟨u.keep,u.slot,fun b o e n hb=>?_,u.there,fun b xs e=>?_,fun b o v e=>?_,fun b ps e=>?_⟩ hok J.bare (fun b hb=>?_)
  · have:b≠D:=fun z=>hb (z ▸ hD)
    rw [zu this]
    exact u.free b o e n hb
  · rw [zu (zx e hD2)];exact u.tups b xs e
  · rw [zu (zx e hD2)];exact u.frzs b o v e
  · rw [zu (zx e hD2)];exact u.tbls b ps e
  · obtain⟨_,f1,_,f3,f4,f5⟩:=hex b hb
    exact⟨f3,f1,f4,f5⟩
theorem zeo{prog:Program}{w:World}{A:Around}{R:Result→Shared→Prop}{s:Shared}{elt target iter:Expr}{ifs:List Expr}{scope:Scope}{pos:Pos}{it acc:Value}{env:Env}(I:Nat→Shared→Prop)
    (turn:∀ n s,I n s→wpAny (model prog w) A (pyNext it) (fun r s₁=>match r with
      | none=>R (.ok .next) s₁
      | some v=>wpAny (model prog w) A (letOwnedTupleGo target it v) (fun _ s₁=>wpAny (model prog w) A (assign target env v) (fun _ s₂ =>
          wpAny (model prog w) A (forIn ifs true fun c r=>if r=true then do let ok ← isTrue c env (eval c env);pure (ForInStep.yield ok) else pure (ForInStep.yield r)) (fun ok s₃ =>
            if ok=true then wpAny (model prog w) A (eval elt env) (fun x s₄ =>
              wpAny (model prog w) A (call (.builtin "list.append") [acc,x]) (fun _ s₅=>∃ m,m < n∧I m s₅) (fun _ _=>False) s₄) (fun _ _=>False) s₃
            else ∃ m,m < n∧I m s₃) (fun _ _=>False) s₂) (fun _ _=>False) s₁) (fun _ _=>False) s₁) (fun _ _=>False) s)
    (n:Nat) (h:I n s) :
    codeAny (model prog w) A (.compLoop (.ListComp elt [⟨target,iter,ifs,0⟩] scope pos) 0 it acc env) R s:=by
  refine codeAny_loop rfl I (fun n s hI=>?_) n h
  show wpAny _ A ((compTurn (.ListComp elt [⟨target,iter,ifs,0⟩] scope pos) 0 it acc env).onRaise (fun x=>do noteFrame x env;theTreesLotGoes x)) _ _ s
  refine wpAny_noted ?_
  rw [compTurn_list]
  refine wpAny_bind (wpAny_standAt (wpAny_bind (wpAny_mono (turn n s hI) (fun r s₁ h₁=>?_) fun _ _ h'=>h'.elim)))
  cases r with
  | none=>exact wpAny_pure h₁
  | some v =>
    refine wpAny_bind (wpAny_mono h₁ (fun _ s₁ h₁=>?_) fun _ _ h'=>h'.elim)
    refine wpAny_bind (wpAny_mono h₁ (fun _ s₂ h₂=>wpAny_bind (wpAny_mono h₂ (fun ok s₃ h₃=>?_) fun _ _ h'=>h'.elim)) fun _ _ h'=>h'.elim)
    cases ok with
    | false=>exact wpAny_pure ⟨rfl,h₃⟩
    | true =>
      exact wpAny_bind (wpAny_bind (wpAny_mono h₃ (fun x s₄ h₄=>wpAny_bind (wpAny_mono h₄ (fun _ s₅ h₅=>wpAny_pure (wpAny_pure ⟨rfl,h₅⟩)) fun _ _ h'=>h'.elim)) fun _ _ h'=>h'.elim))
theorem zal{elt iter:Expr}{px:Pos}{ifs:List Expr}{pos:Pos}{tt:TT}{te:TE}{s₂:Shared}{it:Addr}{fp:List Addr}{tn:Nat→Heap→Prop}{J:It}{RR:Value→Addr→Result→Shared→Prop}{E:Value→Shared→Prop}
    (S:jk X scope x N' caps) (hc:X.calm=true) (ht:∀ C ex s₀ H₀,zhg (zC X scope N' C ex s₀ H₀) ifs tt) (he:∀ C ex s₀ H₀,PE (zC X scope N' C ex s₀ H₀) elt te)
    (I2:Inv X pins σ H₂ s₂) (T:Turn X.prog X.w X.K (.Name x px) J fp it tn) (st2:tn 0 s₂.heap) (f2:∀ b∈fp,vT X pins H₂ b)
    (W:Nat→Nat→List V→Hp→Prop) (m0:Nat) (w0:W 0 m0 [] H₂) (Fin:List V→Hp→Prop)
    (turn:∀ i m ys H,W i m ys H→(J.stop i H∧Fin ys H) ∨
      (J.go i H∧∀ v H',J.yld i H v H'→tt (some v::jn caps σ) H' fun b H2=>if b=true then te (some v::jn caps σ) H2 fun y H3=>ys.length < sizeLine∧∃ m',m' < m∧W (i+1) m' (ys++[y]) H3 else ∃ m',m' < m∧W (i+1) m' ys H2))
    (hRR:∀ (D C:Addr) (s':Shared) (ys:List V) (H':Hp) (m:Str→Option Value),Fin ys H'→H' D=none→Inv X pins σ (upd H' D (.lst ys)) s'→s'.heap.Ns C m→vT X pins (upd H' D (.lst ys)) C→RR (.ref D) C (.ok .next) s') :
    wpAny (model X.prog X.w) X.A (newList []) (fun acc s₃=>wpAny (model X.prog X.w) X.A (newFunctionEnv scope X.env.globals (zcO scope X.env) [] X.env.qual none .none (some X.env)) (fun cenv s₄ =>
      codeAny (model X.prog X.w) X.A (.compStart (.ListComp elt [⟨.Name x px,iter,ifs,0⟩] scope pos) 0 (.ref it) acc { cenv with scope:=relabel scope X.env }) (RR acc cenv.locals) s₄) E s₃) E s₂:=by
  refine wpAny_newObj_type (wpAny_newFunctionEnv S.nocell (by intro y hy;simp at hy) (fun h₁ hns₁ hsb₁=>?_) S.kind)
  dsimp only at hns₁ hsb₁ ⊢
  generalize hHH:s₂.heap.push { cls:=.type "list",dict:=none,data:=.seq ([]:List Value).toArray }=HH at hns₁ hsb₁ ⊢
  generalize hDe:s₂.heap.objs.size=D at *
  have up:∀ b o,s₂.heap.get? b=some o→HH.get? b=some o:=fun b o e=>hHH ▸ Heap.get?_push_of_some _ e
  have hsz:HH.objs.size=D+1:=by rw [← hHH,Heap.size_push,hDe]
  have gD3:HH.get? D=some { cls:=.type "list",data:=.seq ([]:List Value).toArray }:=by rw [← hHH,← hDe];exact Heap.get?_push_size _ rfl
  have I3:Inv X pins σ H₂ { s₂ with heap:=HH }:=I2.kept (t':=s₂.toks) up
  generalize hC:HH.objs.size=C at *
  have hDC:D < C:=by omega
  have old:∀ b o,HH.get? b=some o→h₁.get? b=some o:=fun b o e=>hsb₁.extBut b o (Nat.ne_of_lt (by rw [← hC];exact Heap.lt_size e)) (Heap.get?_push_of_some _ e)
  have fD:vT X pins H₂ D:=I2.fpOk (Nat.le_of_eq hDe) (I2.hok.fresh (Nat.le_of_eq hDe))
  have fpC:∀ b∈fp,b < C:=fun b hb=>by
    obtain⟨o,e,_⟩:=T.obj _ _ st2 b hb
    have h1:b < s₂.heap.objs.size:=Heap.lt_size e
    rw [hDe] at h1
    exact Nat.lt_trans h1 hDC
  have hex:∀ b∈fp++[D],vT X pins H₂ b∧b < C:=fun b hb=>by
    rcases List.mem_append.mp hb with z | z
    · exact⟨f2 b z,fpC b z⟩
    · rw [List.mem_singleton.mp z];exact⟨fD,hDC⟩
  have hDm:D∈fp++[D]:=List.mem_append_right _ (List.mem_singleton.mpr rfl)
  have nDf:D∉fp:=fun z=>by
    obtain⟨o,e,_⟩:=T.obj _ _ st2 D z
    have h1:D < s₂.heap.objs.size:=Heap.lt_size e
    rw [hDe] at h1
    exact Nat.lt_irrefl _ h1
  have st1:tn 0 h₁:=T.keep _ _ _ st2 fun b hb o e=>old b o (up b o e)
  have J0:Inv (zC X scope N' C (fp++[D]) { s₂ with heap:=HH } H₂) [] (none::jn caps σ) H₂ { s₂ with heap:=h₁,toks:=s₂.toks+([]:List (Str×Value)).length } :=
    zcQ (s₃:={ s₂ with heap:=HH }) S I3 (Nat.le_of_eq hC) hex hns₁ old
  have stat:∀ {b:Addr} {H':Hp} {pl:List (Addr×Obj)},b∈fp++[D]→H' b=none→(∀ p∈pl,p.1≠b)→vT (zC X scope N' C (fp++[D]) { s₂ with heap:=HH } H₂) pl H' b:=fun {b H' pl} hb hn hp=>by
    have ok:=J0.ok
    refine⟨hn,(ok.exf b hb).1,ok.exfs b hb,.inl hb,(ok.exf b hb).2,fun p hp'=>hp p (by simpa using hp')⟩
  have loop:∀ s₃:Shared,s₃={ s₂ with heap:=h₁,toks:=s₂.toks+([]:List (Str×Value)).length } →
      codeAny (model X.prog X.w) X.A (.compLoop (.ListComp elt [⟨.Name x px,iter,ifs,0⟩] scope pos) 0 (.ref it) (.ref D) (compEnvC scope (zcO scope X.env) C X.env)) (RR (.ref D) C) s₃:=by
    rintro s₃ rfl
    refine zeo (fun n s'=>∃ (i:Nat) (ys:List V) (its:List Value) (k:Nat) (o:Option V) (H':Hp),Inv (zC X scope N' C (fp++[D]) { s₂ with heap:=HH } H₂) [] (o::jn caps σ) H' s'∧tn i s'.heap∧(∀ b∈fp,H' b=none)∧H' D=none ∧
      s'.heap.get? D=some { cls:=.type "list",data:=.seq its.toArray k }∧Vals ys its∧ys.length≤sizeLine∧W i n ys H') ?_ m0
      ⟨0,[],[],0,none,H₂,J0,st1,fun b hb=>(f2 b hb).1,fD.1,old _ _ gD3,.nil,Nat.zero_le _,w0⟩
    rintro n s' ⟨i,ys,its,k,o,H',I',st,fr,hD,gD,rv,hz,w⟩
    have ID:Inv (zC X scope N' C (fp++[D]) { s₂ with heap:=HH } H₂) [(D,{ cls:=.type "list",data:=.seq its.toArray k })] (o::jn caps σ) H' s':=I'.pins_of fun p hp=>by
      rw [List.mem_singleton.mp hp]
      have ok:=J0.ok
      exact⟨gD,hD,(ok.exf D hDm).1,ok.exfs D hDm,fun v z=>by cases z⟩
    have hf:∀ b∈fp,vT (zC X scope N' C (fp++[D]) { s₂ with heap:=HH } H₂) [(D,{ cls:=.type "list",data:=.seq its.toArray k })] H' b:=fun b hb=>stat (List.mem_append_left _ hb) (fr b hb) fun p hp=>by
      rw [List.mem_singleton.mp hp]
      exact fun z=>nDf ((show D=b from z) ▸ hb)
    rcases turn i n ys H' w with ⟨stop,fin⟩ | ⟨go,step⟩
    · refine wpAny_mono (T.done (zC X scope N' C (fp++[D]) { s₂ with heap:=HH } H₂) rfl rfl rfl hc i _ s' _ H' (fun _ _=>False) ID hf st stop) (fun r s1 ⟨hr,I1⟩=>?_) fun _ _ z=>z
      subst hr
      have gD1:=(I1.pin _ (List.mem_append_right _ (List.mem_singleton.mpr rfl))).1
      obtain⟨m,ns,_⟩:=I1.loc
      refine hRR D C s1 ys H' m fin hD (yK I3 I1 (fun b hb=>(hex b hb).1) hDm hD gD1 rv hz) ns ?_
      refine⟨by rw [zu (Nat.ne_of_gt hDC)];exact I1.free,?_⟩
      have q:=I3.fpOk (b:=C) (H':=H₂) (Nat.le_of_eq hC) (I3.hok.fresh (Nat.le_of_eq hC))
      exact q.2
    · refine wpAny_mono (T.item (zC X scope N' C (fp++[D]) { s₂ with heap:=HH } H₂) rfl rfl rfl hc i _ s' _ H' (fun _ _=>False) ID hf st go) (fun r s1 ⟨u,hr,h4⟩=>?_) fun _ _ z=>z
      subst hr
      refine wpAny_mono h4 (fun _ s5 ⟨v,H5,I5,r5,y5,st5,fr5⟩=>?_) fun _ _ z=>z
      have I5':=I5.pinned (fp:=fp) (fun b hb=>stat (List.mem_append_left _ hb) (fr5 b hb) fun p hp=>by
        rw [List.mem_singleton.mp hp]
        exact fun z=>nDf ((show D=b from z) ▸ hb)) (T.obj _ _ st5)
      refine wpAny_assign_Name (wZ I5' S.nd S.n0 (.inl (lookup_relabel_local S.loc)) r5 (fun s6 I6=>?_) (.inr (lookup_relabel_local S.loc)))
      refine wpAny_mono (ht C (fp++[D]) { s₂ with heap:=HH } H₂ _ s6 _ H5 _ I6 (step v H5 y5)) (fun b s7 ⟨H7,I7,q7⟩=>?_) fun _ _ z=>z
      have keepT:∀ {s8:Shared} {σ8:St} {H8:Hp},Inv (zC X scope N' C (fp++[D]) { s₂ with heap:=HH } H₂) ([(D,{ cls:=.type "list",data:=.seq its.toArray k })]++yR fp s5.heap) σ8 H8 s8 →
          (∀ b∈fp,∀ ob,s5.heap.get? b=some ob→s8.heap.get? b=some ob)∧(∀ b∈fp,H8 b=none)∧s8.heap.get? D=some { cls:=.type "list",data:=.seq its.toArray k }∧H8 D=none:=fun {s8 σ8 H8} I8=>by
        refine⟨fun b hb ob e=>(I8.pin (b,ob) (List.mem_append_right _ (List.mem_append_right _ (xt hb e)))).1,fun b hb=>?_,?_,?_⟩
        · obtain⟨ob,e,_⟩:=T.obj _ _ st5 b hb
          exact (I8.pin (b,ob) (List.mem_append_right _ (List.mem_append_right _ (xt hb e)))).2.1
        · exact (I8.pin (D,_) (List.mem_append_right _ (List.mem_append_left _ (List.mem_singleton.mpr rfl)))).1
        · exact (I8.pin (D,_) (List.mem_append_right _ (List.mem_append_left _ (List.mem_singleton.mpr rfl)))).2.1
      cases b with
      | false =>
        rw [if_neg Bool.false_ne_true] at q7 ⊢
        obtain⟨m',hm,w7⟩:=q7
        obtain⟨k1,k2,k3,k4⟩:=keepT I7
        exact⟨m',hm,i+1,ys,its,k,some v,H7,I7.pins_of (fun p hp=>by simp at hp),T.keep _ _ _ st5 k1,k2,k4,k3,rv,hz,w7⟩
      | true =>
        rw [if_pos rfl] at q7 ⊢
        refine wpAny_mono (he C (fp++[D]) { s₂ with heap:=HH } H₂ _ s7 _ H7 _ I7 q7) (fun yv s8 ⟨y,H8,I8,r8,hz8,m',hm,w8⟩=>?_) fun _ _ z=>z
        obtain⟨k1,k2,k3,k4⟩:=keepT I8
        refine append_at k3 (fun h9 sb9 e9=>?_) (by rw [List.size_toArray,← rv.length];exact hz)
        have I8':Inv (zC X scope N' C (fp++[D]) { s₂ with heap:=HH } H₂) [] (some v::jn caps σ) H8 s8:=I8.pins_of (fun p hp=>by simp at hp)
        obtain⟨g0,g1,g2,g3,g4,g5⟩:=stat (pl:=[]) hDm k4 (fun p hp=>by simp at hp)
        have I9:Inv (zC X scope N' C (fp++[D]) { s₂ with heap:=HH } H₂) [] (some v::jn caps σ) H8 { s8 with heap:=h9 }:=I8'.turned (t':=s8.toks) (fun b ob hb e=>(sb9.2 b hb).trans e) g0 g1 g3 g4 g5
        refine⟨m',hm,i+1,ys++[y],its++[yv],k+1,some v,H8,I9,T.keep _ _ _ st5 (fun b hb ob e=>?_),k2,k4,?_,rv.append (.cons r8 .nil),?_,w8⟩
        · exact (sb9.2 b (fun z=>nDf (z ▸ hb))).trans (k1 b hb ob e)
        · rw [e9,List.push_toArray]
        · rw [List.length_append,List.length_singleton];exact hz8
  exact codeAny_compStart_list (loop _ rfl) (T.self X.A 0 _ _ _ st1 (loop _ rfl))
theorem zi5{elt iter:Expr}{px:Pos}{ifs:List Expr}{pos:Pos}{wi:TI}{tt:TT}{te:TE}(S:jk X scope x N' caps)(hc:X.calm=true)(hi:PI X (.Name x px) iter wi)
    (ht:∀ C ex s₀ H₀,zhg (zC X scope N' C ex s₀ H₀) ifs tt) (he:∀ C ex s₀ H₀,PE (zC X scope N' C ex s₀ H₀) elt te)
    (hs:∀ x,foldedSetIterable iter X.env x=pure x:=by intro _;rfl):PE X (.ListComp elt [⟨.Name x px,iter,ifs,0⟩] scope pos) (zjN caps wi tt te):=by
  intro pins s σ H Q I h
  rw [eval_ListComp]
  refine wpAny_comprehension_free (use:=none) rfl hs (zba (S.cells I)) S.kind S.names (thn (hi pins s σ H _ I h) fun v s1 h1=>thn h1 fun itv s2 h2=>?_)
  obtain⟨it,fp,tn,J,H2,e,I2,T,st2,f2,W,⟨m0,w0⟩,turn⟩:=h2
  subst e
  refine zal (RR:=fun acc C=>compPost (model X.prog X.w) X.A X.xe none (EP X pins σ Q) acc C) S hc ht he I2 T st2 f2 W m0 w0 (fun ys H'=>∀ p,H' p=none→Q (.ref p) (upd H' p (.lst ys))) turn ?_
  intro D C s' ys H' m fin hD I' ns fC
  obtain⟨f0,f1,f2',f3,f4,f5⟩:=fC
  refine⟨m,ns,fun h' sb=>⟨.ref D,_,I'.turned (t':=s'.toks) (fun b o hb e=>(sb.2 b hb).trans e) f0 f1 f3 f4 f5,rfl,fin D hD⟩⟩
theorem zeS{elt iter:Expr}{px py:Pos}{ifs:List Expr}{pos spos:Pos}{wi:TI}{tt:TT}{te:TE}{i:Nat}{y:Str}(hN:X.N.Nodup)(hi0:X.N[i]?=some y)(hy:X.env.scope.names.lookup y=some .local)
    (S:jk X scope x N' caps) (hc:X.calm=true) (hi:PI X (.Name x px) iter wi)
    (ht:∀ C ex s₀ H₀,zhg (zC X scope N' C ex s₀ H₀) ifs tt) (he:∀ C ex s₀ H₀,PE (zC X scope N' C ex s₀ H₀) elt te)
    (hsw:swapsWith (.ListComp elt [⟨.Name x px,iter,ifs,0⟩] scope pos) (some (.Name y py)) spos.line X.env=pure true:=by rfl)
    (hs:∀ x,foldedSetIterable iter X.env x=pure x:=by intro _;rfl):PS X (.Assign [.Name y py] (.ListComp elt [⟨.Name x px,iter,ifs,0⟩] scope pos) spos) (zj7 (zjN caps wi tt te) (zd4 i)):=by
  intro pins s σ H D0 I h
  rw [exec_Assign_Name_used _ _ _ _ hsw]
  refine wpAny_bind (wpAny_standAt (wpAny_bind ?_))
  show wpAny _ X.A (do let _ ← comprehension (.ListComp elt [⟨.Name x px,iter,ifs,0⟩] scope pos) scope X.env _ (newList []) false (eval iter X.env) (some (assign (.Name y py) X.env))) _ _ s
  refine wpAny_bind (wpAny_mono (wpAny_comprehension_free (use:=some (assign (.Name y py) X.env)) (Q:=fun _ s'=>SP X pins D0 .next s') rfl hs (zba (S.cells I)) S.kind S.names
    (thn (hi pins s σ H _ I h) fun v s1 h1=>thn h1 fun itv s2 h2=>?_)) (fun _ s' hq=>wpAny_pure (wpAny_pure hq)) fun _ _ e=>e)
  obtain⟨it,fp,tn,J,H2,e,I2,T,st2,f2,W,⟨m0,w0⟩,turn⟩:=h2
  subst e
  refine zal (RR:=fun acc C=>compPost (model X.prog X.w) X.A X.xe (some (assign (.Name y py) X.env)) (fun _ s'=>SP X pins D0 .next s') acc C) S hc ht he I2 T st2 f2 W m0 w0
    (fun ys H'=>∀ p,H' p=none→D0.nx (σ.set i (some (.ref p))) (upd H' p (.lst ys))) turn ?_
  intro D C s' ys H' m fin hD I' ns fC
  obtain⟨f0,f1,f2',f3,f4,f5⟩:=fC
  show wpAny _ X.A (assign (.Name y py) X.env (.ref D)) _ _ _
  refine wpAny_assign_Name (za2 I' hN hi0 (.inl hy) (v:=.ref D) rfl (fun s'' I'' ⟨a,sb,ha⟩=>?_) (.inr hy))
  have hCa:C≠a:=by
    rcases ha with z | z
    · rw [z];exact f1
    · exact fun q=>f4 _ _ z q.symm
  refine⟨m,ns.sameBut sb hCa,fun h' sb'=>⟨_,_,I''.turned (t':=s''.toks) (fun b o hb e=>(sb'.2 b hb).trans e) f0 f1 f3 f4 f5,fin D hD⟩⟩
end
end L2
namespace L2.DL
open PySem PySem.Spec PyProof.Rows
inductive D where
  | non | bl (b:Bool) | int (i:Int) | str (x:Str) | tup (l:List D) | lst (l:List D) | scr (ns:List Int) | crs (n:Int) (ps:List (Int×Int)) | ty (n:String) | cls (a:Addr)
def prV(K:PySem.W.Frag)(H:Hp)(p:Int×Int)(v:V):Prop:=∃ a,v=.ref a∧SqT K H a [.int p.1,.int p.2]
mutual
def Rep(K:PySem.W.Frag)(C:Addr)(H:Hp):D→V→Prop
  | .non,v=>v=.non
  | .bl b,v=>v=.bl b
  | .int i,v=>v=.int i
  | .str x,v=>v=.str x
  | .ty n,v=>v=.ty n
  | .cls a,v=>v=.ref a
  | .tup ds,v=>∃ a xs,v=.ref a∧SqT K H a xs∧RepA K C H ds xs
  | .lst ds,v=>∃ a xs,v=.ref a∧H a=some (.lst xs)∧RepA K C H ds xs
  | .scr ns,v=>∃ a,v=.ref a∧SqL K H a (ns.map V.int)
  | .crs n ps,v=>∃ a dx q xs,v=.ref a∧H a=some (.ins C dx [("streams",.int n),("pairs",.ref q)])∧H q=some (.lst xs)∧Paired (prV K H) ps xs
def RepA(K:PySem.W.Frag)(C:Addr)(H:Hp):List D→List V→Prop
  | [],xs=>xs=[]
  | d::ds,xs=>∃ x r,xs=x::r∧Rep K C H d x∧RepA K C H ds r
end
section
variable {K:PySem.W.Frag}{C:Addr}{H H' H1:Hp}
theorem prV.mono(e:Same H H'){p:Int×Int}{v:V}(h:prV K H p v):prV K H' p v:=let ⟨a,h1,h2⟩:=h;⟨a,h1,e.seqT h2⟩
mutual
theorem Rep.mono(e:Same H H'):∀ (d:D) (v:V),Rep K C H d v→Rep K C H' d v
  | .non,v,h=>by unfold Rep at h ⊢;exact h
  | .bl _,v,h=>by unfold Rep at h ⊢;exact h
  | .int _,v,h=>by unfold Rep at h ⊢;exact h
  | .str _,v,h=>by unfold Rep at h ⊢;exact h
  | .ty _,v,h=>by unfold Rep at h ⊢;exact h
  | .cls _,v,h=>by unfold Rep at h ⊢;exact h
  | .tup ds,v,h=>by
    unfold Rep at h ⊢
    obtain⟨a,xs,h1,h2,h3⟩:=h
    exact⟨a,xs,h1,e.seqT h2,RepA.mono e ds xs h3⟩
  | .lst ds,v,h=>by
    unfold Rep at h ⊢
    obtain⟨a,xs,h1,h2,h3⟩:=h
    exact⟨a,xs,h1,e _ _ h2,RepA.mono e ds xs h3⟩
  | .scr ns,v,h=>by
    unfold Rep at h ⊢
    obtain⟨a,h1,h2⟩:=h
    exact⟨a,h1,e.seq h2⟩
  | .crs n ps,v,h=>by
    unfold Rep at h ⊢
    obtain⟨a,dx,q,xs,h1,h2,h3,h4⟩:=h
    exact⟨a,dx,q,xs,h1,e _ _ h2,e _ _ h3,Paired.mapP h4 fun _ _ z=>z.mono e⟩
theorem RepA.mono(e:Same H H'):∀ (ds:List D) (xs:List V),RepA K C H ds xs→RepA K C H' ds xs
  | [],xs,h=>by unfold RepA at h ⊢;exact h
  | d::ds,xs,h=>by
    unfold RepA at h ⊢
    obtain⟨x,r,h1,h2,h3⟩:=h
    exact⟨x,r,h1,Rep.mono e d x h2,RepA.mono e ds r h3⟩
end
theorem repA_nil:RepA K C H [] []:=by unfold RepA;rfl
theorem zQ{d:D}{ds:List D}{x:V}{xs:List V}(h:Rep K C H d x)(h':RepA K C H ds xs):RepA K C H (d::ds) (x::xs):=by
  unfold RepA;exact⟨x,xs,rfl,h,h'⟩
theorem qH:∀ {ds:List D} {xs:List V},RepA K C H ds xs↔Paired (Rep K C H) ds xs
  | [],xs=>by
    unfold RepA
    exact⟨fun h=>by subst h;exact .nil,fun h=>by cases h;rfl⟩
  | d::ds,xs=>by
    unfold RepA
    constructor
    · rintro⟨x,r,rfl,h1,h2⟩
      exact .cons h1 (qH.mp h2)
    · intro h
      cases h with
      | cons h1 h2=>exact⟨_,_,rfl,h1,qH.mpr h2⟩
theorem x4{α β:Type}{F:α→β→Prop}:∀ {l:List α} {m:List β},Paired F l m→l.length=m.length
  | _,_,.nil=>rfl
  | _,_,.cons _ t=>by simp [x4 t]
theorem x3{α β:Type}{F:α→β→Prop}:∀ {l:List α} {m:List β} {i:Nat} {a:α},Paired F l m→l[i]?=some a→∃ b,m[i]?=some b∧F a b
  | _,_,_,_,.nil,h=>by simp at h
  | _,_,0,_,.cons h1 t,h=>by simp at h;subst h;exact⟨_,rfl,h1⟩
  | _,_,i+1,_,.cons h1 t,h=>by simp at h;simpa using x3 t h
theorem kU{α β:Type}{F:α→β→Prop}:∀ {l:List α} {m:List β} {i:Nat} {b:β},Paired F l m→m[i]?=some b→∃ a,l[i]?=some a∧F a b
  | _,_,_,_,.nil,h=>by simp at h
  | _,_,0,_,.cons h1 t,h=>by simp at h;subst h;exact⟨_,rfl,h1⟩
  | _,_,i+1,_,.cons h1 t,h=>by simp at h;simpa using kU t h
theorem yP{α β:Type}{F:α→β→Prop}:∀ {l l':List α} {m m':List β},Paired F l m→Paired F l' m'→Paired F (l++l') (m++m')
  | _,_,_,_,.nil,h=>h
  | _,_,_,_,.cons h1 t,h=>.cons h1 (yP t h)
theorem kW{α β:Type}{F:α→β→Prop}:∀ {l:List α} {m:List β} (n:Nat),Paired F l m→Paired F (l.take n) (m.take n)
  | _,_,0,_=>by simpa using Paired.nil
  | _,_,n+1,.nil=>.nil
  | _,_,n+1,.cons h t=>.cons h (kW n t)
theorem kT{α β:Type}{F:α→β→Prop}:∀ {l:List α} {m:List β} (n:Nat),Paired F l m→Paired F (l.drop n) (m.drop n)
  | _,_,0,h=>h
  | _,_,n+1,.nil=>.nil
  | _,_,n+1,.cons h t=>kT n t
theorem yQ{α β:Type}{F:α→β→Prop}{a:α}{b:β}(hab:F a b):∀ {l:List α} {m:List β} (i:Nat),Paired F l m→Paired F (l.set i a) (m.set i b)
  | _,_,_,.nil=>.nil
  | _,_,0,.cons h t=>.cons hab t
  | _,_,i+1,.cons h t=>.cons h (yQ hab i t)
theorem zD{ds:List D}{xs:List V}(h:RepA K C H ds xs):ds.length=xs.length:=x4 (qH.mp h)
theorem zcy{ds:List D}{xs:List V}{i:Nat}{d:D}(h:RepA K C H ds xs)(e:ds[i]?=some d):∃ x,xs[i]?=some x∧Rep K C H d x:=x3 (qH.mp h) e
theorem jw{ds:List D}{xs:List V}{i:Nat}{x:V}(h:RepA K C H ds xs)(e:xs[i]?=some x):∃ d,ds[i]?=some d∧Rep K C H d x:=kU (qH.mp h) e
theorem jJ{ds es:List D}{xs ys:List V}(h:RepA K C H ds xs)(h':RepA K C H es ys):RepA K C H (ds++es) (xs++ys):=qH.mpr (yP (qH.mp h) (qH.mp h'))
theorem xh:∀ {ns:List Int} {xs:List V},RepA K C H (ns.map D.int) xs→xs=ns.map V.int
  | [],xs,h=>by unfold RepA at h;exact h
  | n::ns,xs,h=>by
    rw [List.map_cons] at h
    unfold RepA at h
    obtain⟨x,r,rfl,h1,h2⟩:=h
    unfold Rep at h1
    subst h1
    rw [xh h2]
    rfl
theorem ju:∀ {ns:List Int},RepA K C H (ns.map D.int) (ns.map V.int)
  | []=>repA_nil
  | n::ns=>zQ (by unfold Rep;rfl) ju
noncomputable def less (H:Hp) (S:Addr→Prop):Hp:=fun a=>open Classical in if S a then none else H a
def wi(S:Addr→Prop)(p:Addr):Addr→Prop:=fun a=>S a∨a=p
theorem zK{S:Addr→Prop}{a:Addr}{u:HO}:less H S a=some u↔¬ S a∧H a=some u:=by
  unfold less
  by_cases h:S a
  · rw [if_pos h];simp [h]
  · rw [if_neg h];simp [h]
theorem zh{S:Addr→Prop}:Same (less H S) H:=fun _ _ h=>(zK.mp h).2
theorem zF{S:Addr→Prop}(e:Same H H'):Same (less H S) (less H' S):=fun b u h=>by
  obtain⟨h1,h2⟩:=zK.mp h
  exact zK.mpr ⟨h1,e _ _ h2⟩
theorem x8{S S0:Addr→Prop}(h:∀ p,S0 p→S p):Same (less H S) (less H S0):=fun b u z=>by
  obtain⟨h1,h2⟩:=zK.mp z
  exact zK.mpr ⟨fun q=>h1 (h _ q),h2⟩
def Dom(H:Hp)(S:Addr→Prop):Prop:=∀ p,S p→H p≠none
theorem Same.none{p:Addr}(e:Same H H')(h:H' p=none):H p=none:=by
  cases q:H p with
  | none=>rfl
  | some u=>rw [e _ _ q] at h;cases h
theorem Dom.mono{S:Addr→Prop}(d:Dom H S)(e:Same H H'):Dom H' S:=fun p hp z=>d p hp (Same.none e z)
theorem zbG{S:Addr→Prop}{p:Addr}(e:Same H H')(h:H p=none):Same (less H S) (less H' (wi S p)):=fun b u z=>by
  obtain⟨h1,h2⟩:=zK.mp z
  exact zK.mpr ⟨fun q=>q.elim h1 fun q=>(by rw [q,h] at h2;cases h2),e _ _ h2⟩
theorem zcf{S:Addr→Prop}{p:Addr}{o:HO}(h:S p):less (upd H p o) S=less H S:=by
  funext a
  unfold less
  by_cases z:S a
  · rw [if_pos z,if_pos z]
  · rw [if_neg z,if_neg z,zu (fun q=>z (by rw [q];exact h))]
inductive SV where
  | sh (d:D) | ow (p:Addr) (ds:List D)
abbrev En:=List (Option SV)
def zlY(K:PySem.W.Frag)(C:Addr)(H:Hp)(S:Addr→Prop):SV→V→Prop
  | .sh d,v=>Rep K C (less H S) d v
  | .ow p ds,v=>v=.ref p∧S p∧∃ xs,H p=some (.lst xs)∧RepA K C (less H S) ds xs
structure EOk(K:PySem.W.Frag)(C:Addr)(H:Hp)(S:Addr→Prop)(σ:St)(env:En):Prop where
  len:σ.length=env.length
  slot:∀ (i:Nat) (sv:SV),env[i]?=some (some sv)→∃ v,σ[i]?=some (some v)∧zlY K C H S sv v
  inj:∀ (i j:Nat) (p:Addr) (ds es:List D),env[i]?=some (some (.ow p ds))→env[j]?=some (some (.ow p es))→i=j
  dom:Dom H S
theorem EOk.mono{S:Addr→Prop}{σ:St}{env:En}(h:EOk K C H S σ env)(e:Same H H'):EOk K C H' S σ env:=by
  refine⟨h.len,fun i sv z=>?_,h.inj,h.dom.mono e⟩
  obtain⟨v,h1,h2⟩:=h.slot i sv z
  refine⟨v,h1,?_⟩
  cases sv with
  | sh d=>exact Rep.mono (zF e) d v h2
  | ow p ds =>
    obtain⟨h3,h4,xs,h5,h6⟩:=h2
    exact⟨h3,h4,xs,e _ _ h5,RepA.mono (zF e) _ _ h6⟩
def KD(K:PySem.W.Frag)(C:Addr)(H:Hp)(S:Addr→Prop)(P:D→Prop)(Q:VK):Prop:=∀ d,P d→∀ v H',Same H H'→Rep K C (less H' S) d v→Q v H'
def KF(K:PySem.W.Frag)(C:Addr)(H:Hp)(S:Addr→Prop)(P:List D→Prop)(Q:VK):Prop :=
  ∀ ds,P ds→∀ p xs H',Same H H'→H p=none→H' p=some (.lst xs)→RepA K C (less H' (wi S p)) ds xs→Q (.ref p) H'
theorem KD.mono{S:Addr→Prop}{P:D→Prop}{Q:VK}(k:KD K C H S P Q)(e:Same H H1):KD K C H1 S P Q:=fun d hd v H' e' r=>k d hd v H' (e.trans e') r
theorem KF.mono{S:Addr→Prop}{P:List D→Prop}{Q:VK}(k:KF K C H S P Q)(e:Same H H1):KF K C H1 S P Q:=fun d hd p xs H' e' hp=>k d hd p xs H' (e.trans e') (Same.none e hp)
theorem KD.fresh{S:Addr→Prop}{P:D→Prop}{Q:VK}(k:KD K C H S P Q)(hd:Dom H S):KF K C H S (fun ds=>P (.lst ds)) Q:=fun ds h p xs H' e hp hl r=>by
  refine k _ h _ H' e ?_
  unfold Rep
  refine⟨p,xs,rfl,zK.mpr ⟨fun z=>hd p z hp,hl⟩,RepA.mono (x8 fun _=>.inl) _ _ r⟩
theorem KF.new{S:Addr→Prop}{P:List D→Prop}{Q:VK}(k:KF K C H S P Q){ds:List D}{xs:List V}(h:P ds)(r:RepA K C (less H S) ds xs){p:Addr}(hp:H p=none):Q (.ref p) (upd H p (.lst xs)) :=
  k ds h p xs _ (same_new hp _) hp qd (RepA.mono (zbG (same_new hp _) hp) _ _ r)
theorem KD.new{S:Addr→Prop}{P:D→Prop}{Q:VK}(k:KD K C H S P Q)(hd:Dom H S){ds:List D}{xs:List V}(h:P (.tup ds))(r:RepA K C (less H S) ds xs){p:Addr}(hp:H p=none):Q (.ref p) (upd H p (.tup xs)):=by
  refine k _ h _ _ (same_new hp _) ?_
  unfold Rep
  exact⟨p,xs,rfl,SqT.of (zK.mpr ⟨fun z=>hd p z hp,qd⟩),RepA.mono (zF (same_new hp _)) _ _ r⟩
theorem KD.flat{S:Addr→Prop}{P:D→Prop}{Q:VK}(k:KD K C H S P Q){d:D}{v:V}(h:P d)(r:Rep K C (less H S) d v):Q v H:=k d h v H (Same.refl _) r
theorem qf{i:Int}:Rep K C H (.int i) (.int i):=by unfold Rep;rfl
theorem xN{b:Bool}:Rep K C H (.bl b) (.bl b):=by unfold Rep;rfl
theorem ze7:Rep K C H .non .non:=by unfold Rep;rfl
theorem zlG{x:String}:Rep K C H (.ty x) (.ty x):=by unfold Rep;rfl
theorem zjw{x:Addr}:Rep K C H (.cls x) (.ref x):=by unfold Rep;rfl
end
abbrev DT1:=En→(D→Prop)→Prop
abbrev DTT:=En→(Bool→Prop)→Prop
abbrev DTA:=En→(List D→Prop)→Prop
def rE(K:PySem.W.Frag)(C:Addr)(t:DT1):TE:=fun σ H Q=>∃ S env P,EOk K C H S σ env∧t env P∧KD K C H S P Q
def rF(K:PySem.W.Frag)(C:Addr)(t:DTA):TE:=fun σ H Q=>∃ S env P,EOk K C H S σ env∧t env P∧KF K C H S P Q
def rT(K:PySem.W.Frag)(C:Addr)(t:DTT):TT:=fun σ H Q=>∃ S env P,EOk K C H S σ env∧t env P∧∀ b,P b→∀ H',Same H H'→Q b H'
def rA(K:PySem.W.Frag)(C:Addr)(t:DTA):TA:=fun σ H Q=>∃ S env P,EOk K C H S σ env∧t env P∧∀ ds,P ds→∀ vs H',Same H H'→RepA K C (less H' S) ds vs→Q vs H'
def DE(C:Addr)(X:Cx)(e:Expr)(t:DT1):Prop:=PE X e (rE X.K C t)
def DF(C:Addr)(X:Cx)(e:Expr)(t:DTA):Prop:=PE X e (rF X.K C t)
def DB(C:Addr)(X:Cx)(e:Expr)(t:DTT):Prop:=PT X e (rT X.K C t)
def DW(C:Addr)(X:Cx)(e:Expr)(t:DTT):Prop:=PW X e (rT X.K C t)
def DA(C:Addr)(X:Cx)(es:List Expr)(t:DTA):Prop:=PA X es (rA X.K C t)
theorem peW{X:Cx}{e:Expr}{t t':TE}(h:PE X e t)(w:∀ σ H Q,t' σ H Q→t σ H Q):PE X e t':=fun pins s σ H Q I q=>h pins s σ H Q I (w σ H Q q)
theorem ptW{X:Cx}{e:Expr}{t t':TT}(h:PT X e t)(w:∀ σ H Q,t' σ H Q→t σ H Q):PT X e t':=fun pins s σ H Q I q=>h pins s σ H Q I (w σ H Q q)
theorem pwW{X:Cx}{e:Expr}{t t':TT}(h:PW X e t)(w:∀ σ H Q,t' σ H Q→t σ H Q):PW X e t':=fun wh pins s σ H Q I q=>h wh pins s σ H Q I (w σ H Q q)
theorem paW{X:Cx}{es:List Expr}{t t':TA}(h:PA X es t)(w:∀ σ H Q,t' σ H Q→t σ H Q):PA X es t':=fun p pins s σ H Q I q=>h p pins s σ H Q I (w σ H Q q)
def zl2(i:Nat):DT1:=fun env Q=>match env[i]? with
  | some (some (.sh d))=>Q d
  | _=>False
def dC(d:D):DT1:=fun _ Q=>Q d
def d1(r:D→(D→Prop)→Prop)(ta:DT1):DT1:=fun env Q=>ta env fun x=>r x Q
def d2(r:D→D→(D→Prop)→Prop)(ta tb:DT1):DT1:=fun env Q=>ta env fun x=>tb env fun y=>r x y Q
def d2F(r:D→D→(List D→Prop)→Prop)(ta tb:DT1):DTA:=fun env Q=>ta env fun x=>tb env fun y=>r x y Q
def zhm:DTA:=fun _ Q=>Q []
def zh6(ta:DT1)(t:DTA):DTA:=fun env Q=>ta env fun x=>t env fun xs=>Q (x::xs)
def wb(r:List D→(D→Prop)→Prop)(ta:DTA):DT1:=fun env Q=>ta env fun xs=>r xs Q
def zam(r:List D→(List D→Prop)→Prop)(ta:DTA):DTA:=fun env Q=>ta env fun xs=>r xs Q
def dOf(t:DTA):DT1:=fun env Q=>t env fun ds=>Q (.lst ds)
def zka(K:PySem.W.Frag)(C:Addr)(r:V→Hp→VK→Prop)(rd:D→(D→Prop)→Prop):Prop :=
  ∀ H S d v P Q,Dom H S→Rep K C (less H S) d v→rd d P→KD K C H S P Q→r v H Q
def xS(K:PySem.W.Frag)(C:Addr)(r:R2)(rd:D→D→(D→Prop)→Prop):Prop :=
  ∀ H S d v e u P Q,Dom H S→Rep K C (less H S) d v→Rep K C (less H S) e u→rd d e P→KD K C H S P Q→r v u H Q
def zbT(K:PySem.W.Frag)(C:Addr)(r:R2)(rd:D→D→(List D→Prop)→Prop):Prop :=
  ∀ H S d v e u P Q,Dom H S→Rep K C (less H S) d v→Rep K C (less H S) e u→rd d e P→KF K C H S P Q→r v u H Q
def yu(K:PySem.W.Frag)(C:Addr)(r:List V→Hp→VK→Prop)(rd:List D→(D→Prop)→Prop):Prop :=
  ∀ H S ds vs P Q,Dom H S→RepA K C (less H S) ds vs→rd ds P→KD K C H S P Q→r vs H Q
def zdv(K:PySem.W.Frag)(C:Addr)(r:List V→Hp→VK→Prop)(rd:List D→(List D→Prop)→Prop):Prop :=
  ∀ H S ds vs P Q,Dom H S→RepA K C (less H S) ds vs→rd ds P→KF K C H S P Q→r vs H Q
section
variable {C:Addr}{X:Cx}{a b c e:Expr}{es:List Expr}{ta tb tc te:DT1}{t:DTA}{pos:Pos}
theorem DE.of(h:DF C X e t):DE C X e (dOf t):=peW h fun σ H Q ⟨S,env,P,h1,h2,h3⟩=>⟨S,env,_,h1,h2,h3.fresh h1.dom⟩
theorem zif{env:En}{i:Nat}{P:D→Prop}(h:zl2 i env P):∃ d,env[i]?=some (some (.sh d))∧P d:=by
  unfold zl2 at h
  split at h
  · exact⟨_,by assumption,h⟩
  · exact h.elim
theorem za{i:Nat}(h:PE X e (zfM i)):DE C X e (zl2 i):=peW h fun σ H Q ⟨S,env,P,h1,h2,h3⟩=>by
  obtain⟨d,e1,p⟩:=zif h2
  obtain⟨v,e2,r⟩:=h1.slot i _ e1
  exact⟨v,e2,h3.flat p r⟩
theorem kx{v:V}{d:D}(h:PE X e (tC v))(r:∀ H,Rep X.K C H d v):DE C X e (dC d):=peW h fun σ H Q ⟨S,env,P,h1,h2,h3⟩=>h3.flat h2 (r _)
theorem ze{i j}:DE C X (.Constant (.int i) j pos) (dC (.int i)):=kx zeH fun _=>qf
theorem xI{i j}:DE C X (.Constant (.bool i) j pos) (dC (.bl i)):=kx zmG fun _=>xN
theorem zb1{j}:DE C X (.Constant .none j pos) (dC .non):=kx zli fun _=>ze7
theorem zlU{r:V→Hp→VK→Prop}{rd:D→(D→Prop)→Prop}(L:zka X.K C r rd):∀ σ H Q,rE X.K C (d1 rd ta) σ H Q→tUn r (rE X.K C ta) σ H Q:=fun σ H Q ⟨S,env,P,h1,h2,h3⟩ =>
  ⟨S,env,fun x=>rd x P,h1,h2,fun d hd v H' e rv=>L H' S d v P Q (h1.dom.mono e) rv hd (h3.mono e)⟩
theorem zcK{r:R2}{rd:D→D→(D→Prop)→Prop}(L:xS X.K C r rd):∀ σ H Q,rE X.K C (d2 rd ta tb) σ H Q→tOp r (rE X.K C ta) (rE X.K C tb) σ H Q:=fun σ H Q ⟨S,env,P,h1,h2,h3⟩ =>
  ⟨S,env,_,h1,h2,fun d hd v H' e rv=>⟨S,env,_,h1.mono e,hd,fun d' hd' v' H'' e' rv'=>L H'' S d v d' v' P Q (h1.dom.mono (e.trans e')) (Rep.mono (zF e') _ _ rv) rv' hd' (h3.mono (e.trans e'))⟩⟩
theorem zjV{r:R2}{rd:D→D→(List D→Prop)→Prop}(L:zbT X.K C r rd):∀ σ H Q,rF X.K C (d2F rd ta tb) σ H Q→tOp r (rE X.K C ta) (rE X.K C tb) σ H Q:=fun σ H Q ⟨S,env,P,h1,h2,h3⟩ =>
  ⟨S,env,_,h1,h2,fun d hd v H' e rv=>⟨S,env,_,h1.mono e,hd,fun d' hd' v' H'' e' rv'=>L H'' S d v d' v' P Q (h1.dom.mono (e.trans e')) (Rep.mono (zF e') _ _ rv) rv' hd' (h3.mono (e.trans e'))⟩⟩
theorem zhR{r:List V→Hp→VK→Prop}{rd:List D→(D→Prop)→Prop}(L:yu X.K C r rd):∀ σ H Q,rE X.K C (wb rd t) σ H Q→tCB r (rA X.K C t) σ H Q:=fun σ H Q ⟨S,env,P,h1,h2,h3⟩ =>
  ⟨S,env,_,h1,h2,fun ds hd vs H' e rv=>L H' S ds vs P Q (h1.dom.mono e) rv hd (h3.mono e)⟩
theorem zjT{r:List V→Hp→VK→Prop}{rd:List D→(List D→Prop)→Prop}(L:zdv X.K C r rd):∀ σ H Q,rF X.K C (zam rd t) σ H Q→tCB r (rA X.K C t) σ H Q:=fun σ H Q ⟨S,env,P,h1,h2,h3⟩ =>
  ⟨S,env,_,h1,h2,fun ds hd vs H' e rv=>L H' S ds vs P Q (h1.dom.mono e) rv hd (h3.mono e)⟩
theorem zar{op:Operator}{r:R2}{rd:D→D→(D→Prop)→Prop}(ho:OpR X (binaryOp op) r)(L:xS X.K C r rd)(ha:DE C X a ta)(hb:DE C X b tb):DE C X (.BinOp a op b pos) (d2 rd ta tb):=peW (zll ho ha hb) (zcK L)
theorem zky{op:Operator}{r:R2}{rd:D→D→(List D→Prop)→Prop}(ho:OpR X (binaryOp op) r)(L:zbT X.K C r rd)(ha:DE C X a ta)(hb:DE C X b tb):DF C X (.BinOp a op b pos) (d2F rd ta tb):=peW (zll ho ha hb) (zjV L)
theorem zmf{op:UnaryOp}{r:V→Hp→VK→Prop}{rd:D→(D→Prop)→Prop}(ho:UnR X (unaryOp op) r)(L:zka X.K C r rd)(ha:DE C X a ta):DE C X (.UnaryOp op a pos) (d1 rd ta):=peW (zmI ho ha) (zlU L)
theorem je{op:CmpOp}{r:R2}{rd:D→D→(D→Prop)→Prop}(ho:OpR X (compareOp op) r)(L:xS X.K C r rd)(ha:DE C X a ta)(hb:DE C X b tb)(hm:behindInMarks op b=false):DE C X (.Compare a [op] [b] pos) (d2 rd ta tb):=peW (zi4 ho ha hb hm) (zcK L)
def zf2(t:DT1):DTT:=fun env Q=>t env fun x=>match x with
  | .bl b=>Q b
  | _=>False
theorem zjU{x:D}{P:Bool→Prop}(h:match x with | .bl b=>P b | _=>False):∃ b,x=.bl b∧P b:=by
  cases x <;> first | exact⟨_,rfl,h⟩ | exact h.elim
theorem zcL{tv:TE}(w:∀ σ H Q,rE X.K C te σ H Q→tv σ H Q):∀ σ H Q,rT X.K C (zf2 te) σ H Q→zlS tv σ H Q:=fun σ H Q ⟨S,env,P,h1,h2,h3⟩=>by
  refine w σ H _ ⟨S,env,_,h1,h2,fun d hd v H' e rv=>?_⟩
  obtain⟨b,rfl,p⟩:=zjU hd
  unfold Rep at rv
  exact⟨b,rv,h3 b p H' e⟩
theorem zP{op:CmpOp}{r:R2}{rd:D→D→(D→Prop)→Prop}(ho:OpR X (compareOp op) r)(L:xS X.K C r rd)(ha:DE C X a ta)(hb:DE C X b tb)(hm:behindInMarks op b=false):DB C X (.Compare a [op] [b] pos) (zf2 (d2 rd ta tb)) :=
  ptW (zji ho ha hb hm) (zcL (zcK L))
theorem zX(h:DE C X e te)(he:∀ whole,isTrue e X.env whole=(do let v ← whole;standAt e.pos;holding [v] (truthy v)):=by intro _;rfl):DB C X e (zf2 te):=ptW (zlu h he) (zcL fun _ _ _ z=>z)
end
end L2.DL
namespace L2.DL
open PySem PySem.Spec PyProof.Rows
open Builtin.Int (intBits)
section
variable {C:Addr}{X:Cx}{a b c e:Expr}{es rest:List Expr}{ta tb tc te:DT1}{t:DTA}{tt tu:DTT}{pos:Pos}
def zm6(t u:DTT):DTT:=fun env Q=>t env fun c=>if c=true then u env Q else Q false
def dOr(t u:DTT):DTT:=fun env Q=>t env fun c=>if c=true then Q true else u env Q
def zne(t:DTT):DTT:=fun env Q=>t env fun c=>Q (!c)
theorem DW.db(h:DW C X e tt):DB C X e tt:=PW.pt h
theorem kB(ha:DB C X a tt):DW C X (.BoolOp .And [a] pos) tt:=zjj ha
theorem jf(ha:DB C X a tt):DW C X (.BoolOp .Or [a] pos) tt:=zlw ha
theorem zat(ha:DB C X a tt)(hb:DW C X (.BoolOp .And (b::rest) pos) tu):DW C X (.BoolOp .And (a::b::rest) pos) (zm6 tt tu):=pwW (zlv ha hb) fun σ H Q ⟨S,env,P,h1,h2,h3⟩ =>
  ⟨S,env,_,h1,h2,fun d hd H' e=>by
    cases d with
    | true=>exact⟨S,env,P,h1.mono e,hd,fun b hb H'' e'=>h3 b hb H'' (e.trans e')⟩
    | false=>exact h3 false hd H' e⟩
theorem jq(ha:DB C X a tt)(hb:DW C X (.BoolOp .Or (b::rest) pos) tu):DW C X (.BoolOp .Or (a::b::rest) pos) (dOr tt tu):=pwW (zmK ha hb) fun σ H Q ⟨S,env,P,h1,h2,h3⟩ =>
  ⟨S,env,_,h1,h2,fun d hd H' e=>by
    cases d with
    | false=>exact⟨S,env,P,h1.mono e,hd,fun b hb H'' e'=>h3 b hb H'' (e.trans e')⟩
    | true=>exact h3 true hd H' e⟩
theorem qR(ha:DB C X a tt):DB C X (.UnaryOp .Not a pos) (zne tt):=ptW (zlt ha) fun σ H Q ⟨S,env,P,h1,h2,h3⟩=>⟨S,env,_,h1,h2,fun d hd H' e=>h3 _ hd H' e⟩
def zkf(ta tb:DT1):DT1:=fun env Q=>ta env fun x=>match x with
  | .bl true=>tb env Q
  | .bl false=>Q (.bl false)
  | _=>False
def znf(ta tb:DT1):DT1:=fun env Q=>ta env fun x=>match x with
  | .bl true=>Q (.bl true)
  | .bl false=>tb env Q
  | _=>False
def zkm(ta:DT1):DT1:=fun env Q=>ta env fun x=>match x with
  | .bl b=>Q (.bl (!b))
  | _=>False
theorem zaq{op}(h:DE C X a ta):DE C X (.BoolOp op [a] pos) ta:=zlk h
theorem zdR(ha:DE C X a ta)(hb:DE C X (.BoolOp .And (b::rest) pos) tb):DE C X (.BoolOp .And (a::b::rest) pos) (zkf ta tb):=peW (zlf ha hb) fun σ H Q ⟨S,env,P,h1,h2,h3⟩ =>
  ⟨S,env,_,h1,h2,fun d hd v H' e rv=>by
    cases d with
    | bl k =>
      unfold Rep at rv
      refine⟨k,rv,?_⟩
      cases k with
      | true=>exact⟨S,env,P,h1.mono e,hd,h3.mono e⟩
      | false=>exact h3 _ hd _ H' e xN
    | _=>exact hd.elim⟩
theorem zkv(ha:DE C X a ta)(hb:DE C X (.BoolOp .Or (b::rest) pos) tb):DE C X (.BoolOp .Or (a::b::rest) pos) (znf ta tb):=peW (zmH ha hb) fun σ H Q ⟨S,env,P,h1,h2,h3⟩ =>
  ⟨S,env,_,h1,h2,fun d hd v H' e rv=>by
    cases d with
    | bl k =>
      unfold Rep at rv
      refine⟨k,rv,?_⟩
      cases k with
      | false=>exact⟨S,env,P,h1.mono e,hd,h3.mono e⟩
      | true=>exact h3 _ hd _ H' e xN
    | _=>exact hd.elim⟩
theorem zku(ha:DE C X a ta):DE C X (.UnaryOp .Not a pos) (zkm ta):=peW (zlj ha) fun σ H Q ⟨S,env,P,h1,h2,h3⟩ =>
  ⟨S,env,_,h1,h2,fun d hd v H' e rv=>by
    cases d with
    | bl k =>
      unfold Rep at rv
      exact⟨k,rv,h3 _ hd _ H' e xN⟩
    | _=>exact hd.elim⟩
def dIf(t:DTT)(ta tb:DT1):DT1:=fun env Q=>t env fun c=>if c=true then ta env Q else tb env Q
theorem zme(hc:DB C X c tt)(ha:DE C X a ta)(hb:DE C X b tb):DE C X (.IfExp c a b pos) (dIf tt ta tb):=peW (zgD hc ha hb) fun σ H Q ⟨S,env,P,h1,h2,h3⟩ =>
  ⟨S,env,_,h1,h2,fun d hd H' e=>by
    cases d with
    | true=>exact⟨S,env,P,h1.mono e,hd,h3.mono e⟩
    | false=>exact⟨S,env,P,h1.mono e,hd,h3.mono e⟩⟩
theorem zd:DA C X [] zhm:=paW zhE fun σ H Q ⟨S,env,P,h1,h2,h3⟩=>h3 [] h2 [] H (Same.refl _) repA_nil
theorem zb(ha:DE C X e te)(hr:DA C X es t)(hs:starEach (e::es) X.env=(false,eval e X.env)::starEach es X.env:=by rfl):DA C X (e::es) (zh6 te t):=paW (zbx ha hr hs) fun σ H Q ⟨S,env,P,h1,h2,h3⟩ =>
  ⟨S,env,_,h1,h2,fun d hd v H' e rv=>⟨S,env,_,h1.mono e,hd,fun ds hds vs H'' e' rvs=>h3 _ hds _ H'' (e.trans e') (zQ (Rep.mono (zF e') _ _ rv) rvs)⟩⟩
def znk(t:DTA):DT1:=fun env Q=>t env fun xs=>xs.length≤sizeLine∧Q (.tup xs)
def zna(t:DTA):DTA:=fun env Q=>t env fun xs=>xs.length≤sizeLine∧Q xs
theorem qD{x1}(h:DA C X es t):DE C X (.Tuple es x1 pos) (znk t):=peW (zhG h) fun σ H Q ⟨S,env,P,h1,h2,h3⟩ =>
  ⟨S,env,_,h1,h2,fun ds hd vs H' e rv=>⟨by rw [← zD rv];exact hd.1,fun p hp=>(h3.mono e).new (h1.dom.mono e) hd.2 rv hp⟩⟩
theorem xY(h:DA C X es t):DF C X (.List es pos) (zna t):=peW (zlh h) fun σ H Q ⟨S,env,P,h1,h2,h3⟩ =>
  ⟨S,env,_,h1,h2,fun ds hd vs H' e rv=>⟨by rw [← zD rv];exact hd.1,fun p hp=>(h3.mono e).new hd.2 rv hp⟩⟩
def rdI(Cn:Int→Int→Prop)(g:Int→Int→D):D→D→(D→Prop)→Prop:=fun d e Q=>match d,e with
  | .int i,.int j=>Cn i j∧Q (g i j)
  | _,_=>False
def zgM(g:Int→Int→D):D→D→(D→Prop)→Prop:=fun d e Q=>match d,e with
  | .int i,.int j=>Q (g i j)
  | _,_=>False
theorem kM{Cn:Int→Int→Prop}{g:Int→Int→V}{gd:Int→Int→D}(hg:∀ H i j,Rep X.K C H (gd i j) (g i j)):xS X.K C (rI Cn g) (rdI Cn gd):=by
  intro H S d v e u P Q dm r1 r2 h k
  unfold rdI at h
  split at h
  · unfold Rep at r1 r2
    exact⟨_,_,r1,r2,h.1,k.flat h.2 (hg _ _ _)⟩
  · exact h.elim
theorem jH{g:Int→Int→V}{gd:Int→Int→D}(hg:∀ H i j,Rep X.K C H (gd i j) (g i j)):xS X.K C (rI0 g) (zgM gd):=by
  intro H S d v e u P Q dm r1 r2 h k
  unfold zgM at h
  split at h
  · unfold Rep at r1 r2
    exact⟨_,_,r1,r2,k.flat h (hg _ _ _)⟩
  · exact h.elim
abbrev zm5:=d2 (zgM fun i j=>.int (i+j))
abbrev znj:=d2 (zgM fun i j=>.int (i - j))
abbrev znc:=d2 (rdI zhU fun i j=>.int (i*j))
abbrev zkh:=d2 (rdI zj9 fun i j=>.int (i.fdiv j))
abbrev zm7:=d2 (rdI zmZ fun i j=>.int (i / j))
abbrev znb:=d2 (rdI (fun _ j=>0 < j) fun i j=>.int (i % j))
abbrev zng:=d2 (rdI zm0 fun i j=>.int (i ^ j.toNat))
theorem jd(ha:DE C X a ta)(hb:DE C X b tb):DE C X (.BinOp a .Add b pos) (zm5 ta tb):=zar zk8 (jH fun _ _ _=>qf) ha hb
theorem zdV(ha:DE C X a ta)(hb:DE C X b tb):DE C X (.BinOp a .Sub b pos) (znj ta tb):=zar zle (jH fun _ _ _=>qf) ha hb
theorem xg(ha:DE C X a ta)(hb:DE C X b tb):DE C X (.BinOp a .Mult b pos) (znc ta tb):=zar ziZ (kM fun _ _ _=>qf) ha hb
theorem wd(ha:DE C X a ta)(hb:DE C X b tb):DE C X (.BinOp a .FloorDiv b pos) (zkh ta tb):=zar zgv (kM fun _ _ _=>qf) ha hb
theorem vc(ha:DE C X a ta)(hb:DE C X b tb):DE C X (.BinOp a .FloorDiv b pos) (zm7 ta tb):=zar ziY (kM fun _ _ _=>qf) ha hb
theorem xk(ha:DE C X a ta)(hb:DE C X b tb):DE C X (.BinOp a .Mod b pos) (znb ta tb):=zar zlb (kM fun _ _ _=>qf) ha hb
theorem zkw(ha:DE C X a ta)(hb:DE C X b tb):DE C X (.BinOp a .Pow b pos) (zng ta tb):=zar zlc (kM fun _ _ _=>qf) ha hb
def rdU(g:Int→D):D→(D→Prop)→Prop:=fun d Q=>match d with
  | .int i=>Q (g i)
  | _=>False
theorem vd(ha:DE C X a ta):DE C X (.UnaryOp .USub a pos) (d1 (rdU fun i=>.int (-i)) ta):=zmf zlW (fun H S d v P Q dm r h k=>by
  unfold rdU at h
  split at h
  · unfold Rep at r
    exact⟨_,r,k.flat h qf⟩
  · exact h.elim) ha
theorem zdr:xS X.K C (rI0 fun i j=>.bl (decide (i < j))) (zgM fun i j=>.bl (decide (i < j))):=jH fun _ _ _=>xN
theorem znV:xS X.K C (rI0 fun i j=>.bl (decide (i≤j))) (zgM fun i j=>.bl (decide (i≤j))):=jH fun _ _ _=>xN
theorem zkP:xS X.K C (rI0 fun i j=>.bl (decide (j < i))) (zgM fun i j=>.bl (decide (j < i))):=jH fun _ _ _=>xN
theorem znT:xS X.K C (rI0 fun i j=>.bl (decide (j≤i))) (zgM fun i j=>.bl (decide (j≤i))):=jH fun _ _ _=>xN
theorem xi{K:PySem.W.Frag}{H:Hp}{b c:Bool}(h:c=b):Rep K C H (.bl b) (.bl c):=by subst h;exact xN
def zmM:D→D→(D→Prop)→Prop:=fun d e Q=>match d,e with
  | .int i,.int j=>Q (.bl (decide (i=j)))
  | .bl i,.bl j=>Q (.bl (decide (i=j)))
  | .str i,.str j=>Q (.bl (decide (i=j)))
  | _,_=>False
def zmO:D→D→(D→Prop)→Prop:=fun d e Q=>match d,e with
  | .int i,.int j=>Q (.bl (!decide (i=j)))
  | .bl i,.bl j=>Q (.bl (!decide (i=j)))
  | .str i,.str j=>Q (.bl (!decide (i=j)))
  | _,_=>False
theorem ziz:xS X.K C rEq zmM:=by
  intro H S d v e u P Q dm r1 r2 h k
  unfold zmM at h
  split at h
  · unfold Rep at r1 r2
    subst r1 r2
    exact⟨rfl,k.flat h (xi (by simp))⟩
  · unfold Rep at r1 r2
    subst r1 r2
    exact⟨rfl,k.flat h (xi (by simp))⟩
  · unfold Rep at r1 r2
    subst r1 r2
    exact⟨rfl,k.flat h (xi (by simp))⟩
  · exact h.elim
theorem zj6:xS X.K C rNe zmO:=by
  intro H S d v e u P Q dm r1 r2 h k
  unfold zmO at h
  split at h
  · unfold Rep at r1 r2
    subst r1 r2
    exact⟨rfl,k.flat h (xi (by simp))⟩
  · unfold Rep at r1 r2
    subst r1 r2
    exact⟨rfl,k.flat h (xi (by simp))⟩
  · unfold Rep at r1 r2
    subst r1 r2
    exact⟨rfl,k.flat h (xi (by simp))⟩
  · exact h.elim
def zin:D→Bool
  | .non=>true
  | _=>false
def zmN:D→D→(D→Prop)→Prop:=fun d e Q=>match e with
  | .non=>Q (.bl (zin d))
  | _=>False
def zbE:D→D→(D→Prop)→Prop:=fun d e Q=>match e with
  | .non=>Q (.bl (!zin d))
  | _=>False
theorem zhD{H:Hp}{d:D}{v:V}(r:Rep X.K C H d v):decide (v=.non)=zin d:=by
  cases d <;> unfold Rep at r <;> first
    | (subst r;rfl)
    | (obtain⟨_,_,r,_⟩:=r;subst r;rfl)
    | (obtain⟨_,r,_⟩:=r;subst r;rfl)
    | (obtain⟨_,_,_,_,r,_⟩:=r;subst r;rfl)
theorem znU:xS X.K C (fun x y H Q=>y=.non∧Q (.bl (decide (x=.non))) H) zmN:=by
  intro H S d v e u P Q dm r1 r2 h k
  unfold zmN at h
  split at h
  · unfold Rep at r2
    exact⟨r2,k.flat h (xi (zhD r1))⟩
  · exact h.elim
theorem ziA:xS X.K C (fun x y H Q=>y=.non∧Q (.bl (!decide (x=.non))) H) zbE:=by
  intro H S d v e u P Q dm r1 r2 h k
  unfold zbE at h
  split at h
  · unfold Rep at r2
    exact⟨r2,k.flat h (xi (by rw [zhD r1]))⟩
  · exact h.elim
mutual
def py:D→PyData
  | .non=>.none
  | .bl b=>.bool b
  | .int i=>.int i
  | .str x=>.str x
  | .tup l=>.tuple (pys l)
  | .lst l=>.list (pys l)
  | .scr _=>.none
  | .crs _ _=>.none
  | .ty _=>.none
  | .cls _=>.none
def pys:List D→List PyData
  | []=>[]
  | d::ds=>py d::pys ds
end
def ok:Nat→D→Bool
  | _,.non=>true
  | _,.bl _=>true
  | _,.int _=>true
  | _,.str x=>PyData.strOk x
  | n+1,.tup l=>l.all (ok n)
  | n+1,.lst l=>l.all (ok n)
  | _,_=>false
theorem zex{K:PySem.W.Frag}{H:Hp}{n:Nat}(ih:∀ d:D,ok n d=true→(∀ v,Rep K C H d v→RepD K H (py d) v)∧(py d).canLay0=true∧(py d).depth≤n) :
    ∀ l:List D,l.all (ok n)=true→(∀ xs,RepA K C H l xs→xc K H (pys l) xs)∧PyData.canLayAll0 (pys l)=true∧PyData.depthAll (pys l)≤n
  | [],_=>⟨fun xs h=>by unfold RepA at h;unfold pys xc;exact h,rfl,Nat.zero_le _⟩
  | d::l,h=>by
    rw [List.all_cons,Bool.and_eq_true] at h
    obtain⟨a1,a2,a3⟩:=ih d h.1
    obtain⟨b1,b2,b3⟩:=zex ih l h.2
    refine⟨fun xs z=>?_,?_,?_⟩
    · unfold RepA at z
      obtain⟨x,r,e,z1,z2⟩:=z
      unfold pys xc
      exact⟨x,r,e,a1 _ z1,b1 _ z2⟩
    · unfold pys PyData.canLayAll0
      rw [a2,b2]
      rfl
    · unfold pys PyData.depthAll
      omega
theorem zc7{K:PySem.W.Frag}{H:Hp}:∀ (n:Nat) (d:D),ok n d=true→(∀ v,Rep K C H d v→RepD K H (py d) v)∧(py d).canLay0=true∧(py d).depth≤n
  | n,.non,_=>⟨fun v h=>by unfold Rep at h;unfold py RepD;exact h,by unfold py PyData.canLay0;rfl,by unfold py PyData.depth;omega⟩
  | n,.bl _,_=>⟨fun v h=>by unfold Rep at h;unfold py RepD;exact h,by unfold py PyData.canLay0;rfl,by unfold py PyData.depth;omega⟩
  | n,.int _,_=>⟨fun v h=>by unfold Rep at h;unfold py RepD;exact h,by unfold py PyData.canLay0;rfl,by unfold py PyData.depth;omega⟩
  | n,.str x,h=>⟨fun v h=>by unfold Rep at h;unfold py RepD;exact h,by unfold py PyData.canLay0;unfold ok at h;exact h,by unfold py PyData.depth;omega⟩
  | 0,.tup l,h=>by unfold ok at h;cases h
  | 0,.lst l,h=>by unfold ok at h;cases h
  | 0,.scr l,h=>by unfold ok at h;cases h
  | 0,.crs _ _,h=>by unfold ok at h;cases h
  | 0,.ty _,h=>by unfold ok at h;cases h
  | 0,.cls _,h=>by unfold ok at h;cases h
  | n+1,.ty _,h=>by unfold ok at h;cases h
  | n+1,.cls _,h=>by unfold ok at h;cases h
  | n+1,.scr l,h=>by unfold ok at h;cases h
  | n+1,.crs _ _,h=>by unfold ok at h;cases h
  | n+1,.tup l,h=>by
    unfold ok at h
    obtain⟨b1,b2,b3⟩:=zex (zc7 n) l h
    refine⟨fun v z=>?_,by unfold py PyData.canLay0;exact b2,by unfold py PyData.depth;omega⟩
    unfold Rep at z
    obtain⟨a,xs,e,z1,z2⟩:=z
    unfold py RepD
    exact⟨a,xs,e,z1,b1 _ z2⟩
  | n+1,.lst l,h=>by
    unfold ok at h
    obtain⟨b1,b2,b3⟩:=zex (zc7 n) l h
    refine⟨fun v z=>?_,by unfold py PyData.canLay0;exact b2,by unfold py PyData.depth;omega⟩
    unfold Rep at z
    obtain⟨a,xs,e,z1,z2⟩:=z
    unfold py RepD
    exact⟨a,xs,e,SqL.of z1,b1 _ z2⟩
def eqD(d e:D):Bool:=PyData.eqv (py d) (py e)
def zlB:D→D→(D→Prop)→Prop:=fun d e Q=>ok 8 d=true∧ok 8 e=true∧Q (.bl (eqD d e))
def zlE:D→D→(D→Prop)→Prop:=fun d e Q=>ok 8 d=true∧ok 8 e=true∧Q (.bl (!eqD d e))
theorem zgj:xS X.K C (rEqD X.K) zlB:=by
  intro H S d v e u P Q dm r1 r2 ⟨o1,o2,h⟩ k
  obtain⟨a1,a2,a3⟩:=zc7 (C:=C) (K:=X.K) (H:=H) 8 d o1
  obtain⟨b1,b2,b3⟩:=zc7 (C:=C) (K:=X.K) (H:=H) 8 e o2
  exact⟨py d,py e,a1 _ (Rep.mono zh _ _ r1),b1 _ (Rep.mono zh _ _ r2),a2,b2,by omega,k.flat h xN⟩
theorem ziB:xS X.K C (znC X.K) zlE:=by
  intro H S d v e u P Q dm r1 r2 ⟨o1,o2,h⟩ k
  obtain⟨a1,a2,a3⟩:=zc7 (C:=C) (K:=X.K) (H:=H) 8 d o1
  obtain⟨b1,b2,b3⟩:=zc7 (C:=C) (K:=X.K) (H:=H) 8 e o2
  exact⟨py d,py e,a1 _ (Rep.mono zh _ _ r1),b1 _ (Rep.mono zh _ _ r2),a2,b2,by omega,k.flat h xN⟩
def allI:List D→Bool
  | []=>true
  | .int _::l=>allI l
  | _::_=>false
def zj5(i:Int):List D→Bool
  | []=>false
  | .int j::l=>(j == i) || zj5 i l
  | _::l=>zj5 i l
theorem v9:∀ ns:List Int,allI (ns.map D.int)=true
  | []=>rfl
  | n::ns=>by rw [List.map_cons];unfold allI;exact v9 ns
theorem xK(i:Int):∀ ns:List Int,zj5 i (ns.map D.int)=decide (i∈ns)
  | []=>rfl
  | n::ns=>by
    rw [List.map_cons]
    unfold zj5
    rw [xK i ns,Bool.eq_iff_iff]
    simp only [Bool.or_eq_true,beq_iff_eq,decide_eq_true_eq,List.mem_cons]
    exact⟨fun h=>h.imp Eq.symm id,fun h=>h.imp Eq.symm id⟩
theorem vb:∀ l:List D,allI l=true→∃ ns:List Int,l=ns.map D.int
  | [],_=>⟨[],rfl⟩
  | .int i::l,h=>by
    unfold allI at h
    obtain⟨ns,rfl⟩:=vb l h
    exact⟨i::ns,rfl⟩
  | .non::_,h=>by unfold allI at h;cases h
  | .bl _::_,h=>by unfold allI at h;cases h
  | .str _::_,h=>by unfold allI at h;cases h
  | .tup _::_,h=>by unfold allI at h;cases h
  | .lst _::_,h=>by unfold allI at h;cases h
  | .scr _::_,h=>by unfold allI at h;cases h
  | .crs _ _::_,h=>by unfold allI at h;cases h
  | .ty _::_,h=>by unfold allI at h;cases h
  | .cls _::_,h=>by unfold allI at h;cases h
def zfL(f:Bool→Bool):D→D→(D→Prop)→Prop:=fun d e Q=>match d,e with
  | .int i,.tup l=>allI l=true∧Q (.bl (f (zj5 i l)))
  | .int i,.lst l=>allI l=true∧Q (.bl (f (zj5 i l)))
  | _,_=>False
theorem js:∀ ns:List Int,(ns.map V.int).all wk=true
  | []=>rfl
  | n::ns=>by rw [List.map_cons,List.all_cons,js ns];rfl
theorem vj(i:Int):∀ ns:List Int,inV (.int i) (ns.map V.int)=decide (i∈ns)
  | []=>rfl
  | n::ns=>by
    have e:inV (.int i) ((n::ns).map V.int)=((n == i) || inV (.int i) (ns.map V.int)):=rfl
    rw [e,vj i ns,Bool.eq_iff_iff]
    simp only [Bool.or_eq_true,beq_iff_eq,decide_eq_true_eq,List.mem_cons]
    exact⟨fun h=>h.imp Eq.symm id,fun h=>h.imp Eq.symm id⟩
theorem zl3:xS X.K C (rIn X.K false) (zfL id):=by
  intro H S d v e u P Q dm r1 r2 h k
  unfold zfL at h
  split at h
  · unfold Rep at r1 r2
    obtain⟨a,xs,rfl,h2,h3⟩:=r2
    obtain⟨ns,rfl⟩:=vb _ h.1
    rw [xh h3] at h2
    subst r1
    refine⟨a,_,rfl,.inr (zh.seqT h2),rfl,js ns,k.flat h.2 (xi ?_)⟩
    rw [vj,xK]
    rfl
  · unfold Rep at r1 r2
    obtain⟨a,xs,rfl,h2,h3⟩:=r2
    obtain⟨ns,rfl⟩:=vb _ h.1
    rw [xh h3] at h2
    subst r1
    refine⟨a,_,rfl,.inl (SqL.of (zh _ _ h2)),rfl,js ns,k.flat h.2 (xi ?_)⟩
    rw [vj,xK]
    rfl
  · exact h.elim
theorem ziC:xS X.K C (rIn X.K true) (zfL not):=by
  intro H S d v e u P Q dm r1 r2 h k
  unfold zfL at h
  split at h
  · unfold Rep at r1 r2
    obtain⟨a,xs,rfl,h2,h3⟩:=r2
    obtain⟨ns,rfl⟩:=vb _ h.1
    rw [xh h3] at h2
    subst r1
    refine⟨a,_,rfl,.inr (zh.seqT h2),rfl,js ns,k.flat h.2 (xi ?_)⟩
    rw [vj,xK]
    rfl
  · unfold Rep at r1 r2
    obtain⟨a,xs,rfl,h2,h3⟩:=r2
    obtain⟨ns,rfl⟩:=vb _ h.1
    rw [xh h3] at h2
    subst r1
    refine⟨a,_,rfl,.inl (SqL.of (zh _ _ h2)),rfl,js ns,k.flat h.2 (xi ?_)⟩
    rw [vj,xK]
    rfl
  · exact h.elim
def rdIx:D→D→(D→Prop)→Prop:=fun d e Q=>match d,e with
  | .tup l,.int i=>match atI l i with
    | some x=>Q x
    | none=>False
  | .lst l,.int i=>match atI l i with
    | some x=>Q x
    | none=>False
  | .scr l,.int i=>match atI l i with
    | some x=>Q (.int x)
    | none=>False
  | _,_=>False
theorem zdA{K:PySem.W.Frag}{H:Hp}{l:List D}{xs:List V}{i:Int}{x:D}(h:RepA K C H l xs)(e:atI l i=some x):∃ v,atI xs i=some v∧Rep K C H x v:=by
  unfold atI at e ⊢
  rw [← zD h]
  cases q:ixN l.length i with
  | none=>rw [q] at e;cases e
  | some j =>
    rw [q] at e
    exact zcy h e
theorem zmu:xS X.K C (rIx X.K) rdIx:=by
  intro H S d v e u P Q dm r1 r2 h k
  unfold rdIx at h
  split at h
  · split at h
    · next l j _ x e =>
      unfold Rep at r1 r2
      obtain⟨a,xs,rfl,h2,h3⟩:=r1
      obtain⟨v,e1,r⟩:=zdA h3 e
      exact .inr (.inl ⟨a,xs,_,v,rfl,r2,zh.seqT h2,e1,k.flat h r⟩)
    · exact h.elim
  · split at h
    · next l j _ x e =>
      unfold Rep at r1 r2
      obtain⟨a,xs,rfl,h2,h3⟩:=r1
      obtain⟨v,e1,r⟩:=zdA h3 e
      exact .inl ⟨a,xs,_,v,rfl,r2,SqL.of (zh _ _ h2),e1,k.flat h r⟩
    · exact h.elim
  · split at h
    · next l j _ x e =>
      unfold Rep at r1 r2
      obtain⟨a,rfl,h2⟩:=r1
      refine .inl ⟨a,_,_,.int x,rfl,r2,zh.seq h2,?_,k.flat h qf⟩
      unfold atI at e ⊢
      rw [List.length_map]
      cases q:ixN l.length j with
      | none=>rw [q] at e;cases e
      | some m =>
        rw [q] at e
        have e':l[m]?=some x:=e
        show (l.map V.int)[m]?=some (V.int x)
        rw [List.getElem?_map,e']
        rfl
    · exact h.elim
  · exact h.elim
theorem zp(ha:DE C X a ta)(hb:DE C X b tb)(hs:zdw b):DE C X (.Subscript a b pos) (d2 rdIx ta tb):=peW (zi8 zkH ha hb hs) (zcK zmu)
def DO(C:Addr)(X:Cx)(e:Option Expr)(t:En→(Option Int→Prop)→Prop):Prop :=
  PO X e fun σ H Q=>∃ S env P,EOk X.K C H S σ env∧t env P∧∀ i,P i→∀ H',Same H H'→Q i H'
def zdO:En→(Option Int→Prop)→Prop:=fun _ Q=>Q none
def zkn(t:DT1):En→(Option Int→Prop)→Prop:=fun env Q=>t env fun x=>match x with
  | .int i=>Q (some i)
  | _=>False
theorem poW{e:Option Expr}{t t':TO}(h:PO X e t)(w:∀ σ H Q,t' σ H Q→t σ H Q):PO X e t':=fun pins s σ H Q I q=>h pins s σ H Q I (w σ H Q q)
theorem we:DO C X none zdO:=poW zjf fun σ H Q ⟨S,env,P,h1,h2,h3⟩=>h3 _ h2 H (Same.refl _)
theorem vB(h:DE C X e te):DO C X (some e) (zkn te):=poW (zjg h) fun σ H Q ⟨S,env,P,h1,h2,h3⟩=>⟨S,env,_,h1,h2,fun d hd v H' e rv=>by
  cases d with
  | int i=>unfold Rep at rv;exact⟨i,rv,h3 _ hd H' e⟩
  | _=>exact hd.elim⟩
def cut{α:Type}(xs:List α)(lo hi:Option Int):List α:=(xs.drop (HT.sIx xs.length 0 lo)).take (HT.sIx xs.length xs.length hi - HT.sIx xs.length 0 lo)
def dSl(te:DT1)(tl th:En→(Option Int→Prop)→Prop):DTA:=fun env Q=>te env fun x=>tl env fun l=>th env fun u=>match x with
  | .lst xs=>Q (cut xs l u)
  | _=>False
theorem ve{lo hi:Option Expr}{tl th:En→(Option Int→Prop)→Prop}{p2:Pos}(he:DE C X e te)(hl:DO C X lo tl)(hu:DO C X hi th):DF C X (.Subscript e (.Slice lo hi none p2) pos) (dSl te tl th) :=
  peW (zgE zjJ he hl hu) fun σ H Q ⟨S,env,P,h1,h2,h3⟩=>⟨S,env,_,h1,h2,fun d hd v H' e rv=>⟨S,env,_,h1.mono e,hd,fun l hl H2 e2=>⟨S,env,_,h1.mono (e.trans e2),hl,fun u hu H3 e3=>by
    cases d with
    | lst xs =>
      unfold Rep at rv
      obtain⟨a,vs,rfl,r1,r2⟩:=rv
      refine⟨a,vs,rfl,SqL.of (e3 _ _ (e2 _ _ (zh _ _ r1))),fun p hp=>?_⟩
      refine (h3.mono (e.trans (e2.trans e3))).new hu ?_ hp
      have rr:=qH.mp (RepA.mono (zF (e2.trans e3)) _ _ r2)
      unfold cut zke
      rw [← x4 rr]
      exact qH.mpr (kW _ (kT _ rr))
    | _=>exact hu.elim⟩⟩⟩
def zeY:D→D→(List D→Prop)→Prop:=fun d e Q=>match d,e with
  | .lst l,.lst m=>l.length+m.length≤sizeLine∧Q (l++m)
  | _,_=>False
theorem zmt:zbT X.K C znz zeY:=by
  intro H S d v e u P Q dm r1 r2 h k
  unfold zeY at h
  split at h
  · unfold Rep at r1 r2
    obtain⟨a,xs,rfl,h2,h3⟩:=r1
    obtain⟨b,ys,rfl,h4,h5⟩:=r2
    refine⟨a,b,xs,ys,rfl,rfl,zh _ _ h2,zh _ _ h4,?_,fun p hp=>k.new h.2 (jJ h3 h5) hp⟩
    rw [← zD h3,← zD h5]
    exact h.1
  · exact h.elim
def zjv:D→D→(List D→Prop)→Prop:=fun d e Q=>match d,e with
  | .lst l,.int k=>-(2 ^ 63)≤k∧k < 2 ^ 63∧l.length*k.toNat≤sizeLine∧Q (List.replicate k.toNat l).flatten
  | _,_=>False
theorem zmx:zbT X.K C znD zjv:=by
  intro H S d v e u P Q dm r1 r2 h k
  unfold zjv at h
  split at h
  · unfold Rep at r1 r2
    obtain⟨a,xs,rfl,h2,h3⟩:=r1
    subst r2
    refine⟨a,_,xs,rfl,rfl,zh _ _ h2,h.1,h.2.1,?_,fun p hp=>k.new h.2.2.2 ?_ hp⟩
    · rw [← zD h3]
      exact h.2.2.1
    · generalize Int.toNat _=n
      induction n with
      | zero=>exact repA_nil
      | succ n ih=>rw [List.replicate_succ,List.replicate_succ,List.flatten_cons,List.flatten_cons];exact jJ h3 ih
  · exact h.elim
theorem kz(ha:DE C X a ta)(hb:DE C X b tb):DF C X (.BinOp a .Add b pos) (d2F zeY ta tb):=zky zk9 zmt ha hb
theorem zhr(ha:DE C X a ta)(hb:DE C X b tb):DF C X (.BinOp a .Mult b pos) (d2F zjv ta tb):=zky zld zmx ha hb
def zdd:List D→(D→Prop)→Prop:=fun xs Q=>match xs with
  | [.tup l]=>Q (.int l.length)
  | [.lst l]=>Q (.int l.length)
  | [.scr l]=>Q (.int l.length)
  | _=>False
theorem jO:yu X.K C (fun xs H Q=>∃ p ys,xs=[.ref p]∧(SqL X.K H p ys∨SqT X.K H p ys)∧Q (.int ys.length) H) zdd:=by
  intro H S ds vs P Q dm r h k
  unfold zdd at h
  split at h
  all_goals first
    | (unfold RepA at r
       obtain⟨x,y,rfl,r1,r2⟩:=r
       unfold RepA at r2
       subst r2
       unfold Rep at r1)
    | exact h.elim
  · obtain⟨a,xs,rfl,h2,h3⟩:=r1
    exact⟨a,xs,rfl,.inr (zh.seqT h2),by rw [← zD h3];exact k.flat h qf⟩
  · obtain⟨a,xs,rfl,h2,h3⟩:=r1
    exact⟨a,xs,rfl,.inl (SqL.of (zh _ _ h2)),by rw [← zD h3];exact k.flat h qf⟩
  · obtain⟨a,rfl,h2⟩:=r1
    exact⟨a,_,rfl,.inl (zh.seq h2),by rw [List.length_map];exact k.flat h qf⟩
theorem qS{K:PySem.W.Frag}{H:Hp}{d:D}{vs:List V}(r:RepA K C H [d] vs):∃ v,vs=[v]∧Rep K C H d v:=by
  unfold RepA at r
  obtain⟨x,y,rfl,r1,r2⟩:=r
  unfold RepA at r2
  subst r2
  exact⟨x,rfl,r1⟩
theorem jb{K:PySem.W.Frag}{H:Hp}{d e:D}{vs:List V}(r:RepA K C H [d,e] vs):∃ v u,vs=[v,u]∧Rep K C H d v∧Rep K C H e u:=by
  unfold RepA at r
  obtain⟨x,y,rfl,r1,r2⟩:=r
  obtain⟨u,rfl,r3⟩:=qS r2
  exact⟨x,u,rfl,r1,r3⟩
def zjl:List D→(D→Prop)→Prop:=fun xs Q=>match xs with
  | [.int i]=>Q (.int i.natAbs)
  | _=>False
theorem ziy:yu X.K C (fun xs H Q=>∃ i,xs=[.int i]∧Q (.int (if i < 0 then -i else i)) H) zjl:=by
  intro H S ds vs P Q dm r h k
  unfold zjl at h
  split at h
  · obtain⟨v,rfl,r1⟩:=qS r
    unfold Rep at r1
    subst r1
    refine⟨_,rfl,?_⟩
    have e:∀ i:Int,(if i < 0 then -i else i)=(i.natAbs:Int):=fun i=>by split <;> omega
    rw [e]
    exact k.flat h qf
  · exact h.elim
def zjp:List D→(D→Prop)→Prop:=fun xs Q=>match xs with
  | [.int i,.int j]=>Q (.int (if j < i then j else i))
  | _=>False
def zjo:List D→(D→Prop)→Prop:=fun xs Q=>match xs with
  | [.int i,.int j]=>Q (.int (if j > i then j else i))
  | _=>False
theorem zmw:yu X.K C (fun xs H Q=>∃ i j,xs=[.int i,.int j]∧Q (.int (if j < i then j else i)) H) zjp:=by
  intro H S ds vs P Q dm r h k
  unfold zjp at h
  split at h
  · obtain⟨v,u,rfl,r1,r2⟩:=jb r
    unfold Rep at r1 r2
    subst r1 r2
    exact⟨_,_,rfl,k.flat h qf⟩
  · exact h.elim
theorem zmv:yu X.K C (fun xs H Q=>∃ i j,xs=[.int i,.int j]∧Q (.int (if j > i then j else i)) H) zjo:=by
  intro H S ds vs P Q dm r h k
  unfold zjo at h
  split at h
  · obtain⟨v,u,rfl,r1,r2⟩:=jb r
    unfold Rep at r1 r2
    subst r1 r2
    exact⟨_,_,rfl,k.flat h qf⟩
  · exact h.elim
def zeX:List D→(List D→Prop)→Prop:=fun xs Q=>match xs with
  | [.tup l]=>Q l
  | [.lst l]=>Q l
  | _=>False
theorem zej:zdv X.K C (fun xs H Q=>∃ p ys,xs=[.ref p]∧(SqL X.K H p ys∨SqT X.K H p ys)∧∀ l,H l=none→Q (.ref l) (upd H l (.lst ys))) zeX:=by
  intro H S ds vs P Q dm r h k
  unfold zeX at h
  split at h
  all_goals first
    | exact h.elim
    | (obtain⟨v,rfl,r1⟩:=qS r
       unfold Rep at r1
       obtain⟨a,xs,rfl,h2,h3⟩:=r1)
  · exact⟨a,xs,rfl,.inr (zh.seqT h2),fun l hl=>k.new h h3 hl⟩
  · exact⟨a,xs,rfl,.inl (SqL.of (zh _ _ h2)),fun l hl=>k.new h h3 hl⟩
def zbD:List D→(D→Prop)→Prop:=fun xs Q=>match xs with
  | [.tup l]=>Q (.tup l)
  | [.lst l]=>Q (.tup l)
  | _=>False
theorem ziD:yu X.K C (fun xs H Q=>∃ p ys,xs=[.ref p]∧((SqL X.K H p ys∧∀ l,H l=none→Q (.ref l) (upd H l (.tup ys)))∨(SqT X.K H p ys∧Q (.ref p) H))) zbD:=by
  intro H S ds vs P Q dm r h k
  unfold zbD at h
  split at h
  all_goals first
    | exact h.elim
    | (obtain⟨v,rfl,r1⟩:=qS r
       have r0:=r1
       unfold Rep at r1
       obtain⟨a,xs,rfl,h2,h3⟩:=r1)
  · exact⟨a,xs,rfl,.inr ⟨zh.seqT h2,k.flat h r0⟩⟩
  · exact⟨a,xs,rfl,.inl ⟨SqL.of (zh _ _ h2),fun l hl=>k.new dm h h3 hl⟩⟩
theorem zv {x:Str} {id:String} {p:Pos} {r:List V→Hp→VK→Prop} {rd:List D→(D→Prop)→Prop} (hc:va X (.builtin id) r) (L:yu X.K C r rd) (hg:Gl X x) (hm:X.mg x=none) (hv:bootBuiltins x=some (.builtin id)) (ha:DA C X (e::es) t) (hn:x ≠ "__name__" := by decide) (hdb:(x == ("__debug__" : Str))=false:=by decide)
    (he:starEach (e::es) X.env=(false,eval e X.env)::starEach es X.env:=by rfl) (hpl:(backTo pos (starEach es X.env)).any (·.1)=false:=by rfl):DE C X (.Call (.Name x p) (e::es) [] pos) (wb rd t) :=
  peW (zgB hc hg hm hv ha hn hdb he hpl) (zhR L)
theorem zdS {x:Str} {T:String} {p:Pos} {r:List V→Hp→VK→Prop} {rd:List D→(D→Prop)→Prop} (hc:va X (.type T) r) (L:yu X.K C r rd) (hg:Gl X x) (hm:X.mg x=none) (hv:bootBuiltins x=some (.type T)) (ha:DA C X (e::es) t) (hn:x ≠ "__name__" := by decide) (hdb:(x == ("__debug__" : Str))=false:=by decide)
    (he:starEach (e::es) X.env=(false,eval e X.env)::starEach es X.env:=by rfl) (hpl:(backTo pos (starEach es X.env)).any (·.1)=false:=by rfl):DE C X (.Call (.Name x p) (e::es) [] pos) (wb rd t) :=
  peW (zaR hc hg hm hv ha hn hdb he hpl) (zhR L)
theorem ky {x:Str} {T:String} {p:Pos} {r:List V→Hp→VK→Prop} {rd:List D→(List D→Prop)→Prop} (hc:va X (.type T) r) (L:zdv X.K C r rd) (hg:Gl X x) (hm:X.mg x=none) (hv:bootBuiltins x=some (.type T)) (ha:DA C X (e::es) t) (hn:x ≠ "__name__" := by decide) (hdb:(x == ("__debug__" : Str))=false:=by decide)
    (he:starEach (e::es) X.env=(false,eval e X.env)::starEach es X.env:=by rfl) (hpl:(backTo pos (starEach es X.env)).any (·.1)=false:=by rfl):DF C X (.Call (.Name x p) (e::es) [] pos) (zam rd t) :=
  peW (zaR hc hg hm hv ha hn hdb he hpl) (zjT L)
def spD(K:PySem.W.Frag)(C:Addr)(T:List D→(D→Prop)→Prop):Sp:=fun vs H Q _=>∃ S ds P,Dom H S∧RepA K C (less H S) ds vs∧T ds P∧KD K C H S P Q
def spF(K:PySem.W.Frag)(C:Addr)(T:List D→(List D→Prop)→Prop):Sp:=fun vs H Q _=>∃ S ds P,Dom H S∧RepA K C (less H S) ds vs∧T ds P∧KF K C H S P Q
theorem zhc{T:List D→(D→Prop)→Prop}:∀ σ H Q,rE X.K C (wb T t) σ H Q→tCall (spD X.K C T) [] E0 (rA X.K C t) σ H Q:=fun σ H Q ⟨S,env,P,h1,h2,h3⟩ =>
  ⟨S,env,_,h1,h2,fun ds hd vs H' e rv=>⟨S,ds,P,h1.dom.mono e,by rw [List.append_nil];exact rv,hd,h3.mono e⟩⟩
theorem zfz{T:List D→(List D→Prop)→Prop}:∀ σ H Q,rF X.K C (zam T t) σ H Q→tCall (spF X.K C T) [] E0 (rA X.K C t) σ H Q:=fun σ H Q ⟨S,env,P,h1,h2,h3⟩ =>
  ⟨S,env,_,h1,h2,fun ds hd vs H' e rv=>⟨S,ds,P,h1.dom.mono e,by rw [List.append_nil];exact rv,hd,h3.mono e⟩⟩
theorem zE{x:Str}{ps:List Str}{k k':Nat}{p:Pos}{T:List D→(D→Prop)→Prop}(Df:Dn X.prog X.w X.K X.mg X.base x ps k (spD X.K C T))(hr:ji k' X.A)(hg:Gl X x)(ha:DA C X (e::es) t)(hk:k≤k':=by decide)
    (hdb:(x == ("__debug__" : Str))=false:=by decide) (he:starEach (e::es) X.env=(false,eval e X.env)::starEach es X.env:=by rfl) (hpl:(backTo pos (starEach es X.env)).any (·.1)=false:=by rfl) :
    DE C X (.Call (.Name x p) (e::es) [] pos) (wb T t):=peW (zi6 Df hr hg ha hk hdb he hpl) zhc
theorem zkx{x:Str}{ps:List Str}{k k':Nat}{p:Pos}{T:List D→(List D→Prop)→Prop}(Df:Dn X.prog X.w X.K X.mg X.base x ps k (spF X.K C T))(hr:ji k' X.A)(hg:Gl X x)(ha:DA C X (e::es) t)(hk:k≤k':=by decide)
    (hdb:(x == ("__debug__" : Str))=false:=by decide) (he:starEach (e::es) X.env=(false,eval e X.env)::starEach es X.env:=by rfl) (hpl:(backTo pos (starEach es X.env)).any (·.1)=false:=by rfl) :
    DF C X (.Call (.Name x p) (e::es) [] pos) (zam T t):=peW (zi6 Df hr hg ha hk hdb he hpl) zfz
end
end L2.DL
namespace L2.DL
open PySem PySem.Spec PyProof.Rows
structure zhV where
  nx:En→Prop
  rt:D→Prop
  bk:En→Prop:=fun _=>False
  ct:En→Prop:=fun _=>False
  rf:List D→Prop:=fun _=>False
abbrev DTS:=zhV→En→Prop
structure SOk(K:PySem.W.Frag)(C:Addr)(H0:Hp)(S0:Addr→Prop)(H:Hp)(S:Addr→Prop)(σ:L2.St)(env:En):Prop where
  e:EOk K C H S σ env
  same:Same H0 H
  sub:∀ p,S0 p→S p
  hid:∀ p,S p→S0 p∨H0 p=none
  own:∀ (i:Nat) (p:Addr) (ds:List D),env[i]?=some (some (.ow p ds))→H0 p=none
  dom0:Dom H0 S0
structure zbS(K:PySem.W.Frag)(C:Addr)(H0:Hp)(S0:Addr→Prop)(DD:zhV)(D0:Ends):Prop where
  nx:∀ env S σ H,DD.nx env→SOk K C H0 S0 H S σ env→D0.nx σ H
  rt:∀ d v H,DD.rt d→Same H0 H→Rep K C (less H S0) d v→D0.rt v H
  bk:∀ env S σ H,DD.bk env→SOk K C H0 S0 H S σ env→D0.bk σ H
  ct:∀ env S σ H,DD.ct env→SOk K C H0 S0 H S σ env→D0.ct σ H
  rf:∀ ds p xs H,DD.rf ds→Same H0 H→H0 p=none→H p=some (.lst xs)→RepA K C (less H (wi S0 p)) ds xs→D0.rt (.ref p) H
def rS(K:PySem.W.Frag)(C:Addr)(t:DTS):TS:=fun D0 σ H=>∃ H0 S0 S env DD,SOk K C H0 S0 H S σ env∧t DD env∧zbS K C H0 S0 DD D0
def DS(C:Addr)(X:Cx)(st:Stmt)(t:DTS):Prop:=PS X st (rS X.K C t)
def DSs(C:Addr)(X:Cx)(st:List Stmt)(t:DTS):Prop:=PSs X st (rS X.K C t)
theorem psW{X:Cx}{st:Stmt}{t t':TS}(h:PS X st t)(w:∀ D0 σ H,t' D0 σ H→t D0 σ H):PS X st t':=fun pins s σ H D0 I q=>h pins s σ H D0 I (w D0 σ H q)
theorem zjh{X:Cx}{st:List Stmt}{t t':TS}(h:PSs X st t)(w:∀ D0 σ H,t' D0 σ H→t D0 σ H):PSs X st t':=fun pins s σ H D0 I q=>h pins s σ H D0 I (w D0 σ H q)
section
variable {K:PySem.W.Frag}{C:Addr}{H0 H H':Hp}{S0 S:Addr→Prop}{σ:L2.St}{env:En}
theorem SOk.mono(h:SOk K C H0 S0 H S σ env)(e:Same H H'):SOk K C H0 S0 H' S σ env:=⟨h.e.mono e,h.same.trans e,h.sub,h.hid,h.own,h.dom0⟩
theorem SOk.prot(h:SOk K C H0 S0 H S σ env):Same (less H0 S0) (less H S):=fun a u z=>by
  obtain⟨h1,h2⟩:=zK.mp z
  exact zK.mpr ⟨fun q=>(h.hid a q).elim h1 fun w=>(by rw [h2] at w;cases w),h.same _ _ h2⟩
theorem qK{env:En}{i j:Nat}{o:Option SV}{sv:SV}(z:(env.set i o)[j]?=some (some sv)):(i=j∧o=some sv∧i < env.length)∨(i≠j∧env[j]?=some (some sv)):=by
  by_cases q:i=j
  · subst q
    rw [List.getElem?_set,if_pos rfl] at z
    split at z
    · exact .inl ⟨rfl,Option.some.inj z,by assumption⟩
    · cases z
  · rw [List.getElem?_set_ne q] at z
    exact .inr ⟨q,z⟩
theorem SOk.set(h:SOk K C H0 S0 H S σ env){d:D}{v:V}(r:Rep K C (less H S) d v)(i:Nat):SOk K C H0 S0 H S (σ.set i (some v)) (env.set i (some (.sh d))):=by
  refine⟨⟨by rw [List.length_set,List.length_set];exact h.e.len,fun j sv z=>?_,fun j k p ds es h1 h2=>?_,h.e.dom⟩,h.same,h.sub,h.hid,fun j p ds h1=>?_,h.dom0⟩
  · rcases qK z with ⟨rfl,e,hi⟩ | ⟨q,z⟩
    · cases e
      exact⟨v,by rw [List.getElem?_set,if_pos rfl,if_pos (by rw [h.e.len];exact hi)],r⟩
    · rw [List.getElem?_set_ne q]
      exact h.e.slot j sv z
  · rcases qK h1 with ⟨_,e,_⟩ | ⟨_,z1⟩
    · cases e
    · rcases qK h2 with ⟨_,e,_⟩ | ⟨_,z2⟩
      · cases e
      · exact h.e.inj j k p ds es z1 z2
  · rcases qK h1 with ⟨_,e,_⟩ | ⟨_,z1⟩
    · cases e
    · exact h.own j p ds z1
theorem zlY.wi{p:Addr}{sv:SV}{v:V}(r:zlY K C H S sv v)(e:Same H H')(hp:H p=none):zlY K C H' (wi S p) sv v:=by
  cases sv with
  | sh d=>exact Rep.mono (zbG e hp) _ _ r
  | ow q ds =>
    obtain⟨h1,h2,xs,h3,h4⟩:=r
    exact⟨h1,.inl h2,xs,e _ _ h3,RepA.mono (zbG e hp) _ _ h4⟩
theorem EOk.held(h:EOk K C H S σ env){i:Nat}{p:Addr}{ds:List D}(z:env[i]?=some (some (.ow p ds))):σ[i]?=some (some (.ref p))∧S p∧∃ xs,H p=some (.lst xs)∧RepA K C (less H S) ds xs:=by
  obtain⟨v,e,rfl,h1,h2⟩:=h.slot i _ z
  exact⟨e,h1,h2⟩
theorem SOk.setO(h:SOk K C H0 S0 H S σ env){ds:List D}{p:Addr}{xs:List V}(e:Same H H')(hp:H p=none)(hl:H' p=some (.lst xs))(r:RepA K C (less H' (DL.wi S p)) ds xs)(i:Nat) :
    SOk K C H0 S0 H' (DL.wi S p) (σ.set i (some (.ref p))) (env.set i (some (.ow p ds))):=by
  have hp0:H0 p=none:=Same.none h.same hp
  have ne:∀ {j:Nat} {q:Addr} {es:List D},env[j]?=some (some (.ow q es))→q≠p:=fun {j q es} z1 z3=>by
    obtain⟨_,_,ys,g,_⟩:=h.e.held z1
    rw [z3,hp] at g
    cases g
  refine⟨⟨by rw [List.length_set,List.length_set];exact h.e.len,fun j sv z=>?_,fun j k q ds' es h1 h2=>?_,fun q hq=>?_⟩,h.same.trans e,fun q hq=>.inl (h.sub q hq),fun q hq=>?_,fun j q ds' h1=>?_,h.dom0⟩
  · rcases qK z with ⟨rfl,e1,hi⟩ | ⟨q,z⟩
    · cases e1
      exact⟨.ref p,by rw [List.getElem?_set,if_pos rfl,if_pos (by rw [h.e.len];exact hi)],rfl,.inr rfl,xs,hl,r⟩
    · rw [List.getElem?_set_ne q]
      obtain⟨v,e1,r1⟩:=h.e.slot j sv z
      exact⟨v,e1,r1.wi e hp⟩
  · rcases qK h1 with ⟨q1,e1,_⟩ | ⟨_,z1⟩ <;> rcases qK h2 with ⟨q2,e2,_⟩ | ⟨_,z2⟩
    · exact q1.symm.trans q2
    · cases e1
      exact absurd rfl (ne z2)
    · cases e2
      exact absurd rfl (ne z1)
    · exact h.e.inj j k q _ _ z1 z2
  · rcases hq with hq | rfl
    · exact h.e.dom.mono e q hq
    · rw [hl];exact Option.some_ne_none _
  · rcases hq with hq | rfl
    · exact h.hid q hq
    · exact .inr hp0
  · rcases qK h1 with ⟨_,e1,_⟩ | ⟨_,z⟩
    · cases e1
      exact hp0
    · exact h.own j q ds' z
theorem SOk.write(h:SOk K C H0 S0 H S σ env){i:Nat}{p:Addr}{ds es:List D}(z:env[i]?=some (some (.ow p ds))):∃ xs,σ[i]?=some (some (.ref p))∧H p=some (.lst xs)∧RepA K C (less H S) ds xs ∧
    ∀ ys,RepA K C (less H S) es ys→SOk K C H0 S0 (upd H p (.lst ys)) S σ (env.set i (some (.ow p es))):=by
  obtain⟨e1,r1,xs,r2,r3⟩:=h.e.held z
  refine⟨xs,e1,r2,r3,fun ys ry=>?_⟩
  have hl:=zcf (H:=H) (o:=.lst ys) r1
  have hp0:=h.own i p ds z
  have owe:∀ {j:Nat} {q:Addr} {es':List D},(env.set i (some (.ow p es)))[j]?=some (some (.ow q es'))→∃ ds',env[j]?=some (some (.ow q ds')):=fun {j q es'} z'=>by
    rcases qK z' with ⟨rfl,e,_⟩ | ⟨_,z'⟩
    · cases e
      exact⟨_,z⟩
    · exact⟨_,z'⟩
  refine⟨⟨by rw [List.length_set];exact h.e.len,fun j sv z'=>?_,fun j k q ds' es' h1 h2=>?_,fun q hq=>?_⟩,fun b u hb=>?_,h.sub,h.hid,fun j q ds' h1=>?_,h.dom0⟩
  · rcases qK z' with ⟨rfl,e,_⟩ | ⟨q,z'⟩
    · cases e
      exact⟨_,e1,rfl,r1,ys,qd,by rw [hl];exact ry⟩
    · obtain⟨v,e2,r⟩:=h.e.slot j sv z'
      refine⟨v,e2,?_⟩
      cases sv with
      | sh d=>show Rep K C (less _ S) d v;rw [hl];exact r
      | ow p' ds' =>
        obtain⟨rfl,r1',xs',r2',r3'⟩:=r
        have np:p'≠p:=fun w=>q (h.e.inj i j p _ _ z (w ▸ z'))
        exact⟨rfl,r1',xs',by rw [zu np];exact r2',by rw [hl];exact r3'⟩
  · obtain⟨_,w1⟩:=owe h1
    obtain⟨_,w2⟩:=owe h2
    exact h.e.inj j k q _ _ w1 w2
  · unfold upd
    split
    · exact Option.some_ne_none _
    · exact h.e.dom q hq
  · rw [zu (fun w=>by rw [w,hp0] at hb;cases hb)]
    exact h.same b u hb
  · obtain⟨_,w1⟩:=owe h1
    exact h.own j q _ w1
theorem EOk.share(h:EOk K C H S σ env){i:Nat}{p:Addr}{ds:List D}(z:env[i]?=some (some (.ow p ds))):EOk K C H (fun a=>S a∧a≠p) σ (env.set i (some (.sh (.lst ds)))):=by
  obtain⟨e1,r1,xs,r2,r3⟩:=h.held z
  have sm:Same (less H S) (less H fun a=>S a∧a≠p):=x8 fun a q=>q.1
  refine⟨by rw [List.length_set];exact h.len,fun j sv z'=>?_,fun j k q ds' es' h1 h2=>?_,fun q hq=>h.dom q hq.1⟩
  · rcases qK z' with ⟨rfl,e,_⟩ | ⟨q,z'⟩
    · cases e
      refine⟨_,e1,?_⟩
      show Rep K C _ (.lst ds) _
      unfold Rep
      exact⟨p,xs,rfl,zK.mpr ⟨fun w=>w.2 rfl,r2⟩,RepA.mono sm _ _ r3⟩
    · obtain⟨v,e2,r⟩:=h.slot j sv z'
      refine⟨v,e2,?_⟩
      cases sv with
      | sh d=>exact Rep.mono sm _ _ r
      | ow p' ds' =>
        obtain⟨rfl,r1',xs',r2',r3'⟩:=r
        have np:p'≠p:=fun w=>q (h.inj i j p _ _ z (w ▸ z'))
        exact⟨rfl,⟨r1',np⟩,xs',r2',RepA.mono sm _ _ r3'⟩
  · rcases qK h1 with ⟨_,e,_⟩ | ⟨_,w1⟩
    · cases e
    · rcases qK h2 with ⟨_,e,_⟩ | ⟨_,w2⟩
      · cases e
      · exact h.inj j k q _ _ w1 w2
theorem SOk.share(h:SOk K C H0 S0 H S σ env){i:Nat}{p:Addr}{ds:List D}(z:env[i]?=some (some (.ow p ds))):SOk K C H0 S0 H (fun a=>S a∧a≠p) σ (env.set i (some (.sh (.lst ds)))):=by
  have hp0:=h.own i p ds z
  refine⟨h.e.share z,h.same,fun a q=>⟨h.sub a q,fun w=>?_⟩,fun a q=>h.hid a q.1,fun j q ds' h1=>?_,h.dom0⟩
  · rw [w] at q
    exact h.dom0 p q hp0
  · rcases qK h1 with ⟨_,e,_⟩ | ⟨_,w1⟩
    · cases e
    · exact h.own j q _ w1
end
section
variable {C:Addr}{X:Cx}{a b c e:Expr}{st:Stmt}{sts sts2:List Stmt}{ta tb tc te:DT1}{t:DTA}{tt:DTT}{u w:DTS}{pos:Pos}
def zkl:DTS:=fun DD env=>DD.nx env
def zmd(t u:DTS):DTS:=fun DD env=>t { DD with nx:=u DD } env
theorem zB:DSs C X [] zkl:=zjh zeU fun D0 σ H ⟨H0,S0,S,env,DD,h1,h2,h3⟩=>h3.nx _ _ _ _ h2 h1
theorem zgX{K:PySem.W.Frag}{H0:Hp}{S0:Addr→Prop}{DD:zhV}{D0:Ends}(h:zbS K C H0 S0 DD D0):zbS K C H0 S0 { DD with nx:=u DD } { D0 with nx:=rS K C u D0 } :=
  ⟨fun env S σ H hx hs=>⟨H0,S0,S,env,DD,hs,hx,h⟩,h.rt,h.bk,h.ct,h.rf⟩
theorem zf(h1:DS C X st w)(h2:DSs C X sts u):DSs C X (st::sts) (zmd w u):=zjh (xq h1 h2) fun D0 σ H ⟨H0,S0,S,env,DD,h1,h2,h3⟩=>⟨H0,S0,S,env,_,h1,h2,zgX h3⟩
theorem zg(h1:DS C X st w):DSs C X [st] w:=zbB h1
def zhl:DTS:=fun _ _=>False
theorem jD:DS C X st zhl:=psW zgI fun D0 σ H ⟨H0,S0,S,env,DD,h1,h2,h3⟩=>h2.elim
def zni(te:DT1):DTS:=fun DD env=>te env DD.rt
theorem zt(he:DE C X e te):DS C X (.Return (some e) pos) (zni te):=psW (zcv he) fun D0 σ H ⟨H0,S0,S,env,DD,h1,h2,h3⟩ =>
  ⟨S,env,_,h1.e,h2,fun d hd v H' e rv=>h3.rt d v H' hd (h1.same.trans e) (Rep.mono (x8 h1.sub) _ _ rv)⟩
def zkp(t:DTA):DTS:=fun DD env=>t env DD.rf
theorem zd2(he:DF C X e t):DS C X (.Return (some e) pos) (zkp t):=psW (zcv he) fun D0 σ H ⟨H0,S0,S,env,DD,h1,h2,h3⟩ =>
  ⟨S,env,_,h1.e,h2,fun ds hd p xs H' e hp hl rv=>h3.rf ds p xs H' hd (h1.same.trans e) (Same.none h1.same hp) hl (RepA.mono (x8 fun q hq=>hq.imp (h1.sub q) id) _ _ rv)⟩
def zh8(i:Nat):DTS:=fun DD env=>match env[i]? with
  | some (some (.ow _ ds))=>DD.rf ds
  | _=>False
theorem zid{i:Nat}(he:PE X e (zfM i)):DS C X (.Return (some e) pos) (zh8 i):=psW (zcv he) fun D0 σ H ⟨H0,S0,S,env,DD,h1,h2,h3⟩=>by
  have h2':∃ p ds,env[i]?=some (some (.ow p ds))∧DD.rf ds:=by
    unfold zh8 at h2
    split at h2
    · exact⟨_,_,by assumption,h2⟩
    · exact h2.elim
  obtain⟨p,ds,z,hd⟩:=h2'
  obtain⟨e1,r1,xs,r2,r3⟩:=h1.e.held z
  refine⟨_,e1,h3.rf ds p xs H hd h1.same (h1.own i p ds z) r2 (RepA.mono (x8 fun q hq=>?_) _ _ r3)⟩
  rcases hq with hq | rfl
  · exact h1.sub q hq
  · exact r1
def zmc:DTS:=fun DD _=>DD.rt .non
def zm8(c:DTT)(t u:DTS):DTS:=fun DD env=>c env fun b=>if b=true then t DD env else u DD env
theorem qz(hc:DB C X c tt)(ha:DSs C X sts u)(hb:DSs C X sts2 w):DS C X (.If c sts sts2 pos) (zm8 tt u w):=psW (zls hc ha hb) fun D0 σ H ⟨H0,S0,S,env,DD,h1,h2,h3⟩ =>
  ⟨S,env,_,h1.e,h2,fun d hd H' e=>by
    cases d with
    | true=>exact⟨H0,S0,S,env,DD,h1.mono e,hd,h3⟩
    | false=>exact⟨H0,S0,S,env,DD,h1.mono e,hd,h3⟩⟩
def zl1(i:Nat)(te:DT1):DTS:=fun DD env=>te env fun d=>DD.nx (env.set i (some (.sh d)))
def zf1(i:Nat)(t:DTA):DTS:=fun DD env=>t env fun ds=>∀ p,DD.nx (env.set i (some (.ow p ds)))
theorem zkc{i:Nat}:∀ D0 σ H,rS X.K C (zl1 i te) D0 σ H→zj7 (rE X.K C te) (zd4 i) D0 σ H:=fun D0 σ H ⟨H0,S0,S,env,DD,h1,h2,h3⟩ =>
  ⟨S,env,_,h1.e,h2,fun d hd v H' e rv=>h3.nx _ _ _ _ hd ((h1.mono e).set rv i)⟩
theorem zhY{i:Nat}:∀ D0 σ H,rS X.K C (zf1 i t) D0 σ H→zj7 (rF X.K C t) (zd4 i) D0 σ H:=fun D0 σ H ⟨H0,S0,S,env,DD,h1,h2,h3⟩ =>
  ⟨S,env,_,h1.e,h2,fun d hd p xs H' e hp hl r=>h3.nx _ _ _ _ (hd p) (h1.setO e hp hl r i)⟩
theorem zy{i:Nat}{x:Str}{pos':Pos}(hN:X.N.Nodup)(hi:X.N[i]?=some x)(hx:Loc X.env.scope x)(he:DE C X e te)(hs:swapsWith e (some (.Name x pos')) pos.line X.env=pure false:=by rfl)(hf:X.fn x=true∨X.env.scope.names.lookup x=some .local:=by first | exact .inl rfl | exact .inr rfl | assumption) :
    DS C X (.Assign [.Name x pos'] e pos) (zl1 i te):=psW (zeT hN hi hx he hs hf) zkc
theorem kA{i:Nat}{x:Str}{pos':Pos}(hN:X.N.Nodup)(hi:X.N[i]?=some x)(hx:Loc X.env.scope x)(he:DF C X e t)(hs:swapsWith e (some (.Name x pos')) pos.line X.env=pure false:=by rfl)(hf:X.fn x=true∨X.env.scope.names.lookup x=some .local:=by first | exact .inl rfl | exact .inr rfl | assumption) :
    DS C X (.Assign [.Name x pos'] e pos) (zf1 i t):=psW (zeT hN hi hx he hs hf) zhY
theorem zaP{i:Nat}{env:En}{P:Addr→List D→Prop}(h:match env[i]? with | some (some (.ow p ds))=>P p ds | _=>False):∃ p ds,env[i]?=some (some (.ow p ds))∧P p ds:=by
  split at h
  · exact⟨_,_,by assumption,h⟩
  · exact h.elim
def zdJ(i:Nat)(te:DT1):DTS:=fun DD env=>match env[i]? with
  | some (some (.ow p ds))=>te env fun d=>ds.length < sizeLine∧DD.nx (env.set i (some (.ow p (ds++[d]))))
  | _=>False
def zbv(A:D→Prop):List D→Prop
  | [d]=>A d
  | _=>False
theorem jv{A:D→Prop}{l:List D}(h:zbv A l):∃ d,l=[d]∧A d:=by
  unfold zbv at h
  split at h
  · exact⟨_,rfl,h⟩
  · exact h.elim
theorem xZ {i:Nat} (h:PS X st (zg5 (tBM X.K "list" zbC (zfM i) (rA X.K C (zh6 te zhm))))):DS C X st (zdJ i te):=psW h fun D0 σ H ⟨H0,S0,S,env,DD,h1,h2,h3⟩=>by
  obtain⟨p,ds,z,h2⟩:=zaP h2
  obtain⟨xs,e1,r2,r3,_⟩:=h1.write (es:=ds) z
  refine⟨_,e1,.inl ⟨rfl,xs,SqL.of r2⟩,S,env,zbv fun d=>ds.length < sizeLine∧DD.nx (env.set i (some (.ow p (ds++[d])))),h1.e,h2,fun l hl vs H' e rv=>?_⟩
  obtain⟨d,rfl,hz,hn⟩:=jv hl
  obtain⟨v,rfl,rd⟩:=qS rv
  obtain⟨xs',_,r2',r3',k⟩:=(h1.mono e).write (es:=ds++[d]) z
  exact⟨p,xs',v,rfl,rfl,r2',by rw [← zD r3'];exact hz,h3.nx _ _ _ _ hn (k _ (jJ r3' (zQ rd repA_nil)))⟩
def zh7(i:Nat)(te:DT1):DTS:=fun DD env=>match env[i]? with
  | some (some (.ow p ds))=>te env fun d=>match d with
    | .lst es=>ds.length+es.length≤sizeLine∧DD.nx (env.set i (some (.ow p (ds++es))))
    | _=>False
  | _=>False
def zkg(i:Nat):DTS:=fun DD env=>match env[i]? with
  | some (some (.ow p ds))=>DD.nx (env.set i (some (.ow p [])))
  | _=>False
def znh(i:Nat)(te tk:DT1):DTS:=fun DD env=>match env[i]? with
  | some (some (.ow p ds))=>te env fun d=>tk env fun k=>match k with
    | .int k=>∃ j,ixN ds.length k=some j∧DD.nx (env.set i (some (.ow p (ds.set j d))))
    | _=>False
  | _=>False
theorem zd1{i:Nat}{tk:DT1}(h:PS X st (zj7 (rE X.K C te) (zno (zfM i) (rE X.K C tk) zlA))):DS C X st (znh i te tk):=psW h fun D0 σ H ⟨H0,S0,S,env,DD,h1,h2,h3⟩=>by
  obtain⟨p,ds,z,h2⟩:=zaP h2
  obtain⟨xs,e1,r2,r3,_⟩:=h1.write (es:=ds) z
  refine⟨S,env,_,h1.e,h2,fun d hd v H1 e rv=>⟨_,e1,S,env,_,h1.e.mono e,hd,fun k hk kv H2 e2 rk=>?_⟩⟩
  cases k with
  | int k =>
    obtain⟨j,hj,hn⟩:=hk
    unfold Rep at rk
    subst rk
    obtain⟨xs',_,r2',r3',kk⟩:=(h1.mono (e.trans e2)).write (es:=ds.set j d) z
    refine⟨p,xs',k,j,rfl,rfl,r2',by rw [← zD r3'];exact hj,h3.nx _ _ _ _ hn (kk _ ?_)⟩
    exact qH.mpr (yQ (Rep.mono (zF e2) _ _ rv) j (qH.mp r3'))
  | _=>exact hk.elim
def zbZ(i:Nat)(u:DTS):DTS:=fun DD env=>match env[i]? with
  | some (some (.ow _ ds))=>u DD (env.set i (some (.sh (.lst ds))))
  | _=>False
theorem zgZ{i:Nat}{K:PySem.W.Frag}:∀ D0 σ H,rS K C (zbZ i u) D0 σ H→rS K C u D0 σ H:=fun D0 σ H ⟨H0,S0,S,env,DD,h1,h2,h3⟩=>by
  obtain⟨p,ds,z,h2⟩:=zaP (P:=fun _ ds=>u DD (env.set i (some (.sh (.lst ds))))) h2
  exact⟨H0,S0,_,_,DD,h1.share z,h2,h3⟩
theorem jo(i:Nat)(h:DSs C X sts u):DSs C X sts (zbZ i u):=zjh h zgZ
def zii:D→Bool
  | .non=>true
  | .bl _=>true
  | .int _=>true
  | .str _=>true
  | _=>false
theorem zgO{K:PySem.W.Frag}{H H':Hp}{d:D}{v:V}(h:zii d=true)(r:Rep K C H d v):Rep K C H' d v:=by
  cases d <;> first | (unfold Rep at r ⊢;exact r) | cases h
def zki(i:Nat)(te:DT1):DT1:=fun env Q=>match env[i]? with
  | some (some (.ow _ ds))=>te (env.set i (some (.sh (.lst ds)))) fun d=>zii d=true∧Q d
  | _=>False
theorem zia(i:Nat)(h:DE C X e te):DE C X e (zki i te):=peW h fun σ H Q ⟨S,env,P,h1,h2,h3⟩=>by
  obtain⟨p,ds,z,h2⟩:=zaP (P:=fun _ ds=>te (env.set i (some (.sh (.lst ds)))) fun d=>zii d=true∧P d) h2
  exact⟨_,_,_,h1.share z,h2,fun d hd v H' e rv=>h3 d hd.2 v H' e (zgO hd.1 rv)⟩
def zkj(i:Nat)(tt:DTT):DTT:=fun env Q=>match env[i]? with
  | some (some (.ow _ ds))=>tt (env.set i (some (.sh (.lst ds)))) Q
  | _=>False
end
end L2.DL
namespace L2.DL
open PySem PySem.Spec PyProof.Rows
section
variable {C:Addr}{X:Cx}{a b c e:Expr}{st:Stmt}{sts sts2:List Stmt}{ta tb tc te:DT1}{t:DTA}{tt:DTT}{u w:DTS}{pos:Pos}
def zkr(c:DTT)(tb:DTS):DTS:=fun DD env=>∃ W:Nat→En→Prop,(∃ m,W m env)∧∀ m env,W m env →
  c env fun b=>if b=true then tb { DD with nx:=fun env'=>∃ m',m' < m∧W m' env',ct:=fun env'=>∃ m',m' < m∧W m' env',bk:=DD.nx } env else DD.nx env
theorem wg(hp:PassesOwn (model X.prog X.w) X.A X.env X.xe)(hc:DB C X c tt)(hb:DSs C X sts u):DS C X (.While c sts [] pos) (zkr tt u):=psW (zgJ hp hc hb) fun D0 σ H ⟨H0,S0,S,env,DD,h1,⟨W,⟨m0,w0⟩,turn⟩,h3⟩=>by
  refine⟨fun m σ H=>∃ S env,SOk X.K C H0 S0 H S σ env∧W m env,⟨m0,S,env,h1,w0⟩,?_⟩
  rintro m σ1 H1 ⟨S1,env1,k1,w1⟩
  refine⟨S1,env1,_,k1.e,turn m env1 w1,fun b hb H2 e=>?_⟩
  cases b with
  | true =>
    refine⟨fun σ' H'=>∃ m',m' < m∧∃ S env,SOk X.K C H0 S0 H' S σ' env∧W m' env,fun _ _ z=>z,H0,S0,S1,env1,_,k1.mono e,hb,⟨fun env' S' σ' H' hx hs=>?_,h3.rt,h3.nx,fun env' S' σ' H' hx hs=>?_,h3.rf⟩⟩
    · obtain⟨m',l,w'⟩:=hx
      exact⟨m',l,S',env',hs,w'⟩
    · obtain⟨m',l,w'⟩:=hx
      exact⟨m',l,S',env',hs,w'⟩
  | false=>exact h3.nx _ _ _ _ hb (k1.mono e)
structure zj3(K:PySem.W.Frag)(C:Addr)(J:It)(items:List D)(G:Hp):Prop where
  go:∀ i H S,Same G (less H S)→i < items.length→J.go i H
  yld:∀ i H S x H',Dom H S→Same G (less H S)→i < items.length→J.yld i H x H'→∃ d,items[i]?=some d∧Same H H'∧Rep K C (less H' S) d x
  stop:∀ i H S,Same G (less H S)→items.length≤i→J.stop i H
def rIt(K:PySem.W.Frag)(C:Addr)(t:DTA):TI:=fun σ H R=>∃ S env P,EOk K C H S σ env∧t env P∧∀ items,P items→∀ J H',Same H H'→zj3 K C J items (less H' S)→R J H'
def DI(C:Addr)(X:Cx)(tg iter:Expr)(t:DTA):Prop:=PI X tg iter (rIt X.K C t)
theorem piW{tg iter:Expr}{wi wi':TI}(h:PI X tg iter wi)(k:∀ σ H R,wi' σ H R→wi σ H R):PI X tg iter wi':=fun pins s σ H R I q=>h pins s σ H R I (k σ H R q)
theorem zhw{K:PySem.W.Frag}{a:Addr}{xs:List V}{ds:List D}{G:Hp}(h1:G a=some (.lst xs))(h2:RepA K C G ds xs):zj3 K C (Itl K a) ds G:=by
  have hl:=zD h2
  refine⟨fun i H S e hi=>?_,fun i H S x H' dm e hi y=>?_,fun i H S e hi=>⟨xs,SqL.of (zh _ _ (e _ _ h1)),by omega⟩⟩
  · exact⟨xs,xs[i]'(by omega),SqL.of (zh _ _ (e _ _ h1)),by rw [List.getElem?_eq_getElem]⟩
  · obtain⟨rfl,y⟩:=y
    have yx:=y xs (SqL.of (zh _ _ (e _ _ h1)))
    obtain⟨d,e1,r⟩:=jw h2 yx
    exact⟨d,e1,Same.refl _,Rep.mono e _ _ r⟩
theorem zhy{K:PySem.W.Frag}{a:Addr}{xs:List V}{ds:List D}{G:Hp}(h1:SqT K G a xs)(h2:RepA K C G ds xs):zj3 K C (Itt K a) ds G:=by
  have hl:=zD h2
  refine⟨fun i H S e hi=>?_,fun i H S x H' dm e hi y=>?_,fun i H S e hi=>⟨xs,zh.seqT (e.seqT h1),by omega⟩⟩
  · exact⟨xs,xs[i]'(by omega),zh.seqT (e.seqT h1),by rw [List.getElem?_eq_getElem]⟩
  · obtain⟨rfl,y⟩:=y
    have yx:=y xs (zh.seqT (e.seqT h1))
    obtain⟨d,e1,r⟩:=jw h2 yx
    exact⟨d,e1,Same.refl _,Rep.mono e _ _ r⟩
def rng(lo:Int)(n:Nat):List D:=(List.range n).map fun (i:Nat)=>.int (lo+i)
theorem zhx{K:PySem.W.Frag}{lo:Int}{n:Nat}{G:Hp}:zj3 K C (Itr lo n) (rng lo n) G:=by
  have hl:(rng lo n).length=n:=by unfold rng;rw [List.length_map,List.length_range]
  refine⟨fun i H S e hi=>by rw [hl] at hi;exact hi,fun i H S x H' dm e hi y=>?_,fun i H S e hi=>by rw [hl] at hi;exact hi⟩
  obtain⟨rfl,rfl⟩:=y
  refine⟨.int (lo+i),?_,Same.refl _,qf⟩
  rw [hl] at hi
  unfold rng
  rw [List.getElem?_map,List.getElem?_range hi]
  rfl
def zfZ(te:DT1):DTA:=fun env Q=>te env fun d=>match d with
  | .lst l=>Q l
  | _=>False
def zlZ(te:DT1):DTA:=fun env Q=>te env fun d=>match d with
  | .tup l=>Q l
  | _=>False
theorem z9{tg:Expr}(h:DE C X e te):DI C X tg e (zfZ te):=piW (zjc h) fun σ H R ⟨S,env,P,h1,h2,h3⟩=>⟨S,env,_,h1,h2,fun d hd v H' e rv=>by
  cases d with
  | lst l =>
    unfold Rep at rv
    obtain⟨a,xs,rfl,r1,r2⟩:=rv
    exact⟨a,rfl,⟨xs,SqL.of (zh _ _ r1)⟩,h3 l hd _ H' e (zhw r1 r2)⟩
  | _=>exact hd.elim⟩
theorem zb5{tg:Expr}(h:DE C X e te):DI C X tg e (zlZ te):=piW (zlo h) fun σ H R ⟨S,env,P,h1,h2,h3⟩=>⟨S,env,_,h1,h2,fun d hd v H' e rv=>by
  cases d with
  | tup l =>
    unfold Rep at rv
    obtain⟨a,xs,rfl,r1,r2⟩:=rv
    exact⟨a,rfl,⟨xs,zh.seqT r1⟩,h3 l hd _ H' e (zhy r1 r2)⟩
  | _=>exact hd.elim⟩
def zan(t:DTA):DTA:=fun env Q=>t env fun l=>match l with
  | [.int j]=>-(2 ^ 62)≤j∧j < 2 ^ 62∧Q (rng 0 j.toNat)
  | _=>False
def zkq(t:DTA):DTA:=fun env Q=>t env fun l=>match l with
  | [.int i,.int j]=>(-(2 ^ 62)≤i∧i < 2 ^ 62∧-(2 ^ 62)≤j∧j < 2 ^ 62)∧Q (rng i (j - i).toNat)
  | _=>False
theorem qe {tg:Expr} {p:Pos} (hg:Gl X "range") (hm:X.mg "range" = none) (ha:DA C X [a] t) (hs:starEach [a] X.env=[(false,eval a X.env)]:=by rfl):DI C X tg (.Call (.Name "range" p) [a] [] pos) (zan t):=piW (zeK hg hm ha hs) fun σ H R ⟨S,env,P,h1,h2,h3⟩ =>
  ⟨S,env,_,h1,h2,fun ds hd vs H' e rv=>by
    split at hd
    · obtain⟨v,rfl,r⟩:=qS rv
      unfold Rep at r
      subst r
      exact⟨_,rfl,hd.1,hd.2.1,h3 _ hd.2.2 _ H' e zhx⟩
    · exact hd.elim⟩
theorem zd0 {tg:Expr} {p:Pos} (hg:Gl X "range") (hm:X.mg "range" = none) (ha:DA C X [a,b] t) (hs:starEach [a,b] X.env=[(false,eval a X.env),(false,eval b X.env)]:=by rfl) (hs2:starEach [b] X.env=[(false,eval b X.env)]:=by rfl):DI C X tg (.Call (.Name "range" p) [a,b] [] pos) (zkq t):=piW (zeL hg hm ha hs hs2) fun σ H R ⟨S,env,P,h1,h2,h3⟩ =>
  ⟨S,env,_,h1,h2,fun ds hd vs H' e rv=>by
    split at hd
    · obtain⟨v,u,rfl,r,r'⟩:=jb rv
      unfold Rep at r r'
      subst r r'
      exact⟨_,_,rfl,hd.1,h3 _ hd.2 _ H' e zhx⟩
    · exact hd.elim⟩
abbrev DTG:=D→En→(En→Prop)→Prop
def rG(K:PySem.W.Frag)(C:Addr)(g:DTG):TG:=fun v σ H Q=>∃ H0 S0 S env d P,SOk K C H0 S0 H S σ env∧Rep K C (less H S) d v∧g d env P∧∀ env',P env'→∀ σ' H' S',SOk K C H0 S0 H' S' σ' env'→Q σ' H'
def DG(C:Addr)(X:Cx)(tg:Expr)(g:DTG):Prop:=PG X tg (rG X.K C g)
theorem pgW{tg:Expr}{g g':TG}(h:PG X tg g)(k:∀ v σ H Q,g' v σ H Q→g v σ H Q):PG X tg g':=fun pins s σ H v u Q I r q=>h pins s σ H v u Q I r (k v σ H Q q)
def zkk(i:Nat):DTG:=fun d env Q=>Q (env.set i (some (.sh d)))
theorem z8{i:Nat}{x:Str}(hN:X.N.Nodup)(hi:X.N[i]?=some x)(hx:Loc X.env.scope x)(hf:X.fn x=true∨X.env.scope.names.lookup x=some .local:=by first | exact .inl rfl | exact .inr rfl | assumption):DG C X (.Name x pos) (zkk i) :=
  pgW (kY hN hi hx hf) fun v σ H Q ⟨H0,S0,S,env,d,P,h1,h2,h3,h4⟩=>h4 _ h3 _ _ _ (h1.set h2 i)
def zdN(i j:Nat):DTG:=fun d env Q=>match d with
  | .tup [x,y]=>Q ((env.set i (some (.sh x))).set j (some (.sh y)))
  | _=>False
theorem zb4{i j k:Nat}{x y:Str}{p1 p2:Pos}(hc:X.calm=true)(hN:X.N.Nodup)(hi:X.N[i]?=some x)(hx:Loc X.env.scope x)(hj:X.N[j]?=some y)(hy:Loc X.env.scope y)(hf:X.fn x=true∨X.env.scope.names.lookup x=some .local:=by first | exact .inl rfl | exact .inr rfl | assumption)
    (hf':X.fn y=true∨X.env.scope.names.lookup y=some .local:=by first | exact .inl rfl | exact .inr rfl | assumption):DG C X (.Tuple [.Name x p1,.Name y p2] k pos) (zdN i j) :=
  pgW (zhH hc (kj (kY hN hi hx hf) (kj (kY hN hj hy hf') zeJ))) fun v σ H Q ⟨H0,S0,S,env,d,P,h1,h2,h3,h4⟩=>by
    unfold zdN at h3
    split at h3
    · unfold Rep at h2
      obtain⟨a,xs,rfl,r1,r2⟩:=h2
      obtain⟨v1,v2,rfl,q1,q2⟩:=jb r2
      exact⟨a,_,rfl,zh.seqT r1,rfl,_,_,rfl,_,_,rfl,rfl,h4 _ h3 _ _ _ ((h1.set q1 i).set q2 j)⟩
    · exact h3.elim
def znI(ti:DTA)(g:DTG)(tb:DTS):DTS:=fun DD env=>ti env fun items=>∃ (α:Type) (xs:List α) (enc:α→D) (Pv:List α→En→Prop),items=xs.map enc∧Pv [] env ∧
  (∀ pre x post env',xs=pre++x::post→Pv pre env'→g (enc x) env' fun env2=>tb { DD with nx:=Pv (pre++[x]),ct:=Pv (pre++[x]),bk:=DD.nx } env2)∧∀ env',Pv xs env'→DD.nx env'
theorem zen{K:PySem.W.Frag}{H0 H:Hp}{S0 S:Addr→Prop}{σ:L2.St}{env:En}(h:SOk K C H0 S0 H S σ env):∃ G,SOk K C G S0 H S σ env∧less G S0=less H S∧(∀ {H' S' σ' env'},SOk K C G S0 H' S' σ' env'→SOk K C H0 S0 H' S' σ' env')∧(∀ {H'},Same G H'→Same H0 H')∧∀ {p},G p=none→H0 p=none:=by
  have g0:Same H0 (less H fun a=>S a∧¬ S0 a):=fun b u z=>zK.mpr ⟨fun q=>(h.hid b q.1).elim q.2 fun w=>(by rw [z] at w;cases w),h.same _ _ z⟩
  have gn:∀ {p:Addr},(less H fun a=>S a∧¬ S0 a) p=none→H0 p=none:=fun {p} z=>Same.none g0 z
  refine⟨less H fun a=>S a∧¬ S0 a,⟨h.e,zh,h.sub,fun p q=>?_,fun i p ds z1=>?_,fun p q=>?_⟩,?_,fun {H' S' σ' env'} k=>⟨k.e,g0.trans k.same,k.sub,fun p q=>(k.hid p q).imp id gn,fun i p ds z1=>gn (k.own i p ds z1),h.dom0⟩,fun k=>g0.trans k,gn⟩
  · by_cases w:S0 p
    · exact .inl w
    · refine .inr ?_
      unfold less
      rw [if_pos ⟨q,w⟩]
  · have hp0:=h.own i p ds z1
    obtain⟨_,r1,_⟩:=h.e.held z1
    unfold less
    rw [if_pos ⟨r1,fun w=>h.dom0 p w hp0⟩]
  · unfold less
    rw [if_neg fun w=>w.2 q]
    exact h.e.dom p (h.sub p q)
  · funext a
    unfold less
    by_cases w:S0 a
    · rw [if_pos w,if_pos (h.sub a w)]
    · rw [if_neg w]
      by_cases v:S a
      · rw [if_pos ⟨v,w⟩,if_pos v]
      · rw [if_neg fun z=>v z.1,if_neg v]
theorem zg4{α:Type}{xs:List α}{i:Nat}(h:i < xs.length):xs=xs.take i++xs[i]::xs.drop (i+1):=by
  rw [List.getElem_cons_drop,List.take_append_drop]
theorem qy{tg iter:Expr}{g:DTG}(hp:PassesOwn (model X.prog X.w) X.A X.env X.xe)(hc:X.calm=true)(hi:DI C X tg iter t)(hg:DG C X tg g)(hb:DSs C X sts u)
    (hs:∀ x,foldedSetIterable iter X.env x=pure x:=by intro _;rfl):DS C X (.For tg iter sts [] pos) (znI t g u):=psW (zlr hp hc hi hg hb hs) fun D0 σ H ⟨H0,S0,S,env,DD,h1,h2,h3⟩=>by
  refine⟨S,env,_,h1.e,h2,fun items ⟨α,xs,enc,Pv,hit,p0,turn,fin⟩ J H1 e J1=>?_⟩
  subst hit
  obtain⟨G,k1,hG,back,backS,backN⟩:=zen (h1.mono e)
  rw [← hG] at J1
  have hlen:(xs.map enc).length=xs.length:=List.length_map _
  refine⟨fun i m σ H=>m=xs.length - i∧i≤xs.length∧∃ S env,SOk X.K C G S0 H S σ env∧Pv (xs.take i) env,⟨xs.length,by simp,Nat.zero_le _,S,env,k1,p0⟩,?_⟩
  rintro i m σ2 H2 ⟨rfl,hi,S2,env2,k2,p2⟩
  have pr:=k2.prot
  by_cases hlt:i < xs.length
  · refine .inr ⟨J1.go i H2 S2 pr (by omega),fun σ' H'=>∃ S env,SOk X.K C G S0 H' S σ' env∧Pv (xs.take (i+1)) env,fun σ' H' z=>⟨xs.length - (i+1),by omega,rfl,hlt,z⟩,fun x H' y=>?_⟩
    obtain⟨d,e1,s1,r⟩:=J1.yld i H2 S2 x H' k2.e.dom pr (by omega) y
    rw [List.getElem?_map,List.getElem?_eq_getElem hlt] at e1
    cases e1
    have tk:xs.take (i+1)=xs.take i++[xs[i]]:=by rw [List.take_append_getElem]
    refine⟨G,S0,S2,env2,_,_,k2.mono s1,r,turn _ _ _ env2 (zg4 hlt) p2,fun env' z σ' H'' S' k'=>⟨G,S0,S',env',_,k',z,⟨fun env'' S'' σ'' H3 hx hs=>⟨S'',env'',hs,by rw [tk];exact hx⟩,fun d v H3 hr hs rv=>h3.rt d v H3 hr (backS hs) rv,
      fun env'' S'' σ'' H3 hx hs=>h3.nx _ _ _ _ hx (back hs),fun env'' S'' σ'' H3 hx hs=>⟨S'',env'',hs,by rw [tk];exact hx⟩,fun ds p xs H3 hd hs hp hl rv=>h3.rf ds p xs H3 hd (backS hs) (backN hp) hl rv⟩⟩⟩
  · have e':i=xs.length:=by omega
    subst e'
    rw [List.take_length] at p2
    exact .inl ⟨J1.stop _ H2 S2 pr (by omega),h3.nx _ _ _ _ (fin env2 p2) (back k2)⟩
def zdp(caps:List Nat)(env:En):En:=caps.map fun i=>(env[i]?).getD none
def zfX(caps:List Nat)(ti:DTA)(tt:DTT)(te:DT1):DTA:=fun env Q=>ti env fun items=>∃ (α:Type) (xs:List α) (enc:α→D) (f:α→Option D),items=xs.map enc∧xs.length≤sizeLine ∧
  (∀ x∈xs,tt (some (.sh (enc x))::zdp caps env) fun b=>if b=true then te (some (.sh (enc x))::zdp caps env) fun y=>f x=some y else f x=none)∧Q (xs.filterMap f)
theorem zkd{caps:List Nat}{env:En}{j:Nat}{sv:SV}(h:(zdp caps env)[j]?=some (some sv)):∃ i,caps[j]?=some i∧env[i]?=some (some sv):=by
  unfold zdp at h
  rw [List.getElem?_map] at h
  cases q:caps[j]? with
  | none=>rw [q] at h;cases h
  | some i =>
    rw [q] at h
    refine⟨i,rfl,?_⟩
    have h':(env[i]?).getD none=some sv:=Option.some.inj h
    cases z:env[i]? with
    | none=>rw [z] at h';cases h'
    | some o=>rw [z] at h';exact congrArg some h'
theorem zeu{l:List Nat}(h:l.Nodup){i j:Nat}(hi:i < l.length)(hj:j < l.length)(e:l[i]=l[j]):i=j:=by
  have p:=List.pairwise_iff_getElem.mp h
  rcases Nat.lt_trichotomy i j with q | q | q
  · exact absurd e (p i j hi hj q)
  · exact q
  · exact absurd e.symm (p j i hj hi q)
theorem zhj{K:PySem.W.Frag}{H:Hp}{S:Addr→Prop}{σ:L2.St}{env:En}{caps:List Nat}{d:D}{v:V}(h:EOk K C H S σ env)(hn:caps.Nodup)(r:Rep K C (less H S) d v):EOk K C H S (some v::jn caps σ) (some (.sh d)::zdp caps env):=by
  have look:∀ {j:Nat} {sv:SV},(zdp caps env)[j]?=some (some sv)→∃ i,caps[j]?=some i∧env[i]?=some (some sv)∧(jn caps σ)[j]?=some ((σ[i]?).getD none):=fun {j sv} z=>by
    obtain⟨i,e1,e2⟩:=zkd z
    refine⟨i,e1,e2,?_⟩
    unfold jn
    rw [List.getElem?_map,e1]
    rfl
  refine⟨by unfold jn zdp;simp,fun j sv z=>?_,fun j k p ds es z1 z2=>?_,h.dom⟩
  · cases j with
    | zero=>simp at z;subst z;exact⟨v,rfl,r⟩
    | succ j =>
      rw [List.getElem?_cons_succ] at z ⊢
      obtain⟨i,e1,e2,e3⟩:=look z
      obtain⟨u,g1,g2⟩:=h.slot i sv e2
      exact⟨u,by rw [e3,g1];rfl,g2⟩
  · cases j with
    | zero=>simp at z1
    | succ j =>
      cases k with
      | zero=>simp at z2
      | succ k =>
        rw [List.getElem?_cons_succ] at z1 z2
        obtain⟨i,e1,e2,e3⟩:=look z1
        obtain⟨i',e1',e2',e3'⟩:=look z2
        have hii:=h.inj i i' p _ _ e2 e2'
        subst hii
        obtain⟨hj1,hj2⟩:=List.getElem?_eq_some_iff.mp e1
        obtain⟨hk1,hk2⟩:=List.getElem?_eq_some_iff.mp e1'
        rw [zeu hn hj1 hk1 (hj2.trans hk2.symm)]
theorem zbb{caps:List Nat}(hn:caps.Nodup):∀ σ H Q,rF X.K C (zfX caps t tt te) σ H Q→zjN caps (rIt X.K C t) (rT X.K C tt) (rE X.K C te) σ H Q:=fun σ H Q ⟨S,env,P,h1,h2,h3⟩=>by
  refine⟨S,env,_,h1,h2,fun items ⟨α,xs,enc,f,hit,hz,turn,fin⟩ J H1 e J1=>?_⟩
  subst hit
  have hlen:(xs.map enc).length=xs.length:=List.length_map _
  refine⟨fun i m ys H=>m=xs.length - i∧i≤xs.length∧Same H1 H∧RepA X.K C (less H S) ((xs.take i).filterMap f) ys,⟨xs.length,by simp,Nat.zero_le _,Same.refl _,repA_nil⟩,?_⟩
  rintro i m ys H2 ⟨rfl,hi,s2,r2⟩
  have pr:Same (less H1 S) (less H2 S):=zF s2
  by_cases hlt:i < xs.length
  · refine .inr ⟨J1.go i H2 S pr (by omega),fun v H' y=>?_⟩
    obtain⟨d,e1,s1,r⟩:=J1.yld i H2 S v H' (h1.dom.mono (e.trans s2)) pr (by omega) y
    rw [List.getElem?_map,List.getElem?_eq_getElem hlt] at e1
    cases e1
    have eo:EOk X.K C H' S (some v::jn caps σ) (some (.sh (enc xs[i]))::zdp caps env):=zhj (h1.mono (e.trans (s2.trans s1))) hn r
    have hm:xs[i]∈xs:=List.getElem_mem hlt
    have tk:(xs.take (i+1)).filterMap f=(xs.take i).filterMap f++[xs[i]].filterMap f:=by rw [← List.take_append_getElem hlt,List.filterMap_append]
    refine⟨S,_,_,eo,turn _ hm,fun b hb H3 e3=>?_⟩
    cases b with
    | true =>
      refine⟨S,_,_,eo.mono e3,hb,fun y hy yv H4 e4 ry=>⟨?_,xs.length - (i+1),by omega,rfl,hlt,s2.trans (s1.trans (e3.trans e4)),?_⟩⟩
      · have q1:=zD r2
        have q2:=List.length_filterMap_le f (xs.take i)
        have q3:=List.length_take_le i xs
        omega
      · rw [tk,List.filterMap_cons_some hy]
        exact jJ (RepA.mono (zF (s1.trans (e3.trans e4))) _ _ r2) (zQ ry repA_nil)
    | false =>
      refine⟨xs.length - (i+1),by omega,rfl,hlt,s2.trans (s1.trans e3),?_⟩
      rw [tk,List.filterMap_cons_none hb,List.filterMap_nil,List.append_nil]
      exact RepA.mono (zF (s1.trans e3)) _ _ r2
  · have e':i=xs.length:=by omega
    subst e'
    rw [List.take_length] at r2
    exact .inl ⟨J1.stop _ H2 S pr (by omega),fun p hp=>(h3.mono (e.trans s2)).new fin r2 hp⟩
def zj1(C:Addr)(X:Cx)(ifs:List Expr)(t:DTT):Prop:=zhg X ifs (rT X.K C t)
def znl:DTT:=fun _ Q=>Q true
theorem qc:zj1 C X [] znl:=fun pins s σ H Q I ⟨S,env,P,h1,h2,h3⟩=>zgG pins s σ H Q I (h3 _ h2 H (Same.refl _))
theorem vf(h:DB C X c tt):zj1 C X [c] tt:=zgH h
section
variable {scope:Scope}{x:Str}{N':List Str}{caps:List Nat}{elt iter:Expr}{px:Pos}{ifs:List Expr}
theorem xT(S:jk X scope x N' caps)(hc:X.calm=true)(hi:DI C X (.Name x px) iter t)(ht:∀ C' ex s₀ H₀,zj1 C (zC X scope N' C' ex s₀ H₀) ifs tt)(he:∀ C' ex s₀ H₀,DE C (zC X scope N' C' ex s₀ H₀) elt te)(hn:caps.Nodup:=by decide)
    (hs:∀ x,foldedSetIterable iter X.env x=pure x:=by intro _;rfl):DF C X (.ListComp elt [⟨.Name x px,iter,ifs,0⟩] scope pos) (zfX caps t tt te):=peW (zi5 (tt:=rT X.K C tt) (te:=rE X.K C te) S hc hi (fun C' ex s h=>ht C' ex s h) (fun C' ex s h=>he C' ex s h) hs) (zbb hn)
theorem zb6{i:Nat}{y:Str}{py spos:Pos}(hN:X.N.Nodup)(hi0:X.N[i]?=some y)(hy:X.env.scope.names.lookup y=some .local)(S:jk X scope x N' caps)(hc:X.calm=true)(hi:DI C X (.Name x px) iter t)(ht:∀ C' ex s₀ H₀,zj1 C (zC X scope N' C' ex s₀ H₀) ifs tt)(he:∀ C' ex s₀ H₀,DE C (zC X scope N' C' ex s₀ H₀) elt te)(hn:caps.Nodup:=by decide)
    (hsw:swapsWith (.ListComp elt [⟨.Name x px,iter,ifs,0⟩] scope pos) (some (.Name y py)) spos.line X.env=pure true:=by rfl)
    (hs:∀ x,foldedSetIterable iter X.env x=pure x:=by intro _;rfl):DS C X (.Assign [.Name y py] (.ListComp elt [⟨.Name x px,iter,ifs,0⟩] scope pos) spos) (zf1 i (zfX caps t tt te)):=psW (zeS (tt:=rT X.K C tt) (te:=rE X.K C te) hN hi0 hy S hc hi (fun C' ex s h=>ht C' ex s h) (fun C' ex s h=>he C' ex s h) hsw hs) fun D0 σ H h=>by
  obtain⟨H0,S0,S,env,DD,h1,h2,h3⟩:=h
  exact zbb hn σ H _ ⟨S,env,_,h1.e,h2,fun ds hd p xs H' e hp hl r=>h3.nx _ _ _ _ (hd p) (h1.setO e hp hl r i)⟩
theorem jX{i:Nat}{y:Str}{py spos:Pos}(hN:X.N.Nodup)(hi0:X.N[i]?=some y)(hy:X.env.scope.names.lookup y=some .local)(S:jk X scope x N' caps)(hc:X.calm=true)(hi:DI C X (.Name x px) iter t)(ht:∀ C' ex s₀ H₀,zj1 C (zC X scope N' C' ex s₀ H₀) ifs tt)(he:∀ C' ex s₀ H₀,DE C (zC X scope N' C' ex s₀ H₀) elt te)(hn:caps.Nodup:=by decide)
    (hsw:swapsWith (.ListComp elt [⟨.Name x px,iter,ifs,0⟩] scope pos) (some (.Name y py)) spos.line X.env=pure true:=by rfl)
    (hs:∀ x,foldedSetIterable iter X.env x=pure x:=by intro _;rfl):DS C X (.Assign [.Name y py] (.ListComp elt [⟨.Name x px,iter,ifs,0⟩] scope pos) spos) (zl1 i (dOf (zfX caps t tt te))):=psW (zeS (tt:=rT X.K C tt) (te:=rE X.K C te) hN hi0 hy S hc hi (fun C' ex s h=>ht C' ex s h) (fun C' ex s h=>he C' ex s h) hsw hs) fun D0 σ H h=>by
  obtain⟨H0,S0,S,env,DD,h1,h2,h3⟩:=h
  exact zbb hn σ H _ ⟨S,env,fun ds=>DD.nx (env.set i (some (.sh (.lst ds)))),h1.e,h2,KD.fresh (P:=fun d=>DD.nx (env.set i (some (.sh d)))) (fun d hd v H' e rv=>h3.nx _ _ _ _ hd ((h1.mono e).set rv i)) h1.e.dom⟩
end
end
def jh(N:List Str)(ds:List D):En:=ds.map (fun d=>some (.sh d))++List.replicate (N.length - ds.length) none
theorem km{K:PySem.W.Frag}{C:Addr}{N:List Str}{H:Hp}{S:Addr→Prop}{ds:List D}{vs:List V}(dm:Dom H S)(r:RepA K C (less H S) ds vs):SOk K C H S H S (start N vs) (jh N ds):=by
  have hl:=zD r
  have look:∀ {j:Nat} {sv:SV},(jh N ds)[j]?=some (some sv)→∃ d v,sv=.sh d∧(start N vs)[j]?=some (some v)∧Rep K C (less H S) d v:=fun {j sv} z=>by
    unfold jh at z
    by_cases hj:j < ds.length
    · rw [List.getElem?_append_left (by simpa using hj),List.getElem?_map,List.getElem?_eq_getElem hj] at z
      obtain⟨v,e,rv⟩:=zcy r (List.getElem?_eq_getElem hj)
      refine⟨ds[j],v,(Option.some.inj (Option.some.inj z)).symm,?_,rv⟩
      unfold start
      rw [List.getElem?_append_left (by simp;omega),List.getElem?_map,e]
      rfl
    · rw [List.getElem?_append_right (by simpa using hj),List.getElem?_replicate] at z
      split at z <;> cases z
  refine⟨⟨?_,fun j sv z=>?_,fun j k p es es' z1=>?_,dm⟩,Same.refl _,fun _ h=>h,fun _ h=>.inl h,fun j p es z1=>?_,dm⟩
  · unfold start jh
    simp [hl]
  · obtain⟨d,v,rfl,e,rv⟩:=look z
    exact⟨v,e,rv⟩
  · obtain⟨d,v,q,_⟩:=look z1
    cases q
  · obtain⟨d,v,q,_⟩:=look z1
    cases q
section
variable {P:Program}{w:World}{K:PySem.W.Frag}{mg:Str→Option Value}{base:Heap}{C:Addr}
theorem znK{x qual:Str}{st:Stmt}{f:Addr}{fd:FuncData}{N ps:List Str}{k:Nat}{T:List D→(D→Prop)→Prop}(F:Fun K x qual st f fd)(Sc:FnScope N ps (zc st))(len:∀ ds Q,T ds Q→ds.length=ps.length)
    (hbody:∀ (cdv:Value) (A:Around) (outer:List Env) (s:Shared) (H:Hp) (E:XK),ji k (A.deeper (envOfC qual (zc st) s.heap.objs.size f cdv)) →
      ∃ t,DSs C (zdI CX0 P w K mg base N qual (zc st) f cdv A outer s H E).nox (zm st) t∧∀ ds Q,T ds Q→t { nx:=fun _=>Q .non,rt:=Q } (jh N ds)):qr P w K mg base CX0 (k+1) f fd ps (spD K C T):=by
  refine F.ok Sc (fun vs H Q E h=>?_) (fun cdv A outer s H vs Q E hr h=>?_)
  · obtain⟨S,ds,R,dm,r,hT,_⟩:=h
    rw [← zD r]
    exact len ds R hT
  · obtain⟨S,ds,R,dm,r,hT,kd⟩:=h
    obtain⟨t,h1,h2⟩:=hbody cdv A outer s H E hr
    exact⟨_,h1,H,S,S,jh N ds,_,km dm r,h2 ds R hT,⟨fun env S' σ H' hx hs=>kd _ hx _ H' hs.same ze7,fun d v H' hx e rv=>kd d hx v H' e rv,fun _ _ _ _ z=>z.elim,fun _ _ _ _ z=>z.elim,fun _ _ _ _ z=>z.elim⟩⟩
end
end L2.DL
namespace L2.DL
open PySem PySem.Spec PyProof.Rows
theorem jF{K:PySem.W.Frag}{t:String}:PySem.W.kitOne K (.type t) (.type t)=some true:=by
  unfold PySem.W.kitOne
  rw [if_pos (by simp)]
theorem jE{K:PySem.W.Frag}{t c:String}{b:Bool}(h:(Value.type t == Value.type c)=false)(hm:PySem.W.kitMeta c=true)(hf:(fastBuiltinMro t).map (·.contains (Value.type c))=some b):PySem.W.kitOne K (.type t) (.type c)=some b:=by
  unfold PySem.W.kitOne PySem.W.kitCls
  rw [if_neg (by rw [h];exact Bool.false_ne_true)]
  show (if PySem.W.kitMeta c=true then PySem.W.subIn K (.type t) (.type c) else none)=some b
  rw [if_pos hm]
  exact hf
def zfK:D→String→Option Bool
  | .int _, "int" => some true
  | .int _, "bool" => some false
  | .int _, "tuple" => some false
  | .int _, "list" => some false
  | .bl _, "bool" => some true
  | .bl _, "int" => some true
  | .bl _, "tuple" => some false
  | .tup _, "tuple" => some true
  | .tup _, "list" => some false
  | .tup _, "int" => some false
  | .lst _, "list" => some true
  | .lst _, "tuple" => some false
  | .str _, "str" => some true
  | .non, "tuple" => some false
  | .non, "bool" => some false
  | .non, "int" => some false
  | _,_=>none
def zeW:List D→(D→Prop)→Prop:=fun xs Q=>match xs with
  | [d,.ty c]=>match zfK d c with
    | some b=>Q (.bl b)
    | none=>False
  | _=>False
def zlz(K:PySem.W.Frag):List V→Hp→VK→Prop:=fun xs H Q=>(∃ x t c b,xs=[x,.ty c]∧zbU K H x t∧PySem.W.kitOne K t (.type c)=some b∧Q (.bl b) H) ∨
  ∃ a ys c b,xs=[.ref a,.ty c]∧SqT K H a ys∧PySem.W.kitOne K (.type "tuple") (.type c)=some b∧Q (.bl b) H
section
variable {C:Addr}{X:Cx}{a b c e:Expr}{es:List Expr}{st:Stmt}{sts sts2:List Stmt}{ta tb tc te:DT1}{t:DTA}{tt:DTT}{u w:DTS}{pos:Pos}
theorem xf:va X (.builtin "isinstance") (zlz X.K):=by
  intro pins s σ H xs us Q I r h
  rcases h with h | ⟨a,ys,c,b,rfl,hq,e,q⟩
  · exact za9 pins s σ H xs us Q I r h
  · obtain⟨u,w',rfl,rx,rc⟩:=vals2 r
    cases rc
    cases rx
    obtain⟨its,rv,⟨o,h1,h2,_⟩,_⟩:=I.tuple hq
    exact PySem.W.kia_one PySem.W.kitx_tuple I.kIn ⟨o,h1,h2⟩ e (fun z=>nomatch z) fun tk=>⟨.bl b,H,I.tok tk,rfl,q⟩
theorem vQ:yu X.K C (zlz X.K) zeW:=by
  intro H S ds vs P Q dm r h k
  unfold zeW at h
  split at h
  · next d cn =>
    obtain⟨v,w,rfl,r1,r2⟩:=jb r
    unfold Rep at r2
    subst r2
    split at h
    · next b e =>
      have kf:=k.flat h (xN (K:=X.K) (C:=C) (H:=less H S))
      unfold zfK at e
      split at e <;> cases e
      all_goals unfold Rep at r1
      all_goals first
        | (subst r1;exact .inl ⟨_,_,_,_,rfl,.int _,by first | exact jF | exact jE (by decide) (by kernel_rfl) (by kernel_rfl),kf⟩)
        | (subst r1;exact .inl ⟨_,_,_,_,rfl,.bl _,by first | exact jF | exact jE (by decide) (by kernel_rfl) (by kernel_rfl),kf⟩)
        | (subst r1;exact .inl ⟨_,_,_,_,rfl,.str _,by first | exact jF | exact jE (by decide) (by kernel_rfl) (by kernel_rfl),kf⟩)
        | (subst r1;exact .inl ⟨_,_,_,_,rfl,.non,by first | exact jF | exact jE (by decide) (by kernel_rfl) (by kernel_rfl),kf⟩)
        | (obtain⟨a,xs,rfl,g1,g2⟩:=r1;exact .inr ⟨a,xs,_,_,rfl,zh.seqT g1,by first | exact jF | exact jE (by decide) (by kernel_rfl) (by kernel_rfl),kf⟩)
        | (obtain⟨a,xs,rfl,g1,g2⟩:=r1;exact .inl ⟨_,_,_,_,rfl,.lst (zh _ _ g1),by first | exact jF | exact jE (by decide) (by kernel_rfl) (by kernel_rfl),kf⟩)
    · exact h.elim
  · exact h.elim
theorem zas {x:Str} {n:String} (hg:Gl X x) (hm:X.mg x=none) (hv:bootBuiltins x=some (.type n)) (hn:x ≠ "__name__" := by decide) (hd:(x == ("__debug__" : Str))=false:=by decide):DE C X (.Name x pos) (dC (.ty n)) :=
  kx (zi2 (v:=.ty n) hg hm hv rfl hn hd) fun _=>zlG
theorem zkt {x:Str} {v:V} {uv:Value} {d:D} (hg:Gl X x) (hm:X.mg x=some uv) (r:RelV v uv) (h:∀ H,Rep X.K C H d v) (hd:(x == ("__debug__" : Str))=false:=by decide):DE C X (.Name x pos) (dC d):=kx (zi7 hg hm r hd) h
end
structure GInt(mg:Str→Option Value)(x:Str)(i:Int):Prop where
  at_:∃ t,mg x=some (.int i t)
structure zdt(K:PySem.W.Frag)(mg:Str→Option Value)(x:Str)(ns:List Int):Prop where
  at_:∃ a,mg x=some (.ref a)∧∀ H:Hp,SqT K H a (ns.map V.int)
section
variable {C:Addr}{X:Cx}{pos:Pos}
theorem zh9 {x:Str} {i:Int} (g:GInt X.mg x i) (hg:Gl X x) (hd:(x == ("__debug__" : Str))=false:=by decide):DE C X (.Name x pos) (dC (.int i)):=by
  obtain⟨t,h⟩:=g.at_
  exact zkt (v:=.int i) hg h ⟨t,rfl⟩ (fun _=>qf) hd
theorem x6 {x:Str} {ns:List Int} (g:zdt X.K X.mg x ns) (hg:Gl X x) (hd:(x == ("__debug__" : Str))=false:=by decide):DE C X (.Name x pos) (dC (.tup (ns.map D.int))):=by
  obtain⟨a,h,s⟩:=g.at_
  refine zkt (v:=.ref a) hg h rfl (fun H=>?_) hd
  unfold Rep
  exact⟨a,_,rfl,s H,ju⟩
end
section
variable {P:Program}{w:World}{K:PySem.W.Frag}{mg:Str→Option Value}{base:Heap}{C:Addr}
theorem znL{x qual:Str}{st:Stmt}{f:Addr}{fd:FuncData}{N ps:List Str}{k:Nat}{T:List D→(List D→Prop)→Prop}(F:Fun K x qual st f fd)(Sc:FnScope N ps (zc st))(len:∀ ds Q,T ds Q→ds.length=ps.length)
    (hbody:∀ (cdv:Value) (A:Around) (outer:List Env) (s:Shared) (H:Hp) (E:XK),ji k (A.deeper (envOfC qual (zc st) s.heap.objs.size f cdv)) →
      ∃ t,DSs C (zdI CX0 P w K mg base N qual (zc st) f cdv A outer s H E).nox (zm st) t∧∀ ds Q,T ds Q→t { nx:=fun _=>False,rt:=fun _=>False,rf:=Q } (jh N ds)):qr P w K mg base CX0 (k+1) f fd ps (spF K C T):=by
  refine F.ok Sc (fun vs H Q E h=>?_) (fun cdv A outer s H vs Q E hr h=>?_)
  · obtain⟨S,ds,R,dm,r,hT,_⟩:=h
    rw [← zD r]
    exact len ds R hT
  · obtain⟨S,ds,R,dm,r,hT,kd⟩:=h
    obtain⟨t,h1,h2⟩:=hbody cdv A outer s H E hr
    exact⟨_,h1,H,S,S,jh N ds,_,km dm r,h2 ds R hT,⟨fun env S' σ H' hx hs=>hx.elim,fun d v H' hx e rv=>hx.elim,fun _ _ _ _ z=>z.elim,fun _ _ _ _ z=>z.elim,fun ds p xs H' hx e hp hl rv=>kd ds hx p xs H' e hp hl rv⟩⟩
end
end L2.DL
namespace L2.DL
open PySem PySem.Spec PyProof.Rows
open Builtin.Int (intBits)
def dQ(q:Rat):D:=.tup [.int q.num,.int q.den]
def Sz(n:Nat)(q:Rat):Prop:=q.num.natAbs < 2 ^ n∧q.den < 2 ^ n
theorem Sz.mono{m n:Nat}{q:Rat}(h:Sz m q)(e:m≤n):Sz n q:=by
  have:=Nat.pow_le_pow_right (n:=2) (by decide) e
  exact⟨by have:=h.1;omega,by have:=h.2;omega⟩
theorem Sz.top{n:Nat}{q:Rat}(h:Sz n q):intBits q.num≤n:=intBits_le_iff.mpr h.1
theorem Sz.bot{n:Nat}{q:Rat}(h:Sz n q):intBits (q.den:Int)≤n:=intBits_le_iff.mpr (by rw [Int.natAbs_natCast];exact h.2)
theorem mk_le{t:Int}{b:Nat}(hb:b≠0):(mkRat t b).num.natAbs≤t.natAbs∧(mkRat t b).den≤b:=by
  rw [Rat.num_mkRat,Rat.den_mkRat,if_neg hb,if_neg hb]
  exact⟨Int.natAbs_ediv_le_natAbs _ _,Nat.div_le_self _ _⟩
theorem Sz.mk{n:Nat}{t:Int}{b:Nat}(hb:b≠0)(h1:t.natAbs < 2 ^ n)(h2:b < 2 ^ n):Sz n (mkRat t b):=by
  obtain⟨a1,a2⟩:=mk_le (t:=t) hb
  exact⟨by omega,by omega⟩
theorem zaH{a b m n:Nat}(h1:a < 2 ^ m)(h2:b < 2 ^ n):a*b < 2 ^ (m+n):=by
  rw [Nat.pow_add]
  exact Nat.mul_lt_mul'' h1 h2
theorem zhp(q:Rat):(q.den:Int)≠0:=by have:=q.den_nz;omega
theorem Sz.add{m n:Nat}{p q:Rat}(h1:Sz m p)(h2:Sz n q):Sz (m+n+1) (p+q):=by
  rw [Rat.add_def']
  refine Sz.mk (Nat.mul_ne_zero p.den_nz q.den_nz) ?_ ?_
  · have a1:=zaH h1.1 h2.2
    have a2:=zaH h2.1 h1.2
    rw [Nat.add_comm n m] at a2
    have a3:=Int.natAbs_add_le (p.num*q.den) (q.num*p.den)
    rw [Int.natAbs_mul,Int.natAbs_mul,Int.natAbs_natCast,Int.natAbs_natCast] at a3
    rw [Nat.pow_succ]
    omega
  · have:=zaH h1.2 h2.2
    rw [Nat.pow_succ]
    omega
theorem Sz.mul{m n:Nat}{p q:Rat}(h1:Sz m p)(h2:Sz n q):Sz (m+n) (p*q):=by
  rw [Rat.mul_def']
  refine Sz.mk (Nat.mul_ne_zero p.den_nz q.den_nz) ?_ ?_
  · rw [Int.natAbs_mul]
    exact zaH h1.1 h2.1
  · exact zaH h1.2 h2.2
theorem zed{q:Rat}(h:q≠0):q⁻¹.num.natAbs=q.den∧q⁻¹.den=q.num.natAbs:=by
  have hn:q.num≠0:=fun z=>h (Rat.num_eq_zero.mp z)
  rw [Rat.num_inv,Rat.den_inv,if_neg hn]
  refine⟨?_,rfl⟩
  rw [Int.natAbs_mul,Int.natAbs_natCast,Int.natAbs_sign_of_ne_zero hn,Nat.one_mul]
theorem Sz.div{m n:Nat}{p q:Rat}(h1:Sz m p)(h2:Sz n q)(h:q≠0):Sz (m+n) (p / q):=by
  rw [Rat.div_def]
  refine h1.mul ⟨?_,?_⟩
  · rw [(zed h).1];exact h2.2
  · rw [(zed h).2];exact h2.1
theorem Sz.int{n:Nat}{i:Int}(h:i.natAbs < 2 ^ n)(h0:1≤n):Sz n (i:Rat):=by
  unfold Sz
  rw [Rat.num_intCast,Rat.den_intCast]
  exact⟨h,Nat.one_lt_two_pow (by omega)⟩
theorem Sz.zero:Sz 1 0:=⟨by decide +kernel,by decide +kernel⟩
theorem zeq{t b:Int}(hb:0 < b):t.fdiv (Int.gcd t b:Int)=(Rat.divInt t b).num∧b.fdiv (Int.gcd t b:Int)=((Rat.divInt t b).den:Int):=by
  obtain⟨n,rfl⟩:∃ n:Nat,b=n:=⟨b.toNat,by omega⟩
  have hn:n≠0:=by omega
  have hg:Int.gcd t (n:Int)=n.gcd t.natAbs:=by
    show Nat.gcd t.natAbs (n:Int).natAbs=_
    rw [Int.natAbs_natCast,Nat.gcd_comm]
  rw [Rat.divInt_ofNat,Rat.num_mkRat,Rat.den_mkRat,if_neg hn,if_neg hn,hg]
  refine⟨Int.fdiv_eq_ediv_of_nonneg _ (by omega),?_⟩
  rw [Int.fdiv_eq_ediv_of_nonneg _ (by omega)]
  exact (Int.natCast_ediv _ _).symm
theorem ziG{t b:Int}(hb:b < 0):t.fdiv (-(Int.gcd t b:Int))=(Rat.divInt t b).num∧b.fdiv (-(Int.gcd t b:Int))=((Rat.divInt t b).den:Int):=by
  have h:=zeq (t:=-t) (b:=-b) (by omega)
  rw [Rat.neg_divInt_neg,Int.gcd_neg,Int.neg_gcd] at h
  have e1:(-t).fdiv (Int.gcd t b:Int)=t.fdiv (-(Int.gcd t b:Int)):=by
    have:=Int.neg_fdiv_neg (-t) (Int.gcd t b:Int)
    rw [Int.neg_neg] at this
    exact this.symm
  have e2:(-b).fdiv (Int.gcd t b:Int)=b.fdiv (-(Int.gcd t b:Int)):=by
    have:=Int.neg_fdiv_neg (-b) (Int.gcd t b:Int)
    rw [Int.neg_neg] at this
    exact this.symm
  rw [e1,e2] at h
  exact h
theorem add_eq(p q:Rat):Rat.divInt (p.num*q.den+q.num*p.den) (p.den*q.den)=p+q:=by
  rw [Rat.add_def',← Rat.divInt_ofNat,Int.natCast_mul]
theorem sub_eq(p q:Rat):Rat.divInt (p.num*q.den - q.num*p.den) (p.den*q.den)=p - q:=by
  rw [Rat.sub_def',← Rat.divInt_ofNat,Int.natCast_mul]
theorem mul_eq(p q:Rat):Rat.divInt (p.num*q.num) (p.den*q.den)=p*q:=by
  rw [Rat.mul_def',← Rat.divInt_ofNat,Int.natCast_mul]
theorem vD(p:Rat):(p.num:Rat) / (p.den:Int)=p:=by
  rw [← Rat.divInt_eq_div,Rat.divInt_ofNat,Rat.mkRat_self]
theorem y9{i:Int}(h:i≠0):(i:Rat)≠0:=fun z=>h (by have:=congrArg Rat.num z;rw [Rat.num_intCast] at this;exact this)
theorem div_eq(p q:Rat)(h:q≠0):Rat.divInt (p.num*q.den) (p.den*q.num)=p / q:=by
  have hn:q.num≠0:=fun z=>h (Rat.num_eq_zero.mp z)
  have h1:=y9 (zhp p)
  have h2:=y9 (zhp q)
  have h3:=y9 hn
  rw [Rat.divInt_eq_div,Rat.intCast_mul,Rat.intCast_mul]
  conv=>rhs;rw [← vD p,← vD q]
  grind
theorem lt_eq(p q:Rat):decide (p.num*q.den < q.num*p.den)=decide (p < q):=by rw [decide_eq_decide];exact (Rat.lt_iff p q).symm
theorem zdP(n:Int):D.tup [.int n,.int 1]=dQ (n:Rat):=by
  unfold dQ
  rw [Rat.num_intCast,Rat.den_intCast]
  rfl
theorem zdQ:D.tup [.int 0,.int 1]=dQ 0:=zdP 0
theorem zko:D.tup [.int 1,.int 1]=dQ 1:=zdP 1
def jT:List Rat→Rat
  | []=>0
  | q::l=>q+jT l
theorem zcG(l m:List Rat):jT (l++m)=jT l+jT m:=by
  induction l with
  | nil=>simp [jT,Rat.zero_add]
  | cons q l ih=>simp only [List.cons_append,jT,ih,Rat.add_assoc]
theorem zfo(l:List Rat)(q:Rat):jT (l++[q])=jT l+q:=by rw [zcG];simp [jT,Rat.add_zero]
def SzL(qs:List Rat):Prop:=∃ m,(∀ q∈qs,Sz m q)∧1+qs.length*(m+1)≤2900
theorem Sz.sum{m:Nat}:∀ {qs:List Rat},(∀ q∈qs,Sz m q)→Sz (1+qs.length*(m+1)) (jT qs)
  | [],_=>by simpa [jT] using Sz.zero
  | q::l,h=>by
    have a:=(h q List.mem_cons_self).add (Sz.sum fun x hx=>h x (List.mem_cons_of_mem _ hx))
    unfold jT
    refine a.mono ?_
    rw [List.length_cons,Nat.add_mul]
    omega
theorem SzL.sum{qs:List Rat}(h:SzL qs):Sz 2900 (jT qs):=by
  obtain⟨m,h1,h2⟩:=h
  exact (Sz.sum h1).mono h2
theorem SzL.pre{pre post:List Rat}(h:SzL (pre++post)):SzL pre:=by
  obtain⟨m,h1,h2⟩:=h
  refine⟨m,fun q hq=>h1 q (List.mem_append_left _ hq),Nat.le_trans (Nat.add_le_add_left (Nat.mul_le_mul_right _ ?_) _) h2⟩
  rw [List.length_append]
  omega
theorem SzL.mem{qs:List Rat}{q:Rat}(h:SzL qs)(hq:q∈qs):Sz 2900 q:=by
  obtain⟨m,h1,h2⟩:=h
  refine (h1 q hq).mono ?_
  have h3:1≤qs.length:=List.length_pos_of_mem hq
  have:=Nat.mul_le_mul_right (m+1) h3
  omega
theorem SzL.sub{qs rs:List Rat}(h:SzL qs)(hs:∀ q∈rs,q∈qs)(hl:rs.length≤qs.length):SzL rs:=by
  obtain⟨m,h1,h2⟩:=h
  exact⟨m,fun q hq=>h1 q (hs q hq),Nat.le_trans (Nat.add_le_add_left (Nat.mul_le_mul_right _ hl) _) h2⟩
theorem zaG{i j:Int}{m n:Nat}(h1:intBits i≤m)(h2:intBits j≤n)(hm:m≤60000000:=by decide)(hn:n≤60000000:=by decide):zhU i j:=⟨Nat.le_trans h1 hm,Nat.le_trans h2 hn⟩
theorem bits_le{i:Int}{n:Nat}(h:i.natAbs < 2 ^ n):intBits i≤n:=intBits_le_iff.mpr h
theorem zb8{x y:Nat}:Nat.gcd y (x % y)=Nat.gcd x y:=by
  rw [Nat.gcd_comm y (x % y),← Nat.gcd_rec,Nat.gcd_comm]
end L2.DL
namespace L2.DL
open PySem PySem.Spec PyProof.Rows
theorem qQ{X:Cx}{scope:Scope}{x:Str}(sc:Scope)(NN N':List Str)(caps:List Nat)(hX:X.env.scope=sc)(hN:X.N=NN)(nd:N'.Nodup)(n0:N'[0]?=some x)(len:N'.length=caps.length+1)(cap:∀ p∈caps.zip N'.tail,NN[p.1]?=some p.2)
    (capf:∀ y∈N'.tail,scope.names.lookup y=some .free) (nocell:∀ y∈scope.names,y.2≠.cell) (kind:scope.kind=.function) (names:∀ y∈scope.names,y.2=.local→scope.names.lookup y.1=some .local) (loc:scope.names.lookup x=some .local)
    (free:∀ y∈scope.names,y.2=.free→sc.names.lookup y.1=some .cell∨sc.names.lookup y.1=some .free):jk X scope x N' caps:=by
  refine⟨nd,n0,len,fun j i y h1 h2=>?_,fun j y h=>capf y ?_,nocell,kind,names,loc,fun y hy hf=>?_⟩
  · rw [hN]
    refine cap (i,y) ?_
    have h2':N'.tail[j]?=some y:=by rw [List.getElem?_tail];exact h2
    exact List.mem_of_getElem? (i:=j) (by rw [List.getElem?_zip_eq_some];exact⟨h1,h2'⟩)
  · have h':N'.tail[j]?=some y:=by rw [List.getElem?_tail];exact h
    exact List.mem_of_getElem? h'
  · have:=free y hy hf
    rw [← hX] at this
    exact this
def jz:List Str→List D→En
  | [],_=>[]
  | _::N,[]=>none::jz N []
  | _::N,d::ds=>some (.sh d)::jz N ds
theorem yZ:∀ N:List Str,jz N []=List.replicate N.length none
  | []=>rfl
  | n::N=>by unfold jz;rw [yZ N];rfl
theorem jA:∀ (N:List Str) (ds:List D),ds.length≤N.length→jz N ds=jh N ds
  | N,[],_=>by rw [yZ];unfold jh;simp
  | [],d::ds,h=>by simp at h
  | n::N,d::ds,h=>by
    unfold jz
    rw [jA N ds (by simpa using h)]
    unfold jh
    simp
section
variable {P:Program}{w:World}{K:PySem.W.Frag}{mg:Str→Option Value}{base:Heap}{C:Addr}
theorem FnScope.le{N ps:List Str}{sc:Scope}(S:FnScope N ps sc):ps.length≤N.length:=by
  have:=congrArg List.length S.pre
  rw [List.length_take] at this
  omega
theorem xW{x qual:Str}{st:Stmt}{f:Addr}{fd:FuncData}{N ps:List Str}{k:Nat}{T:List D→(D→Prop)→Prop}(F:Fun K x qual st f fd)(Sc:FnScope N ps (zc st))(len:∀ ds Q,T ds Q→ds.length=ps.length)
    (hbody:∀ (cdv:Value) (A:Around) (outer:List Env) (s:Shared) (H:Hp) (E:XK),ji k (A.deeper (envOfC qual (zc st) s.heap.objs.size f cdv)) →
      ∃ t,DSs C (zdI CX0 P w K mg base N qual (zc st) f cdv A outer s H E).nox (zm st) t∧∀ ds Q,T ds Q→t { nx:=fun _=>Q .non,rt:=Q } (jz N ds)):qr P w K mg base CX0 (k+1) f fd ps (spD K C T) :=
  znK F Sc len fun cdv A outer s H E hr=>by
    obtain⟨t,h1,h2⟩:=hbody cdv A outer s H E hr
    refine⟨t,h1,fun ds Q hT=>?_⟩
    rw [← jA N ds (by rw [len ds Q hT];exact FnScope.le Sc)]
    exact h2 ds Q hT
theorem zij{x qual:Str}{st:Stmt}{f:Addr}{fd:FuncData}{N ps:List Str}{k:Nat}{T:List D→(List D→Prop)→Prop}(F:Fun K x qual st f fd)(Sc:FnScope N ps (zc st))(len:∀ ds Q,T ds Q→ds.length=ps.length)
    (hbody:∀ (cdv:Value) (A:Around) (outer:List Env) (s:Shared) (H:Hp) (E:XK),ji k (A.deeper (envOfC qual (zc st) s.heap.objs.size f cdv)) →
      ∃ t,DSs C (zdI CX0 P w K mg base N qual (zc st) f cdv A outer s H E).nox (zm st) t∧∀ ds Q,T ds Q→t { nx:=fun _=>False,rt:=fun _=>False,rf:=Q } (jz N ds)):qr P w K mg base CX0 (k+1) f fd ps (spF K C T) :=
  znL F Sc len fun cdv A outer s H E hr=>by
    obtain⟨t,h1,h2⟩:=hbody cdv A outer s H E hr
    refine⟨t,h1,fun ds Q hT=>?_⟩
    rw [← jA N ds (by rw [len ds Q hT];exact FnScope.le Sc)]
    exact h2 ds Q hT
end
end L2.DL
namespace L2.DL
open PySem PySem.Spec PyProof.Rows
open Builtin.Int (intBits)
abbrev TD:=List D→(D→Prop)→Prop
abbrev TF:=List D→(List D→Prop)→Prop
abbrev Plan:=List (List Int×Rat)
def dG(g:List Int):D:=.tup (g.map D.int)
def dPh(ph:List Int×Rat):D:=.tup [dG ph.1,dQ ph.2]
def zf0(pl:Plan):D:=.lst (pl.map dPh)
def cellAt(ns:List Int)(k:Int):Int:=ns.getD k.toNat 0
def zhB(pl:Plan):List Rat:=pl.map fun ph=>ph.2
def tot(pl:Plan):Rat:=jT (zhB pl)
def tCd:TD:=fun ds Q=>∃ a b:Nat,ds=[.int a,.int b]∧Q (.int (Nat.gcd a b:Nat))
def yq:TD:=fun ds Q=>∃ t b:Int,ds=[.int t,.int b]∧b≠0∧intBits b≤8000∧Q (dQ (Rat.divInt t b))
def zj8:TD:=fun ds Q=>∃ t b:Int,ds=[.int t,.int b]∧0 < b∧intBits b≤8000∧Q (dQ (Rat.divInt t b))
def zjQ:TD:=fun ds Q=>∃ p q:Rat,ds=[dQ p,dQ q]∧Sz 3000 p∧Sz 3000 q∧Q (dQ (p+q))
def zfu:TD:=fun ds Q=>∃ p q:Rat,ds=[dQ p,dQ q]∧Sz 3000 p∧Sz 3000 q∧Q (dQ (p - q))
def zfw:TD:=fun ds Q=>∃ p q:Rat,ds=[dQ p,dQ q]∧Sz 3000 p∧Sz 3000 q∧Q (dQ (p*q))
def zg8:TD:=fun ds Q=>∃ p q:Rat,ds=[dQ p,dQ q]∧Sz 3000 p∧Sz 3000 q∧q≠0∧Q (dQ (p / q))
def yH:TD:=fun ds Q=>∃ p q:Rat,ds=[dQ p,dQ q]∧Sz 3000 p∧Sz 3000 q∧Q (.bl (decide (p < q)))
def zcH:TD:=fun ds Q=>∃ qs:List Rat,ds=[.lst (qs.map dQ)]∧SzL qs∧Q (dQ (jT qs))
def zfx:TD:=fun ds Q=>∃ n:Int,ds=[.int n]∧Q (dQ (n:Rat))
def zgu(pl:Plan)(s:Int):Plan:=pl.filter fun ph=>decide (s∈ph.1)
def zfr:TD:=fun ds Q=>∃ (ns:List Int) (k:Int),ds=[.scr ns,.int k]∧0≤k∧Q (.int (cellAt ns k))
def kn:TD:=fun ds Q=>∃ i:Int,ds=[.int i]∧Q (.bl true)
def zg6:TD:=fun ds Q=>∃ p:Rat,ds=[dQ p,dQ p]∧Q (.bl true)
def xJ(n:Int)(k:Nat):List Int:=((List.range k).filter fun (i:Nat)=>n / 2 ^ i % 2 == 1).map Int.ofNat
def zjM:TD:=fun ds Q=>∃ (n:Int) (k:Nat),ds=[.int n,.int k]∧k≤63∧Q (dG (xJ n k))
def znF:TD:=fun ds Q=>∃ ns:List Int,ds=[.scr ns]∧ns.length≤63∧Q (.bl true)
def zfk(K:PySem.W.Frag):Sp:=fun vs H Q _=>∃ (a:Addr) (ns:List Int),vs=[.ref a]∧SqL K H a (ns.map V.int)∧ns.length≤63∧∀ H',Q (.bl true) H'
theorem zek{K:PySem.W.Frag}{H:Hp}{a:Addr}{ns:List Int}(hl:ns.length≤63)(hS:SqL K H a (ns.map V.int)):zfk K [.ref a] H (fun v _=>v=.bl true) fun _ _ _=>False:=⟨a,ns,rfl,hS,hl,fun _=>rfl⟩
theorem ziE{P:Program}{w:World}{K:PySem.W.Frag}{mg:Str→Option Value}{base:Heap}{k:Nat}{f:Addr}{fd:FuncData}{ps:List Str}{C:Addr}(h:qr P w K mg base CX0 k f fd ps (spD K C znF)):qr P w K mg base CX0 k f fd ps (zfk K) :=
  h.imp fun vs H Q E ⟨a,ns,e,hS,hl,q⟩=>by
    subst e
    refine⟨fun _=>False,[.scr ns],fun d=>d=.bl true,fun _ z=>z.elim,zQ ?_ repA_nil,⟨ns,rfl,hl,rfl⟩,fun d hd v H' _ r=>?_⟩
    · have e:less H (fun _=>False)=H:=by
        funext b
        unfold less
        rw [if_neg (fun z=>z)]
      rw [e]
      unfold Rep
      exact⟨a,rfl,hS⟩
    · subst hd
      unfold Rep at r
      subst r
      exact q H'
theorem ze0{q:Rat}{Q:D→Prop}:rdIx (dQ q) (.int 0) Q=Q (.int q.num):=rfl
theorem ze1{q:Rat}{Q:D→Prop}:rdIx (dQ q) (.int 1) Q=Q (.int (q.den:Int)):=rfl
theorem zjr{ph:List Int×Rat}{Q:D→Prop}:rdIx (dPh ph) (.int 0) Q=Q (dG ph.1):=rfl
theorem zjs{ph:List Int×Rat}{Q:D→Prop}:rdIx (dPh ph) (.int 1) Q=Q (dQ ph.2):=rfl
theorem jr{n:Nat}(ih:∀ d:D,ok n d=true→eqD d d=true):∀ l:List D,l.all (ok n)=true→PyData.eqvAll (pys l) (pys l)=true
  | [],_=>rfl
  | d::l,h=>by
    rw [List.all_cons,Bool.and_eq_true] at h
    unfold pys PyData.eqvAll
    rw [jr ih l h.2]
    have:=ih d h.1
    unfold eqD at this
    rw [this]
    rfl
theorem vh:∀ (n:Nat) (d:D),ok n d=true→eqD d d=true
  | _,.non,_=>by unfold eqD py PyData.eqv;rfl
  | _,.bl _,_=>by unfold eqD py PyData.eqv;simp
  | _,.int _,_=>by unfold eqD py PyData.eqv;simp
  | _,.str _,_=>by unfold eqD py PyData.eqv;simp
  | n+1,.tup l,h=>by
    unfold ok at h
    unfold eqD py PyData.eqv
    exact jr (vh n) l h
  | n+1,.lst l,h=>by
    unfold ok at h
    unfold eqD py PyData.eqv
    exact jr (vh n) l h
  | 0,.tup l,h=>by unfold ok at h;cases h
  | 0,.lst l,h=>by unfold ok at h;cases h
  | 0,.scr l,h=>by unfold ok at h;cases h
  | 0,.crs _ _,h=>by unfold ok at h;cases h
  | 0,.ty _,h=>by unfold ok at h;cases h
  | 0,.cls _,h=>by unfold ok at h;cases h
  | n+1,.scr l,h=>by unfold ok at h;cases h
  | n+1,.crs _ _,h=>by unfold ok at h;cases h
  | n+1,.ty _,h=>by unfold ok at h;cases h
  | n+1,.cls _,h=>by unfold ok at h;cases h
theorem wI{n:Nat}(ns:List Int):(ns.map D.int).all (ok n)=true:=by
  induction ns with
  | nil=>rfl
  | cons i ns ih=>rw [List.map_cons,List.all_cons,ih];cases n <;> rfl
theorem zl4{n:Nat}(g:List Int):ok (n+1) (dG g)=true:=by unfold dG ok;exact wI g
theorem ziR{n:Nat}(q:Rat):ok (n+1) (dQ q)=true:=wI (n:=n) [q.num,q.den]
theorem zkD(p q:Rat):eqD (dQ p) (dQ q)=decide (p=q):=by
  have e:eqD (dQ p) (dQ q)=((p.num == q.num) && (((p.den:Int) == (q.den:Int)) && true)):=rfl
  rw [e,Bool.eq_iff_iff,Bool.and_true,Bool.and_eq_true,beq_iff_eq,beq_iff_eq,decide_eq_true_eq]
  exact⟨fun h=>Rat.ext h.1 (by omega),fun h=>by rw [h];exact⟨rfl,rfl⟩⟩
theorem zit {i:Int}:zfK (.int i) "int" = some true:=rfl
theorem zis {i:Int}:zfK (.int i) "bool" = some false:=rfl
theorem zir {i:Bool}:zfK (.bl i) "bool" = some true:=rfl
theorem ziq {q:Rat}:zfK (dQ q) "tuple" = some true:=rfl
theorem zio {g:List Int}:zfK (dG g) "tuple" = some true:=rfl
theorem ziv {l:List D}:zfK (.tup l) "tuple" = some true:=rfl
theorem ziu {l:List D}:zfK (.lst l) "list" = some true:=rfl
theorem zjn{q:Rat}{Q:D→Prop}:zdd [dQ q] Q=Q (.int 2):=rfl
theorem zjm{g:List Int}{Q:D→Prop}:zdd [dG g] Q=Q (.int g.length):=by unfold zdd dG;simp only [List.length_map]
theorem zlD{g:List Int}{i:Int}{Q:D→Prop}:zfL id (.int i) (dG g) Q↔Q (.bl (decide (i∈g))):=by
  unfold zfL dG
  simp only [v9,xK,id,true_and]
theorem ze4{g:List Int}{i:Int}{Q:D→Prop}:zfL not (.int i) (dG g) Q↔Q (.bl (!decide (i∈g))):=by
  unfold zfL dG
  simp only [v9,xK,true_and]
theorem zgN{ns:List Int}{k:Int}{Q:D→Prop}(h0:0≤k)(h:k < ns.length):rdIx (.scr ns) (.int k) Q=Q (.int (cellAt ns k)):=by
  have e:atI ns k=some (cellAt ns k):=by
    unfold atI ixN cellAt
    rw [if_pos h0,if_pos h]
    show ns[k.toNat]?=_
    rw [List.getD_eq_getElem?_getD,List.getElem?_eq_getElem (by omega)]
    rfl
  unfold rdIx
  simp only [e]
theorem cell_out{ns:List Int}{k:Int}(h:¬ k < ns.length):cellAt ns k=0:=by
  unfold cellAt
  rw [List.getD_eq_getElem?_getD,List.getElem?_eq_none (by omega)]
  rfl
theorem qF{α:Type}{g:α→D}(xs:List α):xs.filterMap (fun x=>some (g x))=xs.map g:=by
  induction xs with
  | nil=>rfl
  | cons x xs ih=>rw [List.filterMap_cons_some (f:=fun x=>some (g x)) (b:=g x) rfl,ih];rfl
theorem zd3{α:Type}{g:α→D}{p:α→Bool}(xs:List α):xs.filterMap (fun x=>if p x=true then some (g x) else none)=(xs.filter p).map g:=by
  induction xs with
  | nil=>rfl
  | cons x xs ih =>
    by_cases h:p x=true
    · rw [List.filterMap_cons_some (by rw [if_pos h]),List.filter_cons_of_pos h,ih];rfl
    · rw [List.filterMap_cons_none (by rw [if_neg h]),List.filter_cons_of_neg h,ih]
theorem qa{k:Nat}{pre post:List Nat}{x:Nat}(h:List.range k=pre++x::post):x=pre.length∧x < k∧pre=List.range x:=by
  have hl:=congrArg List.length h
  rw [List.length_range,List.length_append,List.length_cons] at hl
  have hx:(List.range k)[pre.length]?=some x:=by rw [h,List.getElem?_append_right (Nat.le_refl _),Nat.sub_self];rfl
  rw [List.getElem?_range (by omega)] at hx
  cases hx
  refine⟨rfl,by omega,?_⟩
  have:=congrArg (List.take pre.length) h
  rw [List.take_left,List.take_range,Nat.min_eq_left (by omega)] at this
  exact this.symm
theorem kr(n:Int)(i:Nat):xJ n (i+1)=xJ n i++if n / 2 ^ i % 2=1 then [(i:Int)] else []:=by
  unfold xJ
  rw [List.range_succ,List.filter_append,List.map_append]
  congr 1
  by_cases h:n / 2 ^ i % 2=1
  · rw [if_pos h,List.filter_cons_of_pos (by simpa using h)];rfl
  · rw [if_neg h,List.filter_cons_of_neg (by simpa using h)];rfl
theorem zd8(n:Int)(i:Nat):n / 2 ^ i / 2=n / 2 ^ (i+1):=by
  rw [Int.ediv_ediv_of_nonneg (Int.pow_nonneg (by decide)),Int.pow_succ]
end L2.DL
namespace L2
open PySem PySem.Spec PyProof.Rows
section
variable {X:Cx}{pins:List (Addr×Obj)}{σ:St}{H:Hp}{s:Shared}{h':Heap}
theorem Inv.turnedL{t':Nat}{ch:List Addr}(I:Inv X pins σ H s)(k:∀ b o,b∉ch→s.heap.get? b=some o→h'.get? b=some o)(hf:∀ b∈ch,vT X pins H b):Inv X pins σ H { s with heap:=h',toks:=t' }:=by
  have nit:∀ b u,H b=some u→b∉ch:=fun b u e z=>by rw [(hf b z).1] at e;cases e
  have hL:X.env.locals∉ch:=fun z=>(hf _ z).2.1 rfl
  refine I.step (g':=s.gens) (d':=s.drawn) (ch:=ch) (fun b hb=>?_) (fun b o _ _ hc e _=>k b o hc e) (fun b o _ _ hc e _=>⟨o.slots,k b o hc e⟩) (fun _ _ _ _ n=>n)
    (fun b o hc e=>⟨o,k b o hc e⟩) (fun _ _ e=>e) (fun _ _ _ e=>e) (fun b ps e=>⟨#[],by rw [e];simp⟩) (fun m hm=>?_) (fun b u e=>?_) I.bare
  · obtain⟨_,h1,_,h2,h3,h4⟩:=hf b hb
    exact⟨h2,h1,h3,h4⟩
  · obtain⟨o,es,ep,ho,r⟩:=hm
    exact⟨o,es,ep,k _ o hL ho,r⟩
  · refine (I.hok b u e).stay (fun c v hc q=>k c v ?_ q) (fun _ q=>q) fun _ _ q=>q
    rcases hc with z | z
    · rw [z];exact nit b u e
    · exact nit c _ z
end
def Ite(K:PySem.W.Frag)(a:Addr):It :=
  ⟨fun i H=>∃ xs x,SqL K H a xs∧xs[i]?=some x,fun i H x H'=>∃ p v,H p=none∧x=.ref p∧H'=upd H p (.tup [.int i,v])∧∀ xs,SqL K H a xs→xs[i]?=some v,fun i H=>∃ xs,SqL K H a xs∧xs.length≤i⟩
theorem Inv.pair{X:Cx}{pins:List (Addr×Obj)}{σ:St}{H:Hp}{s:Shared}{h2:Heap}{t':Nat}{ch:List Addr}{x y:V}{u v:Value}(I:Inv X pins σ H s)(hf:∀ b∈ch,vT X pins H b)(ho:∀ b∈ch,∃ o,s.heap.get? b=some o)
    (rx:RelV x u) (ry:RelV y v) (ht:h2.get? s.heap.objs.size=some { cls:=.type "tuple",data:=.seq #[u,v] }) (hk:∀ b o,b∉ch→s.heap.get? b=some o→h2.get? b=some o) :
    Inv X pins σ (upd H s.heap.objs.size (.tup [x,y])) { s with heap:=h2,toks:=t' }:=by
  have hn:H s.heap.objs.size=none:=I.hok.fresh (Nat.le_refl _)
  have I1:Inv X pins σ (upd H s.heap.objs.size (.tup [x,y])) { s with heap:=s.heap.push { cls:=.type "tuple",data:=.seq #[u,v] } }:=by
    refine I.laid (t':=s.toks) (fun b o e=>Heap.get?_push_of_some _ e) (Nat.le_refl _) ⟨by show 2≤sizeLine;decide,[u,v],.cons rx (.cons ry .nil),?_⟩
    exact⟨_,Heap.get?_push_size s.heap rfl,rfl,0,rfl⟩
  have hne:∀ b∈ch,b≠s.heap.objs.size:=fun b hb z=>by
    obtain⟨o,e⟩:=ho b hb
    have:=Heap.lt_size e
    rw [z] at this
    exact Nat.lt_irrefl _ this
  refine Inv.turnedL (s:={ s with heap:=s.heap.push { cls:=.type "tuple",data:=.seq #[u,v] } }) (h':=h2) (t':=t') (ch:=ch) I1 (fun b o hb e=>?_) (fun b hb=>?_)
  · have e':(s.heap.push { cls:=.type "tuple",data:=.seq #[u,v] }).get? b=some o:=e
    rcases Heap.get?_push_cases e' with ⟨q,rfl⟩ | g
    · rw [q]
      exact ht
    · exact hk b o hb g
  · obtain⟨f0,f1⟩:=hf b hb
    exact⟨by rw [zu (hne b hb)];exact f0,f1⟩
theorem zfC{P:Program}{w:World}{K:PySem.W.Frag}{elts:List Expr}{k:Nat}{pos:Pos}(a e it:Addr)(hne:e≠it):Turn P w K (.Tuple elts k pos) (Ite K a) [e,it] e (fun i h=>(∃ old,IsEnum h e it i old)∧h.IsListIter it a i) where
  mem:=by simp
  obj:=fun i h st b hb=>by
    obtain⟨⟨old,st1⟩,o,e1,c,d⟩:=st
    have hb':b=e∨b=it:=by simpa using hb
    rcases hb' with rfl | rfl
    · exact⟨_,st1,fun v z=>by cases z⟩
    · exact⟨o,e1,fun v z=>by rw [d] at z;cases z⟩
  keep:=fun i h h' st kk=>⟨let ⟨old,q⟩:=st.1;⟨old,kk e (by simp) _ q⟩,st.2.at fun o q=>kk it (by simp) o q⟩
  item:=by
    intro X hP hw hK hc i pins s σ H E I hf st hg
    subst hP hw hK
    obtain⟨xs,x,hq,hx⟩:=hg
    obtain⟨its,rv,p,hz⟩:=I.list hq
    obtain⟨u,hu,ru⟩:=rv.get hx
    obtain⟨⟨old,st1⟩,st2⟩:=st
    refine wpAny_pyNext_enum_item st1 st2 p.isList (x:=u) (by simpa using hu) hne fun h1 heo hit1 ht1 hz1 hk1=>?_
    refine⟨_,rfl,wpAny_letOwnedTupleGo_enum heo fun h2 he2 hs2=>?_⟩
    have hel:e < s.heap.objs.size:=Heap.lt_size st1
    have ho:∀ b∈[e,it],∃ o,s.heap.get? b=some o:=fun b hb=>by
      have hb':b=e∨b=it:=by simpa using hb
      rcases hb' with rfl | rfl
      · exact⟨_,st1⟩
      · obtain⟨o,q,_⟩:=st2;exact⟨o,q⟩
    have hfr:∀ b∈[e,it],b≠s.heap.objs.size:=fun b hb z=>by
      obtain⟨o,q⟩:=ho b hb
      have:=Heap.lt_size q
      rw [z] at this
      exact Nat.lt_irrefl _ this
    refine⟨.ref s.heap.objs.size,_,Inv.pair (s:=s) (h2:=h2) (t':=s.toks+1) (ch:=[e,it]) I (x:=.int i) (y:=x) (u:=.int i s.toks) (v:=u) hf ho ⟨_,rfl⟩ ru ?_ ?_,rfl,⟨s.heap.objs.size,x,I.hok.fresh (Nat.le_refl _),rfl,rfl,fun ys hy=>by rw [I.list_inj hy hq];exact hx⟩,⟨⟨u,?_⟩,hit1.extBut hs2.extBut (Ne.symm hne)⟩,fun b hb=>?_⟩
    · exact hs2.extBut _ _ (Nat.ne_of_gt hel) ht1
    · intro b o hb q
      have hb1:b≠e:=fun z=>hb (by simp [z])
      have hb2:b≠it:=fun z=>hb (by simp [z])
      exact hs2.extBut b o hb1 (hk1 b o hb1 hb2 q)
    · rw [show ((i+1:Nat):Int)=(i:Int)+1 by omega]
      exact he2
    · rw [zu (hfr b hb)]
      exact (hf b hb).1
  done:=by
    intro X hP hw hK hc i pins s σ H E I hf st hg
    subst hP hw hK
    obtain⟨xs,hq,hx⟩:=hg
    obtain⟨its,rv,p,hz⟩:=I.list hq
    have hl:=rv.length
    obtain⟨⟨old,st1⟩,st2⟩:=st
    exact wpAny_pyNext_enum_end (I.ok.hd hc) st1 st2 p.isList (by simp;omega) fun h' eb=>⟨rfl,I.turnedL (t':=s.toks) (ch:=[e,it]) (fun b o hb q=>eb b o (fun z=>hb (by simp [z])) q) hf⟩
  self:=fun _ _ _ _ _ st h=>wpAny_pyIter_enum st.1.choose_spec h
section
variable {X:Cx}{tg a b:Expr}{pos:Pos}
def zmn(K:PySem.W.Frag)(ta:TA):TI:=fun σ H R=>ta σ H fun vs H1=>∃ a,vs=[.ref a]∧(∃ xs,SqL K H1 a xs)∧R (Ite K a) H1
theorem zjb {elts:List Expr} {k:Nat} {tp p:Pos} {ta:TA} (hg:Gl X "enumerate") (hm:X.mg "enumerate" = none) (ha:PA X [a] ta) (hs:starEach [a] X.env=[(false,eval a X.env)]:=by rfl):PI X (.Tuple elts k tp) (.Call (.Name "enumerate" p) [a] [] pos) (zmn X.K ta):=by
  intro pins s σ H R I h
  refine Call_ (jg I hg hm boot_enumerate (PyProof.Rows.callWith_type1 (thn (ha pos pins s σ H _ I h) fun us s1 ⟨vs,H1,I1,r1,q1⟩=>?_) hs rfl))
  obtain⟨l,e,⟨xs,hq⟩,q⟩:=q1
  subst e
  obtain⟨u,rfl,ru⟩:=vals1 r1
  cases ru
  obtain⟨its,rv,pl,hz⟩:=I1.list hq
  refine call_enumerate_list pl.isList fun h1 hE hI hsz hk=>?_
  refine wpAny_pyIter_enum hE ?_
  have I2:Inv X pins σ H1 { s1 with heap:=h1 }:=I1.kept (t':=s1.toks) hk
  refine⟨s1.heap.objs.size+1,[s1.heap.objs.size+1,s1.heap.objs.size],_,_,H1,rfl,I2,zfC l _ _ (Nat.succ_ne_self _),⟨⟨_,hE⟩,hI⟩,fun b hb=>?_,q⟩
  have hb':b=s1.heap.objs.size+1∨b=s1.heap.objs.size:=by simpa using hb
  have hle:s1.heap.objs.size≤b:=by rcases hb' with rfl | rfl <;> omega
  exact I1.fpOk hle (I1.hok.fresh hle)
end
def Itz(K:PySem.W.Frag)(a b:Addr):It :=
  ⟨fun i H=>∃ xs ys x y,SqL K H a xs∧SqL K H b ys∧xs[i]?=some x∧ys[i]?=some y,fun i H x H'=>∃ p v w,H p=none∧x=.ref p∧H'=upd H p (.tup [v,w])∧∀ xs ys,SqL K H a xs→SqL K H b ys→xs[i]?=some v∧ys[i]?=some w,
    fun i H=>∃ xs ys,SqL K H a xs∧SqL K H b ys∧(xs.length≤i∨ys.length≤i)⟩
theorem zhe{P:Program}{w:World}{K:PySem.W.Frag}{elts:List Expr}{k:Nat}{pos:Pos}(l1 l2 z TI TO i1 i2:Addr)(D:ZipApart z TI TO i1 i2 l1 l2):Turn P w K (.Tuple elts k pos) (Itz K l1 l2) [z,TI,TO,i1,i2] z
    (fun i h=>IsZip h z TI TO .none∧IsPair h TI (.ref i1) (.ref i2)∧(∃ a b,IsPair h TO a b)∧h.IsListIter i1 l1 i∧h.IsListIter i2 l2 i) where
  mem:=by simp
  obj:=fun i h st b hb=>by
    obtain⟨s1,s2,⟨_,_,s3⟩,⟨o4,e4,c4,d4⟩,⟨o5,e5,c5,d5⟩⟩:=st
    have hb':b=z∨b=TI∨b=TO∨b=i1∨b=i2:=by simpa using hb
    rcases hb' with rfl | rfl | rfl | rfl | rfl
    · exact⟨_,s1,fun v q=>by cases q⟩
    · exact⟨_,s2,fun v q=>by cases q⟩
    · exact⟨_,s3,fun v q=>by cases q⟩
    · exact⟨o4,e4,fun v q=>by rw [d4] at q;cases q⟩
    · exact⟨o5,e5,fun v q=>by rw [d5] at q;cases q⟩
  keep:=fun i h h' st kk=>by
    obtain⟨s1,s2,⟨a,b,s3⟩,s4,s5⟩:=st
    exact⟨kk z (by simp) _ s1,kk TI (by simp) _ s2,⟨a,b,kk TO (by simp) _ s3⟩,s4.at fun o q=>kk i1 (by simp) o q,s5.at fun o q=>kk i2 (by simp) o q⟩
  item:=by
    intro X hP hw hK hc i pins s σ H E I hf st hg
    subst hP hw hK
    obtain⟨xs,ys,x,y,hq1,hq2,hx,hy⟩:=hg
    obtain⟨its,rv,p,_⟩:=I.list hq1
    obtain⟨jts,rw',p',_⟩:=I.list hq2
    obtain⟨u,hu,ru⟩:=rv.get hx
    obtain⟨v,hv,rv2⟩:=rw'.get hy
    obtain⟨s1,s2,⟨a,b,s3⟩,s4,s5⟩:=st
    refine wpAny_pyNext_zip_item D s1 s2 s3 s4 s5 p.isList p'.isList (x:=u) (y:=v) (by simpa using hu) (by simpa using hv) fun h1 a1 a2 a3 a4 a5 a6 hk1=>?_
    refine⟨_,rfl,wpAny_letOwnedTupleGo_zip a1 fun h2 hz2 hs2=>?_⟩
    have hel:z < s.heap.objs.size:=Heap.lt_size s1
    have ho:∀ b∈[z,TI,TO,i1,i2],∃ o,s.heap.get? b=some o:=fun b hb=>by
      have hb':b=z∨b=TI∨b=TO∨b=i1∨b=i2:=by simpa using hb
      rcases hb' with rfl | rfl | rfl | rfl | rfl
      · exact⟨_,s1⟩
      · exact⟨_,s2⟩
      · exact⟨_,s3⟩
      · obtain⟨o,q,_⟩:=s4;exact⟨o,q⟩
      · obtain⟨o,q,_⟩:=s5;exact⟨o,q⟩
    have hfr:∀ b∈[z,TI,TO,i1,i2],b≠s.heap.objs.size:=fun b hb z=>by
      obtain⟨o,q⟩:=ho b hb
      have:=Heap.lt_size q
      rw [z] at this
      exact Nat.lt_irrefl _ this
    refine⟨.ref s.heap.objs.size,_,Inv.pair (s:=s) (h2:=h2) (t':=s.toks) (ch:=[z,TI,TO,i1,i2]) I (x:=x) (y:=y) (u:=u) (v:=v) hf ho ru rv2 ?_ ?_,rfl,⟨s.heap.objs.size,x,y,I.hok.fresh (Nat.le_refl _),rfl,rfl,fun xs' ys' h1 h2=>?_⟩,
      ⟨hz2,hs2.extBut _ _ D.TIz (hk1 _ _ D.TIz D.TITO D.TIi1 D.TIi2 s2),⟨u,v,hs2.extBut _ _ D.TOz a2⟩,a3.extBut hs2.extBut D.i1z,a4.extBut hs2.extBut D.i2z⟩,fun b hb=>?_⟩
    · exact hs2.extBut _ _ (Nat.ne_of_gt hel) a5
    · intro b o hb q
      exact hs2.extBut b o (fun z=>hb (by simp [z])) (hk1 b o (fun z=>hb (by simp [z])) (fun z=>hb (by simp [z])) (fun z=>hb (by simp [z])) (fun z=>hb (by simp [z])) q)
    · rw [I.list_inj h1 hq1,I.list_inj h2 hq2]
      exact⟨hx,hy⟩
    · rw [zu (hfr b hb)]
      exact (hf b hb).1
  done:=by
    intro X hP hw hK hc i pins s σ H E I hf st hg
    subst hP hw hK
    obtain⟨xs,ys,hq1,hq2,hx⟩:=hg
    obtain⟨its,rv,p,_⟩:=I.list hq1
    obtain⟨jts,rw',p',_⟩:=I.list hq2
    have hl:=rv.length
    have hl':=rw'.length
    obtain⟨s1,s2,⟨a,b,s3⟩,s4,s5⟩:=st
    exact wpAny_pyNext_zip_end (I.ok.hd hc) D s1 s2 s3 s4 s5 p.isList p'.isList (hx.imp (fun q=>by simp;omega) (fun q=>by simp;omega)) fun h' eb =>
      ⟨rfl,I.turnedL (t':=s.toks) (ch:=[z,TI,TO,i1,i2]) (fun b o hb q=>eb b o (fun z=>hb (by simp [z])) (fun z=>hb (by simp [z])) (fun z=>hb (by simp [z])) (fun z=>hb (by simp [z])) q) hf⟩
  self:=fun _ _ _ _ _ st h=>wpAny_pyIter_zip st.1 h
section
variable {X:Cx}{tg a b:Expr}{pos:Pos}
def znR(K:PySem.W.Frag)(ta:TA):TI:=fun σ H R=>ta σ H fun vs H1=>∃ a b,vs=[.ref a,.ref b]∧(∃ xs,SqL K H1 a xs)∧(∃ ys,SqL K H1 b ys)∧R (Itz K a b) H1
theorem zlp {elts:List Expr} {k:Nat} {tp p:Pos} {ta:TA} (hg:Gl X "zip") (hm:X.mg "zip" = none) (ha:PA X [a,b] ta) (hs:starEach [a,b] X.env=[(false,eval a X.env),(false,eval b X.env)]:=by rfl) (hs2:starEach [b] X.env=[(false,eval b X.env)]:=by rfl) :
    PI X (.Tuple elts k tp) (.Call (.Name "zip" p) [a,b] [] pos) (znR X.K ta):=by
  intro pins s σ H R I h
  refine Call_ (jg I hg hm boot_zip (PyProof.Rows.callWith_type1 (thn (ha pos pins s σ H _ I h) fun us s1 ⟨vs,H1,I1,r1,q1⟩=>?_) (by rw [hs,hs2]) (by rw [hs2];rfl)))
  obtain⟨l1,l2,e,⟨xs,hq1⟩,⟨ys,hq2⟩,q⟩:=q1
  subst e
  obtain⟨u,v,rfl,ru,rv'⟩:=vals2 r1
  cases ru
  cases rv'
  obtain⟨its,rv,pl,hz⟩:=I1.list hq1
  obtain⟨jts,rw',pl',hz'⟩:=I1.list hq2
  have hlt1:l1 < s1.heap.objs.size:=by obtain⟨o,e,_⟩:=pl.isList;exact Heap.lt_size e
  have hlt2:l2 < s1.heap.objs.size:=by obtain⟨o,e,_⟩:=pl'.isList;exact Heap.lt_size e
  have D:ZipApart (s1.heap.objs.size+4) (s1.heap.objs.size+2) (s1.heap.objs.size+3) s1.heap.objs.size (s1.heap.objs.size+1) l1 l2:=PySem.W.ktu_apart _ _ _ hlt1 hlt2
  refine call_zip_2 pl.isList pl'.isList fun h1 a1 a2 a3 a4 a5 hsz hk=>?_
  refine wpAny_pyIter_zip a1 ?_
  have I2:Inv X pins σ H1 { s1 with heap:=h1 }:=I1.kept (t':=s1.toks) hk
  refine⟨s1.heap.objs.size+4,[s1.heap.objs.size+4,s1.heap.objs.size+2,s1.heap.objs.size+3,s1.heap.objs.size,s1.heap.objs.size+1],_,_,H1,rfl,I2,zhe l1 l2 _ _ _ _ _ D,⟨a1,a2,⟨_,_,a3⟩,a4,a5⟩,fun b hb=>?_,q⟩
  have hb':b=s1.heap.objs.size+4∨b=s1.heap.objs.size+2∨b=s1.heap.objs.size+3∨b=s1.heap.objs.size∨b=s1.heap.objs.size+1:=by simpa using hb
  have hle:s1.heap.objs.size≤b:=by rcases hb' with rfl | rfl | rfl | rfl | rfl <;> omega
  exact I1.fpOk hle (I1.hok.fresh hle)
end
end L2
namespace L2.DL
open PySem PySem.Spec PyProof.Rows
section
variable {C:Addr}{X:Cx}{a b c e:Expr}{ta tb tc te:DT1}{t:DTA}{pos:Pos}
def zav(l:List D):List D:=l.zipIdx.map fun p=>.tup [.int (p.2:Nat),p.1]
theorem zkF{K:PySem.W.Frag}{a:Addr}{xs:List V}{ds:List D}{G:Hp}(h1:G a=some (.lst xs))(h2:RepA K C G ds xs):zj3 K C (Ite K a) (zav ds) G:=by
  have hl:=zD h2
  have hL:(zav ds).length=ds.length:=by unfold zav;rw [List.length_map,List.length_zipIdx]
  refine⟨fun i H S e hi=>?_,fun i H S x H' dm e hi y=>?_,fun i H S e hi=>⟨xs,SqL.of (zh _ _ (e _ _ h1)),by omega⟩⟩
  · exact⟨xs,xs[i]'(by omega),SqL.of (zh _ _ (e _ _ h1)),by rw [List.getElem?_eq_getElem]⟩
  · obtain⟨p,v,hp,rfl,rfl,y⟩:=y
    have yx:=y xs (SqL.of (zh _ _ (e _ _ h1)))
    obtain⟨d,e1,r⟩:=jw h2 yx
    refine⟨.tup [.int i,d],?_,same_new hp _,?_⟩
    · unfold zav
      rw [List.getElem?_map,List.getElem?_zipIdx,e1]
      simp
    · unfold Rep
      exact⟨p,_,rfl,SqT.of (zK.mpr ⟨fun z=>dm p z hp,qd⟩),zQ qf (zQ (Rep.mono (e.trans (zF (same_new hp _))) _ _ r) repA_nil)⟩
def zfY(te:DT1):DTA:=fun env Q=>te env fun d=>match d with
  | .lst l=>Q (zav l)
  | _=>False
theorem vO {elts:List Expr} {k:Nat} {tp p:Pos} (hg:Gl X "enumerate") (hm:X.mg "enumerate" = none) (h:DE C X a ta) (hs:starEach [a] X.env=[(false,eval a X.env)]:=by rfl) (hs1:starEach [a] X.env=(false,eval a X.env)::starEach [] X.env:=by rfl):DI C X (.Tuple elts k tp) (.Call (.Name "enumerate" p) [a] [] pos) (zfY ta) :=
  piW (zjb hg hm (zb h zd hs1) hs) fun σ H R ⟨S,env,P,h1,h2,h3⟩=>⟨S,env,zbv _,h1,h2,fun l hl vs H' e rv=>by
    obtain⟨d,rfl,hd⟩:=jv hl
    obtain⟨v,rfl,r⟩:=qS rv
    cases d with
    | lst l =>
      unfold Rep at r
      obtain⟨q,xs,rfl,r1,r2⟩:=r
      exact⟨q,rfl,⟨xs,SqL.of (zh _ _ r1)⟩,h3 _ hd _ H' e (zkF r1 r2)⟩
    | _=>exact hd.elim⟩
def zfH:List D→List D→List D
  | x::l,y::m=>.tup [x,y]::zfH l m
  | _,_=>[]
theorem zcN:∀ l m:List D,(zfH l m).length=min l.length m.length
  | [],_=>by simp [zfH]
  | _::_,[]=>by simp [zfH]
  | x::l,y::m=>by simp only [zfH,List.length_cons,zcN l m];omega
theorem zcM:∀ (l m:List D) (i:Nat) {x y:D},l[i]?=some x→m[i]?=some y→(zfH l m)[i]?=some (.tup [x,y])
  | [],_,_,_,_,h,_=>by simp at h
  | _::_,[],_,_,_,_,h=>by simp at h
  | x' :: l,y' :: m,0,x,y,h,h'=>by simp at h h';subst h h';rfl
  | x' :: l,y' :: m,i+1,x,y,h,h'=>by
    unfold zfH
    rw [List.getElem?_cons_succ]
    exact zcM l m i (by simpa using h) (by simpa using h')
theorem zkG{K:PySem.W.Frag}{a b:Addr}{xs ys:List V}{ds es:List D}{G:Hp}(h1:G a=some (.lst xs))(h2:RepA K C G ds xs)(k1:G b=some (.lst ys))(k2:RepA K C G es ys):zj3 K C (Itz K a b) (zfH ds es) G:=by
  have hl:=zD h2
  have hl':=zD k2
  have hL:=zcN ds es
  refine⟨fun i H S e hi=>?_,fun i H S x H' dm e hi y=>?_,fun i H S e hi=>⟨xs,ys,SqL.of (zh _ _ (e _ _ h1)),SqL.of (zh _ _ (e _ _ k1)),by omega⟩⟩
  · exact⟨xs,ys,xs[i]'(by omega),ys[i]'(by omega),SqL.of (zh _ _ (e _ _ h1)),SqL.of (zh _ _ (e _ _ k1)),by rw [List.getElem?_eq_getElem],by rw [List.getElem?_eq_getElem]⟩
  · obtain⟨p,v,w,hp,rfl,rfl,y⟩:=y
    obtain⟨y1,y2⟩:=y xs ys (SqL.of (zh _ _ (e _ _ h1))) (SqL.of (zh _ _ (e _ _ k1)))
    obtain⟨d,e1,r⟩:=jw h2 y1
    obtain⟨d',e1',r'⟩:=jw k2 y2
    refine⟨.tup [d,d'],zcM ds es i e1 e1',same_new hp _,?_⟩
    unfold Rep
    exact⟨p,_,rfl,SqT.of (zK.mpr ⟨fun z=>dm p z hp,qd⟩),zQ (Rep.mono (e.trans (zF (same_new hp _))) _ _ r) (zQ (Rep.mono (e.trans (zF (same_new hp _))) _ _ r') repA_nil)⟩
def znm(ta tb:DT1):DTA:=fun env Q=>ta env fun d=>tb env fun d'=>match d,d' with
  | .lst l,.lst m=>Q (zfH l m)
  | _,_=>False
def zjX(A:D→D→Prop):List D→Prop
  | [d,e]=>A d e
  | _=>False
theorem zfD{A:D→D→Prop}{l:List D}(h:zjX A l):∃ d e,l=[d,e]∧A d e:=by
  unfold zjX at h
  split at h
  · exact⟨_,_,rfl,h⟩
  · exact h.elim
theorem zhs {elts:List Expr} {k:Nat} {tp p:Pos} (hg:Gl X "zip") (hm:X.mg "zip" = none) (h:DE C X a ta) (h':DE C X b tb) (hs:starEach [a,b] X.env=[(false,eval a X.env),(false,eval b X.env)]:=by rfl) (hs2:starEach [b] X.env=[(false,eval b X.env)]:=by rfl)
    (hs3:starEach [a,b] X.env=(false,eval a X.env)::starEach [b] X.env:=by rfl) (hs4:starEach [b] X.env=(false,eval b X.env)::starEach [] X.env:=by rfl):DI C X (.Tuple elts k tp) (.Call (.Name "zip" p) [a,b] [] pos) (znm ta tb) :=
  piW (zlp hg hm (zb h (zb h' zd hs4) hs3) hs hs2) fun σ H R ⟨S,env,P,h1,h2,h3⟩=>⟨S,env,zjX _,h1,h2,fun l hl vs H' e rv=>by
    obtain⟨d,d',rfl,hd⟩:=zfD hl
    obtain⟨v,w,rfl,r,r'⟩:=jb rv
    split at hd
    · unfold Rep at r r'
      obtain⟨q,xs,rfl,r1,r2⟩:=r
      obtain⟨q',ys,rfl,r1',r2'⟩:=r'
      exact⟨q,q',rfl,⟨xs,SqL.of (zh _ _ r1)⟩,⟨ys,SqL.of (zh _ _ r1')⟩,h3 _ hd _ H' e (zkG r1 r2 r1' r2')⟩
    · exact hd.elim⟩
end
end L2.DL
namespace L2.DL
open PySem PySem.Spec PyProof.Rows
section
variable {C:Addr}{X:Cx}{a b c e:Expr}{ta tb tc te:DT1}{t:DTA}{pos:Pos}
def znJ(i:Nat)(tb:DT1):DT1:=fun env Q=>match env[i]? with
  | some (some (.ow _ ds))=>tb env fun k=>match k with
    | .int k=>match atI ds k with
      | some d=>Q d
      | none=>False
    | _=>False
  | _=>False
end
def mx(a b:Rat):Rat:=if a < b then b else a
end L2.DL
namespace GO
open PySem PySem.W PyProof.Rows GS
section
variable {prog:Program}{w:World}{A:Around}{E:Value→Shared→Prop}{s:Shared}
theorem yA {a:Addr} {vs:List Value} {n:Nat} {P:PySem.Fin→Shared→Prop} (ho:s.heap.get? a=some (seqObj "list" vs.toArray n)) (h2:vs.length < 2)
    (h:∀ h' c,h'.get? a=some (seqObj "list" vs.toArray c)→(∀ b o,b≠a→s.heap.get? b=some o→h'.get? b=some o)→P (.done (.ret .none)) { s with heap:=h' }) :
    wpAny (model prog w) A (Builtin.«list.sort» ⟨[.ref a],[]⟩) P E s:=by
  have hlt:=Heap.lt_size ho
  have hz:vs.length≤sizeLine:=Nat.le_trans (Nat.le_of_lt h2) (by decide)
  rw [list_sort_plain]
  refine wpAny_bind (listItems_at ho rfl (wpAny_bind (listUpdate_at ho rfl ?_ (by rw [List.size_toArray];exact hz) (Nat.zero_le _))))
  obtain⟨c1,ho1⟩:∃ c1,(s.heap.update a (Obj.mapSeq fun _=>(#[]:Array Value))).get? a=some (seqObj "list" #[] c1):=⟨_,get?_update_seq ho fun _=>#[]⟩
  refine wpAny_bind (seqEpoch_at ho1 rfl (wpAny_bind (wpAny_newTuple ?_ hz)))
  refine wpAny_bind (wpAny_newList ?_ (Nat.zero_le _))
  refine wpAny_holding ?_
  generalize hH:((s.heap.update a (Obj.mapSeq fun _=>(#[]:Array Value))).push (seqObj "tuple" vs.toArray 0)).push (seqObj "list" #[] 0)=H3
  have k3:∀ b o,b≠a→s.heap.get? b=some o→H3.get? b=some o:=fun b o hb e=>by
    rw [← hH]
    exact Heap.get?_push_of_some _ (Heap.get?_push_of_some _ ((Heap.get?_update_other _ _ (Ne.symm hb)).trans e))
  have a3:H3.get? a=some (seqObj "list" #[] c1):=by
    rw [← hH]
    exact Heap.get?_push_of_some _ (Heap.get?_push_of_some _ ho1)
  show wpAny (model prog w) A _ P E { s with heap:=H3 }
  dsimp only
  have hn2:vs.toArray.size < 2:=by rw [List.size_toArray];exact h2
  rw [if_pos hn2,if_pos hn2]
  refine wpAny_bind (wpAny_pure ?_)
  refine wpAny_bind ?_
  show wpAny (model prog w) A (pure ((),SortSt.mk' general' (vs.toArray.zip vs.toArray) #[] 7 none)) _ E { s with heap:=H3 }
  refine wpAny_pure ?_
  dsimp only
  have hout:(arrOf (SortSt.mk' general' (vs.toArray.zip vs.toArray) #[] 7 none)).map (·.2)=vs.toArray:=by
    show (vs.toArray.zip vs.toArray).map (·.2)=vs.toArray
    apply Array.toList_inj.mp
    rw [Array.toList_map,Array.toList_zip]
    exact List.map_snd_zip (Nat.le_refl _)
  rw [hout]
  refine wpAny_bind (seqEpoch_at a3 rfl (wpAny_bind (listUpdate_at a3 rfl ?_ (Nat.zero_le _) (by rw [List.size_toArray];omega))))
  show wpAny (model prog w) A _ P E { s with heap:=H3.update a (Obj.mapSeq fun _=>vs.toArray) }
  simp only [bne_self_eq_false,Bool.false_eq_true,if_false]
  exact wpAny_pure (h _ _ (get?_update_seq a3 fun _=>_) fun b o hb e=>(Heap.get?_update_other _ _ (Ne.symm hb)).trans (k3 b o hb e))
theorem za1{vs:List Value}{κ:SortKind}{R:Array Nat→Prop}{Q:Value→Shared→Prop}(hz:vs.length≤sizeLine)
    (hk:2≤vs.length→∀ h',(∀ b o,s.heap.get? b=some o→h'.get? b=some o)→∀ (Q:SortKind→Shared→Prop) (E:Value→Shared→Prop),Q κ { s with heap:=h' }→wpAny (model prog w) A.in1 (keyKind' vs.toArray) Q E { s with heap:=h' })
    (hrun:2≤vs.length→∀ h',(∀ b o,s.heap.get? b=some o→h'.get? b=some o)→zfO prog w A.in1 κ vs R { s with heap:=h' })
    (h:∀ vs' h' D c,(vs.length < 2∧vs'=vs∨∃ p:Array Nat,p.size=vs.length∧R p∧vs'=p.toList.map fun i=>vs.getD i Value.none)→h'.get? D=some (seqObj "list" (List.toArray vs') c)→s.heap.get? D=none→(∀ b o,s.heap.get? b=some o→h'.get? b=some o)→Q (.ref D) { s with heap:=h' }) :
    wpAny (model prog w) A (newList vs >>= fun l=>holding [l] (call (.builtin "list.sort") [l] []) >>= fun _=>ret l) (fun fin s'=>∃ v,fin=.done (.ret v)∧Q v s') E s:=by
  refine wpAny_bind (wpAny_newList ?_ hz)
  have hoL:(s.heap.push (seqObj "list" vs.toArray 0)).get? s.heap.objs.size=some (seqObj "list" vs.toArray 0):=Heap.get?_push_size _ rfl
  have keep:∀ b o,b≠s.heap.objs.size→s.heap.get? b=some o→(s.heap.push (seqObj "list" vs.toArray 0)).get? b=some o:=fun b o _ e=>Heap.get?_push_of_some _ e
  have kk:∀ h':Heap,(∀ b o,b≠s.heap.objs.size→(s.heap.push (seqObj "list" vs.toArray 0)).get? b=some o→h'.get? b=some o)→∀ b o,s.heap.get? b=some o→h'.get? b=some o:=fun h' q b o e =>
    q b o (Nat.ne_of_lt (Heap.lt_size e)) (Heap.get?_push_of_some _ e)
  show wpAny _ _ _ _ _ { s with heap:=s.heap.push (seqObj "list" vs.toArray 0) }
  refine wpAny_bind (wpAny_holding (wpAny_call_entry slot_list_sort ⟨_,hoL,rfl⟩ entry_list_sort ?body (args_list_sort _)))
  case body =>
    by_cases h2:2≤vs.length
    · refine zaE (s:={ s with heap:=s.heap.push (seqObj "list" vs.toArray 0) }) (κ:=κ) (R:=R) hoL h2 hz (fun h' q Q E hq=>hk h2 h' (kk h' q) Q E hq) (fun h' q=>hrun h2 h' (kk h' q)) fun p h' c hp hR hD q=>?_
      exact⟨_,rfl,wpAny_pure ⟨_,rfl,h _ h' s.heap.objs.size c (.inr ⟨p,hp,hR,rfl⟩) hD (Heap.get?_none_of_le (Nat.le_refl _)) (kk h' q)⟩⟩
    · refine yA (s:={ s with heap:=s.heap.push (seqObj "list" vs.toArray 0) }) hoL (by omega) fun h' c hD q=>?_
      exact⟨_,rfl,wpAny_pure ⟨_,rfl,h _ h' s.heap.objs.size c (.inl ⟨by omega,rfl⟩) hD (Heap.get?_none_of_le (Nat.le_refl _)) (kk h' q)⟩⟩
theorem zeP{h:Heap}{a:Addr}{k:Int×Int}(x:IsTupleKey (intKind prog w) h [k.1,k.2] a):zfI h a k:=by
  obtain⟨o,items,n,e,c,d,it⟩:=x
  obtain⟨l⟩:=items
  have it':ItemsAre (intKind prog w) [k.1,k.2] l:=it
  cases it' with
  | cons h1 t1 =>
    cases t1 with
    | cons h2 t2 =>
      cases t2
      obtain⟨t,rfl⟩:=Value.isInt_shape h1
      obtain⟨u,rfl⟩:=Value.isInt_shape h2
      exact⟨o,n,t,u,e,c,d⟩
structure zhh(ents es:List Ent):Prop where
  perm:es.Perm ents
  up:(es.map (·.1)).Pairwise fun p q=>plt p q=true
theorem zdk{es:List Ent}{Q:Value→Shared→Prop}(hn:(es.map (·.1)).Nodup)(hl:es.length < 64)(hpr:∀ e∈es,zfI s.heap e.2 e.1)
    (h:∀ es' h' D c,zhh es es'→h'.get? D=some (seqObj "list" (List.toArray (es'.map fun e=>Value.ref e.2)) c)→s.heap.get? D=none→(∀ b o,s.heap.get? b=some o→h'.get? b=some o)→Q (.ref D) { s with heap:=h' }) :
    wpAny (model prog w) A (newList (es.map fun e=>Value.ref e.2) >>= fun l=>holding [l] (call (.builtin "list.sort") [l] []) >>= fun _=>ret l) (fun fin s'=>∃ v,fin=.done (.ret v)∧Q v s') E s:=by
  have hlen:(es.map fun e=>Value.ref e.2).length=es.length:=List.length_map _
  have hlk:(es.map (·.1)).length=es.length:=List.length_map _
  have pair:∀ h':Heap,(∀ b o,s.heap.get? b=some o→h'.get? b=some o)→Paired (fun (p:Int×Int) v=>∃ a,v=Value.ref a∧zfI h' a p) (es.map (·.1)) (es.map fun e=>Value.ref e.2):=by
    intro h' hk
    clear hn hl h hlen hlk
    induction es with
    | nil=>exact .nil
    | cons e es ih=>exact .cons ⟨e.2,rfl,(hpr e List.mem_cons_self).kept fun o q=>hk _ o q⟩ (ih fun x hx=>hpr x (List.mem_cons_of_mem _ hx))
  have getv:∀ i,i < es.length→(es.map fun e=>Value.ref e.2).getD i Value.none=.ref (es.getD i ((0,0),0)).2:=fun i hi=>by
    rw [List.getD_eq_getElem?_getD,List.getElem?_map,List.getElem?_eq_getElem hi,List.getD_eq_getElem?_getD,List.getElem?_eq_getElem hi]
    rfl
  have getk:∀ i,i < es.length→(es.map (·.1)).getD i (0,0)=(es.getD i ((0,0),0)).1:=fun i hi=>by
    rw [List.getD_eq_getElem?_getD,List.getElem?_map,List.getElem?_eq_getElem hi,List.getD_eq_getElem?_getD,List.getElem?_eq_getElem hi]
    rfl
  have memd:∀ i,i < es.length→es.getD i ((0,0),0)∈es:=fun i hi=>by
    rw [List.getD_eq_getElem?_getD,List.getElem?_eq_getElem hi]
    exact List.getElem_mem hi
  have O:=zgy hn
  rw [hlk] at O
  refine za1 (κ:=tuples' true) (R:=fun p=>Pm es.length p∧Up (fun i j=>plt ((es.map (·.1)).getD i (0,0)) ((es.map (·.1)).getD j (0,0))) p es.length) (by rw [hlen];exact Nat.le_trans (Nat.le_of_lt hl) (by decide)) (fun h2 h' hk Q E hq=>?_) (fun h2 h' hk=>?_) fun vs' h' D c hv hD hle hk=>?_
  · refine zdb (ps:=es.map (·.1)) (fun z=>?_) (pair h' hk) hq
    rw [hlen,← hlk,z] at h2
    simp at h2
  · have:=zaV (prog:=prog) (w:=w) (A:=A.in1) (s:={ s with heap:=h' }) (κ:=tuples' true) (vs:=es.map fun e=>Value.ref e.2) (lt:=fun i j=>plt ((es.map (·.1)).getD i (0,0)) ((es.map (·.1)).getD j (0,0))) h2 (by rw [hlen];exact hl) (by rw [hlen];exact O) fun i j C hi hj hC=>?_
    · rw [hlen] at this
      exact this
    · rw [hlen] at hi hj
      unfold kas_ask
      rw [getv i hi,getv j hj]
      rw [getk i hi,getk j hj] at hC
      exact zi1 ((hpr _ (memd i hi)).kept fun o q=>hk _ o q) ((hpr _ (memd j hj)).kept fun o q=>hk _ o q) hC
  · rcases hv with ⟨h2,rfl⟩ | ⟨p,hp,⟨pm,up⟩,rfl⟩
    · refine h es h' D c ⟨.refl _,?_⟩ hD hle hk
      rw [hlen] at h2
      match es,h2 with
      | [],_=>exact .nil
      | [e],_=>exact List.pairwise_singleton _ _
    · have hpl:p.toList.length=es.length:=by rw [Array.length_toList];exact pm.size
      have e1:(p.toList.map fun i=>(es.map fun e=>Value.ref e.2).getD i Value.none)=(p.toList.map fun i=>es.getD i ((0,0),0)).map fun e=>Value.ref e.2:=by
        rw [List.map_map]
        refine List.map_congr_left fun i hi=>?_
        have:i < es.length:=List.mem_range.mp (pm.perm.mem_iff.mp hi)
        exact getv i this
      rw [e1] at hD
      refine h _ h' D c ⟨?_,?_⟩ hD hle hk
      · have e2:es=(List.range es.length).map fun i=>es.getD i ((0,0),0):=by
          apply List.ext_getElem?
          intro i
          rw [List.getElem?_map]
          by_cases hi:i < es.length
          · rw [List.getElem?_range hi,List.getElem?_eq_getElem hi]
            simp [hi]
          · rw [List.getElem?_eq_none (by omega),List.getElem?_eq_none (by rw [List.length_range];omega)]
            rfl
        conv=>rhs;rw [e2]
        exact pm.perm.map _
      · rw [List.map_map,List.pairwise_map,List.pairwise_iff_getElem]
        intro i j hi hj hij
        rw [hpl] at hi hj
        have q:plt ((es.map (·.1)).getD (p.getD i 0) (0,0)) ((es.map (·.1)).getD (p.getD j 0) (0,0))=true:=up i j hij hj
        have g1:p.getD i 0=p.toList[i]'(by omega):=by
          have:i < p.size:=by rw [pm.size];exact hi
          simp [Array.getD,this]
        have g2:p.getD j 0=p.toList[j]'(by omega):=by
          have:j < p.size:=by rw [pm.size];exact hj
          simp [Array.getD,this]
        rw [g1,g2,getk _ (by rw [← g1];exact pm.bd hi),getk _ (by rw [← g2];exact pm.bd hj)] at q
        exact q
theorem vR{α β:Type}{f:α→β}{a b:List β}(h:a.Perm b):∀ m:List α,b=m.map f→∃ m':List α,m'.Perm m∧a=m'.map f:=by
  induction h with
  | nil=>intro m e;exact⟨m,.refl _,e⟩
  | cons x _ ih =>
    intro m e
    cases m with
    | nil=>cases e
    | cons y m =>
      rw [List.map_cons] at e
      injection e with e1 e2
      obtain⟨m',q1,q2⟩:=ih m e2
      exact⟨y::m',q1.cons y,by rw [List.map_cons,e1,q2]⟩
  | swap x y l =>
    intro m e
    match m,e with
    | u::v::m,e =>
      rw [List.map_cons,List.map_cons] at e
      injection e with e1 e2
      injection e2 with e2 e3
      exact⟨v::u::m,List.Perm.swap u v m,by rw [List.map_cons,List.map_cons,e1,e2,e3]⟩
  | trans _ _ ih1 ih2 =>
    intro m e
    obtain⟨m1,q1,q2⟩:=ih2 m e
    obtain⟨m2,q3,q4⟩:=ih1 m1 q2
    exact⟨m2,q3.trans q1,q4⟩
theorem zdl{S:Addr}{t:SetTable}{ents:List Ent}{Q:Value→Shared→Prop}(hh:A.handled=none)(x:ko prog w s.heap S t ents)
    (h:∀ es h' D c tk,zhh ents es→h'.get? D=some (seqObj "list" (List.toArray (es.map fun e=>Value.ref e.2)) c)→s.heap.get? D=none→(∀ b o,s.heap.get? b=some o→h'.get? b=some o)→Q (.ref D) { s with heap:=h',toks:=tk }) :
    wpAny (model prog w) A (call (.builtin "sorted") [.ref S]) Q E s:=by
  obtain⟨es,ep,ho,hes⟩:=x.obj
  have hsm:=x.tab.small
  have hsz:es.size=ents.length:=by rw [← Array.length_toList,hes,List.length_map]
  refine Calls.call_function_entry kind_sorted plain_sorted entry_sorted (args_sorted1 _) ?_
  unfold Builtin.«sorted»
  refine wpAny_bind (m:=checkCount "sorted" 1 1 _) (wpAny_pure ?_)
  refine wpAny_bind (J.vP (A:=A.in1) (by simpa using hh) ho (x.tab.fits x.le hsz) x.tab.inc x.plain x.led (by rw [hsz];exact Nat.le_trans hsm (by decide)) fun h1 tk hk=>?_)
  obtain⟨en,hp,he⟩:∃ en:List Ent,en.Perm ents∧(jZ w S ep es).toList.map (·.2)=en.map fun e=>Value.ref e.2:=by
    have h1:=ki w S ep es
    rw [hes] at h1
    obtain⟨en,q1,q2⟩:=vR h1 ents rfl
    exact⟨en,q1,by rw [q2,List.map_map];rfl⟩
  rw [he]
  have hnd:(en.map (·.1)).Nodup:=(hp.map (·.1)).nodup_iff.mpr x.tab.nd
  have hlen:en.length < 64:=by rw [hp.length_eq];omega
  refine zdk (s:={ s with heap:=h1,toks:=tk }) hnd hlen (fun e he'=>(zeP (x.keys e (hp.mem_iff.mp he'))).kept fun o q=>hk _ o q) fun es' h' D c hs hD hle hk'=>?_
  have hle':s.heap.get? D=none:=by
    cases g:s.heap.get? D with
    | none=>rfl
    | some o=>exact absurd (hk D o g) (by rw [show h1.get? D=none from hle];exact fun z=>by cases z)
  exact h es' h' D c tk ⟨hs.perm.trans hp,hs.up⟩ hD hle' fun b o q=>hk' b o (hk b o q)
end
end GO
namespace L2
open PySem PySem.Spec PyProof.Rows
theorem xA.there{P:Program}{w:World}{H:Hp}{h:Heap}{a:Addr}{o:HO}(x:xA P w H h a o):∃ u,h.get? a=some u:=by
  cases o with
  | lst xs=>obtain⟨_,_,_,_,e⟩:=x;exact⟨_,e⟩
  | tup xs=>obtain⟨_,_,_,o,e,_⟩:=x;exact⟨_,e⟩
  | dK kvs=>obtain⟨_,_,_,_,o,_,_,e,_⟩:=x;exact⟨_,e⟩
  | dT kvs=>obtain⟨_,_,_,_,o,_,_,e,_⟩:=x;exact⟨_,e⟩
  | set S n=>obtain⟨o,_,_,_,e,_⟩:=x;exact⟨_,e⟩
  | ins C dx fs=>obtain⟨_,_,_,e,_⟩:=x;exact⟨_,e⟩
  | own y=>exact x
  | xd fs=>obtain⟨_,⟨_,_,_,e,_⟩,_⟩:=x;exact⟨_,e⟩
  | rng lo hi=>obtain⟨_,_,_,e⟩:=x;exact⟨_,e⟩
  | frz ob u=>exact⟨_,x.1⟩
  | tbl ps=>exact⟨_,(show h.get? a=some _ from x)⟩
  | met f y=>exact⟨_,(show h.get? a=some _ from x)⟩
  | ext φ=>exact x.2.1
theorem Inv.unheld{X:Cx}{pins:List (Addr×Obj)}{σ:St}{H:Hp}{s:Shared}{a:Addr}(I:Inv X pins σ H s)(h:s.heap.get? a=none):H a=none:=by
  cases q:H a with
  | none=>rfl
  | some u =>
    obtain⟨o,e⟩:=(I.hok a u q).there
    rw [h] at e
    cases e
theorem Inv.laidN{X:Cx}{pins:List (Addr×Obj)}{σ:St}{H:Hp}{s:Shared}{h':Heap}{a:Addr}{o:HO}{t':Nat}(I:Inv X pins σ H s)(k:∀ b u,s.heap.get? b=some u→h'.get? b=some u)(hp:s.heap.get? a=none)(new:xA X.prog X.w (upd H a o) h' a o) :
    Inv X pins σ (upd H a o) { s with heap:=h',toks:=t' }:=by
  have hn:=I.unheld hp
  have ne:∀ {b u},s.heap.get? b=some u→b≠a:=fun {b u} q z=>by rw [z,hp] at q;cases q
  refine I.un ⟨fun b u q _ _ _=>k b u q,fun b u q _ _ _=>⟨u.slots,k b u q⟩,fun b u q n _=>by rw [zu (ne q)];exact n,fun b u q _=>⟨u,k b u q⟩,fun b xs q=>by rw [zu (zx q hn)];exact q,fun b u xs q=>by rw [zu (zx q hn)];exact q,
    fun b ps q=>⟨#[],by rw [zu (zx q hn),q];simp⟩⟩ fun b u e=>?_
  by_cases hb:b=a
  · subst hb;rw [qd] at e;cases e;exact new
  · rw [zu hb] at e
    exact (I.hok b u e).stay (fun c v _ q=>k c v q) (fun c q=>by rw [zu (zx q hn)];exact q) fun c xs q=>by rw [zu (zx q hn)];exact q
open GS GO
theorem yY{α:Type}{r:α→α→Prop}(asym:∀ a b,r a b→¬ r b a):∀ {l m:List α},l.Pairwise r→m.Pairwise r→(∀ x,x∈l↔x∈m)→l=m
  | [],[],_,_,_=>rfl
  | [],b::m,_,_,h=>absurd ((h b).mpr List.mem_cons_self) (by simp)
  | a::l,[],_,_,h=>absurd ((h a).mp List.mem_cons_self) (by simp)
  | a::l,b::m,hl,hm,h=>by
    obtain⟨l1,l2⟩:=List.pairwise_cons.mp hl
    obtain⟨m1,m2⟩:=List.pairwise_cons.mp hm
    have e:a=b:=by
      rcases List.mem_cons.mp ((h a).mp List.mem_cons_self) with e | e
      · exact e
      · rcases List.mem_cons.mp ((h b).mpr List.mem_cons_self) with e' | e'
        · exact e'.symm
        · exact absurd (m1 a e) (asym _ _ (l1 b e'))
    subst e
    have irr:¬ r a a:=fun z=>asym _ _ z z
    rw [yY asym l2 m2 fun x=>⟨fun hx=>(List.mem_cons.mp ((h x).mp (List.mem_cons_of_mem _ hx))).elim (fun e=>absurd (l1 x hx) (by rw [e];exact irr)) id,
      fun hx=>(List.mem_cons.mp ((h x).mpr (List.mem_cons_of_mem _ hx))).elim (fun e=>absurd (m1 x hx) (by rw [e];exact irr)) id⟩]
def sd(ps:List (Int×Int)):List (Int×Int):=zL.filter fun p=>decide (p∈ps)
theorem zda:zL.Pairwise fun p q=>plt p q=true:=by decide +kernel
theorem zmS(ps:List (Int×Int)):(sd ps).Pairwise fun p q=>plt p q=true:=zda.filter _
theorem zhM{ps:List (Int×Int)}(h:∀ p∈ps,p∈zL)(p:Int×Int):p∈sd ps↔p∈ps:=by
  unfold sd
  rw [List.mem_filter,decide_eq_true_eq]
  exact⟨fun z=>z.2,fun z=>⟨h p z,z⟩⟩
theorem zmR{ps l:List (Int×Int)}(h:∀ p∈ps,p∈zL)(up:l.Pairwise fun p q=>plt p q=true)(hm:∀ p,p∈l↔p∈ps):l=sd ps :=
  yY (fun a b h1 h2=>by rw [zct h1] at h2;cases h2) up (zmS ps) fun x=>(hm x).trans (zhM h x).symm
def zha(K:PySem.W.Frag)(ta:TA):TE:=fun σ H Q=>ta σ H fun vs H1=>∃ l ps us,vs=[.ref l]∧SqL K H1 l us∧Paired (DL.prV K H1) ps us∧(∀ p∈ps,p∈zL) ∧
  ∀ us',Paired (fun k v=>∃ i:Nat,ps[i]?=some k∧us[i]?=some v) (sd ps) us'→∀ q,H1 q=none→Q (.ref q) (upd H1 q (.lst us'))
def zj4(us:List V)(i:Nat):Addr:=match us[i]? with
  | some (.ref a)=>a
  | _=>0
theorem zdc {X:Cx} {e:Expr} {p p' pos pos':Pos} {ta:TA} (hgS:Gl X "sorted") (hmS:X.mg "sorted" = none) (hg:Gl X "set") (hm:X.mg "set" = none) (hc:X.calm=true) (hu:X.A.units+64 < cLine) (ha:PA X [e] ta)
    (hs:starEach [e] X.env=[(false,eval e X.env)]:=by rfl) (hs2:starEach [.Call (.Name "set" p') [e] [] pos'] X.env=[(false,eval (.Call (.Name "set" p') [e] [] pos') X.env)]:=by rfl) :
    PE X (.Call (.Name "sorted" p) [.Call (.Name "set" p') [e] [] pos'] [] pos) (zha X.K ta):=by
  intro pins s σ H Q I h
  refine wpAny_Call_Name_kw (jg I hgS hmS boot_sorted ?_)
  refine PyProof.Rows.callWith_builtin1 ?_ hs2 rfl
  rw [hs2]
  refine Calls.spliced_cons (Call_ (jg I hg hm boot_set (PyProof.Rows.callWith_type1 (thn (ha pos' pins s σ H _ I h) fun us0 s1 ⟨vs,H1,I1,r1,q1⟩=>?_) hs rfl)))
  obtain⟨l,ps,us,rfl,hq,pr,h15,q⟩:=q1
  obtain⟨u,rfl,ru⟩:=vals1 r1
  cases ru
  obtain⟨its,rv,pl,hz⟩:=I1.list hq
  have hl1:=DL.x4 pr
  have hl2:=rv.length
  have hd:X.A.handled=none:=I1.ok.hd hc
  have at_:∀ i,i < its.length→∃ k,ps[i]?=some k∧us[i]?=some (.ref (zj4 us i))∧its[i]?=some (.ref (zj4 us i))∧SqT X.K H1 (zj4 us i) [.int k.1,.int k.2]:=fun i hi=>by
    have hp:ps[i]?=some (ps[i]'(by omega)):=List.getElem?_eq_getElem _
    obtain⟨v,e1,a,rfl,sq⟩:=DL.x3 pr hp
    obtain⟨u,e2,ru⟩:=rv.get e1
    have ea:zj4 us i=a:=by unfold zj4;rw [e1]
    rw [ea]
    cases ru
    exact⟨_,hp,e1,e2,sq⟩
  refine zfS (val:=fun i=>ps.getD i (0,0)) (ad:=zj4 us) hd (by omega) pl.isList (fun i v hv=>?_) (fun i hi=>?_) (fun i hi=>?_) fun h' tk up keep=>?_
  · have hv':its[i]?=some v:=by simpa using hv
    obtain⟨k,_,_,e3,_⟩:=at_ i (List.getElem?_eq_some_iff.mp hv').1
    rw [hv'] at e3
    exact Option.some.inj e3
  · rw [List.size_toArray] at hi
    obtain⟨k,e1,_⟩:=at_ i hi
    rw [List.getD_eq_getElem?_getD,e1]
    exact h15 k (List.mem_of_getElem? e1)
  · rw [List.size_toArray] at hi
    obtain⟨k,e1,_,_,sq⟩:=at_ i hi
    obtain⟨jts,rj,⟨o,eo,c,n,d⟩,_⟩:=I1.tuple sq
    rw [List.getD_eq_getElem?_getD,e1]
    refine⟨o,jts.toArray,n,eo,c,d,?_⟩
    show ItemsAre _ [k.1,k.2] jts
    obtain⟨u1,u2,rfl,⟨t1,rfl⟩,⟨t2,rfl⟩⟩:=vals2 rj
    exact .cons (by simp [intKind,Value.isInt]) (.cons (by simp [intKind,Value.isInt]) .nil)
  · have I2:Inv X pins σ H1 { s1 with heap:=h',toks:=tk }:=I1.kept keep
    obtain⟨t,ents,x,b,c⟩:=up.ex
    refine Calls.spliced_nil (zdl (s:={ s1 with heap:=h',toks:=tk }) hd x fun es h2 D cc tk2 hs hD hnew keep2=>?_)
    have hn:its.toArray.size=its.length:=by simp
    have keys:∀ e∈es,∃ i:Nat,ps[i]?=some e.1∧us[i]?=some (V.ref e.2):=fun e he=>by
      obtain⟨j,hj,v1,v2⟩:=c e (hs.perm.mem_iff.mp he)
      rw [hn] at hj
      obtain⟨k,e1,e2,_,_⟩:=at_ j hj
      have v1':ps.getD j (0,0)=e.1:=v1
      rw [List.getD_eq_getElem?_getD,e1] at v1'
      rw [← v2,← v1']
      exact⟨j,e1,e2⟩
    have hsd:es.map (·.1)=sd ps:=by
      refine zmR h15 hs.up fun k=>?_
      rw [(hs.perm.map (·.1)).mem_iff,b k,hn]
      constructor
      · rintro⟨j,hj,rfl⟩
        obtain⟨k,e1,_⟩:=at_ j hj
        show ps.getD j (0,0)∈ps
        rw [List.getD_eq_getElem?_getD,e1]
        exact List.mem_of_getElem? e1
      · intro hk
        obtain⟨j,hj,rfl⟩:=List.getElem_of_mem hk
        exact⟨j,by omega,by show ps.getD j (0,0)=_;rw [List.getD_eq_getElem?_getD,List.getElem?_eq_getElem hj];rfl⟩
    have hlen:(es.map fun e=>V.ref e.2).length≤sizeLine:=by
      rw [List.length_map,← List.length_map (f:=(·.1)),hsd]
      exact Nat.le_trans (List.length_filter_le _ _) (by decide)
    have I3:Inv X pins σ (upd H1 D (.lst (es.map fun e=>V.ref e.2))) { s1 with heap:=h2,toks:=tk2 }:=by
      refine Inv.laidN (s:={ s1 with heap:=h',toks:=tk }) I2 keep2 hnew ⟨hlen,es.map fun e=>Value.ref e.2,cc,?_,hD⟩
      clear hs hD hsd keys hlen
      induction es with
      | nil=>exact .nil
      | cons e es ih=>exact .cons rfl ih
    refine⟨V.ref D,_,I3,rfl,q _ ?_ D (I2.unheld hnew)⟩
    rw [← hsd]
    clear hs hD hsd hlen I3
    induction es with
    | nil=>exact .nil
    | cons e es ih=>exact .cons (keys e List.mem_cons_self) (ih fun x hx=>keys x (List.mem_cons_of_mem _ hx))
end L2
namespace L2.DL
open PySem PySem.Spec PyProof.Rows GS
def dPr(p:Int×Int):D:=.tup [.int p.1,.int p.2]
section
variable {K:PySem.W.Frag}{C:Addr}{H:Hp}
theorem ze8{p:Int×Int}{v:V}:Rep K C H (dPr p) v↔prV K H p v:=by
  unfold dPr Rep prV
  constructor
  · rintro⟨a,xs,rfl,h1,h2⟩
    rw [xh (ns:=[p.1,p.2]) h2] at h1
    exact⟨a,rfl,h1⟩
  · rintro⟨a,rfl,h1⟩
    exact⟨a,_,rfl,h1,ju (ns:=[p.1,p.2])⟩
theorem vq{ps:List (Int×Int)}{vs:List V}:RepA K C H (ps.map dPr) vs↔Paired (prV K H) ps vs:=by
  induction ps generalizing vs with
  | nil=>exact⟨fun h=>by unfold RepA at h;subst h;exact .nil,fun h=>by cases h;exact repA_nil⟩
  | cons p ps ih =>
    rw [List.map_cons]
    constructor
    · intro h
      unfold RepA at h
      obtain⟨x,r,rfl,h1,h2⟩:=h
      exact .cons (ze8.mp h1) (ih.mp h2)
    · intro h
      cases h with
      | cons h1 h2=>exact zQ (ze8.mpr h1) (ih.mpr h2)
end
section
variable {C:Addr}{X:Cx}{e:Expr}{te:DT1}{pos:Pos}
def zb0(te:DT1):DTA:=fun env Q=>te env fun d=>match d with
  | .lst l=>∃ ps:List (Int×Int),l=ps.map dPr∧(∀ p∈ps,p∈zL)∧Q ((sd ps).map dPr)
  | _=>False
theorem zcR {p p' pos':Pos} (hgS:Gl X "sorted") (hmS:X.mg "sorted" = none) (hg:Gl X "set") (hm:X.mg "set" = none) (hc:X.calm=true) (hu:X.A.units+64 < cLine) (he:DE C X e te)
    (hs:starEach [e] X.env=[(false,eval e X.env)]:=by rfl) (hs2:starEach [.Call (.Name "set" p') [e] [] pos'] X.env=[(false,eval (.Call (.Name "set" p') [e] [] pos') X.env)]:=by rfl) (hs3:starEach [e] X.env=(false,eval e X.env)::starEach [] X.env:=by rfl) :
    DF C X (.Call (.Name "sorted" p) [.Call (.Name "set" p') [e] [] pos'] [] pos) (zb0 te):=peW (zdc hgS hmS hg hm hc hu (zb he zd hs3) hs hs2) fun σ H Q ⟨S,env,P,h1,h2,h3⟩=>⟨S,env,zbv _,h1,h2,fun l hl vs H' e' rv=>by
    obtain⟨d,rfl,hd⟩:=jv hl
    obtain⟨v,rfl,r⟩:=qS rv
    cases d with
    | lst l =>
      obtain⟨ps,rfl,h15,hq⟩:=hd
      unfold Rep at r
      obtain⟨a,us,rfl,r1,r2⟩:=r
      have pr:=vq.mp r2
      refine⟨a,ps,us,rfl,SqL.of (zh _ _ r1),Paired.mapP pr fun _ _ z=>z.mono zh,h15,fun us' pr' q hn=>?_⟩
      refine (h3.mono e').new hq (vq.mpr (Paired.mapP pr' fun k v ⟨i,g1,g2⟩=>?_)) hn
      obtain⟨v',g3,g4⟩:=x3 pr g1
      rw [g2] at g3
      cases g3
      exact g4
    | _=>exact hd.elim⟩
end
end L2.DL
namespace L2.DL
open PySem PySem.Spec PyProof.Rows GS
structure CrK(K:PySem.W.Frag)(C:Addr):Prop where
  cl:Cls K C
  ns:NoAttr K C "streams"
  np:NoAttr K C "pairs"
def DnM(P:Program)(w:World)(K:PySem.W.Frag)(mg:Str→Option Value)(base:Heap)(C:Addr)(m:Str)(ps:List Str)(k:Nat)(sp:Sp):Prop :=
  ∃ f fd,qr P w K mg base CX0 k f fd ps sp∧Meth K C m f∧Binds K fd ps []
section
variable {C:Addr}{X:Cx}{a b c e o:Expr}{es:List Expr}{ta tb tc te:DT1}{t:DTA}{pos apos:Pos}
def zaT:D→(D→Prop)→Prop:=fun d Q=>match d with
  | .crs n _=>Q (.int n)
  | _=>False
def ze5:D→(D→Prop)→Prop:=fun d Q=>match d with
  | .crs _ ps=>Q (.lst (ps.map dPr))
  | _=>False
theorem xb (q:CrK X.K C) (he:DE C X e ta) (hb:attributeBase e "streams" X.env (eval e X.env)=eval e X.env:=by rfl):DE C X (.Attribute e "streams" pos) (d1 zaT ta):=peW (zhF he hb) fun σ H Q ⟨S,env,P,h1,h2,h3⟩=>⟨S,env,_,h1,h2,fun d hd v H' e rv=>by
  cases d with
  | crs n ps =>
    unfold Rep at rv
    obtain⟨x,dx,p,xs,rfl,r1,r2,r3⟩:=rv
    exact⟨x,C,dx,_,_,rfl,zh _ _ r1,q.cl,q.ns,rfl,(h3.mono e).flat hd qf⟩
  | _=>exact hd.elim⟩
theorem zap (q:CrK X.K C) (he:DE C X e ta) (hb:attributeBase e "pairs" X.env (eval e X.env)=eval e X.env:=by rfl):DE C X (.Attribute e "pairs" pos) (d1 ze5 ta):=peW (zhF he hb) fun σ H Q ⟨S,env,P,h1,h2,h3⟩=>⟨S,env,_,h1,h2,fun d hd v H' e rv=>by
  cases d with
  | crs n ps =>
    unfold Rep at rv
    obtain⟨x,dx,p,xs,rfl,r1,r2,r3⟩:=rv
    refine⟨x,C,dx,_,_,rfl,zh _ _ r1,q.cl,q.np,rfl,(h3.mono e).flat hd ?_⟩
    unfold Rep
    exact⟨p,xs,rfl,r2,vq.mpr r3⟩
  | _=>exact hd.elim⟩
def zdM(T:List D→(D→Prop)→Prop)(ta:DT1)(t:DTA):DT1:=fun env Q=>ta env fun x=>match x with
  | .crs n ps=>t env fun xs=>T (.crs n ps::xs) Q
  | _=>False
def zbY(T:List D→(List D→Prop)→Prop)(ta:DT1)(t:DTA):DTA:=fun env Q=>ta env fun x=>match x with
  | .crs n ps=>t env fun xs=>T (.crs n ps::xs) Q
  | _=>False
theorem zcJ {T:List D→(D→Prop)→Prop} {m:Str} (hm:([("streams",V.int 0),("pairs",V.int 0)]:List (Str×V)).lookup m=none):∀ σ H Q,rE X.K C (zdM T ta t) σ H Q→zdm C m (spD X.K C T) [] E0 (rE X.K C ta) (rA X.K C t) σ H Q:=fun σ H Q ⟨S,env,P,h1,h2,h3⟩ =>
  ⟨S,env,_,h1,h2,fun d hd v H' e rv=>by
    cases d with
    | crs n ps =>
      have rv0:=rv
      unfold Rep at rv
      obtain⟨x,dx,p,xs,rfl,r1,r2,r3⟩:=rv
      refine⟨x,dx,_,rfl,zh _ _ r1,?_,S,env,_,h1.mono e,hd,fun ds hds vs H'' e' rvs=>⟨S,.crs n ps::ds,P,h1.dom.mono (e.trans e'),?_,hds,h3.mono (e.trans e')⟩⟩
      · revert hm
        simp only [List.lookup]
        split <;> (try split) <;> simp
      · rw [List.append_nil]
        exact zQ (Rep.mono (zF e') _ _ rv0) rvs
    | _=>exact hd.elim⟩
theorem zfA {T:List D→(List D→Prop)→Prop} {m:Str} (hm:([("streams",V.int 0),("pairs",V.int 0)]:List (Str×V)).lookup m=none):∀ σ H Q,rF X.K C (zbY T ta t) σ H Q→zdm C m (spF X.K C T) [] E0 (rE X.K C ta) (rA X.K C t) σ H Q:=fun σ H Q ⟨S,env,P,h1,h2,h3⟩ =>
  ⟨S,env,_,h1,h2,fun d hd v H' e rv=>by
    cases d with
    | crs n ps =>
      have rv0:=rv
      unfold Rep at rv
      obtain⟨x,dx,p,xs,rfl,r1,r2,r3⟩:=rv
      refine⟨x,dx,_,rfl,zh _ _ r1,?_,S,env,_,h1.mono e,hd,fun ds hds vs H'' e' rvs=>⟨S,.crs n ps::ds,P,h1.dom.mono (e.trans e'),?_,hds,h3.mono (e.trans e')⟩⟩
      · revert hm
        simp only [List.lookup]
        split <;> (try split) <;> simp
      · rw [List.append_nil]
        exact zQ (Rep.mono (zF e') _ _ rv0) rvs
    | _=>exact hd.elim⟩
theorem zfB:∀ σ H Q,rA X.K C zhm σ H Q→zlQ σ H Q:=fun σ H Q ⟨S,env,P,h1,h2,h3⟩=>h3 [] h2 [] H (Same.refl _) repA_nil
theorem peM {T:List D→(D→Prop)→Prop} {m:Str} {ta:DT1} (h:PE X e (zdm C m (spD X.K C T) [] E0 (rE X.K C ta) zlQ)) (hm:([("streams",V.int 0),("pairs",V.int 0)]:List (Str×V)).lookup m=none):DE C X e (zdM T ta zhm):=peW h fun σ H Q z=>by
  obtain⟨S,env,P,h1,h2,h3⟩:=zcJ hm σ H Q z
  refine⟨S,env,P,h1,h2,fun d hd v H' e rv=>?_⟩
  obtain⟨x,dx,fs,e1,e2,e3,k⟩:=h3 d hd v H' e rv
  exact⟨x,dx,fs,e1,e2,e3,zfB _ _ _ k⟩
theorem znZ {T:List D→(List D→Prop)→Prop} {m:Str} {ta:DT1} (h:PE X e (zdm C m (spF X.K C T) [] E0 (rE X.K C ta) zlQ)) (hm:([("streams",V.int 0),("pairs",V.int 0)]:List (Str×V)).lookup m=none):DF C X e (zbY T ta zhm):=peW h fun σ H Q z=>by
  obtain⟨S,env,P,h1,h2,h3⟩:=zfA hm σ H Q z
  refine⟨S,env,P,h1,h2,fun d hd v H' e rv=>?_⟩
  obtain⟨x,dx,fs,e1,e2,e3,k⟩:=h3 d hd v H' e rv
  exact⟨x,dx,fs,e1,e2,e3,zfB _ _ _ k⟩
theorem zic{T:List D→(D→Prop)→Prop}{m:Str}{ps:List Str}{k k':Nat}{pl:Sem Bool}(q:CrK X.K C)(Df:DnM X.prog X.w X.K X.mg X.base C m ps k (spD X.K C T))(hr:ji k' X.A)(ho:DE C X o ta)(ha:DA C X (e::es) t)(hk:k≤k':=by decide)
    (hm:([("streams",V.int 0),("pairs",V.int 0)]:List (Str×V)).lookup m=none:=by rfl)
    (hst:starEach (e::es) X.env=(false,eval e X.env)::starEach es X.env:=by rfl) (hpl:(backTo pos (starEach es X.env)).any (·.1)=false:=by rfl)
    (ht:eval (.Call (.Attribute o m apos) (e::es) [] pos) X.env=(do
      let ov ← eval o X.env
      standAt apos.atName
      let (f,first) ← holding [ov] (getMethod ov m pl)
      callWith pos f first (backTo pos (starEach (e::es) X.env)) (backToKw pos (keywordEach [] X.env))):=by rfl) :
    DE C X (.Call (.Attribute o m apos) (e::es) [] pos) (zdM T ta t):=by
  obtain⟨f,fd,F,M,hb⟩:=Df
  exact peW (zja (pl:=pl) ho q.cl M (F.mono hk) hr hb .nil zeG ha hst hpl ht) (zcJ hm)
theorem zdU{T:List D→(D→Prop)→Prop}{m:Str}{ps:List Str}{k k':Nat}{pl:Sem Bool}(q:CrK X.K C)(Df:DnM X.prog X.w X.K X.mg X.base C m ps k (spD X.K C T))(hr:ji k' X.A)(ho:DE C X o ta)(hk:k≤k':=by decide)
    (hm:([("streams",V.int 0),("pairs",V.int 0)]:List (Str×V)).lookup m=none:=by rfl)
    (ht:eval (.Call (.Attribute o m apos) [] [] pos) X.env=(do
      let ov ← eval o X.env
      standAt apos.atName
      let (f,first) ← holding [ov] (getMethod ov m pl)
      callWith pos f first (backTo pos (starEach [] X.env)) (backToKw pos (keywordEach [] X.env))):=by rfl) :
    DE C X (.Call (.Attribute o m apos) [] [] pos) (zdM T ta zhm):=by
  obtain⟨f,fd,F,M,hb⟩:=Df
  exact peM (zcs (pl:=pl) ho q.cl M (F.mono hk) hr hb .nil zeG ht) hm
theorem zhq{T:List D→(List D→Prop)→Prop}{m:Str}{ps:List Str}{k k':Nat}{pl:Sem Bool}(q:CrK X.K C)(Df:DnM X.prog X.w X.K X.mg X.base C m ps k (spF X.K C T))(hr:ji k' X.A)(ho:DE C X o ta)(hk:k≤k':=by decide)
    (hm:([("streams",V.int 0),("pairs",V.int 0)]:List (Str×V)).lookup m=none:=by rfl)
    (ht:eval (.Call (.Attribute o m apos) [] [] pos) X.env=(do
      let ov ← eval o X.env
      standAt apos.atName
      let (f,first) ← holding [ov] (getMethod ov m pl)
      callWith pos f first (backTo pos (starEach [] X.env)) (backToKw pos (keywordEach [] X.env))):=by rfl) :
    DF C X (.Call (.Attribute o m apos) [] [] pos) (zbY T ta zhm):=by
  obtain⟨f,fd,F,M,hb⟩:=Df
  exact znZ (zcs (pl:=pl) ho q.cl M (F.mono hk) hr hb .nil zeG ht) hm
def spI(K:PySem.W.Frag)(C:Addr)(T:List D→(D→Prop)→Prop):Sp:=fun vs H Q _=>∃ x dx us H1 S ds P,vs=.ref x::us∧H1 x=none∧H1 dx=none∧dx≠x∧H=upd (upd H1 dx (.own x)) x (.ins C dx [])∧Dom H1 S∧RepA K C (less H1 S) ds us∧T ds P ∧
  ∀ n ps,P (.crs n ps)→∀ q xs H2,H2 x=some (.ins C dx [("streams",.int n),("pairs",.ref q)])→H2 q=some (.lst xs)→Paired (prV K (less H2 S)) ps xs→H1 q=none→Same H1 H2→Q .non H2
def DnI(P:Program)(w:World)(K:PySem.W.Frag)(mg:Str→Option Value)(base:Heap)(C:Addr)(x:Str)(ps:List Str)(k:Nat)(sp:Sp):Prop :=
  ∃ f fd,qr P w K mg base CX0 k f fd ps sp∧mg x=some (.ref C)∧Mk K C f∧Binds K fd ps []
theorem zhd{T:List D→(D→Prop)→Prop}:∀ σ H Q,rE X.K C (wb T t) σ H Q→zlO C (spI X.K C T) [] E0 (rA X.K C t) σ H Q:=fun σ H Q ⟨S,env,P,h1,h2,h3⟩ =>
  ⟨S,env,_,h1,h2,fun ds hd vs H' e rv x dx hx hdx hne=>by
    refine⟨x,dx,vs,H',S,ds,P,by rw [List.append_nil],hx,hdx,hne,rfl,h1.dom.mono e,rv,hd,fun n ps hP q xs H2 e1 e2 pr hq sm=>⟨rfl,?_⟩⟩
    refine h3 (.crs n ps) hP _ H2 (e.trans sm) ?_
    unfold Rep
    exact⟨x,dx,q,xs,rfl,zK.mpr ⟨fun z=>(h1.dom.mono e) x z hx,e1⟩,zK.mpr ⟨fun z=>(h1.dom.mono e) q z hq,e2⟩,pr⟩⟩
theorem zib{T:List D→(D→Prop)→Prop}{x:Str}{ps:List Str}{k k':Nat}{p:Pos}(q:CrK X.K C)(Df:DnI X.prog X.w X.K X.mg X.base C x ps k (spI X.K C T))(hr:ji (k' + 1) X.A)(hg:Gl X x)(ha:DA C X (e::es) t)(hk:k≤k':=by decide)
    (hdb:(x == ("__debug__" : Str))=false:=by decide) (he:starEach (e::es) X.env=(false,eval e X.env)::starEach es X.env:=by rfl) (hpl:(backTo pos (starEach es X.env)).any (·.1)=false:=by rfl) :
    DE C X (.Call (.Name x p) (e::es) [] pos) (wb T t):=by
  obtain⟨f,fd,F,hm,M,hb⟩:=Df
  exact peW (zi9 M (F.mono hk) hr hg hm hb .nil zeG ha hdb he hpl) zhd
end
theorem EOk.hide{K:PySem.W.Frag}{C:Addr}{H:Hp}{S:Addr→Prop}{σ:L2.St}{env:En}{p:Addr}{o:HO}(h:EOk K C H S σ env)(hp:S p)(no:∀ (i:Nat) (p:Addr) (ds:List D),env[i]?≠some (some (.ow p ds))):EOk K C (upd H p o) S σ env:=by
  refine⟨h.len,fun i sv z=>?_,h.inj,fun q hq=>?_⟩
  · obtain⟨v,e,r⟩:=h.slot i sv z
    cases sv with
    | ow p ds=>exact absurd z (no i p ds)
    | sh d =>
      refine⟨v,e,?_⟩
      show Rep K C (less _ S) d v
      rw [zcf hp]
      exact r
  · unfold upd
    split
    · exact Option.some_ne_none _
    · exact h.dom q hq
theorem zgf{K:PySem.W.Frag}{C:Addr}{u1 u2:DTS}{te:DT1}{tf:DTA}{x dx:Addr}{H1:Hp}{S:Addr→Prop}{ds:List D}{us:List V}{N:List Str}{R:En→Prop}{n:Int}{ps:List (Int×Int)}{Q:VK}(q:CrK K C)(hx:H1 x=none)(hdx:H1 dx=none)(hne:dx≠x)
    (dm:Dom H1 S) (rp:RepA K C (less H1 S) ds us) (hN:ds.length+1≤N.length)
    (hu:u1 { nx:=fun env=>u2 { nx:=R,rt:=fun _=>False } env,rt:=fun _=>False } (jz N (.cls x::ds)))
    (hR:∀ env,R env→env[0]?=some (some (.sh (.cls x)))∧(∀ (i:Nat) (p:Addr) (ds:List D),env[i]?≠some (some (.ow p ds)))∧te env (fun d=>d=.int n)∧tf env (fun l=>l=ps.map dPr))
    (fin:∀ q xs H2,H2 x=some (.ins C dx [("streams",.int n),("pairs",.ref q)])→H2 q=some (.lst xs)→Paired (prV K (less H2 S)) ps xs→H1 q=none→Same H1 H2→Q .non H2) :
    zl8 (rS K C u1) (zl8 (rS K C u2) (zl8 (zmQ K (zfM 0) (rE K C te) "streams") (zmQ K (zfM 0) (rF K C tf) "pairs"))) { nx:=fun _ H'=>Q .non H',rt:=Q } (start N (.ref x::us)) (upd (upd H1 dx (.own x)) x (.ins C dx [])):=by
  have sm0:Same H1 (upd (upd H1 dx (.own x)) x (.ins C dx [])):=fun b o e=>by
    rw [zu (zx e hx),zu (zx e hdx)]
    exact e
  have hxx:(upd (upd H1 dx (.own x)) x (.ins C dx [])) x=some (.ins C dx []):=qd
  have hdd:(upd (upd H1 dx (.own x)) x (.ins C dx [])) dx=some (.own x):=by rw [zu hne,qd]
  generalize upd (upd H1 dx (.own x)) x (.ins C dx [])=H at *
  have dm1:Dom H fun a=>S a∨a=x∨a=dx:=fun p hp=>by
    rcases hp with hp | rfl | rfl
    · exact dm.mono sm0 p hp
    · rw [hxx];exact Option.some_ne_none _
    · rw [hdd];exact Option.some_ne_none _
  have r1:RepA K C (less H fun a=>S a∨a=x∨a=dx) (.cls x::ds) (.ref x::us):=by
    refine zQ zjw (RepA.mono (fun b o e=>?_) _ _ rp)
    obtain⟨e1,e2⟩:=zK.mp e
    refine zK.mpr ⟨fun z=>?_,sm0 b o e2⟩
    rcases z with z | rfl | rfl
    · exact e1 z
    · rw [hx] at e2;cases e2
    · rw [hdx] at e2;cases e2
  rw [jA N (.cls x::ds) (by simpa using hN)] at hu
  refine⟨H,_,_,_,_,km dm1 r1,hu,⟨fun env S1 σ1 Ha h1 k1=>?_,fun _ _ _ z=>z.elim,fun _ _ _ _ z=>z.elim,fun _ _ _ _ z=>z.elim,fun _ _ _ _ z=>z.elim⟩⟩
  refine⟨H,_,S1,env,_,k1,h1,⟨fun env S2 σ2 Hb h2 k2=>?_,fun _ _ _ z=>z.elim,fun _ _ _ _ z=>z.elim,fun _ _ _ _ z=>z.elim,fun _ _ _ _ z=>z.elim⟩⟩
  obtain⟨g0,g1,g2,g3⟩:=hR env h2
  have s2x:S2 x:=k2.sub x (.inr (.inl rfl))
  have sS:∀ a,S a→S2 a:=fun a z=>k2.sub a (.inl z)
  obtain⟨v0,e0,rv0⟩:=k2.e.slot 0 _ g0
  have ev0:v0=.ref x:=by
    have:Rep K C (less Hb S2) (.cls x) v0:=rv0
    unfold Rep at this
    exact this
  subst ev0
  refine⟨S2,env,_,k2.e,g2,fun d hd v Hc ec rv=>?_⟩
  subst hd
  unfold Rep at rv
  subst rv
  have hcx:Hc x=some (.ins C dx []):=ec _ _ (k2.same _ _ hxx)
  refine⟨_,e0,x,C,dx,[],rfl,hcx,q.cl,q.ns,by decide,?_⟩
  have kc:=(k2.e.mono ec).hide (o:=.ins C dx (putF "streams" (.int n) [])) s2x g1
  refine⟨S2,env,_,kc,g3,fun l hl p xs He ee hp hlst rA=>?_⟩
  subst hl
  have hex:He x=some (.ins C dx (putF "streams" (.int n) [])):=ee _ _ qd
  refine⟨_,e0,x,C,dx,_,rfl,hex,q.cl,q.np,(by show (1:Nat) < 1000;decide),?_⟩
  have hpx:p≠x:=fun z=>by rw [z,qd] at hp;cases hp
  refine fin p xs _ qd (by rw [zu hpx];exact hlst) ?_ (Same.free (fun b o e=>?_) hp) fun b o e=>?_
  · refine Paired.mapP (vq.mp rA) fun k v z=>z.mono fun b o e=>?_
    obtain⟨e1,e2⟩:=zK.mp e
    have hbx:b≠x:=fun z=>e1 (.inl (by rw [z];exact s2x))
    exact zK.mpr ⟨fun z=>e1 (.inl (sS b z)),by rw [zu hbx];exact e2⟩
  · rw [zu (zx e hx)]
    exact ec _ _ (k2.same _ _ (sm0 b o e))
  · have hbx:b≠x:=zx e hx
    rw [zu hbx]
    refine ee _ _ ?_
    rw [zu hbx]
    exact ec _ _ (k2.same _ _ (sm0 b o e))
end L2.DL
namespace GS.J
open PySem PyProof.Rows GO
section
variable {prog:Program}{w:World}{A:Around}{E:Value→Shared→Prop}{s:Shared}
theorem zfn:isSubtype (.type "tuple") (.type "set")=pure false:=by rw [isSubtype_type];kernel_rfl
theorem zfm:isSubtype (.type "tuple") (.type "frozenset")=pure false:=by rw [isSubtype_type];kernel_rfl
theorem vN{l:Addr}{its:Array Value}{ns:List Int}{Q:Value→Shared→Prop}(hh:A.handled=none)(hl:s.heap.IsTuple l its)(hi:IntsAre its.toList ns)(hg:ns∈six)
    (h:∀ (h':Heap) (tk:Nat),SI w h' s.heap.objs.size ns→(∀ b o,s.heap.get? b=some o→h'.get? b=some o)→Q (.ref s.heap.objs.size) { s with heap:=h',toks:=tk }) :
    wpAny (model prog w) A (call (.type "set") [.ref l]) Q E s:=by
  obtain⟨c,tl,hmro⟩:=F.called_set.mro
  have hmade:=F.called_set.made
  have hsub:=F.called_set.sub
  refine wpAny_call (codeAny_of_tree ?_)
  show wpAny _ _ (callAny (.type "set") _) _ _ _
  refine wpAny_pure ⟨Code.quiet_builtin _ (by decide +kernel),codeAny_builtin F.entry_type_call ?_⟩
  rw [Around.under_plain (weight_type_call_type "set" [.ref l] []) rfl]
  have h1:=F.called_set.notType
  have h2:=F.called_set.canCreate
  have hct:=F.typeCall_set_1 (.ref l)
  repeat (any_goals (first | assumption | wp_step))
  refine codeAny_mono (zbp (.ref l) (E:=E) (Q₁:=fun ob s₁=>ob=.ref s.heap.objs.size∧s₁={ s with heap:=s.heap.push (zr w) }) ⟨rfl,rfl⟩) fun r s₁ hr=>?_
  cases r with
  | error e=>exact hr
  | ok fl =>
    cases fl with
    | ret ob =>
      obtain⟨rfl,rfl⟩:=hr
      have hS:(s.heap.push (zr w)).get? s.heap.objs.size=some (zr w):=Heap.get?_push_size _ rfl
      have hT:Shared.TypeIs { s with heap:=s.heap.push (zr w) } (.ref s.heap.objs.size) "set" := ⟨_,hS,rfl⟩
      have hli:=F.called_set.init.lookup
      have hbi:=F.called_set.init.bind (.ref s.heap.objs.size)
      repeat (any_goals (first | assumption | wp_step))
      refine codeAny_mono (codeAny_call_builtin (R:=wants (fun r s₂=>r=.none∧∃ h' tk,s₂={ s with heap:=h',toks:=tk }∧SI w h' s.heap.objs.size ns∧(∀ b o,s.heap.get? b=some o→h'.get? b=some o)) E)
        F.called_set.init.plain F.entry_set_init (check_set_init_1 hT ?_)) fun r₂ s₂ hr₂=>?_
      · obtain⟨ol,hol,hcl,nl,hdl⟩:=hl
        obtain⟨ocls,odict,odata,oslots⟩:=ol
        simp only at hcl hdl
        subst hcl;subst hdl
        have hol':(s.heap.push (zr w)).get? l=some { cls:=.type "tuple",dict:=odict,data:=.seq its nl,slots:=oslots }:=Heap.get?_push_of_some _ hol
        have hsls:=zfn
        have hslf:=zfm
        have hne:(Value.type "tuple" == Value.type "dict")=false:=by decide
        have hl1:(s.heap.push (zr w)).IsTuple l its:=⟨_,hol',rfl,nl,rfl⟩
        unfold Builtin.«set.__init__» noKeywords Builtin.Frozenset.updateFrom
        generalize hPI:pyIter=PI
        wp_walk
        subst hPI
        refine wpAny_pyIter_tuple hl1 ?_
        refine wpAny_bind (wpAny_runValue ?_)
        have hlS:l < s.heap.objs.size:=Heap.lt_size hol
        have hh3:A.in1.in1.in1.handled=none:=by simp [hh]
        have hsz:(s.heap.push (zr w)).objs.size=s.heap.objs.size+1:=Heap.size_push _ _
        have hneI:l≠(s.heap.push (zr w)).objs.size:=by rw [hsz];exact Nat.ne_of_lt (Nat.lt_succ_of_lt hlS)
        have hSf:s.heap.objs.size∉[(s.heap.push (zr w)).objs.size,l]:=fun z=>by
          rcases List.mem_cons.mp z with z | z
          · rw [hsz] at z;exact Nat.ne_of_lt (Nat.lt_succ_self _) z
          · exact Nat.ne_of_gt hlS (List.mem_singleton.mp z)
        have hval:∀ (i:Nat) (v:Value),its[i]?=some v→∃ t,v=.int ((fun i=>ns.getD i 0) i) t:=fun i v hv=>IntsAre.int_at hi i v (by rw [Array.getElem?_toList];exact hv)
        have hlen:ns.length=its.size:=by rw [← Array.length_toList];exact (IntsAre.length hi).symm
        refine zep (Walks.tuple hh3 _ l hneI its) s.heap.objs.size hSf hg hlen hval (its.size - 0) 0 _ (by omega) (Nat.zero_le _) ⟨⟨_,Heap.get?_push_size _ rfl,rfl,rfl⟩,hl1.at fun o e=>Heap.get?_push_of_some _ e⟩ ?hS0 ?hR
        case hS0 =>
          refine⟨#[],0,?_,[],rfl,by simp⟩
          exact Heap.get?_push_of_some _ hS
        case hR =>
          intro h' tk hm hS'
          show wpAny _ _ _ _ _ _
          refine wpAny_pure ?_
          show wpAny _ _ (ret Value.none) _ _ _
          refine wpAny_pure ⟨rfl,h',tk,rfl,hS',fun b o e=>?_⟩
          have hb:=Heap.lt_size e
          refine hm b o (Nat.ne_of_lt hb) (fun z=>?_) (Heap.get?_push_of_some _ (Heap.get?_push_of_some _ e))
          rw [List.mem_singleton.mp z,hsz] at hb
          exact Nat.lt_irrefl _ (Nat.lt_of_succ_lt hb)
      · cases r₂ with
        | error e=>exact hr₂
        | ok fl₂ =>
          cases fl₂ with
          | ret r =>
            obtain⟨rfl,h',tk,rfl,hS',hk'⟩:=hr₂
            repeat (any_goals (first | assumption | wp_step))
            exact h _ _ hS' hk'
          | _=>exact hr₂.elim
    | _=>exact hr.elim
theorem zjI:∀ g∈six,(g.map Int.toNat).Pairwise (· < ·):=by decide +kernel
theorem zim(L:List (Int×Tok)):IntsAre (L.map fun p=>Value.int p.1 p.2) (L.map (·.1)):=by
  induction L with
  | nil=>exact .nil
  | cons p L ih=>exact .cons p.1 p.2 ih
theorem zbI{S:Addr}{g:List Int}{Q:Value→Shared→Prop}(hh:A.handled=none)(hg:g∈six)(X:SI w s.heap S g)
    (h:∀ (out:Array Value) (h':Heap) (D:Addr) (c tk:Nat),IntsAre out.toList g→h'.get? D=some (seqObj "list" out c)→s.heap.get? D=none→(∀ b o,s.heap.get? b=some o→h'.get? b=some o)→Q (.ref D) { s with heap:=h',toks:=tk }) :
    wpAny (model prog w) A (call (.builtin "sorted") [.ref S]) Q E s:=by
  obtain⟨es,ep,ho,L,hes,hL⟩:=X.ex
  have hz:es.size=g.length:=by rw [← Array.length_toList,hes,List.length_map,← hL,List.length_map]
  have h6:=wW g hg
  have hz6:(6:Nat)≤sizeLine:=by decide
  refine Calls.call_function_entry kind_sorted plain_sorted entry_sorted (args_sorted1 _) ?_
  unfold Builtin.«sorted»
  refine wpAny_bind (m:=checkCount "sorted" 1 1 _) (wpAny_pure ?_)
  refine wpAny_bind (vP (A:=A.in1) (by simpa using hh) ho (by rw [hz];exact zg2 _ g hg) (by show ((g.map Int.toNat).toArray).toList.Pairwise (· < ·);exact zjI g hg) rfl rfl (by omega) fun h1 tk hk=>?_)
  obtain⟨L',hp,he⟩:∃ L':List (Int×Tok),L'.Perm L∧(jZ w S ep es).toList.map (·.2)=L'.map fun p=>Value.int p.1 p.2:=by
    have h1:=ki w S ep es
    rw [hes] at h1
    obtain⟨en,q1,q2⟩:=vR h1 L rfl
    exact⟨en,q1,by rw [q2,List.map_map];rfl⟩
  rw [he]
  have hlen:(L'.map fun p=>Value.int p.1 p.2).length=g.length:=by rw [List.length_map,hp.length_eq,← hL,List.length_map]
  have hI:=zim L'
  generalize (L'.map fun p=>Value.int p.1 p.2)=vs at *
  refine wpAny_bind (wpAny_newList ?_ (by omega))
  have hoL:(h1.push (seqObj "list" vs.toArray 0)).get? h1.objs.size=some (seqObj "list" vs.toArray 0):=Heap.get?_push_size _ rfl
  show wpAny _ _ _ _ _ { s with heap:=h1.push (seqObj "list" vs.toArray 0),toks:=tk }
  refine wpAny_bind (wpAny_holding (wpAny_call_entry slot_list_sort ⟨_,hoL,rfl⟩ entry_list_sort (list_sort_tree (s:={ s with heap:=h1.push (seqObj "list" vs.toArray 0),toks:=tk }) hoL hI (by omega) fun out ns' a1 a2 a3=>⟨_,rfl,?_⟩) (args_list_sort _)))
  obtain⟨c,hD⟩:=sortedHeap_at (out:=out) hoL
  have en:ns'=g:=(a2.trans ((hp.map (·.1)).trans (by rw [hL]))).eq_of_pairwise (fun x y _ _ h1 h2=>Int.le_antisymm h1 h2) a3 ((zlK g hg).imp fun h=>Int.le_of_lt h)
  rw [en] at a1
  refine wpAny_pure ⟨_,rfl,h out _ h1.objs.size c tk a1 hD ?_ fun b o e=>?_⟩
  · cases q:s.heap.get? h1.objs.size with
    | none=>rfl
    | some o=>exact absurd (Heap.lt_size (hk _ o q)) (Nat.lt_irrefl _)
  · have hb:=Heap.lt_size (hk b o e)
    rw [sortedHeap_old (Nat.ne_of_lt hb) (by rw [Heap.size_push];exact Nat.lt_succ_of_lt hb)]
    exact Heap.get?_push_of_some _ (hk b o e)
end
end GS.J
namespace L2
open PySem PySem.Spec PyProof.Rows PySem.W GS GO
def zfv(K:PySem.W.Frag)(ta:TA):TE:=fun σ H Q=>ta σ H fun vs H1=>∃ (l:Addr) (g:List Int),vs=[.ref l]∧SqT K H1 l (g.map V.int)∧g∈J.six∧∀ q,H1 q=none→Q (.ref q) (upd H1 q (.lst (g.map V.int)))
theorem zbA {X:Cx} {e:Expr} {p p' pos pos':Pos} {ta:TA} (hgS:Gl X "sorted") (hmS:X.mg "sorted" = none) (hg:Gl X "set") (hm:X.mg "set" = none) (hc:X.calm=true) (ha:PA X [e] ta)
    (hs:starEach [e] X.env=[(false,eval e X.env)]:=by rfl) (hs2:starEach [.Call (.Name "set" p') [e] [] pos'] X.env=[(false,eval (.Call (.Name "set" p') [e] [] pos') X.env)]:=by rfl) :
    PE X (.Call (.Name "sorted" p) [.Call (.Name "set" p') [e] [] pos'] [] pos) (zfv X.K ta):=by
  intro pins s σ H Q I h
  refine wpAny_Call_Name_kw (jg I hgS hmS boot_sorted ?_)
  refine PyProof.Rows.callWith_builtin1 ?_ hs2 rfl
  rw [hs2]
  refine Calls.spliced_cons (Call_ (jg I hg hm boot_set (PyProof.Rows.callWith_type1 (thn (ha pos' pins s σ H _ I h) fun us0 s1 ⟨vs,H1,I1,r1,q1⟩=>?_) hs rfl)))
  obtain⟨l,g,rfl,hq,h6,q⟩:=q1
  obtain⟨u,rfl,ru⟩:=vals1 r1
  cases ru
  obtain⟨its,rv,tp,_⟩:=I1.tuple hq
  have hd:X.A.handled=none:=I1.ok.hd hc
  refine J.vN hd (show s1.heap.IsTuple l its.toArray from tp) (ns:=g) (by simpa using intsAre_of rv) h6 fun h' tk hS keep=>?_
  have I2:Inv X pins σ H1 { s1 with heap:=h',toks:=tk }:=I1.kept keep
  refine Calls.spliced_nil (J.zbI (s:={ s1 with heap:=h',toks:=tk }) hd h6 hS fun out h2 D cc tk2 hI hD hnew keep2=>?_)
  have hlen:(g.map V.int).length≤sizeLine:=by
    rw [List.length_map]
    exact Nat.le_trans (J.wW g h6) (by decide)
  have I3:Inv X pins σ (upd H1 D (.lst (g.map V.int))) { s1 with heap:=h2,toks:=tk2 } :=
    Inv.laidN (s:={ s1 with heap:=h',toks:=tk }) I2 keep2 hnew ⟨hlen,out.toList,cc,yt hI,by simpa using hD⟩
  exact⟨V.ref D,_,I3,rfl,q D (I2.unheld hnew)⟩
end L2
namespace L2.DL
open PySem PySem.Spec PyProof.Rows PySem.W GS
section
variable {C:Addr}{X:Cx}{e:Expr}{te:DT1}{pos:Pos}
def zao(te:DT1):DTA:=fun env Q=>te env fun d=>∃ g:List Int,d=dG g∧g∈J.six∧Q (g.map D.int)
theorem zbi {p p' pos':Pos} (hgS:Gl X "sorted") (hmS:X.mg "sorted" = none) (hg:Gl X "set") (hm:X.mg "set" = none) (hc:X.calm=true) (he:DE C X e te)
    (hs:starEach [e] X.env=[(false,eval e X.env)]:=by rfl) (hs2:starEach [.Call (.Name "set" p') [e] [] pos'] X.env=[(false,eval (.Call (.Name "set" p') [e] [] pos') X.env)]:=by rfl) (hs3:starEach [e] X.env=(false,eval e X.env)::starEach [] X.env:=by rfl) :
    DF C X (.Call (.Name "sorted" p) [.Call (.Name "set" p') [e] [] pos'] [] pos) (zao te):=peW (zbA hgS hmS hg hm hc (zb he zd hs3) hs hs2) fun σ H Q ⟨S,env,P,h1,h2,h3⟩=>⟨S,env,zbv _,h1,h2,fun l hl vs H' e' rv=>by
    obtain⟨d,rfl,g,rfl,h6,hq⟩:=jv hl
    obtain⟨v,rfl,r⟩:=qS rv
    unfold dG Rep at r
    obtain⟨a,us,rfl,r1,r2⟩:=r
    rw [xh r2] at r1
    exact⟨a,g,rfl,zh.seqT r1,h6,fun q hn=>(h3.mono e').new hq ju hn⟩⟩
end
end L2.DL
set_option maxHeartbeats 1000000
namespace Sx
def sm:Nat→(Nat→Rat)→Rat
  | 0,_=>0
  | n+1,f=>sm n f+f n
theorem zk:∀ {n:Nat} {f g:Nat→Rat},(∀ i,i < n→f i=g i)→sm n f=sm n g
  | 0,_,_,_=>rfl
  | n+1,f,g,h=>by
    unfold sm
    rw [zk (n:=n) (fun i hi=>h i (by omega)),h n (by omega)]
theorem xH:∀ {n:Nat} {f:Nat→Rat},(∀ i,i < n→f i=0)→sm n f=0
  | 0,_,_=>rfl
  | n+1,f,h=>by
    unfold sm
    rw [xH (n:=n) (fun i hi=>h i (by omega)),h n (by omega)]
    grind
theorem zcF(n:Nat)(f g:Nat→Rat):sm n (fun i=>f i+g i)=sm n f+sm n g:=by
  induction n with
  | zero=>unfold sm;grind
  | succ n ih=>unfold sm;rw [ih];grind
theorem za0(n:Nat)(f g:Nat→Rat):sm n (fun i=>f i - g i)=sm n f - sm n g:=by
  induction n with
  | zero=>unfold sm;grind
  | succ n ih=>unfold sm;rw [ih];grind
theorem xG(n:Nat)(a:Rat)(f:Nat→Rat):sm n (fun i=>a*f i)=a*sm n f:=by
  induction n with
  | zero=>unfold sm;grind
  | succ n ih=>unfold sm;rw [ih];grind
theorem ym(n:Nat)(a:Rat)(f:Nat→Rat):sm n (fun i=>f i*a)=sm n f*a:=by
  induction n with
  | zero=>unfold sm;grind
  | succ n ih=>unfold sm;rw [ih];grind
theorem yl(m n:Nat)(f:Nat→Nat→Rat):sm m (fun i=>sm n (fun j=>f i j))=sm n (fun j=>sm m (fun i=>f i j)):=by
  induction m with
  | zero=>exact (xH fun _ _=>rfl).symm
  | succ m ih =>
    show sm m (fun i=>sm n (fun j=>f i j))+sm n (fun j=>f m j)=sm n (fun j=>sm m (fun i=>f i j)+f m j)
    rw [ih,zcF]
theorem zhO{n p:Nat}(hp:p < n)(a:Rat)(f:Nat→Rat):sm n (fun i=>if i=p then a else f i)=sm n f+a - f p:=by
  induction n with
  | zero=>omega
  | succ n ih =>
    unfold sm
    by_cases h:p=n
    · subst h
      rw [zk (g:=f) fun i hi=>if_neg (by omega)]
      grind
    · rw [ih (by omega)]
      grind
theorem jy{n p:Nat}(hp:p < n)(f:Nat→Rat):sm n (fun i=>if i=p then f i else 0)=f p:=by
  have h1:sm n (fun i=>if i=p then f i else 0)=sm n (fun i=>if i=p then f p else (fun _=>0) i):=zk fun i _=>by
    by_cases h:i=p
    · rw [if_pos h,if_pos h,h]
    · rw [if_neg h,if_neg h]
  rw [h1,zhO hp,xH fun _ _=>rfl]
  grind
theorem zfj{n:Nat}{f:Nat→Rat}(h:∀ i,i < n→f i≤0):sm n f≤0:=by
  induction n with
  | zero=>unfold sm;grind
  | succ n ih =>
    unfold sm
    have:=ih fun i hi=>h i (by omega)
    have:=h n (by omega)
    grind
theorem zfi{n:Nat}{f:Nat→Rat}(h:∀ i,i < n→0≤f i):0≤sm n f:=by
  induction n with
  | zero=>unfold sm;grind
  | succ n ih =>
    unfold sm
    have:=ih fun i hi=>h i (by omega)
    have:=h n (by omega)
    grind
theorem zhN{n:Nat}{f:Nat→Rat}(h:0 < sm n f):∃ i,i < n∧0 < f i:=by
  apply Classical.byContradiction
  intro hn
  have:sm n f≤0:=zfj fun i hi=>by
    have:¬ 0 < f i:=fun z=>hn ⟨i,hi,z⟩
    grind
  grind
abbrev Tb:=Nat→Nat→Rat
def piv(T:Tb)(p c:Nat):Tb:=fun i j=>if i=p then T p j / T p c else T i j - T i c*(T p j / T p c)
def upd(h:Nat→Nat)(p c:Nat):Nat→Nat:=fun i=>if i=p then c else h i
structure St(T0:Tb)(m z:Nat)(T:Tb)(h:Nat→Nat):Prop where
  rows:∀ i,i < m→∀ j,T i j=sm m fun g=>T i (z+g)*T0 g j
  cost:∀ j,T m j=T0 m j+sm m fun g=>T m (z+g)*T0 g j
  back:∀ g,g < m→∀ j,T0 g j=sm m fun i=>T0 g (h i)*T i j
  unit:∀ i,i < m→∀ k,k < m→T i (h k)=if i=k then 1 else 0
  ucost:∀ k,k < m→T m (h k)=0
  pos:∀ i,i < m→0≤T i (z+m)
  hlt:∀ k,k < m→h k < z+m
section
variable {T0 T:Tb}{m z:Nat}{h:Nat→Nat}
theorem St.cost'(S:St T0 m z T h)(j:Nat):T m j=T0 m j - sm m fun i=>T0 m (h i)*T i j:=by
  have key:∀ j,T m j=T0 m j+sm m fun i=>(sm m fun g=>T m (z+g)*T0 g (h i))*T i j:=fun j=>by
    rw [S.cost j]
    congr 1
    have e1:(sm m fun g=>T m (z+g)*T0 g j)=sm m fun g=>sm m fun i=>T m (z+g)*T0 g (h i)*T i j:=zk fun g hg=>by
      rw [S.back g hg j,← xG]
      exact zk fun i _=>by grind
    rw [e1,yl]
    exact zk fun i _=>ym ..
  have mu:∀ k,k < m→(sm m fun g=>T m (z+g)*T0 g (h k))=- T0 m (h k):=fun k hk=>by
    have:=S.cost (h k)
    rw [S.ucost k hk] at this
    grind
  rw [key j]
  have e:(sm m fun i=>(sm m fun g=>T m (z+g)*T0 g (h i))*T i j)=sm m fun i=>(-1)*(T0 m (h i)*T i j):=zk fun i hi=>by
    rw [mu i hi]
    grind
  rw [e,xG]
  grind
theorem St.uniq{T':Tb}(S:St T0 m z T h){h':Nat→Nat}(S':St T0 m z T' h')(e:∀ k,k < m→h k=h' k):(∀ i,i < m→∀ j,T i j=T' i j)∧∀ j,T m j=T' m j:=by
  have one:∀ i,i < m→∀ j,T i j=T' i j:=fun i hi j=>by
    rw [S.rows i hi j]
    have e1:(sm m fun g=>T i (z+g)*T0 g j)=sm m fun g=>sm m fun k=>T i (z+g)*T0 g (h' k)*T' k j:=zk fun g hg=>by
      rw [S'.back g hg j,← xG]
      exact zk fun k _=>by grind
    rw [e1,yl]
    have e2:(sm m fun k=>sm m fun g=>T i (z+g)*T0 g (h' k)*T' k j)=sm m fun k=>if k=i then T' k j else 0:=zk fun k hk=>by
      rw [ym,← S.rows i hi (h' k),← e k hk,S.unit i hi k hk]
      by_cases q:i=k
      · rw [if_pos q,if_pos q.symm];grind
      · rw [if_neg q,if_neg (fun z=>q z.symm)];grind
    rw [e2,jy hi]
  refine⟨one,fun j=>?_⟩
  rw [S.cost' j,S'.cost' j]
  congr 1
  exact zk fun i hi=>by rw [one i hi j,e i hi]
theorem St.bland{T':Tb}{h':Nat→Nat}(S:St T0 m z T h)(S':St T0 m z T' h')(j:Nat):T' m j - T m j=sm m fun i=>T' m (h i)*T i j:=by
  have key:∀ j,T' m j - T m j=sm m fun i=>(sm m fun g=>(T' m (z+g) - T m (z+g))*T0 g (h i))*T i j:=fun j=>by
    rw [S.cost j,S'.cost j]
    have e1:(sm m fun i=>(sm m fun g=>(T' m (z+g) - T m (z+g))*T0 g (h i))*T i j)=sm m fun g=>(T' m (z+g) - T m (z+g))*T0 g j:=by
      have e2:(sm m fun g=>(T' m (z+g) - T m (z+g))*T0 g j)=sm m fun g=>sm m fun i=>(T' m (z+g) - T m (z+g))*T0 g (h i)*T i j:=zk fun g hg=>by
        rw [S.back g hg j,← xG]
        exact zk fun k _=>by grind
      rw [e2,yl]
      exact zk fun i _=>(ym ..).symm
    rw [e1]
    have e3:(sm m fun g=>(T' m (z+g) - T m (z+g))*T0 g j)=sm m fun g=>T' m (z+g)*T0 g j - T m (z+g)*T0 g j:=zk fun g _=>by grind
    rw [e3,za0]
    grind
  rw [key j]
  refine zk fun k hk=>?_
  congr 1
  have:=key (h k)
  rw [S.ucost k hk] at this
  have e:(sm m fun i=>(sm m fun g=>(T' m (z+g) - T m (z+g))*T0 g (h i))*T i (h k))=sm m fun i=>if i=k then (sm m fun g=>(T' m (z+g) - T m (z+g))*T0 g (h i)) else 0:=zk fun i hi=>by
    rw [S.unit i hi k hk]
    by_cases q:i=k
    · rw [if_pos q,if_pos q];grind
    · rw [if_neg q,if_neg q];grind
  rw [e,jy hk] at this
  grind
theorem St.inj(S:St T0 m z T h){i k:Nat}(hi:i < m)(hk:k < m)(e:h i=h k):i=k:=by
  have h1:=S.unit i hi k hk
  rw [← e,S.unit i hi i hi,if_pos rfl] at h1
  apply Classical.byContradiction
  intro q
  rw [if_neg q] at h1
  grind
theorem St.turn(S:St T0 m z T h){p c:Nat}(hp:p < m)(hc:c < z+m)(ha:0 < T p c)(hr:∀ i,i < m→0 < T i c→T p (z+m) / T p c≤T i (z+m) / T i c):St T0 m z (piv T p c) (upd h p c):=by
  have hmp:¬ m=p:=by omega
  have hne:T p c≠0:=by grind
  refine⟨fun i hi j=>?_,fun j=>?_,fun g hg j=>?_,fun i hi k hk=>?_,fun k hk=>?_,fun i hi=>?_,fun k hk=>?_⟩
  · unfold piv
    by_cases q:i=p
    · simp only [q,if_true]
      rw [S.rows p hp j]
      have:(sm m fun g=>T p (z+g) / T p c*T0 g j)=sm m fun g=>T p (z+g)*T0 g j*(T p c)⁻¹:=zk fun g _=>by grind
      rw [this,ym]
      grind
    · simp only [q,if_false]
      have e1:(sm m fun g=>(T i (z+g) - T i c*(T p (z+g) / T p c))*T0 g j)=(sm m fun g=>T i (z+g)*T0 g j) - T i c*((sm m fun g=>T p (z+g)*T0 g j) / T p c):=by
        have:(sm m fun g=>(T i (z+g) - T i c*(T p (z+g) / T p c))*T0 g j)=sm m fun g=>T i (z+g)*T0 g j - (T i c / T p c)*(T p (z+g)*T0 g j):=zk fun g _=>by grind
        rw [this,za0,xG]
        grind
      rw [e1,← S.rows i hi j,← S.rows p hp j]
  · unfold piv
    simp only [hmp,if_false]
    have e1:(sm m fun g=>(T m (z+g) - T m c*(T p (z+g) / T p c))*T0 g j)=(sm m fun g=>T m (z+g)*T0 g j) - T m c*((sm m fun g=>T p (z+g)*T0 g j) / T p c):=by
      have:(sm m fun g=>(T m (z+g) - T m c*(T p (z+g) / T p c))*T0 g j)=sm m fun g=>T m (z+g)*T0 g j - (T m c / T p c)*(T p (z+g)*T0 g j):=zk fun g _=>by grind
      rw [this,za0,xG]
      grind
    rw [e1,← S.rows p hp j,S.cost j]
    grind
  · have hb:=S.back g hg j
    have hbc:=S.back g hg c
    have e1:(sm m fun i=>T0 g (upd h p c i)*piv T p c i j)=sm m fun i=>if i=p then T0 g c*(T p j / T p c) else T0 g (h i)*T i j - (T p j / T p c)*(T0 g (h i)*T i c):=zk fun i _=>by
      unfold upd piv
      by_cases q:i=p
      · simp only [q,if_true]
      · simp only [q,if_false];grind
    rw [e1,zhO hp,za0,xG,← hb,← hbc]
    grind
  · unfold piv upd
    by_cases qk:k=p
    · subst qk
      simp only [if_true]
      by_cases q:i=k
      · simp only [q,if_true];grind
      · simp only [q,if_false];grind
    · simp only [qk,if_false]
      have u1:=S.unit p hp k hk
      rw [if_neg (fun e=>qk e.symm)] at u1
      by_cases q:i=p
      · subst q
        simp only [if_true,u1]
        rw [if_neg (fun e=>qk e.symm)]
        grind
      · simp only [q,if_false,u1]
        rw [S.unit i hi k hk]
        grind
  · unfold piv upd
    simp only [hmp,if_false]
    by_cases qk:k=p
    · simp only [qk,if_true];grind
    · simp only [qk,if_false]
      have u1:=S.unit p hp k hk
      rw [if_neg (fun e=>qk e.symm)] at u1
      rw [u1,S.ucost k hk]
      grind
  · unfold piv
    have b0:=S.pos p hp
    have r0:0≤T p (z+m) / T p c:=by
      rw [Rat.div_def]
      exact Rat.mul_nonneg b0 ((by have:=Rat.inv_pos.mpr ha;grind))
    by_cases q:i=p
    · simp only [q,if_true]
      exact r0
    · simp only [q,if_false]
      have bi:=S.pos i hi
      by_cases hpos:0 < T i c
      · have h1:=hr i hi hpos
        have h2:T i c*(T p (z+m) / T p c)≤T i c*(T i (z+m) / T i c):=Rat.mul_le_mul_of_nonneg_left h1 (by grind)
        have h3:T i c*(T i (z+m) / T i c)=T i (z+m):=by grind
        grind
      · have h1:0≤(- T i c)*(T p (z+m) / T p c):=Rat.mul_nonneg (by grind) r0
        grind
  · unfold upd
    by_cases qk:k=p
    · simp only [qk,if_true];exact hc
    · simp only [qk,if_false];exact S.hlt k hk
end
end Sx
namespace Sx
theorem zhI:∀ (B:Nat) (f:Nat→Nat),(∀ k,f k < B)→∃ i j,i < j∧f i=f j
  | 0,f,h=>absurd (h 0) (by omega)
  | B+1,f,h=>by
    by_cases q:∃ i,∀ k,i < k→f k≠B
    · obtain⟨i,hi⟩:=q
      obtain⟨a,b,hab,e⟩:=zhI B (fun k=>f (k+i+1)) fun k=>by
        have h1:=h (k+i+1)
        have h2:=hi (k+i+1) (by omega)
        show f (k+i+1) < B
        omega
      exact⟨a+i+1,b+i+1,by omega,e⟩
    · have q':∀ i,∃ k,i < k∧f k=B:=fun i=>by
        apply Classical.byContradiction
        intro z
        exact q ⟨i,fun k hk e=>z ⟨k,hk,e⟩⟩
      obtain⟨i,_,hi⟩:=q' 0
      obtain⟨j,hj,hj'⟩:=q' i
      exact⟨i,j,hj,hi.trans hj'.symm⟩
def code(N:Nat):Nat→(Nat→Nat)→Nat
  | 0,_=>0
  | m+1,h=>code N m h*N+h m
theorem zdH{N:Nat}:∀ {m:Nat} {h:Nat→Nat},(∀ k,k < m→h k < N)→code N m h < N ^ m
  | 0,_,_=>by unfold code;simp
  | m+1,h,hh=>by
    have h1:=zdH (m:=m) (h:=h) fun k hk=>hh k (by omega)
    have h2:=hh m (by omega)
    unfold code
    rw [Nat.pow_succ]
    have h3:(code N m h+1)*N≤N ^ m*N:=Nat.mul_le_mul_right _ h1
    rw [Nat.add_mul] at h3
    omega
theorem code_inj{N:Nat}:∀ {m:Nat} {h h':Nat→Nat},(∀ k,k < m→h k < N)→(∀ k,k < m→h' k < N)→code N m h=code N m h'→∀ k,k < m→h k=h' k
  | 0,_,_,_,_,_,k,hk=>by omega
  | m+1,h,h',a,b,e,k,hk=>by
    unfold code at e
    have a1:=a m (by omega)
    have b1:=b m (by omega)
    have hN:0 < N:=by omega
    have e1:h m=h' m:=by
      have:=congrArg (· % N) e
      simp only [Nat.mul_add_mod_self_right] at this
      rwa [Nat.mod_eq_of_lt a1,Nat.mod_eq_of_lt b1] at this
    by_cases q:k=m
    · rw [q];exact e1
    · refine code_inj (m:=m) (fun k hk=>a k (by omega)) (fun k hk=>b k (by omega)) ?_ k (by omega)
      have:code N m h*N=code N m h' * N:=by omega
      exact Nat.eq_of_mul_eq_mul_right hN this
structure Ch(m z:Nat)(T:Tb)(h:Nat→Nat)(p c:Nat):Prop where
  c0:c < z+m
  cneg:T m c < 0
  cfst:∀ j,j < c→0≤T m j
  p0:p < m
  ppos:0 < T p c
  rat:∀ i,i < m→0 < T i c→T p (z+m) / T p c < T i (z+m) / T i c∨(T p (z+m) / T p c=T i (z+m) / T i c∧h p≤h i)
theorem Ch.turn{T0 T:Tb}{m z:Nat}{h:Nat→Nat}{p c:Nat}(S:St T0 m z T h)(C:Ch m z T h p c):St T0 m z (piv T p c) (upd h p c) :=
  S.turn C.p0 C.c0 C.ppos fun i hi h0=>by
    rcases C.rat i hi h0 with q | q
    · grind
    · grind
theorem zfl{P:Nat→Prop}{a b:Nat}(hab:a≤b)(ha:¬ P a)(hb:P b):∃ k,a≤k∧k < b∧¬ P k∧P (k+1):=by
  induction b with
  | zero =>
    have:a=0:=by omega
    subst this
    exact absurd hb ha
  | succ b ih =>
    by_cases q:a=b+1
    · rw [q] at ha;exact absurd hb ha
    · by_cases pb:P b
      · obtain⟨k,h1,h2,h3⟩:=ih (by omega) pb
        exact⟨k,h1,by omega,h3⟩
      · exact⟨b,by omega,by omega,pb,hb⟩
theorem zk1(f:Nat→Nat){a b:Nat}(hab:a < b):∃ k,a≤k∧k < b∧∀ l,a≤l→l < b→f l≤f k:=by
  induction b with
  | zero=>omega
  | succ b ih =>
    by_cases q:a=b
    · exact⟨b,by omega,by omega,fun l h1 h2=>by
        have:l=b:=by omega
        rw [this];exact Nat.le_refl _⟩
    · obtain⟨k,h1,h2,h3⟩:=ih (by omega)
      by_cases w:f b≤f k
      · exact⟨k,h1,by omega,fun l a1 a2=>by
          by_cases e:l=b
          · rw [e];exact w
          · exact h3 l a1 (by omega)⟩
      · exact⟨b,by omega,by omega,fun l a1 a2=>by
          by_cases e:l=b
          · rw [e];exact Nat.le_refl _
          · have:=h3 l a1 (by omega)
            omega⟩
section
variable {T0:Tb}{m z:Nat}{T:Nat→Tb}{h:Nat→Nat→Nat}{p c:Nat→Nat}
theorem zk5(S:∀ k,St T0 m z (T k) (h k))(C:∀ k,Ch m z (T k) (h k) (p k) (c k))(nT:∀ k i,i≤m→∀ j,T (k+1) i j=piv (T k) (p k) (c k) i j)(nh:∀ k i,i < m→h (k+1) i=upd (h k) (p k) (c k) i):False:=by
  obtain⟨i,j,hij,he⟩:=zhI ((z+m) ^ m) (fun k=>code (z+m) m (h k)) fun k=>zdH (S k).hlt
  have hh:=code_inj (S i).hlt (S j).hlt he
  have mono:∀ k,T k m (z+m)≤T (k+1) m (z+m)∧(T k m (z+m)=T (k+1) m (z+m)→T k (p k) (z+m)=0):=fun k=>by
    have e:=nT k m (Nat.le_refl _) (z+m)
    unfold piv at e
    rw [if_neg (by have:=(C k).p0;omega)] at e
    have b0:=(S k).pos (p k) (C k).p0
    have a0:=(C k).ppos
    have cn:=(C k).cneg
    have i0:0 < (T k (p k) (c k))⁻¹:=Rat.inv_pos.mpr a0
    have r0:0≤(- T k m (c k))*(T k (p k) (z+m)*(T k (p k) (c k))⁻¹):=Rat.mul_nonneg (by grind) (Rat.mul_nonneg b0 (by grind))
    rw [Rat.div_def] at e
    refine⟨by grind,fun q=>?_⟩
    have z0:T k m (c k)*(T k (p k) (z+m)*(T k (p k) (c k))⁻¹)=0:=by grind
    rcases Rat.mul_eq_zero.mp z0 with q1 | q1
    · grind
    · rcases Rat.mul_eq_zero.mp q1 with q2 | q2
      · exact q2
      · grind
  have up:∀ a b,a≤b→T a m (z+m)≤T b m (z+m):=fun a b hab=>by
    induction b with
    | zero =>
      have:a=0:=by omega
      rw [this];grind
    | succ b ih =>
      by_cases q:a=b+1
      · rw [q];grind
      · have:=ih (by omega)
        have:=(mono b).1
        grind
  have ez:T i m (z+m)=T j m (z+m):=((S i).uniq (S j) hh).2 _
  have deg:∀ k,i≤k→k < j→T k (p k) (z+m)=0:=fun k h1 h2=>by
    refine (mono k).2 ?_
    have u1:=up i k h1
    have u2:=up (k+1) j (by omega)
    have:=(mono k).1
    grind
  have keep:∀ k,i≤k→k≤j→∀ r,r < m→T k r (z+m)=T i r (z+m):=fun k h1 h2 r hr=>by
    induction k with
    | zero =>
      have:i=0:=by omega
      rw [this]
    | succ k ih =>
      by_cases q:i=k+1
      · rw [q]
      · rw [← ih (by omega) (by omega),nT k r (by omega) (z+m)]
        unfold piv
        have d:=deg k (by omega) (by omega)
        by_cases w:r=p k
        · rw [if_pos w,d,w,d];grind
        · rw [if_neg w,d];grind
  have bz:∀ k,i≤k→k < j→T i (p k) (z+m)=0:=fun k h1 h2=>by
    rw [← keep k h1 (by omega) (p k) (C k).p0]
    exact deg k h1 h2
  obtain⟨k1,a1,b1,hmax⟩:=zk1 c hij
  have non1:∀ r,r < m→h k1 r≠c k1:=fun r hr e=>by
    have:=(S k1).ucost r hr
    rw [e] at this
    have:=(C k1).cneg
    grind
  have stay:∀ k r,r < m→h k r≠h (k+1) r→p k=r∧h (k+1) r=c k:=fun k r hr q=>by
    have e:=nh k r hr
    unfold upd at e
    by_cases w:r=p k
    · rw [if_pos w] at e;exact⟨w.symm,e⟩
    · rw [if_neg w] at e;exact absurd e.symm q
  obtain⟨k2,a2,b2,ht⟩:∃ k2,i≤k2∧k2 < j∧h k2 (p k2)=c k1:=by
    apply Classical.byContradiction
    intro no
    have fwd:∀ r,r < m→∀ a b,i≤a→a≤b→b≤j→h a r=c k1→h b r=c k1:=fun r hr a b h1 h2 h3 e=>by
      induction b with
      | zero =>
        have:a=0:=by omega
        rw [← this];exact e
      | succ b ih =>
        by_cases q:a=b+1
        · rw [← q];exact e
        · have e':=ih (by omega) (by omega)
          by_cases w:h b r=h (b+1) r
          · rw [← w];exact e'
          · obtain⟨w1,_⟩:=stay b r hr w
            exact absurd ⟨b,by omega,by omega,by rw [w1];exact e'⟩ no
    have e1:h (k1+1) (p k1)=c k1:=by
      rw [nh k1 (p k1) (C k1).p0]
      unfold upd
      rw [if_pos rfl]
    have e2:=fwd (p k1) (C k1).p0 (k1+1) j (by omega) (by omega) (Nat.le_refl _) e1
    rw [← hh (p k1) (C k1).p0] at e2
    have e3:=fwd (p k1) (C k1).p0 i k1 (Nat.le_refl _) a1 (by omega) e2
    exact non1 _ (C k1).p0 e3
  have hp2:=(C k2).p0
  have eq:=(S k2).bland (S k1) (c k2)
  have s_ne:c k2≠c k1:=fun e=>by
    have h1:=(S k2).ucost (p k2) hp2
    rw [ht,← e] at h1
    have:=(C k2).cneg
    grind
  have s_le:=hmax k2 a2 b2
  have cs:0≤T k1 m (c k2):=(C k1).cfst _ (by omega)
  have cneg2:=(C k2).cneg
  obtain⟨r,hr,hpos⟩:=zhN (show 0 < sm m fun i=>T k1 m (h k2 i)*T k2 i (c k2) by rw [← eq];grind)
  have cv:T k1 m (h k2 r)≠0:=fun e=>by
    rw [e] at hpos
    grind
  have vt:h k2 r≠c k1:=fun e=>by
    have:r=p k2:=(S k2).inj hr hp2 (e.trans ht.symm)
    rw [this,ht] at hpos
    have x1:=(C k1).cneg
    have x2:=(C k2).ppos
    have:0≤(- T k1 m (c k1))*T k2 (p k2) (c k2):=Rat.mul_nonneg (by grind) (by grind)
    grind
  have vout:∀ q,q < m→h k1 q≠h k2 r:=fun q hq e=>by
    have:=(S k1).ucost q hq
    rw [e] at this
    exact cv this
  have fick:T i r (z+m)=0∧h k2 r≤c k1:=by
    by_cases q:k1≤k2
    · obtain⟨k,h1,h2,h3,h4⟩:=zfl (P:=fun k=>h k r=h k2 r) q (vout r hr) rfl
      obtain⟨w1,w2⟩:=stay k r hr (fun e=>h3 (e.trans h4))
      refine⟨?_,?_⟩
      · have:=bz k (by omega) (by omega)
        rwa [w1] at this
      · rw [← h4,w2]
        exact hmax k (by omega) (by omega)
    · obtain⟨k,h1,h2,h3,h4⟩:=zfl (P:=fun k=>¬ h k r=h k2 r) (a:=k2) (b:=k1) (by omega) (fun z=>z rfl) (vout r hr)
      have h3':h k r=h k2 r:=Classical.byContradiction h3
      obtain⟨w1,w2⟩:=stay k r hr (fun e=>h4 (e.symm.trans h3'))
      refine⟨?_,?_⟩
      · have:=bz k (by omega) (by omega)
        rwa [w1] at this
      · apply Classical.byContradiction
        intro no
        have nev:∀ l,i≤l→l < j→c l≠h k2 r:=fun l l1 l2 e=>no (by rw [← e];exact hmax l l1 l2)
        have out:∀ a b,i≤a→a≤b→b≤j→(∀ q,q < m→h a q≠h k2 r)→∀ q,q < m→h b q≠h k2 r:=fun a b l1 l2 l3 ha=>by
          induction b with
          | zero =>
            have:a=0:=by omega
            rw [← this];exact ha
          | succ b ih =>
            by_cases w:a=b+1
            · rw [← w];exact ha
            · intro q hq e
              have ih':=ih (by omega) (by omega) q hq
              obtain⟨_,y⟩:=stay b q hq (fun e'=>ih' (e'.trans e))
              exact nev b (by omega) (by omega) (y.symm.trans e)
        have o1:=out k1 j a1 (by omega) (Nat.le_refl _) vout
        have o2:∀ q,q < m→h i q≠h k2 r:=fun q hq e=>o1 q hq (by rw [← hh q hq];exact e)
        exact out i k2 (Nat.le_refl _) a2 (by omega) o2 r hr rfl
  have cv0:0≤T k1 m (h k2 r):=(C k1).cfst _ (by have:=fick.2;omega)
  have ar:0 < T k2 r (c k2):=by
    apply Classical.byContradiction
    intro no
    have:0≤T k1 m (h k2 r)*(- T k2 r (c k2)):=Rat.mul_nonneg cv0 (by grind)
    grind
  have b1':T k2 (p k2) (z+m)=0:=deg k2 a2 b2
  have b2':T k2 r (z+m)=0:=by rw [keep k2 a2 (by omega) r hr];exact fick.1
  rcases (C k2).rat r hr ar with q | ⟨_,q⟩
  · rw [b1',b2'] at q
    grind
  · rw [ht] at q
    have:=fick.2
    omega
end
end Sx
namespace Sx
abbrev Eqn:=(Nat→Int)×Int
def lhs(n:Nat)(a:Nat→Int)(x:Nat→Rat):Rat:=sm n fun j=>(a j:Rat)*x j
def small(n e:Nat)(q:Eqn):Prop:=(∀ j,j < n→(q.1 j).natAbs≤2 ^ e)∧q.2.natAbs≤2 ^ e
def Eb:Nat→Nat→Nat
  | 0,_=>0
  | n+1,e=>Eb n (2*e+1)+e
def Fb:Nat→Nat→Nat→Nat
  | 0,_,f=>f
  | n+1,e,f=>Fb n (2*e+1) (f+e+1)
theorem zcl{a b c d:Int}{e f:Nat}(ha:a.natAbs≤2 ^ e)(hb:b.natAbs≤2 ^ f)(hc:c.natAbs≤2 ^ f)(hd:d.natAbs≤2 ^ e):(a*b - c*d).natAbs≤2 ^ (f+e+1):=by
  have h1:(a*b).natAbs≤2 ^ e*2 ^ f:=by rw [Int.natAbs_mul];exact Nat.mul_le_mul ha hb
  have h2:(c*d).natAbs≤2 ^ f*2 ^ e:=by rw [Int.natAbs_mul];exact Nat.mul_le_mul hc hd
  have h3:2 ^ (f+e+1)=2 ^ f*2 ^ e+2 ^ f*2 ^ e:=by rw [Nat.pow_succ,Nat.pow_add];omega
  have h4:2 ^ e*2 ^ f=2 ^ f*2 ^ e:=Nat.mul_comm ..
  have:=Int.natAbs_sub_le (a*b) (c*d)
  omega
theorem zk4{a b c d:Int}{e f:Nat}(ha:a.natAbs≤2 ^ e)(hb:b.natAbs≤2 ^ f)(hc:c.natAbs≤2 ^ f)(hd:d.natAbs≤2 ^ e):(a*b+c*d).natAbs≤2 ^ (f+e+1):=by
  have:=zcl (c:=-c) (d:=d) ha hb (by rw [Int.natAbs_neg];exact hc) hd
  rwa [Int.neg_mul,Int.sub_neg] at this
theorem wz(n:Nat)(p q:Int)(a b:Nat→Int)(x:Nat→Rat):lhs n (fun j=>p*a j - q*b j) x=p*lhs n a x - q*lhs n b x:=by
  unfold lhs
  rw [← xG,← xG,← za0]
  refine zk fun j _=>?_
  rw [Rat.intCast_sub,Rat.intCast_mul,Rat.intCast_mul]
  grind
theorem solve:∀ (n e f:Nat) (x:Nat→Rat) (rows:Eqn→Prop),(∀ q,rows q→lhs n q.1 x=q.2)→(∀ q,rows q→small n e q)→(∀ y:Nat→Rat,(∀ q,rows q→lhs n q.1 y=0)→∀ j,j < n→y j=0) →
    ∀ (l:Nat→Int) (s:Int),(∀ j,j < n→(l j).natAbs≤2 ^ f)→s.natAbs≤2 ^ f→∃ α β:Int,α≠0∧(α:Rat)*(lhs n l x+s)=β∧α.natAbs≤2 ^ Eb n e∧β.natAbs≤2 ^ Fb n e f
  | 0,e,f,x,rows,h,hs,hu,l,s,hl,hsm=>by
    refine⟨1,s,by decide,?_,by unfold Eb;decide,hsm⟩
    show ((1:Int):Rat)*(0+(s:Rat))=s
    grind
  | n+1,e,f,x,rows,h,hs,hu,l,s,hl,hsm=>by
    obtain⟨⟨a,r⟩,hq,hp⟩:∃ q,rows q∧q.1 n≠0:=by
      apply Classical.byContradiction
      intro no
      have:=hu (fun j=>if j=n then 1 else 0) (fun q hq=>by
        have hz:q.1 n=0:=Classical.byContradiction fun z=>no ⟨q,hq,z⟩
        unfold lhs
        refine xH fun j hj=>?_
        by_cases w:j=n
        · rw [w,hz];grind
        · simp only [w,if_false];grind) n (by omega)
      simp only [if_true] at this
      grind
    simp only at hp
    have hqs:=hs _ hq
    have hqx:=h _ hq
    have pn:=hqs.1 n (by omega)
    have lx:∀ b:Nat→Int,∀ y:Nat→Rat,lhs (n+1) b y=lhs n b y+b n*y n:=fun b y=>rfl
    obtain⟨α,β,h1,h2,h3,h4⟩:=solve n (2*e+1) (f+e+1) x (fun q=>∃ q',rows q'∧q=(fun j=>a n*q'.1 j - q'.1 n*a j,a n*q'.2 - q'.1 n*r)) (fun q hq'=>by
        obtain⟨q',h1,rfl⟩:=hq'
        have e1:=h q' h1
        rw [lx] at e1 hqx
        simp only at hqx
        show lhs n (fun j=>a n*q'.1 j - q'.1 n*a j) x=((a n*q'.2 - q'.1 n*r:Int):Rat)
        rw [wz,Rat.intCast_sub,Rat.intCast_mul,Rat.intCast_mul,← e1,← hqx]
        grind) (fun q hq'=>by
        obtain⟨q',h1,rfl⟩:=hq'
        have s1:=hs q' h1
        have e2:2*e+1=e+e+1:=by omega
        rw [e2]
        exact⟨fun j hj=>zcl pn (s1.1 j (by omega)) (s1.1 n (by omega)) (hqs.1 j (by omega)),zcl pn s1.2 (s1.1 n (by omega)) hqs.2⟩) (fun y hy j hj=>by
        have hpr:((a n:Int):Rat)≠0:=fun z=>hp (by exact_mod_cast z)
        have:=hu (fun k=>if k=n then - lhs n a y / a n else y k) (fun q hq'=>by
          have e1:=hy (fun j=>a n*q.1 j - q.1 n*a j,a n*q.2 - q.1 n*r) ⟨q,hq',rfl⟩
          simp only at e1
          rw [wz] at e1
          rw [lx]
          have e2:lhs n q.1 (fun k=>if k=n then - lhs n a y / a n else y k)=lhs n q.1 y:=zk fun k hk=>by
            have:¬ k=n:=by omega
            simp only [this,if_false]
          rw [e2]
          simp only [if_true]
          have e3:(a n:Rat)*(lhs n q.1 y+(q.1 n:Rat)*(- lhs n a y / (a n:Rat)))=0:=by grind
          rcases Rat.mul_eq_zero.mp e3 with z | z
          · exact absurd z hpr
          · exact z) j (by omega)
        have hj':¬ j=n:=by omega
        simp only [hj',if_false] at this
        exact this) (fun j=>a n*l j - l n*a j) (a n*s+l n*r)
      (fun j hj=>zcl pn (hl j (by omega)) (hl n (by omega)) (hqs.1 j (by omega))) (zk4 pn hsm (hl n (by omega)) hqs.2)
    refine⟨α*a n,β,Int.mul_ne_zero h1 hp,?_,?_,h4⟩
    · rw [← h2,wz,lx,Rat.intCast_add,Rat.intCast_mul,Rat.intCast_mul,Rat.intCast_mul]
      rw [lx] at hqx
      simp only at hqx
      rw [← hqx]
      grind
    · rw [Int.natAbs_mul]
      unfold Eb
      rw [Nat.pow_add]
      exact Nat.mul_le_mul h3 pn
theorem nd(p:Rat):(p.num:Rat) / (p.den:Int)=p:=by
  rw [← Rat.divInt_eq_div,Rat.divInt_ofNat,Rat.mkRat_self]
theorem vD{v:Rat}{α β:Int}(ha:α≠0)(h:(α:Rat)*v=β):v.num.natAbs≤β.natAbs∧v.den≤α.natAbs:=by
  have e:α*v.num=β*v.den:=by
    have h1:(v.num:Rat)=v*((v.den:Int):Rat):=by
      have q0:((v.den:Int):Rat)≠0:=fun z=>v.den_nz (by
        have:(v.den:Int)=0:=by exact_mod_cast z
        omega)
      have q1:=nd v
      grind
    have h2:((α*v.num:Int):Rat)=((β*v.den:Int):Rat):=by
      rw [Rat.intCast_mul,Rat.intCast_mul,← h,h1]
      grind
    exact_mod_cast h2
  have hc:Nat.Coprime v.num.natAbs v.den:=v.reduced
  have e2:α.natAbs*v.num.natAbs=β.natAbs*v.den:=by
    have:=congrArg Int.natAbs e
    rwa [Int.natAbs_mul,Int.natAbs_mul,Int.natAbs_natCast] at this
  have d1:v.den ∣ α.natAbs:=by
    refine Nat.Coprime.dvd_of_dvd_mul_right (Nat.Coprime.symm hc) ?_
    rw [e2]
    exact Nat.dvd_mul_left _ _
  have d2:v.num.natAbs ∣ β.natAbs:=by
    refine Nat.Coprime.dvd_of_dvd_mul_right hc ?_
    rw [← e2]
    exact Nat.dvd_mul_left _ _
  refine⟨?_,Nat.le_of_dvd (by omega) d1⟩
  by_cases hb:β=0
  · rw [hb] at e2
    have:α.natAbs*v.num.natAbs=0:=by simpa using e2
    rcases Nat.mul_eq_zero.mp this with z | z
    · omega
    · rw [z];exact Nat.zero_le _
  · exact Nat.le_of_dvd (by omega) d2
end Sx
namespace Sx
structure Start(T0:Tb)(m z:Nat)(A:Nat→Nat→Int)(w:Nat→Int):Prop where
  a:∀ g,g < m→∀ j,T0 g j=(A g j:Rat)
  i01:∀ g,g < m→∀ j,A g j=0∨A g j=1
  rest:∀ g,g < m→∀ k,k < m→A g (z+k)=if g=k then 1 else 0
  rhs:∀ g,g < m→A g (z+m)=1
  cw:∀ j,T0 m j=if j < z then (- w j:Int) else 0
  some_:∀ j,j < z→∃ g,g < m∧A g j=1
section
variable {T0 T:Tb}{m z:Nat}{A:Nat→Nat→Int}{w:Nat→Int}{h:Nat→Nat}
def ofS(m:Nat)(h:Nat→Nat)(y:Nat→Rat)(s:Nat):Rat:=sm m fun i=>if h i=s then y i else 0
theorem zbq(F y:Nat→Rat):(sm z fun s=>F s*ofS m h y s)=sm m fun i=>if h i < z then F (h i)*y i else 0:=by
  have e1:(sm z fun s=>F s*ofS m h y s)=sm z fun s=>sm m fun i=>if h i=s then F s*y i else 0:=zk fun s _=>by
    unfold ofS
    rw [← xG]
    refine zk fun i _=>?_
    by_cases q:h i=s
    · rw [if_pos q,if_pos q]
    · rw [if_neg q,if_neg q];grind
  rw [e1,yl]
  refine zk fun i _=>?_
  by_cases q:h i < z
  · rw [if_pos q]
    have:(sm z fun s=>if h i=s then F s*y i else 0)=sm z fun s=>if s=h i then F s*y i else 0:=zk fun s _=>by
      by_cases e:h i=s
      · rw [if_pos e,if_pos e.symm]
      · rw [if_neg e,if_neg (fun z=>e z.symm)]
    rw [this,jy q (fun s=>F s*y i)]
  · rw [if_neg q]
    exact xH fun s hs=>if_neg (by omega)
theorem zaI(S:St T0 m z T h)(y:Nat→Rat){i:Nat}(hi:i < m):ofS m h y (h i)=y i:=by
  unfold ofS
  rw [← jy hi y]
  refine zk fun k hk=>?_
  by_cases q:k=i
  · rw [if_pos q,if_pos (by rw [q])]
  · rw [if_neg q,if_neg (fun e=>q (S.inj hk hi e))]
theorem zaJ(y:Nat→Rat){s:Nat}(h0:∀ i,i < m→h i≠s):ofS m h y s=0:=xH fun i hi=>if_neg (h0 i hi)
theorem vx(S:St T0 m z T h)(Z:Start T0 m z A w)(y:Nat→Rat){g:Nat}(hg:g < m):(sm m fun i=>T0 g (h i)*y i)=(sm z fun s=>T0 g s*ofS m h y s)+ofS m h y (z+g):=by
  rw [zbq (fun s=>T0 g s) y]
  unfold ofS
  rw [← zcF]
  refine zk fun i hi=>?_
  by_cases q:h i < z
  · rw [if_pos q,if_neg (by omega)];grind
  · rw [if_neg q]
    have hl:=S.hlt i hi
    have e:h i=z+(h i - z):=by omega
    have r:=Z.rest g hg (h i - z) (by omega)
    rw [← e] at r
    rw [Z.a g hg,r]
    by_cases u:g=h i - z
    · rw [if_pos u,if_pos (by omega)];grind
    · rw [if_neg u,if_neg (by omega)];grind
theorem St.zero(S:St T0 m z T h){y:Nat→Rat}(hy:∀ g,g < m→(sm m fun i=>T0 g (h i)*y i)=0){k:Nat}(hk:k < m):y k=0:=by
  have e1:(sm m fun g=>T k (z+g)*sm m fun i=>T0 g (h i)*y i)=0:=xH fun g hg=>by rw [hy g hg];grind
  have e2:(sm m fun g=>T k (z+g)*sm m fun i=>T0 g (h i)*y i)=sm m fun i=>sm m fun g=>T k (z+g)*T0 g (h i)*y i:=by
    rw [← yl]
    refine zk fun g _=>?_
    rw [← xG]
    exact zk fun i _=>by grind
  rw [e2] at e1
  have e3:(sm m fun i=>sm m fun g=>T k (z+g)*T0 g (h i)*y i)=sm m fun i=>if i=k then y i else 0:=zk fun i hi=>by
    rw [ym,← S.rows k hk (h i),S.unit k hk i hi]
    by_cases q:k=i
    · rw [if_pos q,if_pos q.symm];grind
    · rw [if_neg q,if_neg (fun e=>q e.symm)];grind
  rw [e3,jy hk] at e1
  exact e1
def Eqs(A:Nat→Nat→Int)(m z:Nat)(h:Nat→Nat)(c:Nat)(q:Eqn):Prop :=
  (∃ s,s < z∧(∀ i,i < m→h i≠s)∧q=(fun j=>if j=s then 1 else 0,0))∨∃ g,g < m∧(∀ i,i < m→h i≠z+g)∧q=(fun s=>A g s,A g c)
theorem a01{a:Int}(h:a=0∨a=1):a.natAbs≤2 ^ 0:=by
  rcases h with h | h <;> rw [h] <;> decide
theorem znn(S:St T0 m z T h)(Z:Start T0 m z A w)(c:Nat)(l:Nat→Int)(s:Int)(f:Nat)(hl:∀ j,j < z→(l j).natAbs≤2 ^ f)(hs:s.natAbs≤2 ^ f) :
    ∃ α β:Int,α≠0∧(α:Rat)*(lhs z l (ofS m h fun i=>T i c)+s)=β∧α.natAbs≤2 ^ Eb z 0∧β.natAbs≤2 ^ Fb z 0 f:=by
  refine solve z 0 f _ (Eqs A m z h c) (fun q hq=>?_) (fun q hq=>?_) (fun Y hY j hj=>?_) l s hl hs
  · rcases hq with ⟨s,hs,hn,rfl⟩ | ⟨g,hg,hn,rfl⟩
    · unfold lhs
      have e:(sm z fun j=>(((if j=s then 1 else 0:Int)):Rat)*ofS m h (fun i=>T i c) j)=sm z fun j=>if j=s then ofS m h (fun i=>T i c) j else 0:=zk fun j _=>by
        by_cases q:j=s
        · rw [if_pos q,if_pos q];grind
        · rw [if_neg q,if_neg q];grind
      show (sm z fun j=>(((if j=s then 1 else 0:Int)):Rat)*ofS m h (fun i=>T i c) j)=((0:Int):Rat)
      rw [e,jy hs,zaJ _ hn]
      rfl
    · have e:=S.back g hg c
      rw [vx S Z (fun i=>T i c) hg,zaJ _ hn] at e
      show lhs z (fun s=>A g s) _=((A g c:Int):Rat)
      rw [← Z.a g hg c,e]
      unfold lhs
      have:(sm z fun j=>((A g j:Int):Rat)*ofS m h (fun i=>T i c) j)=sm z fun s=>T0 g s*ofS m h (fun i=>T i c) s:=zk fun s _=>by rw [Z.a g hg s]
      rw [this]
      grind
  · rcases hq with ⟨s,hs,hn,rfl⟩ | ⟨g,hg,hn,rfl⟩
    · refine⟨fun j _=>?_,Nat.zero_le _⟩
      show (if j=s then (1:Int) else 0).natAbs≤_
      by_cases q:j=s
      · rw [if_pos q];decide
      · rw [if_neg q];decide
    · exact⟨fun j _=>a01 (Z.i01 g hg j),a01 (Z.i01 g hg c)⟩
  · have hno:∀ s,s < z→(∀ i,i < m→h i≠s)→Y s=0:=fun s hs hn=>by
      have:=hY _ (.inl ⟨s,hs,hn,rfl⟩)
      unfold lhs at this
      have e:(sm z fun j=>(((if j=s then 1 else 0:Int)):Rat)*Y j)=sm z fun j=>if j=s then Y j else 0:=zk fun j _=>by
        by_cases q:j=s
        · rw [if_pos q,if_pos q];grind
        · rw [if_neg q,if_neg q];grind
      have this':(sm z fun j=>(((if j=s then 1 else 0:Int)):Rat)*Y j)=0:=this
      rw [e,jy hs] at this'
      exact this'
    let y:Nat→Rat:=fun i=>if h i < z then Y (h i) else - sm z fun s=>T0 (h i - z) s*Y s
    have hof:∀ s,s < z→ofS m h y s=Y s:=fun s hs=>by
      by_cases q:∃ i,i < m∧h i=s
      · obtain⟨i,hi,e⟩:=q
        rw [← e,zaI S y hi]
        show (if h i < z then Y (h i) else _)=_
        rw [if_pos (by omega)]
      · have hn:∀ i,i < m→h i≠s:=fun i hi e=>q ⟨i,hi,e⟩
        rw [zaJ y hn,hno s hs hn]
    have hzero:∀ k,k < m→y k=0:=fun k hk=>S.zero (fun g hg=>by
      rw [vx S Z y hg]
      have e1:(sm z fun s=>T0 g s*ofS m h y s)=sm z fun s=>T0 g s*Y s:=zk fun s hs=>by rw [hof s hs]
      rw [e1]
      by_cases q:∃ i,i < m∧h i=z+g
      · obtain⟨i,hi,e⟩:=q
        rw [← e,zaI S y hi]
        show _+(if h i < z then Y (h i) else - sm z fun s=>T0 (h i - z) s*Y s)=0
        rw [if_neg (by omega),e,show z+g - z=g by omega]
        grind
      · have hn:∀ i,i < m→h i≠z+g:=fun i hi e=>q ⟨i,hi,e⟩
        rw [zaJ y hn]
        have:=hY _ (.inr ⟨g,hg,hn,rfl⟩)
        have this':(sm z fun s=>((A g s:Int):Rat)*Y s)=0:=this
        have e2:(sm z fun s=>T0 g s*Y s)=sm z fun s=>((A g s:Int):Rat)*Y s:=zk fun s _=>by rw [Z.a g hg s]
        rw [e2,this']
        grind) hk
    by_cases q:∃ i,i < m∧h i=j
    · obtain⟨i,hi,e⟩:=q
      have:=hzero i hi
      have this':(if h i < z then Y (h i) else - sm z fun s=>T0 (h i - z) s*Y s)=0:=this
      rw [if_pos (by omega),e] at this'
      exact this'
    · exact hno j hj fun i hi e=>q ⟨i,hi,e⟩
theorem zg3(S:St T0 m z T h)(Z:Start T0 m z A w){i:Nat}(hi:i < m)(c:Nat):(T i c).num.natAbs≤2 ^ Fb z 0 0∧(T i c).den≤2 ^ Eb z 0:=by
  have key:∃ (l:Nat→Int) (s:Int),(∀ j,j < z→(l j).natAbs≤2 ^ 0)∧s.natAbs≤2 ^ 0∧lhs z l (ofS m h fun i=>T i c)+s=T i c:=by
    by_cases q:h i < z
    · refine⟨fun j=>if j=h i then 1 else 0,0,fun j _=>?_,by decide,?_⟩
      · show (if j=h i then (1:Int) else 0).natAbs≤_
        by_cases q:j=h i
        · rw [if_pos q];decide
        · rw [if_neg q];decide
      · unfold lhs
        have e:(sm z fun j=>(((if j=h i then 1 else 0:Int)):Rat)*ofS m h (fun i=>T i c) j)=sm z fun j=>if j=h i then ofS m h (fun i=>T i c) j else 0:=zk fun j _=>by
          by_cases q:j=h i
          · rw [if_pos q,if_pos q];grind
          · rw [if_neg q,if_neg q];grind
        rw [e,jy q,zaI S _ hi]
        grind
    · have hl:=S.hlt i hi
      have hg:h i - z < m:=by omega
      have e:=S.back (h i - z) hg c
      rw [vx S Z (fun i=>T i c) hg,show z+(h i - z)=h i by omega,zaI S _ hi] at e
      refine⟨fun s=>- A (h i - z) s,A (h i - z) c,fun j _=>by rw [Int.natAbs_neg];exact a01 (Z.i01 _ hg j),a01 (Z.i01 _ hg c),?_⟩
      have e2:lhs z (fun s=>- A (h i - z) s) (ofS m h fun i=>T i c)=- sm z fun s=>T0 (h i - z) s*ofS m h (fun i=>T i c) s:=by
        unfold lhs
        have:(sm z fun j=>((- A (h i - z) j:Int):Rat)*ofS m h (fun i=>T i c) j)=sm z fun s=>(-1)*(T0 (h i - z) s*ofS m h (fun i=>T i c) s):=zk fun s _=>by
          rw [Z.a _ hg s,Rat.intCast_neg]
          grind
        rw [this,xG]
        grind
      rw [e2,← Z.a _ hg c,e]
      grind
  obtain⟨l,s,h1,h2,h3⟩:=key
  obtain⟨α,β,a1,a2,a3,a4⟩:=znn S Z c l s 0 h1 h2
  rw [h3] at a2
  have:=vD a1 a2
  exact⟨Nat.le_trans this.1 a4,Nat.le_trans this.2 a3⟩
theorem zfg(S:St T0 m z T h)(Z:Start T0 m z A w){f:Nat}(hw:∀ j,j < z→(w j).natAbs≤2 ^ f)(c:Nat):(T m c).num.natAbs≤2 ^ Fb z 0 f∧(T m c).den≤2 ^ Eb z 0:=by
  have key:lhs z w (ofS m h fun i=>T i c)+((if c < z then - w c else 0:Int):Rat)=T m c:=by
    rw [S.cost' c,Z.cw c]
    have e1:(sm m fun i=>T0 m (h i)*T i c)=sm m fun i=>if h i < z then ((- w (h i):Int):Rat)*T i c else 0:=zk fun i _=>by
      rw [Z.cw]
      by_cases q:h i < z
      · rw [if_pos q,if_pos q]
      · rw [if_neg q,if_neg q];grind
    rw [e1,← zbq (fun s=>((- w s:Int):Rat)) (fun i=>T i c)]
    unfold lhs
    have e2:(sm z fun s=>((- w s:Int):Rat)*ofS m h (fun i=>T i c) s)=sm z fun s=>(-1)*((w s:Rat)*ofS m h (fun i=>T i c) s):=zk fun s _=>by
      rw [Rat.intCast_neg];grind
    rw [e2,xG]
    by_cases q:c < z
    · rw [if_pos q];grind
    · rw [if_neg q];grind
  obtain⟨α,β,a1,a2,a3,a4⟩:=znn S Z c w (if c < z then - w c else 0) f hw (by
    by_cases q:c < z
    · rw [if_pos q,Int.natAbs_neg];exact hw c q
    · rw [if_neg q];exact Nat.zero_le _)
  rw [key] at a2
  have:=vD a1 a2
  exact⟨Nat.le_trans this.1 a4,Nat.le_trans this.2 a3⟩
theorem binds(S:St T0 m z T h)(Z:Start T0 m z A w){c:Nat}(hc:c < z+m):∃ i,i < m∧0 < T i c:=by
  obtain⟨g,hg,e⟩:∃ g,g < m∧A g c=1:=by
    by_cases q:c < z
    · exact Z.some_ c q
    · refine⟨c - z,by omega,?_⟩
      have:=Z.rest (c - z) (by omega) (c - z) (by omega)
      rw [if_pos rfl,show z+(c - z)=c by omega] at this
      exact this
  have h1:=S.back g hg c
  rw [Z.a g hg c,e] at h1
  obtain⟨i,hi,h2⟩:=zhN (n:=m) (f:=fun i=>T0 g (h i)*T i c) (by rw [← h1];decide)
  refine⟨i,hi,?_⟩
  rw [Z.a g hg] at h2
  rcases Z.i01 g hg (h i) with q | q
  · rw [q] at h2;grind
  · rw [q] at h2;grind
theorem Start.st(Z:Start T0 m z A w):St T0 m z T0 fun k=>z+k:=by
  have r:∀ g,g < m→∀ k,k < m→T0 g (z+k)=if g=k then 1 else 0:=fun g hg k hk=>by
    rw [Z.a g hg,Z.rest g hg k hk]
    by_cases q:g=k
    · rw [if_pos q,if_pos q];rfl
    · rw [if_neg q,if_neg q];rfl
  refine⟨fun i hi j=>?_,fun j=>?_,fun g hg j=>?_,fun i hi k hk=>?_,fun k hk=>?_,fun i hi=>?_,fun k hk=>by omega⟩
  · have:(sm m fun g=>T0 i (z+g)*T0 g j)=sm m fun g=>if g=i then T0 g j else 0:=zk fun g hg=>by
      rw [r i hi g hg]
      by_cases q:i=g
      · rw [if_pos q,if_pos q.symm];grind
      · rw [if_neg q,if_neg (fun e=>q e.symm)];grind
    rw [this,jy hi]
  · have:(sm m fun g=>T0 m (z+g)*T0 g j)=0:=xH fun g _=>by
      rw [Z.cw,if_neg (by omega)];grind
    rw [this]
    grind
  · have:(sm m fun i=>T0 g (z+i)*T0 i j)=sm m fun i=>if i=g then T0 i j else 0:=zk fun i hi=>by
      rw [r g hg i hi]
      by_cases q:g=i
      · rw [if_pos q,if_pos q.symm];grind
      · rw [if_neg q,if_neg (fun e=>q e.symm)];grind
    rw [this,jy hg]
  · exact r i hi k hk
  · show T0 m (z+k)=0
    rw [Z.cw,if_neg (by omega)]
    rfl
  · rw [Z.a i hi,Z.rhs i hi]
    decide
theorem zjd(S:St T0 m z T h)(Z:Start T0 m z A w){s:Nat}(hs:s < z)(h0:0≤T m s):(w s:Rat)≤sm m fun g=>T m (z+g)*(A g s:Rat):=by
  have e:=S.cost s
  rw [Z.cw,if_pos hs,Rat.intCast_neg] at e
  have:(sm m fun g=>T m (z+g)*T0 g s)=sm m fun g=>T m (z+g)*(A g s:Rat):=zk fun g hg=>by rw [Z.a g hg]
  rw [this] at e
  grind
theorem zgQ(S:St T0 m z T h)(Z:Start T0 m z A w):T m (z+m)=sm m fun g=>T m (z+g):=by
  have e:=S.cost (z+m)
  rw [Z.cw,if_neg (by omega)] at e
  have:(sm m fun g=>T m (z+g)*T0 g (z+m))=sm m fun g=>T m (z+g):=zk fun g hg=>by
    rw [Z.a g hg,Z.rhs g hg]
    grind
  rw [this] at e
  grind
theorem kX(S:St T0 m z T h)(s:Nat):0≤ofS m h (fun i=>T i (z+m)) s:=zfi fun i hi=>by
  by_cases q:h i=s
  · rw [if_pos q];exact S.pos i hi
  · rw [if_neg q];grind
theorem zgA(S:St T0 m z T h)(Z:Start T0 m z A w){g:Nat}(hg:g < m):(sm z fun s=>(A g s:Rat)*ofS m h (fun i=>T i (z+m)) s)≤1:=by
  have e:=S.back g hg (z+m)
  rw [vx S Z (fun i=>T i (z+m)) hg,Z.a g hg,Z.rhs g hg] at e
  have p:=kX S (z+g)
  have:(sm z fun s=>T0 g s*ofS m h (fun i=>T i (z+m)) s)=sm z fun s=>(A g s:Rat)*ofS m h (fun i=>T i (z+m)) s:=zk fun s _=>by rw [Z.a g hg]
  rw [this] at e
  grind
theorem zfR(S:St T0 m z T h)(Z:Start T0 m z A w):(sm z fun s=>(w s:Rat)*ofS m h (fun i=>T i (z+m)) s)=T m (z+m):=by
  rw [S.cost' (z+m),Z.cw,if_neg (by omega)]
  have e1:(sm m fun i=>T0 m (h i)*T i (z+m))=sm m fun i=>if h i < z then ((- w (h i):Int):Rat)*T i (z+m) else 0:=zk fun i _=>by
    rw [Z.cw]
    by_cases q:h i < z
    · rw [if_pos q,if_pos q]
    · rw [if_neg q,if_neg q];grind
  rw [e1,← zbq (fun s=>((- w s:Int):Rat)) (fun i=>T i (z+m))]
  have e2:(sm z fun s=>((- w s:Int):Rat)*ofS m h (fun i=>T i (z+m)) s)=sm z fun s=>(-1)*((w s:Rat)*ofS m h (fun i=>T i (z+m)) s):=zk fun s _=>by
    rw [Rat.intCast_neg];grind
  rw [e2,xG]
  grind
end
end Sx
namespace Sx
abbrev TL:=List (List Rat)
def ent(T:TL):Tb:=fun i j=>(T.getD i []).getD j 0
def xU(T:TL)(p c:Nat):List Rat:=(T.getD p []).map fun x=>x / ent T p c
def zhf(row head:List Rat)(c:Nat):List Rat:=List.zipWith (fun a b=>a - row.getD c 0*b) row head
def v8(T:TL)(p c:Nat):TL:=(T.map fun row=>zhf row (xU T p c) c).set p (xU T p c)
def Wide(T:TL)(M W:Nat):Prop:=T.length=M∧∀ r∈T,r.length=W
theorem Wide.row{T:TL}{M W i:Nat}(w:Wide T M W)(hi:i < M):(T.getD i []).length=W:=by
  have h:i < T.length:=by rw [w.1];exact hi
  rw [List.getD_eq_getElem?_getD,List.getElem?_eq_getElem h]
  exact w.2 _ (List.getElem_mem h)
theorem kH{T:TL}{M W p c:Nat}(w:Wide T M W)(hp:p < M):(xU T p c).length=W:=by
  unfold xU
  rw [List.length_map,w.row hp]
theorem Wide.turn{T:TL}{M W p c:Nat}(w:Wide T M W)(hp:p < M):Wide (v8 T p c) M W:=by
  refine⟨by unfold v8;rw [List.length_set,List.length_map,w.1],fun r hr=>?_⟩
  unfold v8 at hr
  rcases List.mem_or_eq_of_mem_set hr with h | h
  · obtain⟨row,h1,rfl⟩:=List.mem_map.mp h
    unfold zhf
    rw [List.length_zipWith,w.2 row h1,kH w hp,Nat.min_self]
  · rw [h];exact kH w hp
theorem zax(l:List Rat)(a:Rat)(j:Nat):(l.map fun x=>x / a).getD j 0=l.getD j 0 / a:=by
  rw [List.getD_eq_getElem?_getD,List.getD_eq_getElem?_getD,List.getElem?_map]
  cases l[j]? with
  | none=>simp only [Option.map_none,Option.getD_none];grind
  | some x=>rfl
theorem zf9(l k:List Rat)(a:Rat)(h:l.length=k.length)(j:Nat):(List.zipWith (fun x y=>x - a*y) l k).getD j 0=l.getD j 0 - a*k.getD j 0:=by
  rw [List.getD_eq_getElem?_getD,List.getD_eq_getElem?_getD,List.getD_eq_getElem?_getD,List.getElem?_zipWith]
  by_cases hj:j < l.length
  · rw [List.getElem?_eq_getElem hj,List.getElem?_eq_getElem (by omega)]
    rfl
  · rw [List.getElem?_eq_none (by omega),List.getElem?_eq_none (by omega)]
    simp only [Option.getD_none]
    grind
theorem zf5{T:TL}{M W p c:Nat}(w:Wide T M W)(hp:p < M){i:Nat}(hi:i < M)(j:Nat):ent (v8 T p c) i j=piv (ent T) p c i j:=by
  have hl:i < T.length:=by rw [w.1];exact hi
  unfold piv
  by_cases q:i=p
  · subst q
    rw [if_pos rfl]
    unfold v8
    have e1:((T.map fun row=>zhf row (xU T i c) c).set i (xU T i c)).getD i []=xU T i c:=by
      rw [List.getD_eq_getElem?_getD,List.getElem?_set,if_pos rfl,if_pos (by rw [List.length_map];exact hl),Option.getD_some]
    show ((((T.map fun row=>zhf row (xU T i c) c).set i (xU T i c)).getD i []).getD j 0:Rat)=_
    rw [e1]
    unfold xU
    rw [zax]
    rfl
  · rw [if_neg q]
    unfold v8
    have e1:((T.map fun row=>zhf row (xU T p c) c).set p (xU T p c)).getD i []=zhf T[i] (xU T p c) c:=by
      rw [List.getD_eq_getElem?_getD,List.getElem?_set,if_neg (fun e=>q e.symm),List.getElem?_map,List.getElem?_eq_getElem hl]
      rfl
    show ((((T.map fun row=>zhf row (xU T p c) c).set p (xU T p c)).getD i []).getD j 0:Rat)=_
    rw [e1]
    unfold zhf
    rw [zf9 _ _ _ (by rw [kH w hp];exact w.2 _ (List.getElem_mem hl))]
    unfold xU
    rw [zax]
    have e:T.getD i []=T[i]:=by rw [List.getD_eq_getElem?_getD,List.getElem?_eq_getElem hl];rfl
    unfold ent
    rw [e]
def zbX(T:Tb)(m:Nat):Nat→Option Nat
  | 0=>none
  | n+1=>match zbX T m n with
    | some c=>some c
    | none=>if T m n < 0 then some n else none
theorem ku{T:Tb}{m:Nat}:∀ {n:Nat},zbX T m n=none→∀ j,j < n→0≤T m j
  | 0,_,j,hj=>by omega
  | n+1,h,j,hj=>by
    unfold zbX at h
    split at h
    · cases h
    · next h' =>
      by_cases q:T m n < 0
      · rw [if_pos q] at h;cases h
      · by_cases e:j=n
        · rw [e];grind
        · exact ku h' j (by omega)
theorem zak{T:Tb}{m:Nat}:∀ {n c:Nat},zbX T m n=some c→c < n∧T m c < 0∧∀ j,j < c→0≤T m j
  | 0,c,h=>by cases h
  | n+1,c,h=>by
    unfold zbX at h
    split at h
    · next c' h' =>
      cases h
      have:=zak h'
      exact⟨by omega,this.2⟩
    · next h' =>
      by_cases q:T m n < 0
      · rw [if_pos q] at h
        cases h
        exact⟨by omega,q,fun j hj=>ku h' j hj⟩
      · rw [if_neg q] at h;cases h
def room(T:Tb)(b c i:Nat):Rat:=T i b / T i c
def ahead(T:Tb)(b:Nat)(h:Nat→Nat)(c i k:Nat):Bool:=decide (room T b c i < room T b c k) || (decide (room T b c i=room T b c k) && decide (h i < h k))
def zbF(T:Tb)(b:Nat)(h:Nat→Nat)(c:Nat):Nat→Option Nat
  | 0=>none
  | n+1=>if 0 < T n c then (match zbF T b h c n with
    | none=>some n
    | some k=>if ahead T b h c n k=true then some n else some k) else zbF T b h c n
theorem yc{T:Tb}{b:Nat}{h:Nat→Nat}{c:Nat}:∀ {n:Nat},zbF T b h c n=none→∀ i,i < n→¬ 0 < T i c
  | 0,_,i,hi=>by omega
  | n+1,e,i,hi=>by
    unfold zbF at e
    by_cases q:0 < T n c
    · rw [if_pos q] at e
      split at e
      · cases e
      · split at e <;> cases e
    · rw [if_neg q] at e
      by_cases w:i=n
      · rw [w];exact q
      · exact yc e i (by omega)
theorem vv{T:Tb}{b:Nat}{h:Nat→Nat}{c:Nat}:∀ {n k:Nat},zbF T b h c n=some k→k < n∧0 < T k c∧∀ i,i < n→0 < T i c→room T b c k < room T b c i∨(room T b c k=room T b c i∧h k≤h i)
  | 0,k,e=>by cases e
  | n+1,k,e=>by
    unfold zbF at e
    by_cases q:0 < T n c
    · rw [if_pos q] at e
      split at e
      · next e' =>
        cases e
        refine⟨by omega,q,fun i hi hp=>?_⟩
        by_cases w:i=n
        · rw [w];exact .inr ⟨rfl,Nat.le_refl _⟩
        · exact absurd hp (yc e' i (by omega))
      · next k' e' =>
        obtain⟨a1,a2,a3⟩:=vv e'
        by_cases u:ahead T b h c n k'=true
        · rw [if_pos u] at e
          cases e
          unfold ahead at u
          rw [Bool.or_eq_true,Bool.and_eq_true,decide_eq_true_eq,decide_eq_true_eq,decide_eq_true_eq] at u
          refine⟨by omega,q,fun i hi hp=>?_⟩
          by_cases w:i=n
          · rw [w];exact .inr ⟨rfl,Nat.le_refl _⟩
          · rcases a3 i (by omega) hp with v | v
            · rcases u with u | u <;> left <;> grind
            · rcases u with u | u
              · left;grind
              · right;exact⟨by grind,by omega⟩
        · rw [if_neg u] at e
          cases e
          unfold ahead at u
          rw [Bool.or_eq_true,Bool.and_eq_true,decide_eq_true_eq,decide_eq_true_eq,decide_eq_true_eq] at u
          refine⟨by omega,a2,fun i hi hp=>?_⟩
          by_cases w:i=n
          · rw [w]
            by_cases l:room T b c k < room T b c n
            · exact .inl l
            · have e1:room T b c k=room T b c n:=by
                have:¬ room T b c n < room T b c k:=fun z=>u (.inl z)
                grind
              refine .inr ⟨e1,?_⟩
              have:¬ h n < h k:=fun z=>u (.inr ⟨e1.symm,z⟩)
              omega
          · exact a3 i (by omega) hp
    · rw [if_neg q] at e
      obtain⟨a1,a2,a3⟩:=vv e
      refine⟨by omega,a2,fun i hi hp=>?_⟩
      by_cases w:i=n
      · rw [w] at hp;exact absurd hp q
      · exact a3 i (by omega) hp
structure RS where
  T:TL
  h:List Nat
def zdq(m z:Nat)(s:RS):Option Nat:=zbX (ent s.T) m (z+m)
def zl7(m z:Nat)(s:RS)(c:Nat):Option Nat:=zbF (ent s.T) (z+m) (fun i=>s.h.getD i 0) c m
def next(m z:Nat)(s:RS):RS:=match zdq m z s with
  | none=>s
  | some c=>match zl7 m z s c with
    | none=>s
    | some p=>⟨v8 s.T p c,s.h.set p c⟩
def run(m z:Nat)(s:RS):Nat→RS
  | 0=>s
  | n+1=>next m z (run m z s n)
structure RSt(T0:Tb)(m z:Nat)(s:RS):Prop where
  st:St T0 m z (ent s.T) fun i=>s.h.getD i 0
  wide:Wide s.T (m+1) (z+m+1)
  hl:s.h.length=m
theorem zhP{T0 T T':Tb}{m z:Nat}{h h':Nat→Nat}(S:St T0 m z T h)(eT:∀ i,i≤m→∀ j,T' i j=T i j)(eh:∀ i,i < m→h' i=h i):St T0 m z T' h':=by
  refine⟨fun i hi j=>?_,fun j=>?_,fun g hg j=>?_,fun i hi k hk=>?_,fun k hk=>?_,fun i hi=>?_,fun k hk=>?_⟩
  · rw [eT i (by omega) j,S.rows i hi j]
    exact zk fun g _=>by rw [eT i (by omega)]
  · rw [eT m (by omega) j,S.cost j]
    congr 1
    exact zk fun g _=>by rw [eT m (by omega)]
  · rw [S.back g hg j]
    exact zk fun i hi=>by rw [eT i (by omega),eh i hi]
  · rw [eT i (by omega),eh k hk,S.unit i hi k hk]
  · rw [eT m (by omega),eh k hk,S.ucost k hk]
  · rw [eT i (by omega)];exact S.pos i hi
  · rw [eh k hk];exact S.hlt k hk
section
variable {T0:Tb}{m z:Nat}{A:Nat→Nat→Int}{w:Nat→Int}
theorem RSt.row(Z:Start T0 m z A w){s:RS}(R:RSt T0 m z s){c:Nat}(hc:zdq m z s=some c):∃ p,zl7 m z s c=some p∧Ch m z (ent s.T) (fun i=>s.h.getD i 0) p c:=by
  obtain⟨c1,c2,c3⟩:=zak hc
  cases hr:zl7 m z s c with
  | none =>
    obtain⟨i,hi,hp⟩:=binds R.st Z c1
    exact absurd hp (yc hr i hi)
  | some p =>
    obtain⟨p1,p2,p3⟩:=vv hr
    exact⟨p,rfl,⟨c1,c2,c3,p1,p2,p3⟩⟩
theorem RSt.next(Z:Start T0 m z A w){s:RS}(R:RSt T0 m z s){c:Nat}(hc:zdq m z s=some c):∃ p,zl7 m z s c=some p∧Ch m z (ent s.T) (fun i=>s.h.getD i 0) p c∧next m z s=⟨v8 s.T p c,s.h.set p c⟩∧RSt T0 m z (next m z s) ∧
    (∀ i,i≤m→∀ j,ent (next m z s).T i j=piv (ent s.T) p c i j)∧∀ i,i < m→(next m z s).h.getD i 0=upd (fun i=>s.h.getD i 0) p c i:=by
  obtain⟨p,hp,C⟩:=R.row Z hc
  have e:Sx.next m z s=⟨v8 s.T p c,s.h.set p c⟩:=by
    unfold Sx.next
    rw [hc]
    simp only [hp]
  have e1:∀ i,i≤m→∀ j,ent (Sx.next m z s).T i j=piv (ent s.T) p c i j:=fun i hi j=>by
    rw [e]
    exact zf5 R.wide (by have:=C.p0;omega) (by omega) j
  have e2:∀ i,i < m→(Sx.next m z s).h.getD i 0=upd (fun i=>s.h.getD i 0) p c i:=fun i hi=>by
    rw [e]
    show (s.h.set p c).getD i 0=_
    unfold upd
    rw [List.getD_eq_getElem?_getD,List.getElem?_set]
    by_cases q:p=i
    · rw [if_pos q,if_pos (by rw [R.hl];exact C.p0),if_pos q.symm];rfl
    · rw [if_neg q,if_neg (fun e=>q e.symm)];exact (List.getD_eq_getElem?_getD ..).symm
  refine⟨p,hp,C,e,⟨zhP (C.turn R.st) e1 e2,?_,?_⟩,e1,e2⟩
  · rw [e];exact R.wide.turn (by have:=C.p0;omega)
  · rw [e];show (s.h.set p c).length=m;rw [List.length_set];exact R.hl
theorem zfc(Z:Start T0 m z A w){s:RS}(R:RSt T0 m z s):∀ n,RSt T0 m z (run m z s n)
  | 0=>R
  | n+1=>by
    have ih:=zfc Z R n
    show RSt T0 m z (Sx.next m z (run m z s n))
    cases hc:zdq m z (run m z s n) with
    | none =>
      have:Sx.next m z (run m z s n)=run m z s n:=by unfold Sx.next;rw [hc]
      rw [this];exact ih
    | some c =>
      obtain⟨p,_,_,_,R',_⟩:=ih.next Z hc
      exact R'
theorem zgR(Z:Start T0 m z A w){s:RS}(R:RSt T0 m z s):∃ n,zdq m z (run m z s n)=none:=by
  apply Classical.byContradiction
  intro no
  have hc:∀ n,∃ c,zdq m z (run m z s n)=some c:=fun n=>by
    cases h:zdq m z (run m z s n) with
    | none=>exact absurd ⟨n,h⟩ no
    | some c=>exact⟨c,rfl⟩
  have step:=fun n=>(zfc Z R n).next Z (Classical.choose_spec (hc n))
  exact zk5 (T0:=T0) (m:=m) (z:=z) (T:=fun n=>ent (run m z s n).T) (h:=fun n i=>(run m z s n).h.getD i 0) (c:=fun n=>Classical.choose (hc n)) (p:=fun n=>Classical.choose (step n))
    (fun n=>(zfc Z R n).st) (fun n=>(Classical.choose_spec (step n)).2.1) (fun n=>(Classical.choose_spec (step n)).2.2.2.2.1) (fun n=>(Classical.choose_spec (step n)).2.2.2.2.2)
end
end Sx
namespace Sx
def mk(b:Bool):Rat:=if b then 1 else 0
def mkI(b:Bool):Int:=if b then 1 else 0
theorem wB(b:Bool):mk b=(mkI b:Rat):=by cases b <;> rfl
theorem zk2(b:Bool):mkI b=0∨mkI b=1:=by cases b <;> simp [mkI]
def zhL(gs:List (List Int))(z:Nat)(g:List Int):List Rat:=(List.range z).map (fun (s:Nat)=>mk (decide ((s:Int)∈g)))++gs.map (fun o=>mk (decide (o=g)))++[1]
def zbd(gs:List (List Int))(ws:List Int):List Rat:=ws.map (fun w=>((- w:Int):Rat))++List.replicate gs.length 0++[0]
def t0(gs:List (List Int))(ws:List Int):TL:=gs.map (zhL gs ws.length)++[zbd gs ws]
def a0(gs:List (List Int))(z:Nat)(g j:Nat):Int :=
  if j < z then mkI (decide ((j:Int)∈gs.getD g [])) else if j < z+gs.length then mkI (decide (gs.getD (j - z) []=gs.getD g [])) else if j=z+gs.length then 1 else 0
theorem getD_at{α:Type}{l:List α}{i:Nat}{d:α}(h:i < l.length):l.getD i d=l[i]:=by
  rw [List.getD_eq_getElem?_getD,List.getElem?_eq_getElem h];rfl
theorem zb9{α:Type}{l:List α}{i:Nat}{d:α}(h:l.length≤i):l.getD i d=d:=by
  rw [List.getD_eq_getElem?_getD,List.getElem?_eq_none h];rfl
theorem zjy(gs:List (List Int))(z:Nat){g:Nat}(hg:g < gs.length)(j:Nat):(zhL gs z (gs.getD g [])).getD j 0=(a0 gs z g j:Rat):=by
  unfold zhL a0
  rw [List.getD_eq_getElem?_getD]
  by_cases h1:j < z
  · rw [if_pos h1,List.append_assoc,List.getElem?_append_left (by rw [List.length_map,List.length_range];exact h1),List.getElem?_map,List.getElem?_range h1]
    exact wB _
  · rw [if_neg h1]
    by_cases h2:j < z+gs.length
    · rw [if_pos h2,List.append_assoc,List.getElem?_append_right (by rw [List.length_map,List.length_range];omega),List.length_map,List.length_range,List.getElem?_append_left (by rw [List.length_map];omega),List.getElem?_map,List.getElem?_eq_getElem (by omega)]
      show mk (decide (gs[j - z]=gs.getD g []))=_
      rw [wB,getD_at (l:=gs) (i:=j - z) (by omega)]
    · rw [if_neg h2,List.getElem?_append_right (by rw [List.length_append,List.length_map,List.length_map,List.length_range];omega),List.length_append,List.length_map,List.length_map,List.length_range]
      by_cases h3:j=z+gs.length
      · rw [if_pos h3,h3,Nat.sub_self];rfl
      · rw [if_neg h3,List.getElem?_eq_none (by rw [List.length_singleton];omega)];rfl
theorem zlN{gs:List (List Int)}{ws:List Int}{g:Nat}(hg:g < gs.length):(t0 gs ws).getD g []=zhL gs ws.length (gs.getD g []):=by
  unfold t0
  rw [List.getD_eq_getElem?_getD,List.getElem?_append_left (by rw [List.length_map];exact hg),List.getElem?_map,List.getElem?_eq_getElem hg,getD_at hg]
  rfl
theorem zjL{gs:List (List Int)}{ws:List Int}:(t0 gs ws).getD gs.length []=zbd gs ws:=by
  unfold t0
  rw [List.getD_eq_getElem?_getD,List.getElem?_append_right (by rw [List.length_map];exact Nat.le_refl _),List.length_map,Nat.sub_self]
  rfl
theorem zfV(gs:List (List Int))(ws:List Int)(j:Nat):(zbd gs ws).getD j 0=if j < ws.length then ((- ws.getD j 0:Int):Rat) else 0:=by
  unfold zbd
  rw [List.getD_eq_getElem?_getD,List.append_assoc]
  by_cases h1:j < ws.length
  · rw [if_pos h1,List.getElem?_append_left (by rw [List.length_map];exact h1),List.getElem?_map,List.getElem?_eq_getElem h1,getD_at h1]
    rfl
  · rw [if_neg h1,List.getElem?_append_right (by rw [List.length_map];omega),List.length_map]
    have:List.replicate gs.length (0:Rat)++[0]=List.replicate (gs.length+1) 0:=by rw [List.replicate_succ']
    rw [this,List.getElem?_replicate]
    by_cases h2:j - ws.length < gs.length+1
    · rw [if_pos h2];rfl
    · rw [if_neg h2];rfl
theorem start{gs:List (List Int)}{ws:List Int}(nd:gs.Nodup)(cov:∀ s:Nat,s < ws.length→∃ g∈gs,(s:Int)∈g):Start (ent (t0 gs ws)) gs.length ws.length (a0 gs ws.length) (fun j=>ws.getD j 0):=by
  refine⟨fun g hg j=>?_,fun g hg j=>?_,fun g hg k hk=>?_,fun g hg=>?_,fun j=>?_,fun j hj=>?_⟩
  · unfold ent
    rw [zlN hg,zjy gs ws.length hg j]
  · unfold a0
    split
    · exact zk2 _
    · split
      · exact zk2 _
      · split
        · exact .inr rfl
        · exact .inl rfl
  · unfold a0
    rw [if_neg (by omega),if_pos (by omega),show ws.length+k - ws.length=k by omega,getD_at hk,getD_at hg]
    by_cases q:g=k
    · subst q
      rw [if_pos rfl,decide_eq_true rfl]
      rfl
    · rw [if_neg q,decide_eq_false]
      · rfl
      · intro e
        exact q ((List.getElem_inj nd).mp e).symm
  · unfold a0
    rw [if_neg (by omega),if_neg (by omega),if_pos rfl]
  · unfold ent
    rw [zjL,zfV]
    by_cases q:j < ws.length
    · rw [if_pos q,if_pos q]
    · rw [if_neg q,if_neg q];rfl
  · obtain⟨g,hg,hs⟩:=cov j hj
    obtain⟨i,hi,e⟩:=List.mem_iff_getElem.mp hg
    refine⟨i,hi,?_⟩
    unfold a0
    rw [if_pos hj,getD_at hi,e,decide_eq_true hs]
    rfl
def h0(gs:List (List Int))(z:Nat):List Nat:=(List.range gs.length).map fun i=>z+i
theorem yn{gs:List (List Int)}{ws:List Int}(nd:gs.Nodup)(cov:∀ s:Nat,s < ws.length→∃ g∈gs,(s:Int)∈g):RSt (ent (t0 gs ws)) gs.length ws.length ⟨t0 gs ws,h0 gs ws.length⟩:=by
  refine⟨zhP (start nd cov).st (fun _ _ _=>rfl) fun i hi=>?_,⟨?_,fun r hr=>?_⟩,?_⟩
  · unfold h0
    show ((List.range gs.length).map fun i=>ws.length+i).getD i 0=_
    rw [List.getD_eq_getElem?_getD,List.getElem?_map,List.getElem?_range hi]
    rfl
  · unfold t0
    rw [List.length_append,List.length_map,List.length_singleton]
  · unfold t0 at hr
    rcases List.mem_append.mp hr with h | h
    · obtain⟨g,_,rfl⟩:=List.mem_map.mp h
      unfold zhL
      rw [List.length_append,List.length_append,List.length_map,List.length_map,List.length_range,List.length_singleton]
    · rw [List.mem_singleton.mp h]
      unfold zbd
      rw [List.length_append,List.length_append,List.length_map,List.length_replicate,List.length_singleton]
  · unfold h0
    rw [List.length_map,List.length_range]
end Sx
namespace Sx
theorem wC:∀ (N:Nat) (l:List Nat),l.Nodup→(∀ x∈l,x < N)→l.length≤N
  | 0,l,_,h=>by
    cases l with
    | nil=>exact Nat.le_refl _
    | cons a r=>have:=h a (by simp);omega
  | N+1,l,nd,h=>by
    by_cases q:N∈l
    · have:=wC N (l.erase N) (nd.erase N) fun x hx=>by
        have h1:=(List.Nodup.mem_erase_iff nd).mp hx
        have h2:=h x h1.2
        have:=h1.1
        omega
      rw [List.length_erase_of_mem q] at this
      omega
    · have:=wC N l nd fun x hx=>by
        have:=h x hx
        have:x≠N:=fun e=>q (e ▸ hx)
        omega
      omega
section
variable {T0 T:Tb}{m z:Nat}{h:Nat→Nat}
theorem few(S:St T0 m z T h):((List.range m).filter fun g=>decide (T m (z+g)≠0)).length≤z:=by
  have:=wC (z+m) ((List.range m).map h++((List.range m).filter fun g=>decide (T m (z+g)≠0)).map fun g=>z+g) (by
    refine List.nodup_append.mpr ⟨?_,?_,fun a ha b hb e=>?_⟩
    · refine List.pairwise_map.mpr ?_
      have nr:(List.range m).Nodup:=List.nodup_range
      refine List.Pairwise.imp_of_mem (fun {a b} ha hb hne e=>hne ?_) nr
      exact S.inj (List.mem_range.mp ha) (List.mem_range.mp hb) e
    · refine List.pairwise_map.mpr ?_
      refine List.Pairwise.imp (fun {a b} hne e=>hne (by omega)) (List.nodup_range.filter _)
    · obtain⟨k,hk,rfl⟩:=List.mem_map.mp ha
      obtain⟨g,hg,rfl⟩:=List.mem_map.mp hb
      have h1:=S.ucost k (List.mem_range.mp hk)
      have h2:=of_decide_eq_true (List.mem_filter.mp hg).2
      rw [e] at h1
      exact h2 h1) (fun x hx=>by
    rcases List.mem_append.mp hx with hx | hx
    · obtain⟨k,hk,rfl⟩:=List.mem_map.mp hx
      exact S.hlt k (List.mem_range.mp hk)
    · obtain⟨g,hg,rfl⟩:=List.mem_map.mp hx
      have:=List.mem_range.mp (List.mem_filter.mp hg).1
      omega)
  rw [List.length_append,List.length_map,List.length_map,List.length_range] at this
  omega
def zds(T:Tb)(h:Nat→Nat)(z b:Nat):Nat→List Rat
  | 0=>List.replicate z 0
  | n+1=>if h n < z then (zds T h z b n).set (h n) (T n b) else zds T h z b n
theorem jI(T:Tb)(h:Nat→Nat)(z b:Nat):∀ n,(zds T h z b n).length=z
  | 0=>List.length_replicate
  | n+1=>by
    unfold zds
    split
    · rw [List.length_set,jI T h z b n]
    · exact jI T h z b n
theorem zeF(S:St T0 m z T h){b:Nat}{s:Nat}(hs:s < z):∀ n,n≤m→(zds T h z b n).getD s 0=sm n fun i=>if h i=s then T i b else 0
  | 0,_=>by
    show (List.replicate z (0:Rat)).getD s 0=0
    rw [List.getD_eq_getElem?_getD,List.getElem?_replicate,if_pos hs]
    rfl
  | n+1,hn=>by
    have ih:=zeF S (b:=b) hs n (by omega)
    unfold zds sm
    show _=(sm n fun i=>if h i=s then T i b else 0)+(if h n=s then T n b else 0)
    by_cases q:h n=s
    · rw [if_pos (by omega),if_pos q,List.getD_eq_getElem?_getD,List.getElem?_set,if_pos q,if_pos (by rw [jI];omega),Option.getD_some]
      have:(sm n fun i=>if h i=s then T i b else 0)=0:=xH fun i hi=>if_neg fun e=>by
        have:=S.inj (i:=i) (k:=n) (by omega) (by omega) (e.trans q.symm)
        omega
      rw [this]
      grind
    · rw [if_neg q]
      split
      · rw [List.getD_eq_getElem?_getD,List.getElem?_set,if_neg q,← List.getD_eq_getElem?_getD,ih]
        grind
      · rw [ih]
        grind
theorem zby(S:St T0 m z T h){b:Nat}{s:Nat}(hs:s < z):(zds T h z b m).getD s 0=ofS m h (fun i=>T i b) s:=zeF S hs m (Nat.le_refl _)
end
end Sx
set_option maxHeartbeats 4000000
namespace GM
open PySem PySem.W PyProof.Rows
structure PS where
  a:Array Nat
  pend:Array (Nat×Nat×Nat)
  mg:Nat
abbrev MM:=StateT PS Option
section
variable (κ:SortKind)(it:Array Keyed)
def tw(p:PS):SortSt:=SortSt.mk' κ (p.a.map (kas_item it)) p.pend p.mg none
end
structure Cm where
  prog:Program
  w:World
  A:Around
  E:Value→Shared→Prop
  κ:SortKind
  it:Array Keyed
  n:Nat
  lt:Nat→Nat→Bool
  s:Shared
def Cm.Ok(c:Cm):Prop:=∀ i j C,i < c.n→j < c.n→C (c.lt i j) c.s→kas_cmp c.prog c.w c.A c.κ c.it i j C c.s
def Sim(c:Cm){α β:Type}(f:β→α)(m:StateT SortSt Sem α)(q:MM β):Prop :=
  ∀ ps b ps',q ps=some (b,ps')→∀ Q:α→SortSt→Shared→Prop,Q (f b) (tw c.κ c.it ps') c.s→kasC (model c.prog c.w) c.A c.E m Q (tw c.κ c.it ps) c.s
def ask(c:Cm)(i j:Nat):MM Bool:=fun ps=>if i < c.n∧j < c.n then some (c.lt i j,ps) else none
def at_(p:Array Nat)(i:Nat):MM Nat:=fun ps=>match p[i]? with
  | some x=>some (x,ps)
  | none=>none
def za5(c:Cm)(i j:Nat):MM Bool:=fun ps=>match ps.a[i]?,ps.a[j]? with
  | some x,some y=>ask c x y ps
  | _,_=>none
def zer:MM PUnit:=fun ps=>some (⟨⟩,ps)
def jj{β:Type}(f:β→MM (ForInStep β)):Nat→β→MM β
  | 0,b=>pure b
  | k+1,b=>do
    match ← f b with
    | .done b=>pure b
    | .yield b=>jj f k b
def kO{β:Type}(f:Nat→β→MM (ForInStep β)):Nat→Nat→β→MM β
  | 0,_,b=>pure b
  | k+1,i,b=>do
    match ← f i b with
    | .done b=>pure b
    | .yield b=>kO f k (i+1) b
def fis{α β:Type}(f:β→α):ForInStep β→ForInStep α
  | .done b=>.done (f b)
  | .yield b=>.yield (f b)
section
variable {c:Cm}{α β α' β':Type}{f:β→α}{g:β'→α'}
theorem zi{m:StateT SortSt Sem α}{F:α→StateT SortSt Sem α'}{q:MM β}{G:β→MM β'}(h:Sim c f m q)(k:∀ b,Sim c g (F (f b)) (G b)):Sim c g (m >>= F) (q >>= G):=by
  intro ps b ps' e Q hQ
  have e':(q ps).bind (fun x=>G x.1 x.2)=some (b,ps'):=e
  cases hq:q ps with
  | none=>rw [hq] at e';cases e'
  | some r =>
    obtain⟨b1,ps1⟩:=r
    rw [hq] at e'
    exact kasC_bind (h ps b1 ps1 hq _ (k b1 ps1 b ps' e' Q hQ))
theorem zj{a:α}{b:β}(h:f b=a):Sim c f (pure a) (pure b):=by
  intro ps b1 ps' e Q hQ
  have e':some (b,ps)=some (b1,ps'):=e
  cases e'
  rw [h] at hQ
  exact kasC_pure hQ
theorem jN{m:StateT SortSt Sem α}{q:MM β}(h:∀ ps,q ps=none):Sim c f m q:=by
  intro ps b ps' e
  rw [h ps] at e
  cases e
theorem j5:Sim c (tw c.κ c.it) (get:StateT SortSt Sem SortSt) (get:MM PS):=by
  intro ps b ps' e Q hQ
  have e':some (ps,ps)=some (b,ps'):=e
  cases e'
  exact kasC_get hQ
theorem xa{F:SortSt→SortSt}{G:PS→PS}(h:∀ ps,F (tw c.κ c.it ps)=tw c.κ c.it (G ps)):Sim c (fun _:PUnit=>PUnit.unit) (modify F:StateT SortSt Sem PUnit) (modify G:MM PUnit):=by
  intro ps b ps' e Q hQ
  have e':some (PUnit.unit,G ps)=some (b,ps'):=e
  cases e'
  refine kasC_modify ?_
  rw [h]
  exact hQ
theorem kl{x:String}:Sim c (fun _:PUnit=>PUnit.unit) (liftM (rule x):StateT SortSt Sem PUnit) zer:=by
  intro ps b ps' e Q hQ
  have e':some (PUnit.unit,ps)=some (b,ps'):=e
  cases e'
  exact kasC_lift (wpAny_rule hQ)
theorem zq{P P':Prop}[Decidable P][Decidable P']{a b:StateT SortSt Sem α}{a' b':MM β}(h:P↔P')(h1:P→Sim c f a a')(h2:¬ P→Sim c f b b'):Sim c f (if P then a else b) (if P' then a' else b'):=by
  by_cases hp:P
  · rw [if_pos hp,if_pos (h.mp hp)];exact h1 hp
  · rw [if_neg hp,if_neg (fun z=>hp (h.mpr z))];exact h2 hp
theorem qx{p:Array Nat}{i:Nat}:Sim c (kas_item c.it) (elem' (p.map (kas_item c.it)) i) (at_ p i):=by
  intro ps b ps' e Q hQ
  unfold at_ at e
  split at e
  · rename_i x hx
    cases e
    rw [elem'_eq,Array.getElem?_map,hx]
    exact kasC_pure hQ
  · cases e
theorem zcD(ok:c.Ok){i j:Nat}:Sim c some (lt' (kas_item c.it i) (kas_item c.it j)) (ask c i j):=by
  intro ps b ps' e Q hQ
  unfold ask at e
  split at e
  · rename_i h
    cases e
    rw [lt'_eq]
    refine kasC_bind (kasC_get ?_)
    refine kasC_bind (kasC_lift (wpAny_attempt (wpAny_mono (ok i j (fun b s'=>Q (some b) (tw c.κ c.it ps) s') h.1 h.2 hQ) (fun c s' hc=>?_) fun _ _ hF=>hF.elim)))
    exact kasC_pure hc
  · cases e
theorem jM(ok:c.Ok){i j:Nat}:Sim c some (ltAt' i j) (za5 c i j):=by
  intro ps b ps' e Q hQ
  unfold za5 at e
  split at e
  · rename_i x y hx hy
    rw [ltAt'_eq]
    refine kasC_bind (kasC_get ?_)
    show kasC _ _ _ (do let x ← elem' (ps.a.map (kas_item c.it)) i;let y ← elem' (ps.a.map (kas_item c.it)) j;lt' x y) Q _ _
    refine kasC_bind (qx (p:=ps.a) (i:=i) ps x ps (by unfold at_;rw [hx]) _ ?_)
    refine kasC_bind (qx (p:=ps.a) (i:=j) ps y ps (by unfold at_;rw [hy]) _ ?_)
    exact zcD ok ps b ps' e Q hQ
  · cases e
theorem zcC{F:Nat→α→StateT SortSt Sem (ForInStep α)}{G:Nat→β→MM (ForInStep β)}(h:∀ i b,Sim c (fis f) (F i (f b)) (G i b)):∀ (k i:Nat) (b:β),Sim c f (forIn (List.range' i k) (f b) F) (kO G k i b)
  | 0,i,b=>by
    rw [List.range'_zero]
    intro ps b1 ps' e Q hQ
    have e':some (b,ps)=some (b1,ps'):=e
    cases e'
    exact kasC_nil hQ
  | k+1,i,b=>by
    rw [List.range'_succ]
    intro ps b1 ps' e Q hQ
    have e':((G i b) ps).bind (fun x=>(match x.1 with
      | ForInStep.done b=>(pure b:MM β)
      | .yield b=>kO G k (i+1) b) x.2)=some (b1,ps'):=e
    cases hq:G i b ps with
    | none=>rw [hq] at e';cases e'
    | some r =>
      obtain⟨r,ps1⟩:=r
      rw [hq] at e'
      refine kasC_cons (h i b ps r ps1 hq _ ?_)
      cases r with
      | done b2 =>
        have e2:some (b2,ps1)=some (b1,ps'):=e'
        cases e2
        exact hQ
      | yield b2=>exact zcC h k (i+1) b2 ps1 b1 ps' e' Q hQ
theorem yX{F:Nat→α→StateT SortSt Sem (ForInStep α)}{G:Nat→β→MM (ForInStep β)}{x y:Nat}{b:β}(h:∀ i b,Sim c (fis f) (F i (f b)) (G i b)):Sim c f (forIn [x:y] (f b) F) (kO G (y - x) x b) :=
  fun ps b1 ps' e Q hQ=>kasC_range (zcC h (y - x) x b ps b1 ps' e Q hQ)
theorem zck{G:β→MM (ForInStep β)}:∀ (k i:Nat) (b:β),jj G k b=kO (fun _=>G) k i b
  | 0,_,_=>rfl
  | k+1,i,b=>by
    unfold jj kO
    congr 1
    funext r
    cases r with
    | done b=>rfl
    | yield b=>exact zck k (i+1) b
theorem qU{F:Nat→α→StateT SortSt Sem (ForInStep α)}{G:β→MM (ForInStep β)}{x y:Nat}{b:β}(h:∀ i b,Sim c (fis f) (F i (f b)) (G b)):Sim c f (forIn [x:y] (f b) F) (jj G (y - x) b):=by
  rw [zck _ x]
  exact yX fun i b=>h i b
end
end GM
namespace GM
open PySem PySem.W PyProof.Rows
def zkY(i j:Nat):MM PUnit:=modify fun ps=>{ ps with a:=kas_rev ps.a i j }
def zkV(k l:Nat):MM PUnit:=modify fun ps=>{ ps with a:=bubble ps.a k (k - l) }
section
variable {c:Cm}
theorem wV{i j:Nat}:Sim c (fun _:PUnit=>PUnit.unit) (reverseSlice' i j) (zkY i j):=by
  rw [reverseSlice'_eq]
  refine xa fun ps=>?_
  show SortSt.mk' c.κ (mirror (ps.a.map (kas_item c.it)) i j ((j - i) / 2)) ps.pend ps.mg none=SortSt.mk' c.κ ((mirror ps.a i j ((j - i) / 2)).map (kas_item c.it)) ps.pend ps.mg none
  have e1:mirror (ps.a.map (kas_item c.it)) i j ((j - i) / 2)=(mirror ps.a i j ((j - i) / 2)).map (kas_item c.it):=kas_swaps_map (kas_item c.it) (fun k=>i+k) (fun k=>j - 1 - k) _ ps.a
  rw [e1]
theorem zg0{k l:Nat}:Sim c (fun _:PUnit=>PUnit.unit) (moveDown' k l) (zkV k l):=by
  rw [moveDown'_eq]
  refine xa fun ps=>?_
  show SortSt.mk' c.κ (bubble (ps.a.map (kas_item c.it)) k (k - l)) ps.pend ps.mg none=SortSt.mk' c.κ ((bubble ps.a k (k - l)).map (kas_item c.it)) ps.pend ps.mg none
  have e1:bubble (ps.a.map (kas_item c.it)) k (k - l)=(bubble ps.a k (k - l)).map (kas_item c.it):=kas_swaps_map (kas_item c.it) (fun i=>k - i) (fun i=>k - i - 1) _ ps.a
  rw [e1]
end
def mUp(c:Cm)(lo:Nat)(n:Nat):MM (ForInStep Nat):=do
  if ← za5 c (lo+n) (lo+n - 1) then pure (.done n) else pure (.yield (n+1))
def mDn(c:Cm)(lo:Nat)(r:Nat×Nat):MM (ForInStep (Nat×Nat)):=do
  if ← za5 c (lo+r.1) (lo+r.1 - 1) then
    if r.2 > 0 then do
      zkY (lo+r.1 - (r.2+1)) (lo+r.1)
      pure (.yield (r.1+1,0))
    else pure (.yield (r.1+1,0))
  else
    if ← za5 c (lo+r.1 - 1) (lo+r.1) then pure (.done (r.1,r.2)) else pure (.yield (r.1+1,r.2+1))
def zk0(c:Cm)(lo nrem n:Nat):MM Nat:=zkY lo (lo+n) >>= fun _=>jj (mUp c lo) (nrem - n) n >>= fun n=>pure n
def zkS(c:Cm)(lo nrem n:Nat):MM Nat:=do
  zer
  let r ← jj (mDn c lo) (nrem - (n+1)) (n+1,0)
  if r.2 > 0 then do
    zkY (lo+r.1 - (r.2+1)) (lo+r.1)
    zk0 c lo nrem r.1
  else zk0 c lo nrem r.1
def zhC(c:Cm)(lo nrem:Nat):MM Nat:=do
  let n ← jj (mUp c lo) (nrem - 1) 1
  if (n == nrem)=true then pure n
  else if n > 1 then do
    if ← za5 c lo (lo+n - 1) then pure n
    else do
      zkY lo (lo+n)
      zkS c lo nrem n
  else zkS c lo nrem n
section
variable {c:Cm}
theorem zff(ok:c.Ok){lo nrem:Nat}:Sim c some (countRun' lo nrem) (zhC c lo nrem):=by
  unfold countRun'
  refine zi (f:=fun n:Nat=>((none,n):Option (Option Nat)×Nat)) (qU fun i b=>?_) fun n=>?_
  · exact zi (jM ok) fun sm=>zq Iff.rfl (fun _=>zj rfl) (fun _=>zj rfl)
  refine zq Iff.rfl (fun _=>zj rfl) (fun _=>?_)
  refine zq Iff.rfl (fun _=>zi (jM ok) fun sm=>zq Iff.rfl (fun _=>zj rfl) (fun _=>zi wV fun _=>?_)) (fun _=>?_)
  all_goals
    refine zi kl fun _=>?_
    refine zi (f:=fun r:Nat×Nat=>((none,r.1,r.2):Option (Option Nat)×Nat×Nat)) (qU fun i b=>?_) fun r=>?_
    · refine zi (jM ok) fun sm=>zq Iff.rfl (fun _=>?_) (fun _=>?_)
      · exact zq Iff.rfl (fun _=>zi wV fun _=>zj rfl) (fun _=>zj rfl)
      · exact zi (jM ok) fun sm=>zq Iff.rfl (fun _=>zj rfl) (fun _=>zj rfl)
    refine zq Iff.rfl (fun _=>zi wV fun _=>?_) (fun _=>?_)
    all_goals
      refine zi wV fun _=>?_
      refine zi (f:=fun n:Nat=>((none,n):Option (Option Nat)×Nat)) (qU fun i b=>?_) fun n=>zj rfl
      exact zi (jM ok) fun sm=>zq Iff.rfl (fun _=>zj rfl) (fun _=>zj rfl)
end
end GM
namespace GM
open PySem PySem.W PyProof.Rows
def zd5:Bool→Keyed→Array Keyed→Nat→Nat→Nat→StateT SortSt Sem (Option Nat):=sortPriv% PySem.Builtin.gallop
def zcj:Array Keyed→Array Keyed→StateT SortSt Sem (Array Keyed):=sortPriv% PySem.Builtin.mergeLo
def vw:Nat→StateT SortSt Sem PUnit:=sortPriv% PySem.Builtin.setMinGallop
def zkX(c:Cm)(lo k:Nat)(r:Nat×Nat):MM (ForInStep (Nat×Nat)) :=
  if r.1 ≥ r.2 then pure (.done (r.1,r.2)) else za5 c (lo+k) (lo+(r.1+r.2) / 2) >>= fun b=>if b=true then pure (.yield (r.1,(r.1+r.2) / 2)) else pure (.yield ((r.1+r.2) / 2+1,r.2))
def znp(c:Cm)(lo n ok:Nat):MM PUnit :=
  kO (fun k (_:Unit)=>jj (zkX c lo k) (k - 0) (0,k) >>= fun r=>zkV (lo+k) (lo+r.1) >>= fun _=>pure (.yield ())) (n - max ok 1) (max ok 1) () >>= fun _=>pure ⟨⟩
def zkR(c:Cm)(left:Bool)(key:Nat)(arr:Array Nat)(base i:Nat):MM Bool :=
  at_ arr (base+i) >>= fun x=>if left=true then ask c x key else ask c key x >>= fun b=>pure (!b)
def znW(c:Cm)(left:Bool)(key:Nat)(arr:Array Nat)(base:Nat)(r:Nat×Nat):MM (ForInStep (Nat×Nat)) :=
  if r.1 ≥ r.2 then pure (.done (r.1,r.2)) else zkR c left key arr base (r.1+(r.2 - r.1) / 2) >>= fun b=>if b=true then pure (.yield (r.1+(r.2 - r.1) / 2+1,r.2)) else pure (.yield (r.1,r.1+(r.2 - r.1) / 2))
def zkT(c:Cm)(left:Bool)(key:Nat)(arr:Array Nat)(base n lo hi:Nat):MM Nat:=jj (znW c left key arr base) (n - 0) (lo,hi) >>= fun r=>pure r.2
def zmz(c:Cm)(left:Bool)(key:Nat)(arr:Array Nat)(base hint mx:Nat)(r:Nat×Nat):MM (ForInStep (Nat×Nat)) :=
  if r.2 ≥ mx then pure (.done (r.1,r.2)) else zkR c left key arr base (hint+r.2) >>= fun b=>if (!b)=true then pure (.done (r.1,r.2)) else pure (.yield (r.2,2*r.2+1))
def zmy(c:Cm)(left:Bool)(key:Nat)(arr:Array Nat)(base hint mx:Nat)(r:Nat×Nat):MM (ForInStep (Nat×Nat)) :=
  if r.2 ≥ mx then pure (.done (r.1,r.2)) else zkR c left key arr base (hint - r.2) >>= fun b=>if b=true then pure (.done (r.1,r.2)) else pure (.yield (r.2,2*r.2+1))
def zkU(c:Cm)(left:Bool)(key:Nat)(arr:Array Nat)(base n hint:Nat):MM Nat :=
  zkR c left key arr base hint >>= fun right=>if right=true then jj (zmz c left key arr base hint (n - hint)) (n - 0) (0,1) >>= fun r=>zkT c left key arr base n (hint+r.1+1) (hint+min r.2 (n - hint))
    else jj (zmy c left key arr base hint (hint+1)) (n - 0) (0,1) >>= fun r=>zkT c left key arr base n (hint+1 - min r.2 (hint+1)) (hint - r.1)
section
variable {c:Cm}
theorem zjG(ok:c.Ok){lo n o:Nat}:Sim c (fun _:PUnit=>true) (binarySort' lo n o) (znp c lo n o):=by
  unfold binarySort'
  refine zi (f:=fun _:Unit=>((none,()):Option Bool×Unit)) (yX fun k b=>?_) fun _=>zj rfl
  refine zi (f:=fun r:Nat×Nat=>((none,r.1,r.2):Option Bool×Nat×Nat)) (qU fun i b=>?_) fun r=>zi zg0 fun _=>zj rfl
  exact zq Iff.rfl (fun _=>zj rfl) (fun _=>zi (jM ok) fun b=>zq Iff.rfl (fun _=>zj rfl) (fun _=>zj rfl))
theorem yh(ok:c.Ok){left:Bool}{key:Nat}{arr:Array Nat}{base i:Nat}:Sim c some ((do
    let x ← elem' (arr.map (kas_item c.it)) (base+i)
    if left=true then lt' x (kas_item c.it key) else do
      let r ← lt' (kas_item c.it key) x
      pure (Option.map (fun x=>!x) r)):StateT SortSt Sem (Option Bool)) (zkR c left key arr base i) :=
  zi qx fun x=>zq Iff.rfl (fun _=>zcD ok) (fun _=>zi (zcD ok) fun b=>zj rfl)
theorem wU(ok:c.Ok){left:Bool}{key:Nat}{arr:Array Nat}{base n hint:Nat}:Sim c some (zd5 left (kas_item c.it key) (arr.map (kas_item c.it)) base n hint) (zkU c left key arr base n hint):=by
  unfold zd5
  refine zi (yh ok) fun right=>?_
  refine zq Iff.rfl (fun _=>?_) (fun _=>?_)
  · refine zi (f:=fun r:Nat×Nat=>((none,r.1,r.2):Option (Option Nat)×Nat×Nat)) (qU (b:=(0,1)) fun i b=>?_) fun r=>?_
    · exact zq Iff.rfl (fun _=>zj rfl) (fun _=>zi (yh ok) fun b=>zq Iff.rfl (fun _=>zj rfl) (fun _=>zj rfl))
    · refine zi (f:=fun r:Nat×Nat=>((none,r.1,r.2):Option (Option Nat)×Nat×Nat)) (qU (b:=(_,_)) fun i b=>?_) fun r=>zj rfl
      exact zq Iff.rfl (fun _=>zj rfl) (fun _=>zi (yh ok) fun b=>zq Iff.rfl (fun _=>zj rfl) (fun _=>zj rfl))
  · refine zi (f:=fun r:Nat×Nat=>((none,r.1,r.2):Option (Option Nat)×Nat×Nat)) (qU (b:=(0,1)) fun i b=>?_) fun r=>?_
    · exact zq Iff.rfl (fun _=>zj rfl) (fun _=>zi (yh ok) fun b=>zq Iff.rfl (fun _=>zj rfl) (fun _=>zj rfl))
    · refine zi (f:=fun r:Nat×Nat=>((none,r.1,r.2):Option (Option Nat)×Nat×Nat)) (qU (b:=(_,_)) fun i b=>?_) fun r=>zj rfl
      exact zq Iff.rfl (fun _=>zj rfl) (fun _=>zi (yh ok) fun b=>zq Iff.rfl (fun _=>zj rfl) (fun _=>zj rfl))
end
end GM
namespace GM
open PySem PySem.W PyProof.Rows
abbrev AN:=Array Nat
def ziK(g:Nat):MM PUnit:=modify fun ps=>{ ps with mg:=g }
def xC(a b out:AN)(ia ib:Nat):AN:=out++a.extract ia a.size++b.extract ib b.size
def qE(a b out:AN)(ia ib:Nat):AN:=out++b.extract ib b.size++a.extract ia a.size
def znY(c:Cm)(a b:AN)(mg:Nat)(r:Option AN×AN×Nat×Nat×Nat×Nat):MM (ForInStep (Option AN×AN×Nat×Nat×Nat×Nat)) :=
  at_ b r.2.2.2.1 >>= fun y=>at_ a r.2.2.1 >>= fun x=>ask c y x >>= fun w=>if w=true then
    at_ b r.2.2.2.1 >>= fun y=>if (r.2.2.2.1+1 == b.size)=true then pure (.done (some (xC a b (r.2.1.push y) r.2.2.1 (r.2.2.2.1+1)),r.2.1.push y,r.2.2.1,r.2.2.2.1+1,0,r.2.2.2.2.2+1))
      else if r.2.2.2.2.2+1 ≥ mg then pure (.done (none,r.2.1.push y,r.2.2.1,r.2.2.2.1+1,0,r.2.2.2.2.2+1)) else pure (.yield (none,r.2.1.push y,r.2.2.1,r.2.2.2.1+1,0,r.2.2.2.2.2+1))
    else at_ a r.2.2.1 >>= fun x=>if (r.2.2.1+1+1 == a.size)=true then pure (.done (some (qE a b (r.2.1.push x) (r.2.2.1+1) r.2.2.2.1),r.2.1.push x,r.2.2.1+1,r.2.2.2.1,r.2.2.2.2.1+1,0))
      else if r.2.2.2.2.1+1 ≥ mg then pure (.done (none,r.2.1.push x,r.2.2.1+1,r.2.2.2.1,r.2.2.2.2.1+1,0)) else pure (.yield (none,r.2.1.push x,r.2.2.1+1,r.2.2.2.1,r.2.2.2.2.1+1,0))
abbrev R7:=Option AN×AN×Nat×Nat×Nat×Nat×Nat
def zns(c:Cm)(a b:AN)(out:AN)(ia ib mg ac bc:Nat):MM (ForInStep R7) :=
  at_ a ia >>= fun x=>if (ia+1+1 == a.size)=true then pure (.done (some (qE a b (out.push x) (ia+1) ib),out.push x,ia+1,ib,mg,ac,bc))
    else if (decide (ac < 7) && decide (bc < 7))=true then pure (.done (none,out.push x,ia+1,ib,mg,ac,bc)) else pure (.yield (none,out.push x,ia+1,ib,mg,ac,bc))
def znr(c:Cm)(a b:AN)(out:AN)(ia ib mg ac bc:Nat):MM (ForInStep R7) :=
  at_ b ib >>= fun y=>if (ib+1 == b.size)=true then pure (.done (some (xC a b (out.push y) ia (ib+1)),out.push y,ia,ib+1,mg,ac,bc))
    else at_ a ia >>= fun x=>zkU c true x b (ib+1) (b.size - (ib+1)) 0 >>= fun k=>if k > 0 then
        (if (ib+1+k == b.size)=true then pure (.done (some (xC a b (out.push y++b.extract (ib+1) (ib+1+k)) ia (ib+1+k)),out.push y++b.extract (ib+1) (ib+1+k),ia,ib+1+k,mg,ac,k))
          else zns c a b (out.push y++b.extract (ib+1) (ib+1+k)) ia (ib+1+k) mg ac k)
        else zns c a b (out.push y) ia (ib+1) mg ac k
def znq(c:Cm)(a b:AN)(out:AN)(ia ib bc mg:Nat):MM (ForInStep R7) :=
  ziK mg >>= fun _=>at_ b ib >>= fun y=>zkU c false y a ia (a.size - ia) 0 >>= fun k=>if k > 0 then
      (if (ia+k+1 == a.size)=true then pure (.done (some (qE a b (out++a.extract ia (ia+k)) (ia+k) ib),out++a.extract ia (ia+k),ia+k,ib,mg,k,bc))
        else if (ia+k == a.size)=true then pure (.done (some (xC a b (out++a.extract ia (ia+k)) (ia+k) ib),out++a.extract ia (ia+k),ia+k,ib,mg,k,bc))
        else znr c a b (out++a.extract ia (ia+k)) (ia+k) ib mg k bc)
      else znr c a b out ia ib mg k bc
def mGl(c:Cm)(a b:AN)(r:R7):MM (ForInStep R7) :=
  if r.2.2.2.2.1 > 1 then znq c a b r.2.1 r.2.2.1 r.2.2.2.1 r.2.2.2.2.2.2 (r.2.2.2.2.1 - 1) else znq c a b r.2.1 r.2.2.1 r.2.2.2.1 r.2.2.2.2.2.2 r.2.2.2.2.1
abbrev R5:=Option AN×AN×Nat×Nat×Nat
def zmC(c:Cm)(a b:AN)(r:R7):MM (ForInStep R5):=match r.1 with
  | some z=>pure (.done (some z,r.2.1,r.2.2.1,r.2.2.2.1,r.2.2.2.2.1))
  | none=>ziK (r.2.2.2.2.1+1) >>= fun _=>pure (.yield (none,r.2.1,r.2.2.1,r.2.2.2.1,r.2.2.2.2.1+1))
def zmB(c:Cm)(a b:AN)(mg:Nat)(r:Option AN×AN×Nat×Nat×Nat×Nat):MM (ForInStep R5):=match r.1 with
  | some z=>pure (.done (some z,r.2.1,r.2.2.1,r.2.2.2.1,mg))
  | none=>zer >>= fun _=>jj (mGl c a b) (a.size+b.size - 0) (none,r.2.1,r.2.2.1,r.2.2.2.1,mg+1,r.2.2.2.2.1,r.2.2.2.2.2) >>= fun r=>zmC c a b r
def zkW(c:Cm)(a b:AN)(r:R5):MM (ForInStep R5) :=
  jj (znY c a b r.2.2.2.2) (a.size+b.size - 0) (none,r.2.1,r.2.2.1,r.2.2.2.1,0,0) >>= fun q=>zmB c a b r.2.2.2.2 q
def znX(r:R5):MM AN:=match r.1 with
  | some z=>pure z
  | none=>fun _=>none
def mLo(c:Cm)(a b:AN):MM AN :=
  zer >>= fun _=>at_ b 0 >>= fun y=>if (1 == b.size)=true then pure (xC a b #[y] 0 1) else if (0+1 == a.size)=true then pure (qE a b #[y] 0 1)
    else get >>= fun ps=>jj (zkW c a b) (a.size+b.size - 0) (none,#[y],0,1,ps.mg) >>= fun r=>znX r
section
variable {c:Cm}
abbrev mp(c:Cm)(a:AN):Array Keyed:=a.map (kas_item c.it)
theorem ziN(a b out:AN)(ia ib:Nat):mp c (xC a b out ia ib)=mp c out++(mp c a).extract ia (mp c a).size++(mp c b).extract ib (mp c b).size:=by
  unfold xC mp
  simp only [Array.map_append,Array.map_extract,Array.size_map]
theorem ziO(a b out:AN)(ia ib:Nat):mp c (qE a b out ia ib)=mp c out++(mp c b).extract ib (mp c b).size++(mp c a).extract ia (mp c a).size:=by
  unfold qE mp
  simp only [Array.map_append,Array.map_extract,Array.size_map]
theorem zcE{g:Nat}:Sim c (fun _:PUnit=>PUnit.unit) (vw g) (ziK g):=by
  unfold vw
  exact xa fun ps=>rfl
def f6(c:Cm)(r:Option AN×AN×Nat×Nat×Nat×Nat):Option (Array Keyed)×Array Keyed×Nat×Nat×Nat×Nat:=(r.1.map (mp c),mp c r.2.1,r.2.2)
def f7(c:Cm)(r:R7):Option (Array Keyed)×Array Keyed×Nat×Nat×Nat×Nat×Nat:=(r.1.map (mp c),mp c r.2.1,r.2.2)
def f5(c:Cm)(r:R5):Option (Array Keyed)×Array Keyed×Nat×Nat×Nat:=(r.1.map (mp c),mp c r.2.1,r.2.2)
theorem sz{a:AN}{k:Nat}:(k == (mp c a).size)=true↔(k == a.size)=true:=by rw [Array.size_map]
theorem sz'{a:AN}:(mp c a).size=a.size:=Array.size_map
theorem xy{α β:Type}{f:β→α}{F:Nat→α→StateT SortSt Sem (ForInStep α)}{G:β→MM (ForInStep β)}{x y:Nat}(b:β){a0:α}(hb:a0=f b)(h:∀ i b,Sim c (fis f) (F i (f b)) (G b)):Sim c f (forIn [x:y] a0 F) (jj G (y - x) b):=by
  rw [hb]
  exact qU h
theorem zlJ(ok:c.Ok){a b:AN}:Sim c (mp c) (zcj (mp c a) (mp c b)) (mLo c a b):=by
  unfold zcj
  refine zi kl fun _=>?_
  refine zi qx fun y=>?_
  refine zq sz (fun _=>zj ?_) (fun _=>?_)
  · rw [ziN];simp
  refine zq sz (fun _=>zj ?_) (fun _=>?_)
  · rw [ziO];simp
  refine zi j5 fun ps=>?_
  rw [sz',sz']
  refine zi (f:=f5 c) (xy (none,#[y],0,1,ps.mg) (by simp [f5,mp];rfl) fun i r=>?_) fun r=>?_
  · refine zi (f:=f6 c) (xy (none,r.2.1,r.2.2.1,r.2.2.2.1,0,0) rfl fun i r=>?_) fun q=>?_
    · refine zi qx fun y=>zi qx fun x=>zi (zcD ok) fun w=>zq Iff.rfl (fun _=>?_) (fun _=>?_)
      · exact zi qx fun y=>zq Iff.rfl (fun _=>zj (by simp only [fis,f5,f6,f7,mp,xC,qE,Array.map_push,Array.map_append,Array.map_extract,Array.size_map,Option.map_some,Option.map_none])) (fun _=>zq Iff.rfl (fun _=>zj (by simp only [fis,f5,f6,f7,mp,xC,qE,Array.map_push,Array.map_append,Array.map_extract,Array.size_map,Option.map_some,Option.map_none])) (fun _=>zj (by simp only [fis,f5,f6,f7,mp,xC,qE,Array.map_push,Array.map_append,Array.map_extract,Array.size_map,Option.map_some,Option.map_none])))
      · exact zi qx fun y=>zq Iff.rfl (fun _=>zj (by simp only [fis,f5,f6,f7,mp,xC,qE,Array.map_push,Array.map_append,Array.map_extract,Array.size_map,Option.map_some,Option.map_none])) (fun _=>zq Iff.rfl (fun _=>zj (by simp only [fis,f5,f6,f7,mp,xC,qE,Array.map_push,Array.map_append,Array.map_extract,Array.size_map,Option.map_some,Option.map_none])) (fun _=>zj (by simp only [fis,f5,f6,f7,mp,xC,qE,Array.map_push,Array.map_append,Array.map_extract,Array.size_map,Option.map_some,Option.map_none])))
    · obtain⟨o,q⟩:=q
      cases o with
      | some z=>exact zj (by simp only [fis,f5,f6,f7,mp,xC,qE,Array.map_push,Array.map_append,Array.map_extract,Array.size_map,Option.map_some,Option.map_none])
      | none =>
        refine zi kl fun _=>?_
        refine zi (f:=f7 c) (xy (none,q.1,q.2.1,q.2.2.1,r.2.2.2.2+1,q.2.2.2.1,q.2.2.2.2) rfl fun i r=>?_) fun q=>?_
        · refine zq Iff.rfl (fun _=>?_) (fun _=>?_)
          all_goals
            refine zi zcE fun _=>zi qx fun y=>zi (wU ok) fun k=>?_
            refine zq Iff.rfl (fun _=>zq Iff.rfl (fun _=>zj (by simp only [fis,f5,f6,f7,mp,xC,qE,Array.map_push,Array.map_append,Array.map_extract,Array.size_map,Option.map_some,Option.map_none])) (fun _=>zq Iff.rfl (fun _=>zj (by simp only [fis,f5,f6,f7,mp,xC,qE,Array.map_push,Array.map_append,Array.map_extract,Array.size_map,Option.map_some,Option.map_none])) (fun _=>?_))) (fun _=>?_)
            all_goals
              refine zi qx fun y=>zq Iff.rfl (fun _=>zj (by simp only [fis,f5,f6,f7,mp,xC,qE,Array.map_push,Array.map_append,Array.map_extract,Array.size_map,Option.map_some,Option.map_none])) (fun _=>?_)
              refine zi qx fun x=>zi (wU ok) fun k=>?_
              refine zq Iff.rfl (fun _=>zq Iff.rfl (fun _=>zj (by simp only [fis,f5,f6,f7,mp,xC,qE,Array.map_push,Array.map_append,Array.map_extract,Array.size_map,Option.map_some,Option.map_none])) (fun _=>?_)) (fun _=>?_)
              all_goals
                exact zi qx fun x=>zq Iff.rfl (fun _=>zj (by simp only [fis,f5,f6,f7,mp,xC,qE,Array.map_push,Array.map_append,Array.map_extract,Array.size_map,Option.map_some,Option.map_none])) (fun _=>zq Iff.rfl (fun _=>zj (by simp only [fis,f5,f6,f7,mp,xC,qE,Array.map_push,Array.map_append,Array.map_extract,Array.size_map,Option.map_some,Option.map_none])) (fun _=>zj (by simp only [fis,f5,f6,f7,mp,xC,qE,Array.map_push,Array.map_append,Array.map_extract,Array.size_map,Option.map_some,Option.map_none])))
        · obtain⟨o,q⟩:=q
          cases o with
          | some z=>exact zj (by simp only [fis,f5,f6,f7,mp,xC,qE,Array.map_push,Array.map_append,Array.map_extract,Array.size_map,Option.map_some,Option.map_none])
          | none=>exact zi zcE fun _=>zj (by simp only [fis,f5,f6,f7,mp,xC,qE,Array.map_push,Array.map_append,Array.map_extract,Array.size_map,Option.map_some,Option.map_none])
  · obtain⟨o,q⟩:=r
    cases o with
    | some z=>exact zj rfl
    | none=>exact jN fun _=>rfl
end
end GM
namespace GM
open PySem PySem.W PyProof.Rows
def ziI(sa:Nat)(m:AN):MM PUnit:=modify fun ps=>{ ps with a:=m.toList.zipIdx.foldl (fun a x=>a.setIfInBounds (sa+x.2) x.1) ps.a }
def znv(p:PS):MM PUnit:=set p
def zgn(c:Cm)(ps:PS)(sa na sb nb k:Nat):MM Bool :=
  if (na - k == 0)=true then pure true else at_ ps.a (sa+k+(na - k) - 1) >>= fun x=>zkU c true x ps.a sb nb (nb - 1) >>= fun nb=>if (nb == 0)=true then pure true
    else if na - k≤nb then mLo c (ps.a.extract (sa+k) sb) (ps.a.extract sb (sb+nb)) >>= fun m=>ziI (sa+k) m >>= fun _=>get >>= fun _=>pure true else fun _=>none
def wA(c:Cm)(i:Nat):MM Bool:=get >>= fun ps=>match ps.pend[i]? with
  | none=>fun _=>none
  | some (sa,na,pw)=>match ps.pend[i+1]? with
    | none=>fun _=>none
    | some (sb,nb,_)=>znv { ps with pend:=(ps.pend.setIfInBounds i (sa,na+nb,pw)).eraseIdxIfInBounds (i+1) } >>= fun _=>at_ ps.a sb >>= fun y=>zkU c false y ps.a sa na 0 >>= fun k=>zgn c ps sa na sb nb k
section
variable {c:Cm}
theorem zjH{p:PS}{S:SortSt}(h:S=tw c.κ c.it p):Sim c (fun _:PUnit=>PUnit.unit) (set S:StateT SortSt Sem PUnit) (znv p):=by
  intro ps b ps' e Q hQ
  have e':some (PUnit.unit,p)=some (b,ps'):=e
  cases e'
  subst h
  exact wpAny_pure hQ
theorem zeV(it:Array Keyed)(sa:Nat):∀ (l:List (Nat×Nat)) (xs:AN),(l.map fun x=>(kas_item it x.1,x.2)).foldl (fun (a:Array Keyed) x=>a.setIfInBounds (sa+x.2) x.1) (xs.map (kas_item it))=(l.foldl (fun a x=>a.setIfInBounds (sa+x.2) x.1) xs).map (kas_item it)
  | [],_=>rfl
  | x::l,xs=>by
    rw [List.map_cons,List.foldl_cons,List.foldl_cons,← zeV it sa l]
    congr 1
    apply Array.ext_getElem?
    intro k
    simp only [Array.getElem?_setIfInBounds,Array.getElem?_map,Array.size_map]
    split
    · split <;> rfl
    · rfl
theorem zip_map(it:Array Keyed)(m:AN):(m.map (kas_item it)).toList.zipIdx=m.toList.zipIdx.map fun x=>(kas_item it x.1,x.2):=by
  rw [Array.toList_map,List.zipIdx_map]
  rfl
theorem yi(ok:c.Ok){i:Nat}:Sim c id (mergeAt' i) (wA c i):=by
  unfold mergeAt'
  refine zi j5 fun ps=>?_
  cases h1:ps.pend[i]? with
  | none=>exact jN fun _=>rfl
  | some u =>
    obtain⟨sa,na,pw⟩:=u
    cases h2:ps.pend[i+1]? with
    | none=>exact jN fun _=>rfl
    | some v =>
      obtain⟨sb,nb,pw2⟩:=v
      have e1:(pendingOf (tw c.κ c.it ps))[i]?=some (sa,na,pw):=h1
      have e2:(pendingOf (tw c.κ c.it ps))[i+1]?=some (sb,nb,pw2):=h2
      rw [e1,e2]
      refine zi (zjH rfl) fun _=>?_
      refine zi (qx (p:=ps.a)) fun y=>?_
      refine zi (wU ok (arr:=ps.a)) fun k=>?_
      refine zq Iff.rfl (fun _=>zj rfl) (fun _=>?_)
      refine zi (qx (p:=ps.a)) fun x=>?_
      refine zi (wU ok (arr:=ps.a)) fun nb=>?_
      refine zq Iff.rfl (fun _=>zj rfl) (fun _=>?_)
      refine zq Iff.rfl (fun _=>?_) (fun _=>jN fun _=>rfl)
      have ex:(arrOf (tw c.κ c.it ps)).extract (sa+k) sb=mp c (ps.a.extract (sa+k) sb):=by
        show (Array.map (kas_item c.it) ps.a).extract (sa+k) sb=_
        unfold mp
        rw [Array.map_extract]
      have ey:(arrOf (tw c.κ c.it ps)).extract sb (sb+nb)=mp c (ps.a.extract sb (sb+nb)):=by
        show (Array.map (kas_item c.it) ps.a).extract sb (sb+nb)=_
        unfold mp
        rw [Array.map_extract]
      rw [ex,ey]
      refine zi (zlJ ok) fun m=>zi (xa (G:=fun ps=>{ ps with a:=m.toList.zipIdx.foldl (fun a x=>a.setIfInBounds (sa+k+x.2) x.1) ps.a }) fun ps=>?_) fun _=>zi j5 fun _=>zj rfl
      show SortSt.mk' c.κ (List.foldl (fun (a:Array Keyed) x=>a.setIfInBounds (sa+k+x.2) x.1) (ps.a.map (kas_item c.it)) (mp c m).toList.zipIdx) ps.pend ps.mg none=SortSt.mk' c.κ ((m.toList.zipIdx.foldl (fun a x=>a.setIfInBounds (sa+k+x.2) x.1) ps.a).map (kas_item c.it)) ps.pend ps.mg none
      rw [← zeV c.it (sa+k),← zip_map]
end
def mPush(lo n:Nat):MM PUnit:=modify fun ps=>{ ps with pend:=ps.pend.push (lo,n,0) }
def znu(lo n:Nat):MM (ForInStep Nat):=mPush lo n >>= fun _=>pure (.yield (lo+n))
def mMg(c:Cm)(pw:Nat)(_:Unit):MM (ForInStep Unit):=get >>= fun ps=>match (if ps.pend.size > 1 then ps.pend[ps.pend.size - 2]? else none) with
  | none=>pure (.done ())
  | some (_,_,older)=>if older≤pw then pure (.done ()) else wA c (ps.pend.size - 2) >>= fun b=>if (!b)=true then (fun _=>none) else pure (.yield ())
def zkZ(pw:Nat):MM PUnit:=modify fun ps=>{ ps with pend:=ps.pend.modify (ps.pend.size - 1) fun x=>(x.1,x.2.1,pw) }
def znt(c:Cm)(size lo n:Nat):MM (ForInStep Nat):=get >>= fun ps=>match ps.pend.back? with
  | none=>znu lo n
  | some (s1,n1,_)=>jj (mMg c (power' size (2*s1+n1) (2*s1+n1+n1+n) size)) (size - 0) () >>= fun _=>zkZ (power' size (2*s1+n1) (2*s1+n1+n1+n) size) >>= fun _=>znu lo n
def zmD(c:Cm)(size lo:Nat):MM (ForInStep Nat):=if lo ≥ size then pure (.done lo) else zhC c lo (size - lo) >>= fun n=>if n < minRun' size size 0 then
    zer >>= fun _=>znp c lo (min (size - lo) (minRun' size size 0)) n >>= fun _=>if (!true)=true then (fun _=>none) else znt c size lo (min (size - lo) (minRun' size size 0))
  else znt c size lo n
def mAt(p:Array (Nat×Nat×Nat)):Nat:=if Option.any (fun x=>decide (x < p[p.size - 2+1]?.elim 0 fun x=>x.snd.fst)) (if p.size - 2 > 0 then Option.map (fun x=>x.snd.fst) p[p.size - 2 - 1]? else none)=true then p.size - 2 - 1 else p.size - 2
def zmA(c:Cm)(_:Unit):MM (ForInStep Unit):=get >>= fun ps=>if ps.pend.size≤1 then pure (.done ()) else wA c (mAt ps.pend) >>= fun b=>if (!b)=true then (fun _=>none) else pure (.yield ())
def ziJ(c:Cm):MM PUnit:=get >>= fun ps=>jj (zmD c ps.a.size) (ps.a.size - 0) 0 >>= fun _=>jj (zmA c) (ps.a.size - 0) () >>= fun _=>pure ⟨⟩
section
variable {c:Cm}
theorem zg1(ok:c.Ok):Sim c (fun _:PUnit=>PUnit.unit) sortRuns' (ziJ c):=by
  unfold sortRuns'
  refine zi j5 fun ps=>?_
  have es:(arrOf (tw c.κ c.it ps)).size=ps.a.size:=Array.size_map
  rw [es]
  refine zi (f:=fun lo:Nat=>((none,lo):Option Unit×Nat)) (xy 0 rfl fun i lo=>?_) fun lo=>?_
  · refine zq Iff.rfl (fun _=>zj rfl) (fun _=>zi (zff ok) fun n=>?_)
    refine zq Iff.rfl (fun _=>zi kl fun _=>zi (zjG ok) fun _=>zq Iff.rfl (fun h=>absurd h (by decide)) (fun _=>?_)) (fun _=>?_)
    all_goals
      refine zi j5 fun ps=>?_
      cases hb:ps.pend.back? with
      | none =>
        have e1:(pendingOf (tw c.κ c.it ps)).back?=none:=hb
        rw [e1]
        exact zi (xa fun ps=>rfl) fun _=>zj rfl
      | some u =>
        obtain⟨s1,n1,p1⟩:=u
        have e1:(pendingOf (tw c.κ c.it ps)).back?=some (s1,n1,p1):=hb
        rw [e1]
        refine zi (f:=fun _:Unit=>((none,()):Option Unit×Unit)) (xy () rfl fun i _=>?_) fun _=>?_
        · refine zi j5 fun ps=>?_
          cases ho:(if ps.pend.size > 1 then ps.pend[ps.pend.size - 2]? else none) with
          | none =>
            have e1:(if (pendingOf (tw c.κ c.it ps)).size > 1 then (pendingOf (tw c.κ c.it ps))[(pendingOf (tw c.κ c.it ps)).size - 2]? else none)=none:=ho
            dsimp only
            rw [e1]
            exact zj rfl
          | some u =>
            obtain⟨o1,o2,o3⟩:=u
            have e1:(if (pendingOf (tw c.κ c.it ps)).size > 1 then (pendingOf (tw c.κ c.it ps))[(pendingOf (tw c.κ c.it ps)).size - 2]? else none)=some (o1,o2,o3):=ho
            dsimp only
            rw [e1]
            exact zq Iff.rfl (fun _=>zj rfl) (fun _=>zi (yi ok) fun b=>zq Iff.rfl (fun _=>jN fun _=>rfl) (fun _=>zj rfl))
        · exact zi (xa fun ps=>rfl) fun _=>zi (xa fun ps=>rfl) fun _=>zj rfl
  · refine zi (f:=fun _:Unit=>((none,()):Option Unit×Unit)) (xy () rfl fun i _=>?_) fun _=>zj rfl
    refine zi j5 fun ps=>?_
    exact zq Iff.rfl (fun _=>zj rfl) (fun _=>zi (yi ok) fun b=>zq Iff.rfl (fun _=>jN fun _=>rfl) (fun _=>zj rfl))
end
end GM
namespace L2
open PySem PySem.Spec PyProof.Rows
section
variable {X:Cx}
def zly(K:PySem.W.Frag):R2:=fun x y H Q=>∃ a l p ps us,x=.ref a∧y=.ref l∧SqT K H a [.int p.1,.int p.2]∧SqL K H l us∧Paired (DL.prV K H) ps us∧Q (.bl (decide (p∈ps))) H
theorem zeC(hu:X.A.units+64 < cLine):OpR X (compareOp .In) (zly X.K):=by
  intro pins s σ H x y v u Q I rx ry h
  obtain⟨a,l,p,ps,us,rfl,rfl,ha,hl,pr,q⟩:=h
  cases rx
  cases ry
  obtain⟨its,r,pl,hz⟩:=I.list hl
  classical
  let e:Value→Bool:=fun y=>decide (∃ k:Int×Int,(∃ b,y=.ref b∧SqT X.K H b [.int k.1,.int k.2])∧k=p)
  have rd:∀ {b:Addr} {k:Int×Int},SqT X.K H b [.int k.1,.int k.2]→∃ as,Reads s.heap (.ref b) (wc [k.1,k.2]) as:=fun {b k} hb=>RepD.reads I (wc [k.1,k.2]) (.ref b) (.ref b) (zgP (ns:=[k.1,k.2]) hb) rfl
  obtain⟨ax,rxx⟩:=rd ha
  have ev:∀ {b:Addr} {k:Int×Int},SqT X.K H b [.int k.1,.int k.2]→e (.ref b)=decide (k=p):=fun {b k} hb=>by
    show decide _=decide _
    rw [decide_eq_decide]
    constructor
    · rintro⟨k',⟨b',e1,h1⟩,rfl⟩
      cases e1
      have:=I.tuple_inj h1 hb
      injection this with g1 g2
      injection g2 with g2 _
      injection g1 with g1
      injection g2 with g2
      exact Prod.ext g1.symm g2.symm
    · rintro rfl
      exact⟨k,⟨b,rfl,hb⟩,rfl⟩
  have each:∀ {ps:List (Int×Int)} {us:List V} {its:List Value},Paired (DL.prV X.K H) ps us→Vals us its→(∀ y∈its,∃ (k:Int×Int) (b:Addr),y=.ref b∧SqT X.K H b [.int k.1,.int k.2])∧its.any e=decide (p∈ps):=by
    intro ps us its pr
    induction pr generalizing its with
    | nil=>intro r;cases r;exact⟨fun y hy=>(by cases hy),rfl⟩
    | cons h1 t ih =>
      intro r
      cases r with
      | cons r1 r2 =>
        obtain⟨b,rfl,hb⟩:=h1
        cases r1
        obtain⟨i1,i2⟩:=ih r2
        refine⟨fun y hy=>?_,?_⟩
        · rcases List.mem_cons.mp hy with rfl | hy
          · exact⟨_,b,rfl,hb⟩
          · exact i1 y hy
        · rw [List.any_cons,i2,ev hb,Bool.eq_iff_iff]
          simp only [Bool.or_eq_true,decide_eq_true_eq,List.mem_cons]
          exact⟨fun h=>h.imp Eq.symm id,fun h=>h.imp Eq.symm id⟩
  obtain⟨i1,i2⟩:=each pr r
  refine SeqAt.in_listAt e pl.isList (fun y hy=>?_) ⟨.bl _,H,I,rfl,?_⟩
  · obtain⟨k,b,rfl,hb⟩:=i1 y (by simpa using hy)
    obtain⟨as,rb⟩:=rd hb
    intro prog w E Q hq
    refine SeqAt.eqBoolOverData prog w _ E s _ _ (wc [k.1,k.2]) (wc [p.1,p.2]) as ax Q rb rxx (lay_ints [k.1,k.2]) (lay_ints [p.1,p.2]) ?_ ?_
    · have:=zbh [k.1,k.2]
      have h2:X.A.in1.units=X.A.units+1:=Around.in1_units _
      have h3:(wc [k.1,k.2]).depth≤2:=by
        have:=vA [k.1,k.2]
        unfold PyData.depth
        omega
      omega
    · rw [zf8]
      rw [ev hb] at hq
      have:decide ([k.1,k.2]=[p.1,p.2])=decide (k=p):=by
        rw [decide_eq_decide]
        constructor
        · intro h
          injection h with g1 g2
          injection g2 with g2 _
          exact Prod.ext g1 g2
        · rintro rfl
          rfl
      rw [this]
      exact hq
  · rw [show its.toArray.any e=its.any e by simp,i2]
    exact q
def znP(K:PySem.W.Frag)(tl:TE):TI:=fun σ H R=>tl σ H fun x H1=>∃ a,x=.ref a∧(((∃ xs,SqL K H1 a xs)∧R (Itl K a) H1)∨((∃ xs,SqT K H1 a xs)∧R (Itt K a) H1))
theorem zln{l tg:Expr}{tl:TE}(hl:PE X l tl):PI X tg l (znP X.K tl):=by
  intro pins s σ H R I h
  refine thn (hl pins s σ H _ I h) fun v s1 ⟨x,H1,I1,r1,q1⟩=>?_
  obtain⟨a,rfl,q1⟩:=q1
  cases r1
  have fin:∀ {o:Obj} {J:It} {tn:Nat→Heap→Prop},Turn X.prog X.w X.K tg J [s1.heap.objs.size] s1.heap.objs.size tn→tn 0 (s1.heap.push o)→R J H1→PIE X pins σ tg R (.ref s1.heap.objs.size) { s1 with heap:=s1.heap.push o }:=fun {o J tn} T t0 q=>by
    refine⟨s1.heap.objs.size,[s1.heap.objs.size],_,_,H1,rfl,I1.kept (t':=s1.toks) fun b o e=>Heap.get?_push_of_some _ e,T,t0,fun b hb=>?_,q⟩
    have e:b=s1.heap.objs.size:=by simpa using hb
    subst e
    exact I1.fpOk (Nat.le_refl _) (I1.hok.fresh (Nat.le_refl _))
  rcases q1 with ⟨⟨xs,hq⟩,q⟩ | ⟨⟨xs,hq⟩,q⟩
  · obtain⟨its,rv,p,hz⟩:=I1.list hq
    exact wpAny_pyIter_list p.isList (fin (za3 a _) ⟨_,Heap.get?_push_size _ rfl,rfl,rfl⟩ q)
  · obtain⟨its,rv,p,hz⟩:=I1.tuple hq
    exact wpAny_pyIter_tuple (show s1.heap.IsTuple a its.toArray from p) (fin (y4 a _) ⟨_,Heap.get?_push_size _ rfl,rfl,rfl⟩ q)
end
end L2
namespace HT
open PySem PyProof.Rows
end HT
namespace L2
open PySem PySem.Spec PyProof.Rows
section
variable {X:Cx}
def zlx(K:PySem.W.Frag):R2:=fun x y H Q=>∃ a b xs ys,x=.ref a∧y=.ref b∧SqT K H a xs∧SqT K H b ys∧xs.length+ys.length≤sizeLine ∧
  (xs=[]→Q (.ref b) H)∧(xs≠[]→ys=[]→Q (.ref a) H)∧(xs≠[]→ys≠[]→∀ p,H p=none→Q (.ref p) (upd H p (.tup (xs++ys))))
theorem ziW:OpR X (binaryOp .Add) (zlx X.K):=by
  intro pins s σ H x y v u Q I rx ry h
  obtain⟨a,b,xs,ys,rfl,rfl,ha,hb,hz,q0,q1,q2⟩:=h
  by_cases hx:xs=[]
  · cases rx
    cases ry
    obtain⟨its,r1,p1,_⟩:=I.tuple ha
    obtain⟨its2,r2,p2,_⟩:=I.tuple hb
    obtain⟨⟨cls,dd,data,sl⟩,ho,hc,n,hd⟩:=id p1
    obtain⟨⟨cls2,dd2,data2,sl2⟩,ho2,hc2,n2,hd2⟩:=id p2
    simp only at hc hd hc2 hd2
    subst hc hd hc2 hd2
    have he:its=[]:=r1.nil_iff.mpr hx
    exact concat_meets ⟨_,ho,rfl⟩ ⟨_,ho2,rfl⟩ noFill_tuple_add seq_tuple_add PySem.F.slot_tuple_add PySem.F.entry_tuple_add (PySem.F.args_tuple_add_2 _ _)
      (tuple_addW0 a b its.toArray its2.toArray n n2 dd dd2 sl sl2 (by rw [he];rfl)) ⟨ho,ho2,⟨.ref b,H,I,rfl,q0 hx⟩⟩
  · exact ziX pins s σ H _ _ v u Q I rx ry ⟨a,b,xs,ys,rfl,rfl,ha,hb,hx,hz,q1 hx,q2 hx⟩
end
end L2
namespace L2.DL
open PySem PySem.Spec PyProof.Rows
section
variable {C:Addr}{X:Cx}{a b c e:Expr}{es:List Expr}{st:Stmt}{sts:List Stmt}{ta tb tc te:DT1}{t:DTA}{tt:DTT}{u:DTS}{pos:Pos}
def zeZ:D→D→(D→Prop)→Prop:=fun d e Q=>match d,e with
  | .tup l,.tup m=>l.length+m.length≤sizeLine∧Q (.tup (l++m))
  | _,_=>False
theorem zkO:xS X.K C (zlx X.K) zeZ:=by
  intro H S d v e u P Q dm r1 r2 h k
  unfold zeZ at h
  split at h
  · have r10:=r1
    have r20:=r2
    unfold Rep at r1 r2
    obtain⟨a,xs,rfl,h2,h3⟩:=r1
    obtain⟨b,ys,rfl,h4,h5⟩:=r2
    have l1:=zD h3
    have l2:=zD h5
    refine⟨a,b,xs,ys,rfl,rfl,zh.seqT h2,zh.seqT h4,by omega,fun e=>?_,fun _ e=>?_,fun _ _ p hp=>k.new dm h.2 (jJ h3 h5) hp⟩
    · subst e
      rename_i l m
      have:l=[]:=List.length_eq_zero_iff.mp (by simpa using l1)
      subst this
      exact k.flat h.2 r20
    · subst e
      rename_i l m _
      have:m=[]:=List.length_eq_zero_iff.mp (by simpa using l2)
      subst this
      rw [List.append_nil] at h
      exact k.flat h.2 r10
  · exact h.elim
theorem zdT(ha:DE C X a ta)(hb:DE C X b tb):DE C X (.BinOp a .Add b pos) (d2 zeZ ta tb):=zar ziW zkO ha hb
def zlC:D→D→(D→Prop)→Prop:=fun d e Q=>∃ (p:Int×Int) (ps:List (Int×Int)),d=dPr p∧e=.lst (ps.map dPr)∧Q (.bl (decide (p∈ps)))
theorem zhz:xS X.K C (zly X.K) zlC:=by
  intro H S d v e u P Q dm r1 r2 h k
  obtain⟨p,ps,rfl,rfl,hq⟩:=h
  obtain⟨a,rfl,h1⟩:=ze8.mp r1
  unfold Rep at r2
  obtain⟨b,us,rfl,h2,h3⟩:=r2
  exact⟨a,b,p,ps,us,rfl,rfl,zh.seqT h1,SqL.of (zh _ _ h2),Paired.mapP (vq.mp h3) fun _ _ z=>z.mono zh,k.flat hq xN⟩
def zm9(te:DT1):DTA:=fun env Q=>te env fun d=>match d with
  | .lst l=>Q l
  | .tup l=>Q l
  | _=>False
theorem zkz{tg:Expr}(h:DE C X e te):DI C X tg e (zm9 te):=piW (zln h) fun σ H R ⟨S,env,P,h1,h2,h3⟩=>⟨S,env,_,h1,h2,fun d hd v H' e rv=>by
  cases d with
  | lst l =>
    unfold Rep at rv
    obtain⟨a,xs,rfl,r1,r2⟩:=rv
    exact⟨a,rfl,.inl ⟨⟨xs,SqL.of (zh _ _ r1)⟩,h3 l hd _ H' e (zhw r1 r2)⟩⟩
  | tup l =>
    unfold Rep at rv
    obtain⟨a,xs,rfl,r1,r2⟩:=rv
    exact⟨a,rfl,.inr ⟨⟨xs,zh.seqT r1⟩,h3 l hd _ H' e (zhy r1 r2)⟩⟩
  | _=>exact hd.elim⟩
def dDo(te:DT1):DTS:=fun DD env=>te env fun _=>DD.nx env
theorem zbj(he:DE C X e te)(hs:swapsWith e none pos.line X.env=pure false:=by rfl):DS C X (.Expr e pos) (dDo te):=psW (ja he hs) fun D0 σ H ⟨H0,S0,S,env,DD,h1,h2,h3⟩ =>
  ⟨S,env,_,h1.e,h2,fun d hd v H' e rv=>h3.nx _ _ _ _ hd (h1.mono e)⟩
end
end L2.DL
namespace L2.DL
open PySem PySem.Spec PyProof.Rows GS
abbrev Cl:=List (Int×Int)
def xX(n:Int)(cl:Cl):Prop:=∀ p∈cl,0≤p.1∧p.1 < n∧0≤p.2∧p.2 < n∧p.1≠p.2
def zdu(n:Int)(cl:Cl):Prop:=xX n cl∧cl.length≤200
def rise(p:Int×Int):Int×Int:=(if p.2 < p.1 then p.2 else p.1,if p.2 > p.1 then p.2 else p.1)
def zm4(n:Int)(cl:Cl):D:=.crs n (sd (cl.map rise))
def indep(ps:Cl)(g:List Int):Bool:=ps.all fun p=>!(decide (p.1∈g) && decide (p.2∈g))
def lcl(cl:Cl)(a b:Int):Bool:=decide ((a,b)∈cl) || decide ((b,a)∈cl)
def zgm(cl:Cl)(g:List Int):Bool:=g.all fun a=>g.all fun b=>!(decide (a≠b) && lcl cl a b)
def dLs(g:List Int):D:=.lst (g.map D.int)
def vJ:TD:=fun ds Q=>∃ n:Int,ds=[.int n]∧1≤n∧n≤6∧Q .non
def vy:TD:=fun ds Q=>∃ n s:Int,ds=[.int n,.int s]∧Q (.bl (decide (0≤s) && decide (s < n)))
def j7:TD:=fun ds Q=>∃ (n:Int) (p:Int×Int),ds=[.int n,dPr p]∧(0≤p.1∧p.1 < n∧0≤p.2∧p.2 < n∧p.1≠p.2)∧Q .non
def zbP:TD:=fun ds Q=>∃ p:Int×Int,ds=[dPr p]∧Q (dPr (rise p))
def zft:TD:=fun ds Q=>∃ (n:Int) (cl:Cl),ds=[.int n,.lst (cl.map dPr)]∧1≤n∧n≤6∧zdu n cl∧Q (zm4 n cl)
def zg9:TD:=fun ds Q=>∃ (n:Int) (ps:Cl),ds=[.crs n ps]∧Q (.int n)
def jC:TD:=fun ds Q=>∃ (n:Int) (ps:Cl) (g:List Int) (d:D),ds=[.crs n ps,d]∧(d=dG g∨d=dLs g)∧(∀ s∈g,0≤s∧s < n)∧Q (.bl (indep ps g))
def j8:TD:=fun ds Q=>∃ (ns:List Int) (st n:Int),ds=[.scr ns,.int st,.int n]∧0≤st∧1≤n∧n≤6∧∀ cl,zdu n cl→Q (.lst (cl.map dPr))
def w6:TD:=fun ds Q=>∃ c n:Int,ds=[.int c,.int n]∧4 < n∧n≤6∧∀ cl,zdu n cl→Q (.lst (cl.map dPr))
def yo:TD:=fun ds Q=>∃ (cl:Cl) (a b:Int),ds=[.lst (cl.map dPr),.int a,.int b]∧Q (.bl (lcl cl a b))
def xR:TD:=fun ds Q=>∃ (cl:Cl) (g:List Int),ds=[.lst (cl.map dPr),dG g]∧Q (.bl (zgm cl g))
theorem zjx{n:Int}{p:Int×Int}(hn:n≤6)(h:0≤p.1∧p.1 < n∧0≤p.2∧p.2 < n∧p.1≠p.2):rise p∈zL:=by
  have key:∀ a∈[0,1,2,3,4,5],∀ b∈[0,1,2,3,4,5],a≠b→rise ((a:Int),(b:Int))∈zL:=by decide +kernel
  obtain⟨a,b⟩:=p
  obtain⟨h1,h2,h3,h4,h5⟩:=h
  simp only at h1 h2 h3 h4 h5
  have m:∀ x:Int,0≤x→x < n→x∈([0,1,2,3,4,5]:List Int):=fun x z1 z2=>by
    have:x=0∨x=1∨x=2∨x=3∨x=4∨x=5:=by omega
    simp only [List.mem_cons,List.not_mem_nil,or_false]
    exact this
  exact key a (m a h1 h2) b (m b h3 h4) h5
theorem zay{n:Int}{cl:Cl}(hn:n≤6)(h:xX n cl):∀ p∈cl.map rise,p∈zL:=fun p hp=>by
  obtain⟨q,hq,rfl⟩:=List.mem_map.mp hp
  exact zjx hn (h q hq)
theorem xM{n:Int}{cl:Cl}(hn:n≤6)(h:xX n cl)(p:Int×Int):p∈sd (cl.map rise)↔∃ q∈cl,rise q=p:=by
  rw [zhM (zay hn h),List.mem_map]
theorem zcd{n:Int}{cl:Cl}(hn:n≤6)(h:xX n cl)(g:List Int):indep (sd (cl.map rise)) g=zgm cl g:=by
  rw [Bool.eq_iff_iff]
  unfold indep zgm lcl
  simp only [List.all_eq_true,Bool.not_eq_true',Bool.and_eq_false_iff,decide_eq_false_iff_not,Bool.or_eq_false_iff]
  constructor
  · intro hh a ha b hb
    by_cases hab:a=b
    · exact .inl (fun z=>z hab)
    · refine .inr ⟨fun z=>?_,fun z=>?_⟩
      · have:=hh (rise (a,b)) ((xM hn h _).mpr ⟨_,z,rfl⟩)
        unfold rise at this
        simp only at this
        rcases this with q | q
        · split at q <;> contradiction
        · split at q <;> contradiction
      · have:=hh (rise (b,a)) ((xM hn h _).mpr ⟨_,z,rfl⟩)
        unfold rise at this
        simp only at this
        rcases this with q | q
        · split at q <;> contradiction
        · split at q <;> contradiction
  · intro hh p hp
    obtain⟨⟨a,b⟩,hq,rfl⟩:=(xM hn h _).mp hp
    have hne:=(h _ hq).2.2.2.2
    simp only at hne
    unfold rise
    simp only
    by_cases ha:a∈g
    · by_cases hb:b∈g
      · rcases hh a ha b hb with z | z
        · exact absurd hne z
        · exact absurd hq z.1
      · by_cases hlt:b < a
        · rw [if_pos hlt];exact .inl hb
        · rw [if_neg hlt,if_pos (show b > a by omega)];exact .inr hb
    · by_cases hlt:b < a
      · rw [if_pos hlt,if_neg (show ¬ b > a by omega)];exact .inr ha
      · rw [if_neg hlt];exact .inl ha
theorem wa{α:Type}{xs:List α}{lo hi:Option Int}{x:α}(h:x∈cut xs lo hi):x∈xs:=by
  unfold cut at h
  exact List.mem_of_mem_drop (List.mem_of_mem_take h)
theorem zbg{α β:Type}(f:α→β)(xs:List α)(lo hi:Option Int):cut (xs.map f) lo hi=(cut xs lo hi).map f:=by
  unfold cut
  rw [List.length_map,List.map_take,List.map_drop]
theorem zbf{α:Type}(xs:List α)(lo hi:Option Int):(cut xs lo hi).length≤xs.length:=by
  unfold cut
  rw [List.length_take,List.length_drop]
  omega
theorem xX.of{n:Int}{a b:Cl}(h:xX n a)(hs:∀ x∈b,x∈a):xX n b:=fun x hx=>h x (hs x hx)
theorem xX.app{n:Int}{a b:Cl}(h:xX n a)(h':xX n b):xX n (a++b):=fun x hx=>(List.mem_append.mp hx).elim (h x) (h' x)
theorem zjt{p:Int×Int}{Q:D→Prop}:rdIx (dPr p) (.int 0) Q=Q (.int p.1):=rfl
theorem zju{p:Int×Int}{Q:D→Prop}:rdIx (dPr p) (.int 1) Q=Q (.int p.2):=rfl
theorem zjq{g:List Int}{i:Int}{Q:D→Prop}:zfL id (.int i) (dLs g) Q↔Q (.bl (decide (i∈g))):=by
  unfold zfL dLs
  simp only [v9,xK,id,true_and]
end L2.DL
namespace PySem
namespace GR
end GR
end PySem
namespace PySem
namespace GR
end GR
end PySem
namespace L2
open PySem PySem.Spec PyProof.Rows
end L2
namespace L2.DL
open PySem PySem.Spec PyProof.Rows
end L2.DL
namespace L2.DL
open PySem PySem.Spec PyProof.Rows GS
end L2.DL
namespace L2.DL
open PySem PySem.Spec PyProof.Rows GS
theorem zeb{ps:Cl}{g g':List Int}(h:∀ s,s∈g↔s∈g'):indep ps g=indep ps g':=by
  unfold indep
  simp only [h]
theorem zlq{m:Nat}(h:m≤6):∃ N:Nat,N=2 ^ m∧∀ R:D→Prop,rdIx (.lst [.int 1,.int 2,.int 4,.int 8,.int 16,.int 32,.int 64]) (.int m) R=R (.int N):=by
  match m,h with
  | 0,_=>exact⟨1,rfl,fun R=>rfl⟩
  | 1,_=>exact⟨2,rfl,fun R=>rfl⟩
  | 2,_=>exact⟨4,rfl,fun R=>rfl⟩
  | 3,_=>exact⟨8,rfl,fun R=>rfl⟩
  | 4,_=>exact⟨16,rfl,fun R=>rfl⟩
  | 5,_=>exact⟨32,rfl,fun R=>rfl⟩
  | 6,_=>exact⟨64,rfl,fun R=>rfl⟩
end L2.DL
namespace GM
open PySem PySem.W PyProof.Rows GO
def b6(i:Nat):List Int:=L2.DL.xJ i 6
def lt6(i j:Nat):Bool:=HT.lexLt (b6 i) (b6 j)
def upB(p:List Nat):Bool:=match p with
  | []=>true
  | x::l=>l.all (fun y=>lt6 x y) && upB l
def chk(o:Option (PUnit×PS)):Bool:=match o with
  | some (_,ps)=>ps.a.toList.isPerm (List.range 64) && upB ps.a.toList
  | none=>false
theorem zmP(prog:Program)(w:World)(A:Around)(E:Value→Shared→Prop)(κ:SortKind)(it:Array Keyed)(s:Shared):chk (ziJ ⟨prog,w,A,E,κ,it,64,lt6,s⟩ ⟨List.toArray (List.range 64),#[],7⟩)=true:=by kernel_rfl
end GM
namespace GM
open PySem PySem.W PyProof.Rows GO
theorem zcg:∀ {a b:List Int},HT.lexLt a b=true→HT.lexLt b a=false
  | [],[],h=>by cases h
  | [],_::_,_=>rfl
  | _::_,[],h=>by cases h
  | x::a,y::b,h=>by
    rw [HT.jG] at h ⊢
    by_cases e:x=y
    · subst e
      rw [if_pos rfl] at h ⊢
      exact zcg h
    · rw [if_neg e] at h
      rw [if_neg (fun z=>e z.symm)]
      have:=of_decide_eq_true h
      exact decide_eq_false (by omega)
theorem zel:∀ {a b:List Int},a≠b→HT.lexLt a b=false→HT.lexLt b a=true
  | [],[],h,_=>absurd rfl h
  | [],_::_,_,h=>by cases h
  | _::_,[],_,_=>rfl
  | x::a,y::b,hne,h=>by
    rw [HT.jG] at h ⊢
    by_cases e:x=y
    · subst e
      rw [if_pos rfl] at h ⊢
      exact zel (fun z=>hne (by rw [z])) h
    · rw [if_neg e] at h
      rw [if_neg (fun z=>e z.symm)]
      have:=of_decide_eq_false h
      exact decide_eq_true (by omega)
theorem lex_trans:∀ {a b c:List Int},HT.lexLt a b=true→HT.lexLt b c=true→HT.lexLt a c=true
  | _,[],[],_,h=>by cases h
  | [],[],_::_,h,_=>by cases h
  | _::_,[],_::_,h,_=>by cases h
  | _,_::_,[],_,h=>by cases h
  | [],_::_,_::_,_,_=>rfl
  | x::a,y::b,z::c,h1,h2=>by
    rw [HT.jG] at h1 h2 ⊢
    by_cases e:x=y
    · subst e
      rw [if_pos rfl] at h1
      by_cases e2:x=z
      · rw [if_pos e2] at h2 ⊢
        exact lex_trans h1 h2
      · rw [if_neg e2] at h2 ⊢
        exact h2
    · rw [if_neg e] at h1
      have h1':=of_decide_eq_true h1
      by_cases e2:y=z
      · subst e2
        rw [if_neg e]
        exact h1
      · rw [if_neg e2] at h2
        have h2':=of_decide_eq_true h2
        rw [if_neg (by omega)]
        exact decide_eq_true (by omega)
theorem ziF{gs:List (List Int)}(hn:gs.Nodup):Ord (fun i j=>HT.lexLt (gs.getD i []) (gs.getD j [])) gs.length where
  trans:=fun i j k _ _ _ h1 h2=>lex_trans h1 h2
  tot:=fun i j hi hj hne h=>zel (fun e=>hne (by
    rw [List.getD_eq_getElem?_getD,List.getD_eq_getElem?_getD,List.getElem?_eq_getElem hi,List.getElem?_eq_getElem hj] at e
    exact (List.getElem_inj hn).mp e)) h
  asym:=fun i j _ _ h=>zcg h
def zfN(h:Heap)(a:Addr)(g:List Int):Prop:=∃ items:Array Value,IsTup h a items∧IntsAre items.toList g
theorem zfN.kept{h h':Heap}{a:Addr}{g:List Int}(x:zfN h a g)(k:∀ o,h.get? a=some o→h'.get? a=some o):zfN h' a g:=by
  obtain⟨items,⟨o,e,r⟩,i⟩:=x
  exact⟨items,⟨o,k o e,r⟩,i⟩
abbrev Tps(h:Heap):List (List Int)→List Value→Prop:=Paired fun g v=>∃ a,v=.ref a∧zfN h a g
section
variable {prog:Program}{w:World}{A:Around}{E:Value→Shared→Prop}{s:Shared}
theorem zlV{a b:Addr}{g k:List Int}{Q:Bool→Shared→Prop}(hu:A.units < cLine)(ha:zfN s.heap a g)(hb:zfN s.heap b k)(h:Q (HT.lexLt g k) s):wpAny (model prog w) A (keyLt' oneType' (.ref a) (.ref b)) Q E s:=by
  obtain⟨items,hl,hi⟩:=ha
  obtain⟨items2,hb,hj⟩:=hb
  obtain⟨⟨cls,dd,data,sl⟩,ho,hc,n,hd⟩:=id hl
  obtain⟨⟨cls2,dd2,data2,sl2⟩,ho2,hc2,n2,hd2⟩:=id hb
  simp only at hc hd hc2 hd2
  subst hc hd hc2 hd2
  rw [keyLt'_oneType,oneLt'_eq]
  simp only [if_true]
  refine wpAny_bind (wpAny_cRoomFor hu ?_)
  have hT:s.TypeIs (.ref a) "tuple" := ⟨_,ho,rfl⟩
  refine wpAny_bind (wpAny_callSpecialIfBound?_slot hT PySem.F.slot_tuple_lt (call_meets PySem.F.slot_tuple_lt hT PySem.F.entry_tuple_lt (PySem.F.args_tuple_lt_2 _ _) (HT.zab a b items items2 n n2 dd dd2 sl sl2 g k hi hj) ⟨ho,ho2,?_⟩))
  exact wpAny_truthy_bool h
theorem zkE{vs:List Value}{gs:List (List Int)}(hv:Tps s.heap gs vs):∃ fs:List (Option Value),(gs.head?=some []→fs.head?=some none)∧∀ Q:List (Option Value)→Shared→Prop,Q fs s→wpAny (model prog w) A (vs.mapM firstOfTuple') Q E s:=by
  induction hv with
  | nil=>exact⟨[],fun h=>(by cases h),fun Q h=>(by rw [List.mapM_nil];exact wpAny_pure h)⟩
  | cons h1 t ih =>
    obtain⟨a,rfl,items,tp,hi⟩:=h1
    obtain⟨fs,_,h3⟩:=ih
    obtain⟨o,ho,hc,n,hd⟩:=id tp
    refine⟨items[0]? :: fs,fun h=>?_,fun Q h=>?_⟩
    · have hg:_=([]:List Int):=Option.some.inj h
      subst hg
      have:items.toList=[]:=List.length_eq_zero_iff.mp hi.length
      have e:items=#[]:=by apply Array.toList_inj.mp;simpa using this
      rw [e]
      rfl
    · rw [List.mapM_cons]
      refine wpAny_bind ?_
      rw [kas_first_eq]
      refine wpAny_bind (wpAny_typeOf (T := "tuple") ⟨o,ho,hc⟩ ?_)
      rw [if_neg (by decide)]
      unfold Builtin.List.listItems
      refine wpAny_bind (wpAny_bind (wpAny_seqItems ho hd (wpAny_pure (wpAny_pure ?_))))
      exact wpAny_bind (h3 _ (wpAny_pure h))
theorem zjW{h:Heap}{vs:List Value}{gs:List (List Int)}{v:Value}(hv:Tps h gs vs)(hm:v∈vs):∃ a g,v=.ref a∧zfN h a g:=by
  induction hv with
  | nil=>cases hm
  | cons p t ih =>
    rcases List.mem_cons.mp hm with rfl | hm
    · obtain⟨a,e,i⟩:=p;exact⟨a,_,e,i⟩
    · exact ih hm
theorem zbl{vs:List Value}{gs:List (List Int)}(hv:Tps s.heap ([]::gs) vs){Q:SortKind→Shared→Prop}(h:Q oneType' s):wpAny (model prog w) A (keyKind' vs.toArray) Q E s:=by
  obtain⟨fs,h1,h2⟩:=zkE (prog:=prog) (w:=w) (A:=A) (E:=E) hv
  have h1:=h1 rfl
  rw [keyKind'_eq,List.mapM_toArray,map_eq_pure_bind]
  refine wpAny_bind (wpAny_bind (h2 _ (wpAny_pure ?_)))
  obtain⟨fs',rfl⟩:∃ fs',fs=none::fs':=by
    cases fs with
    | nil=>cases h1
    | cons f fs'=>exact⟨fs',by cases h1;rfl⟩
  rw [if_neg (by simp),if_neg (by simp)]
  rw [oneTypeOnly'_eq,List.mapM_toArray,map_eq_pure_bind]
  refine wpAny_bind (wpAny_bind (wpAny_bind (kas_mapM (r:=Value.type "tuple") _ (fun v hm Q' hq=>?_) (wpAny_pure ?_))))
  · have:∃ a g,v=.ref a∧zfN s.heap a g:=zjW hv hm
    obtain⟨a,g,rfl,items,⟨o,ho,hc,_⟩,_⟩:=this
    exact wpAny_typeOf (T := "tuple") ⟨o,ho,hc⟩ hq
  · have hne:∃ v l,vs=v::l:=by cases hv with | cons p t=>exact⟨_,_,rfl⟩
    obtain⟨v,l,rfl⟩:=hne
    have hall:((List.map (fun _=>Value.type "tuple") (v::l)).toArray.all fun x=>x == Value.type "tuple")=true:=by
      simp only [List.all_toArray,List.all_map,List.all_eq_true]
      intro _ _
      rfl
    have h0:(List.map (fun _=>Value.type "tuple") (v::l)).toArray[0]?=some (Value.type "tuple"):=by simp
    rw [h0]
    simp only [hall,if_true]
    exact wpAny_pure (wpAny_pure h)
theorem zhT:∀ {p:List Nat},upB p=true→∀ i j,i < j→j < p.length→lt6 (p.getD i 0) (p.getD j 0)=true
  | [],_,i,j,_,hj=>absurd hj (by simp)
  | x::l,h,0,j+1,_,hj=>by
    unfold upB at h
    rw [Bool.and_eq_true] at h
    have hj':j < l.length:=by simpa using hj
    have:=List.all_eq_true.mp h.1 l[j] (List.getElem_mem _)
    simpa [hj'] using this
  | x::l,h,i+1,j+1,hij,hj=>by
    unfold upB at h
    rw [Bool.and_eq_true] at h
    simpa using zhT h.2 i j (by omega) (by simpa using hj)
def G64:List (List Int):=(List.range 64).map b6
theorem zde{vs:List Value}{gs:List (List Int)}(hu:A.units < cLine)(hv:Tps s.heap gs vs)(hn:gs.Nodup)(h2:2≤gs.length)(hl:gs.length < 64∨gs=G64) :
    zfO prog w A oneType' vs (fun p=>Pm vs.length p∧Up (fun i j=>HT.lexLt (gs.getD i []) (gs.getD j [])) p vs.length) s:=by
  have hlen:gs.length=vs.length:=Paired.length hv
  have at_:∀ i,i < vs.length→∃ a,vs.getD i Value.none=.ref a∧zfN s.heap a (gs.getD i []):=fun i hi=>by
    clear h2 hl hn
    induction hv generalizing i with
    | nil=>simp at hi
    | cons p t ih =>
      cases i with
      | zero=>obtain⟨a,e,q⟩:=p;exact⟨a,by simp [e],by simpa using q⟩
      | succ i =>
        obtain⟨a,e,q⟩:=ih (by simpa using hlen) i (by simpa using hi)
        exact⟨a,by simpa using e,by simpa using q⟩
  have hc:∀ i j C,i < vs.length→j < vs.length→C (HT.lexLt (gs.getD i []) (gs.getD j [])) s→kas_ask prog w A oneType' vs i j C s:=fun i j C hi hj h=>by
    obtain⟨a,e1,q1⟩:=at_ i hi
    obtain⟨b,e2,q2⟩:=at_ j hj
    unfold kas_ask
    rw [e1,e2]
    exact zlV hu q1 q2 h
  rcases hl with hl | hl
  · have:=zaV (prog:=prog) (w:=w) (A:=A) (s:=s) (κ:=oneType') (vs:=vs) (lt:=fun i j=>HT.lexLt (gs.getD i []) (gs.getD j [])) (by omega) (by omega) (hlen ▸ ziF hn) hc
    exact this
  · subst hl
    have h64:vs.length=64:=by rw [← hlen];rfl
    intro Q E' h
    have e64:∀ i,i < 64→G64.getD i []=b6 i:=fun i hi=>by unfold G64;simp [hi]
    have hlt:∀ i j,i < 64→j < 64→lt6 i j=HT.lexLt (G64.getD i []) (G64.getD j []):=fun i j hi hj=>by rw [e64 i hi,e64 j hj];rfl
    have ok:Cm.Ok ⟨prog,w,A,E',oneType',vs.toArray.zip vs.toArray,64,lt6,s⟩:=fun i j C hi hj hC=>by
      have hi':i < 64:=hi
      have hj':j < 64:=hj
      have hC':C (lt6 i j) s:=hC
      rw [hlt i j hi' hj'] at hC'
      have z:=hc i j C (by omega) (by omega) hC'
      rw [kat_ask_eq (ks:=vs) (vs:=vs) rfl] at z
      exact z
    have r:=zmP prog w A E' oneType' (vs.toArray.zip vs.toArray) s
    cases hr:ziJ ⟨prog,w,A,E',oneType',vs.toArray.zip vs.toArray,64,lt6,s⟩ ⟨List.toArray (List.range 64),#[],7⟩ with
    | none=>rw [hr] at r;cases r
    | some q =>
      obtain⟨u,ps⟩:=q
      rw [hr] at r
      unfold chk at r
      rw [Bool.and_eq_true] at r
      have pm:ps.a.toList.Perm (List.range 64):=List.isPerm_iff.mp r.1
      have sz:ps.a.size=64:=by
        have:=pm.length_eq
        rw [List.length_range,Array.length_toList] at this
        exact this
      have run:=zg1 ok _ _ _ hr (fun _ st' s'=>Q st' s') (h ps.a _ (by rw [sz,h64]) rfl rfl ⟨⟨by rw [sz,h64],by rw [h64];exact pm⟩,fun i j hij hj=>?_⟩)
      · have est:SortSt.mk' oneType' (vs.toArray.zip vs.toArray) #[] 7 none=tw oneType' (vs.toArray.zip vs.toArray) ⟨List.toArray (List.range 64),#[],7⟩:=by
          have e:=kas_range (vs.toArray.zip vs.toArray)
          rw [show (vs.toArray.zip vs.toArray).size=64 by simp [h64]] at e
          show SortSt.mk' oneType' (vs.toArray.zip vs.toArray) #[] 7 none=SortSt.mk' oneType' ((List.toArray (List.range 64)).map (kas_item (vs.toArray.zip vs.toArray))) #[] 7 none
          rw [e]
        rw [est]
        exact run
      · have hj':j < 64:=by omega
        have up:=zhT r.2 i j hij (by rw [Array.length_toList,sz];exact hj')
        have eg:∀ k,ps.a.toList.getD k 0=ps.a.getD k 0:=fun k=>by rw [List.getD_eq_getElem?_getD,Array.getD_eq_getD_getElem?,Array.getElem?_toList]
        rw [eg,eg] at up
        have bd:∀ k,k < 64→ps.a.getD k 0 < 64:=fun k hk=>Pm.bd (n:=64) ⟨sz,pm⟩ hk
        rw [hlt _ _ (bd i (by omega)) (bd j hj')] at up
        exact up
end
end GM
namespace GM
open PySem PySem.W PyProof.Rows GO
section
variable {prog:Program}{w:World}{A:Around}{E:Value→Shared→Prop}{s:Shared}
theorem zmJ{n:Nat}{p:Array Nat}{gs:List (List Int)}(pm:Pm n p)(up:Up (fun i j=>HT.lexLt (gs.getD i []) (gs.getD j [])) p n):(p.toList.map fun i=>gs.getD i []).Pairwise fun a b=>HT.lexLt a b=true:=by
  rw [List.pairwise_map,List.pairwise_iff_getElem]
  intro i j hi hj hij
  have hj':j < n:=by rw [Array.length_toList,pm.size] at hj;exact hj
  have q:=up i j hij hj'
  have g:∀ (k:Nat) (hk:k < p.toList.length),p.getD k 0=p.toList[k]:=fun k hk=>by
    have:k < p.size:=by rw [Array.length_toList] at hk;exact hk
    simp [Array.getD,this]
  rw [g i hi,g j hj] at q
  exact q
theorem wY{l:Addr}{vs:List Value}{gs:List (List Int)}{Q:Value→Shared→Prop}(hu:A.units+64 < cLine)(hl:s.heap.IsList l vs.toArray)(hv:Tps s.heap ([]::gs) vs)(hn:([]::gs).Nodup)(h2:1≤gs.length)(hz:gs.length+1 < 64∨[]::gs=G64)
    (h:∀ (p:List Nat) h' D c,p.Perm (List.range vs.length)→(p.map fun i=>([]::gs).getD i []).Pairwise (fun a b=>HT.lexLt a b=true)→h'.get? D=some (seqObj "list" (List.toArray (p.map fun i=>vs.getD i Value.none)) c)→s.heap.get? D=none→(∀ b o,s.heap.get? b=some o→h'.get? b=some o)→Q (.ref D) { s with heap:=h' }) :
    wpAny (model prog w) A (call (.builtin "sorted") [.ref l]) Q E s:=by
  obtain⟨o,ho,hc,n,hd⟩:=id hl
  have hlen:([]::gs).length=vs.length:=Paired.length hv
  have hlc:vs.length=gs.length+1:=by rw [← hlen];rfl
  have h64:vs.length≤64:=by
    rcases hz with hz | hz
    · omega
    · rw [← hlen,hz];decide
  have hsl:vs.length≤sizeLine:=Nat.le_trans h64 (by decide)
  refine Calls.call_function_entry kind_sorted plain_sorted entry_sorted (args_sorted1 _) ?_
  unfold Builtin.«sorted»
  refine wpAny_bind (m:=checkCount "sorted" 1 1 _) (wpAny_pure ?_)
  refine wpAny_bind (wpAny_collect_seq l (.inl rfl) ho hc hd (fun h1 hk=>?_) (by rw [List.size_toArray];exact hsl))
  have u1:A.in1.in1.units=A.units+2:=by rw [Around.in1_units,Around.in1_units]
  have keepT:∀ h':Heap,(∀ b o,h1.get? b=some o→h'.get? b=some o)→Tps h' ([]::gs) vs:=fun h' q=>L2.Paired.mapP hv fun g v ⟨a,e,t⟩=>⟨a,e,t.kept fun o z=>q _ o (hk _ o z)⟩
  show wpAny (model prog w) A.in1 (newList vs.toArray.toList >>= fun l=>holding [l] (call (.builtin "list.sort") [l] []) >>= fun _=>ret l) _ E { s with heap:=h1 }
  rw [List.toList_toArray]
  refine za1 (s:={ s with heap:=h1 }) (κ:=oneType') (R:=fun p=>Pm vs.length p∧Up (fun i j=>HT.lexLt (([]::gs).getD i []) (([]::gs).getD j [])) p vs.length) hsl (fun h2 h' q Q E hq=>zbl (s:={ s with heap:=h' }) (keepT h' q) hq)
    (fun h2 h' q=>zde (s:={ s with heap:=h' }) (by omega) (keepT h' q) hn (by rw [List.length_cons];omega) (by rw [List.length_cons];exact hz)) fun vs' h' D c hv' hD hle q=>?_
  rcases hv' with ⟨z,_⟩ | ⟨p,hp,⟨pm,up⟩,rfl⟩
  · omega
  · have hle':s.heap.get? D=none:=by
      cases g:s.heap.get? D with
      | none=>rfl
      | some o=>exact absurd (hk D o g) (by rw [show h1.get? D=none from hle];exact fun z=>by cases z)
    exact h p.toList h' D c pm.perm (zmJ pm up) hD hle' fun b o e=>q b o (hk b o e)
end
end GM
namespace L2
open PySem PySem.Spec PyProof.Rows GM
def tpV(K:PySem.W.Frag)(H:Hp)(g:List Int)(v:V):Prop:=∃ a,v=.ref a∧SqT K H a (g.map V.int)
def zlR(K:PySem.W.Frag)(ta:TA):TE:=fun σ H Q=>ta σ H fun vs H1=>∃ l gs us,vs=[.ref l]∧SqL K H1 l us∧Paired (tpV K H1) ([]::gs) us∧([]::gs).Nodup∧1≤gs.length∧(gs.length+1 < 64∨[]::gs=G64) ∧
  ∀ p:List Nat,p.Perm (List.range us.length)→(p.map fun i=>([]::gs).getD i []).Pairwise (fun a b=>HT.lexLt a b=true)→∀ q,H1 q=none→Q (.ref q) (upd H1 q (.lst (p.map fun i=>us.getD i .non)))
theorem za4:∀ {us:List V} {its:List Value} {p:List Nat},Vals us its→(∀ i∈p,i < us.length)→Vals (p.map fun i=>us.getD i .non) (p.map fun i=>its.getD i Value.none)
  | us,its,[],_,_=>.nil
  | us,its,i::p,r,h=>by
    have hi:=h i List.mem_cons_self
    have e1:us[i]?=some us[i]:=List.getElem?_eq_getElem hi
    obtain⟨u,e2,ru⟩:=r.get e1
    refine .cons ?_ (za4 r fun j hj=>h j (List.mem_cons_of_mem _ hj))
    show RelV (us.getD i .non) (its.getD i Value.none)
    rw [List.getD_eq_getElem?_getD,List.getD_eq_getElem?_getD,e1,e2]
    exact ru
theorem zgF {X:Cx} {e:Expr} {p pos:Pos} {ta:TA} (hgS:Gl X "sorted") (hmS:X.mg "sorted" = none) (hu:X.A.units+64 < cLine) (ha:PA X [e] ta)
    (hs:starEach [e] X.env=[(false,eval e X.env)]:=by rfl) :
    PE X (.Call (.Name "sorted" p) [e] [] pos) (zlR X.K ta):=by
  intro pins s σ H Q I h
  refine wpAny_Call_Name_kw (jg I hgS hmS boot_sorted ?_)
  refine PyProof.Rows.callWith_builtin1 ?_ hs rfl
  refine thn (ha pos pins s σ H _ I h) fun us0 s1 ⟨vs,H1,I1,r1,q1⟩=>?_
  obtain⟨l,gs,us,rfl,hq,pr,hn,h1,hz,q⟩:=q1
  obtain⟨u,rfl,ru⟩:=vals1 r1
  cases ru
  obtain⟨its,rv,pl,hzz⟩:=I1.list hq
  have hl2:=rv.length
  have tps:Tps s1.heap ([]::gs) its:=by
    clear q hn h1 hz hq pl hl2 hzz
    generalize []::gs=gs at pr
    induction pr generalizing its with
    | nil=>cases rv;exact .nil
    | cons h t ih =>
      cases rv with
      | cons r1 r2 =>
        obtain⟨a,rfl,sq⟩:=h
        cases r1
        obtain⟨jts,rj,tp,_⟩:=I1.tuple sq
        exact .cons ⟨a,rfl,jts.toArray,tp,intsAre_of rj⟩ (ih _ r2)
  refine wY (s:=s1) hu pl.isList tps hn h1 hz fun p h' D c hp hup hD hle keep=>?_
  have hlt:∀ i∈p,i < us.length:=fun i hi=>by rw [hl2];exact List.mem_range.mp (hp.mem_iff.mp hi)
  refine⟨.ref D,_,Inv.laidN (s:=s1) (o:=.lst (p.map fun i=>us.getD i .non)) (t':=s1.toks) I1 keep hle ⟨?_,p.map fun i=>its.getD i Value.none,c,za4 rv hlt,hD⟩,rfl,q p (by rw [hl2];exact hp) hup D (I1.unheld hle)⟩
  rw [List.length_map,hp.length_eq,List.length_range,← hl2]
  exact hzz
end L2
namespace L2.DL
open PySem PySem.Spec PyProof.Rows GM
section
variable {K:PySem.W.Frag}{C:Addr}{H:Hp}
theorem zlF{g:List Int}{v:V}:Rep K C H (dG g) v↔tpV K H g v:=by
  unfold dG Rep tpV
  constructor
  · rintro⟨a,xs,rfl,h1,h2⟩
    rw [xh (ns:=g) h2] at h1
    exact⟨a,rfl,h1⟩
  · rintro⟨a,rfl,h1⟩
    exact⟨a,_,rfl,h1,ju (ns:=g)⟩
theorem ze6{gs:List (List Int)}{vs:List V}:RepA K C H (gs.map dG) vs↔Paired (tpV K H) gs vs:=by
  induction gs generalizing vs with
  | nil=>exact⟨fun h=>by unfold RepA at h;subst h;exact .nil,fun h=>by cases h;exact repA_nil⟩
  | cons p ps ih =>
    rw [List.map_cons]
    constructor
    · intro h
      unfold RepA at h
      obtain⟨x,r,rfl,h1,h2⟩:=h
      exact .cons (zlF.mp h1) (ih.mp h2)
    · intro h
      cases h with
      | cons h1 h2=>exact zQ (zlF.mpr h1) (ih.mpr h2)
theorem tpV.mono{H':Hp}{g:List Int}{v:V}(h:tpV K H g v)(e:Same H H'):tpV K H' g v:=by
  obtain⟨a,rfl,h1⟩:=h
  exact⟨a,rfl,e.seqT h1⟩
end
section
variable {C:Addr}{X:Cx}{e:Expr}{te:DT1}{pos:Pos}
def zhn(te:DT1):DTA:=fun env Q=>te env fun d=>match d with
  | .lst l=>∃ gs:List (List Int),l=([]::gs).map dG∧([]::gs).Nodup∧1≤gs.length∧(gs.length+1 < 64∨[]::gs=G64)∧∀ gs':List (List Int),gs'.Perm ([]::gs)→gs'.Pairwise (fun a b=>HT.lexLt a b=true)→Q (gs'.map dG)
  | _=>False
theorem range_getD{α:Type}(d:α)(l:List α):(List.range l.length).map (fun i=>l.getD i d)=l:=by
  refine List.ext_getElem? fun i=>?_
  rw [List.getElem?_map]
  by_cases hi:i < l.length
  · rw [List.getElem?_range hi,List.getElem?_eq_getElem hi]
    simp [hi]
  · rw [List.getElem?_eq_none (l:=List.range l.length) (by rw [List.length_range];omega),List.getElem?_eq_none (l:=l) (by omega)]
    rfl
theorem zb3 {p:Pos} (hgS:Gl X "sorted") (hmS:X.mg "sorted" = none) (hu:X.A.units+64 < cLine) (he:DE C X e te)
    (hs:starEach [e] X.env=[(false,eval e X.env)]:=by rfl) (hs3:starEach [e] X.env=(false,eval e X.env)::starEach [] X.env:=by rfl) :
    DF C X (.Call (.Name "sorted" p) [e] [] pos) (zhn te):=peW (zgF hgS hmS hu (zb he zd hs3) hs) fun σ H Q ⟨S,env,P,h1,h2,h3⟩=>⟨S,env,zbv _,h1,h2,fun l hl vs H' e' rv=>by
    obtain⟨d,rfl,hd⟩:=jv hl
    obtain⟨v,rfl,r⟩:=qS rv
    cases d with
    | lst l =>
      obtain⟨gs,rfl,hn,hg,hz,hq⟩:=hd
      unfold Rep at r
      obtain⟨a,us,rfl,r1,r2⟩:=r
      have pr:=ze6.mp r2
      have hlen:=x4 pr
      refine⟨a,gs,us,rfl,SqL.of (zh _ _ r1),Paired.mapP pr fun _ _ z=>tpV.mono z zh,hn,hg,hz,fun p hp hup q hqn=>?_⟩
      have hpm:(p.map fun i=>([]::gs).getD i []).Perm ([]::gs):=by
        have:=hp.map fun i=>([]::gs).getD i []
        rw [← hlen,range_getD] at this
        exact this
      refine (h3.mono e').new (hq _ hpm hup) (ze6.mpr ?_) hqn
      have hlt:∀ i∈p,i < us.length:=fun i hi=>List.mem_range.mp (hp.mem_iff.mp hi)
      clear hp hup hpm
      induction p with
      | nil=>exact .nil
      | cons i p ih =>
        refine .cons ?_ (ih fun j hj=>hlt j (List.mem_cons_of_mem _ hj))
        have hi:=hlt i List.mem_cons_self
        have g1:([]::gs)[i]?=some (([]::gs)[i]'(by omega)):=List.getElem?_eq_getElem _
        obtain⟨v,g2,g3⟩:=x3 pr g1
        show tpV _ _ (([]::gs).getD i []) (us.getD i .non)
        rw [List.getD_eq_getElem?_getD,List.getD_eq_getElem?_getD,g1,g2]
        exact g3
    | _=>exact hd.elim⟩
end
end L2.DL
namespace L2.DL
open PySem PySem.Spec PyProof.Rows GS GM
def gsA:Nat→List (List Int)
  | 0=>[[]]
  | k+1=>gsA k++(gsA k).map (· ++ [(k:Int)])
def gsR(ps:Cl)(k:Nat):List (List Int):=(gsA k).filter (indep ps)
theorem zec{ps:Cl}{g h:List Int}(e:indep ps (g++h)=true):indep ps g=true:=by
  unfold indep at e ⊢
  rw [List.all_eq_true] at e ⊢
  intro p hp
  have:=e p hp
  simp only [Bool.not_eq_true',Bool.and_eq_false_iff,decide_eq_false_iff_not] at this ⊢
  rcases this with z | z
  · exact .inl fun q=>z (List.mem_append_left _ q)
  · exact .inr fun q=>z (List.mem_append_left _ q)
theorem zgb(ps:Cl)(k:Nat):gsR ps (k+1)=gsR ps k++((gsR ps k).map (· ++ [(k:Int)])).filter (indep ps):=by
  unfold gsR
  show ((gsA k)++(gsA k).map (· ++ [(k:Int)])).filter (indep ps)=_
  rw [List.filter_append]
  congr 1
  generalize gsA k=l
  induction l with
  | nil=>rfl
  | cons g l ih =>
    rw [List.map_cons,List.filter_cons,List.filter_cons]
    by_cases h:indep ps (g++[(k:Int)])=true
    · rw [if_pos h,if_pos (zec h),List.map_cons,List.filter_cons,if_pos h,ih]
    · rw [if_neg h]
      by_cases h2:indep ps g=true
      · rw [if_pos h2,List.map_cons,List.filter_cons,if_neg h,ih]
      · rw [if_neg h2,ih]
theorem zaC(ps:Cl):indep ps []=true:=by
  unfold indep
  simp
theorem zgc(ps:Cl):gsR ps 0=[[]]:=by
  unfold gsR gsA
  rw [List.filter_cons,if_pos (zaC ps)]
  rfl
theorem kD:∀ {k:Nat} {g:List Int},g∈gsA k→∀ s∈g,0≤s∧s < k
  | 0,g,h,s,hs=>by
    have:g=[]:=by simpa [gsA] using h
    subst this
    cases hs
  | k+1,g,h,s,hs=>by
    unfold gsA at h
    rcases List.mem_append.mp h with h | h
    · have:=kD h s hs
      omega
    · obtain⟨g',h',rfl⟩:=List.mem_map.mp h
      rcases List.mem_append.mp hs with z | z
      · have:=kD h' s z
        omega
      · rw [List.mem_singleton.mp z]
        omega
theorem vi:∀ {k:Nat} {g:List Int},g∈gsA k→g.length≤k
  | 0,g,h=>by
    have:g=[]:=by simpa [gsA] using h
    subst this
    exact Nat.le_refl _
  | k+1,g,h=>by
    unfold gsA at h
    rcases List.mem_append.mp h with h | h
    · have:=vi h
      omega
    · obtain⟨g',h',rfl⟩:=List.mem_map.mp h
      have:=vi h'
      rw [List.length_append,List.length_singleton]
      omega
theorem wo:∀ k:Nat,(gsA k).length=2 ^ k
  | 0=>rfl
  | k+1=>by
    unfold gsA
    rw [List.length_append,List.length_map,wo k,Nat.pow_succ]
    omega
theorem kF:∀ k:Nat,(gsA k).Nodup
  | 0=>by unfold gsA;simp
  | k+1=>by
    unfold gsA
    rw [List.nodup_append]
    refine⟨kF k,?_,fun a ha b hb e=>?_⟩
    · exact List.pairwise_map.mpr ((kF k).imp fun h e=>h (List.append_cancel_right e))
    · obtain⟨g,hg,rfl⟩:=List.mem_map.mp hb
      subst e
      have:=kD ha (k:Int) (List.mem_append_right _ (List.mem_singleton.mpr rfl))
      omega
theorem zcc:∀ k:Nat,∃ l,gsA k=[]::l
  | 0=>⟨[],rfl⟩
  | k+1=>by
    obtain⟨l,e⟩:=zcc k
    unfold gsA
    rw [e]
    exact⟨_,rfl⟩
theorem zcb:∀ k:Nat,gsA k=(List.range (2 ^ k)).map fun (i:Nat)=>xJ (i:Int) k
  | 0=>rfl
  | k+1=>by
    unfold gsA
    rw [Nat.pow_succ,Nat.mul_two,List.range_add,List.map_append,zcb k,List.map_map,List.map_map]
    congr 1
    · refine List.map_congr_left fun i hi=>?_
      have hi':=List.mem_range.mp hi
      rw [kr]
      have:((i:Int)) / 2 ^ k=0:=Int.ediv_eq_zero_of_lt (by omega) (by exact_mod_cast hi')
      rw [this]
      simp
    · refine List.map_congr_left fun i hi=>?_
      have hi':=List.mem_range.mp hi
      show xJ (i:Int) k++[(k:Int)]=xJ ((2 ^ k+i:Nat):Int) (k+1)
      rw [kr]
      have hp:(0:Int) < 2 ^ k:=by exact_mod_cast Nat.two_pow_pos k
      have e1:((2 ^ k+i:Nat):Int) / 2 ^ k=1:=by
        have:((2 ^ k+i:Nat):Int)=(i:Int)+1*2 ^ k:=by push_cast;omega
        rw [this,Int.add_mul_ediv_right _ _ (by omega),Int.ediv_eq_zero_of_lt (by omega) (by exact_mod_cast hi')]
        rfl
      rw [e1,if_pos (by decide)]
      congr 1
      unfold xJ
      congr 1
      refine List.filter_congr fun j hj=>?_
      have hj':=List.mem_range.mp hj
      have:((2 ^ k+i:Nat):Int) / 2 ^ j % 2=(i:Int) / 2 ^ j % 2:=by
        have e2:((2 ^ k+i:Nat):Int)=(i:Int)+(2 ^ (k - j - 1)*2)*2 ^ j:=by
          have:(2:Int) ^ k=2 ^ (k - j - 1)*2*2 ^ j:=by
            rw [← Int.pow_succ,← Int.pow_add]
            congr 1
            omega
          push_cast
          rw [← this]
          omega
        have hpj:(2:Int) ^ j≠0:=by
          have:(0:Int) < 2 ^ j:=by exact_mod_cast Nat.two_pow_pos j
          omega
        rw [e2,Int.add_mul_ediv_right _ _ hpj]
        omega
      rw [this]
theorem znO:gsA 6=G64:=by decide +kernel
theorem wq(ps:Cl)(k:Nat):∃ l,gsR ps k=[]::l:=by
  obtain⟨l,e⟩:=zcc k
  unfold gsR
  rw [e,List.filter_cons,if_pos (zaC ps)]
  exact⟨_,rfl⟩
theorem kG(ps:Cl)(k:Nat):(gsR ps k).Nodup:=(kF k).filter _
theorem zaA{ps:Cl}{k:Nat}{g:List Int}(h:g∈gsR ps k):indep ps g=true∧∀ s∈g,0≤s∧s < k:=⟨(List.mem_filter.mp h).2,kD (List.mem_filter.mp h).1⟩
theorem wt(ps:Cl)(k:Nat):(gsR ps k).length≤2 ^ k:=by
  rw [← wo k]
  exact List.length_filter_le _ _
theorem zhu(ps:Cl){k:Nat}(hk:k≤6):(gsR ps k).length < 64∨gsR ps k=G64:=by
  by_cases h:(gsR ps k).length < 64
  · exact .inl h
  · refine .inr ?_
    have h1:=wt ps k
    have h6:k=6:=by
      rcases Nat.lt_or_ge k 6 with z | z
      · have:2 ^ k≤2 ^ 5:=Nat.pow_le_pow_right (by decide) (by omega)
        omega
      · omega
    subst h6
    have h2:=wo 6
    have h3:(gsR ps 6).length=(gsA 6).length:=by omega
    unfold gsR at h3 ⊢
    rw [List.filter_eq_self.mpr (List.length_filter_eq_length_iff.mp h3),znO]
theorem zd7{ps:Cl}(hp:∀ p∈ps,p.1≠p.2):∀ {k:Nat},1≤k→2≤(gsR ps k).length
  | k+1,_=>by
    have h0:∀ k,[(0:Int)]∈gsA (k+1):=fun k=>by
      induction k with
      | zero=>decide
      | succ k ih =>
        unfold gsA
        exact List.mem_append_left _ ih
    have hi:indep ps [0]=true:=by
      unfold indep
      rw [List.all_eq_true]
      intro p h
      have:=hp p h
      simp only [Bool.not_eq_true',Bool.and_eq_false_iff,decide_eq_false_iff_not,List.mem_singleton]
      omega
    have m1:[(0:Int)]∈gsR ps (k+1):=List.mem_filter.mpr ⟨h0 k,hi⟩
    obtain⟨l,e⟩:=wq ps (k+1)
    rw [e] at m1 ⊢
    have:[(0:Int)]∈l:=by
      rcases List.mem_cons.mp m1 with z | z
      · cases z
      · exact z
    have:=List.length_pos_of_mem this
    rw [List.length_cons]
    omega
def zbL:TD:=fun ds Q=>∃ (m:Nat) (ps:Cl),ds=[.crs m ps]∧m≤6∧Q (.lst ((gsR ps m).map dG))
def vK:TD:=fun ds Q=>∃ (cl:Cl) (m:Nat),ds=[.lst (cl.map dPr),.int m]∧1≤m∧m≤6∧xX m cl∧∀ gs:List (List Int),gs.Perm (gsR (sd (cl.map rise)) m)→gs.Pairwise (fun a b=>HT.lexLt a b=true)→Q (.lst (gs.map dG))
theorem zlI{m:Nat}{cl:Cl}(hm:m≤6)(hg:xX m cl):∀ p∈sd (cl.map rise),p.1≠p.2:=fun p hp=>by
  obtain⟨q,hq,rfl⟩:=(xM (n:=m) (by omega) hg p).mp hp
  have:=hg q hq
  unfold rise
  simp only
  split <;> split <;> omega
theorem zdL{g:List Int}{k:Int}:D.tup (g.map D.int++[.int k])=dG (g++[k]):=by
  unfold dG
  rw [List.map_append]
  rfl
end L2.DL
namespace L2.DL
open PySem PySem.Spec PyProof.Rows GS GM
def zbV(ps:Cl)(m:Nat)(g:List Int):Bool:=(List.range m).any fun s=>!decide ((s:Int)∈g) && indep ps (g++[(s:Int)])
def w5:TD:=fun ds Q=>∃ (m:Nat) (ps:Cl) (g:List Int),ds=[.crs m ps,dG g]∧m≤6∧g.length≤6∧(∀ s∈g,0≤s∧s < m)∧Q (.bl (zbV ps m g))
def zg7:TF:=fun ds Q=>∃ (m:Nat) (ps:Cl),ds=[.crs m ps]∧1≤m∧m≤6∧(∀ p∈ps,p.1≠p.2)∧∀ gs:List (List Int),gs.Perm (gsR ps m)→gs.Pairwise (fun a b=>HT.lexLt a b=true)→Q ((gs.filter fun g=>!zbV ps m g).map dG)
end L2.DL
namespace L2
open PySem PySem.Spec PyProof.Rows
section
variable {X:Cx}
theorem zdD (hc:X.calm=true):va X (.builtin "all") (fun xs H Q=>∃ (a:Addr) (bs:List Bool),xs=[.ref a]∧SqL X.K H a (bs.map V.bl)∧Q (.bl (bs.all id)) H):=by
  intro pins s σ H xs us Q I r h
  obtain⟨a,bs,rfl,hq,q⟩:=h
  obtain⟨u,rfl,ru⟩:=vals1 r
  cases ru
  obtain⟨its,rv,pl,hz⟩:=I.list hq
  have tp:s.heap.IsList a its.toArray:=pl.isList
  have hd:X.A.handled=none:=I.ok.hd hc
  have hlt:a < s.heap.objs.size:=by obtain⟨o,e,_⟩:=tp;exact Heap.lt_size e
  have hne:a≠s.heap.objs.size:=Nat.ne_of_lt hlt
  have hlen:its.length=bs.length:=by rw [← rv.length,List.length_map]
  have hv:∀ (k:Nat) (v:Value),its.toArray[k]?=some v→v=.bool (bs.getD k true):=fun k v hk=>by
    have hk':its[k]?=some v:=by simpa using hk
    have hb:k < bs.length:=by rw [← hlen];exact (List.getElem?_eq_some_iff.mp hk').1
    have e1:(bs.map V.bl)[k]?=some (V.bl bs[k]):=by simp [hb]
    obtain⟨u,e2,ru⟩:=rv.get e1
    rw [hk'] at e2
    cases e2
    cases ru
    simp [hb]
  have W:=(Walks.list (prog:=X.prog) (w:=X.w) (A:=X.A.in1) (by simpa using hd) s.heap.objs.size a hne its.toArray).toS
  have st0:(s.heap.push { cls:=.type "list_iterator",data:=.fields #[.ref a,.int 0 0] }).IsListIter s.heap.objs.size a 0∧(s.heap.push { cls:=.type "list_iterator",data:=.fields #[.ref a,.int 0 0] }).IsList a its.toArray:=by
    refine⟨⟨_,Heap.get?_push_size _ rfl,rfl,rfl⟩,?_⟩
    obtain⟨o,e,r⟩:=tp
    exact⟨o,Heap.get?_push_of_some _ e,r⟩
  refine call_all_walkS (wpAny_pyIter_list tp ⟨_,_,_,_,_,_,_,fun k=>bs.getD k true,rfl,W,st0,?_,fun s' hm=>?_⟩)
  · intro i v s2 Q2 E2 hP hq2
    rw [hv i v hP]
    exact wpAny_truthy_bool hq2
  · have es:s'={ s with heap:=s'.heap,toks:=s'.toks }:=by
      have e1:=hm.gens
      have e2:=hm.drawn
      have e3:=hm.os
      cases s'
      simp only at e1 e2 e3
      rw [e1,e2,e3]
    rw [es]
    have eb:(List.range its.toArray.size).all (fun k=>bs.getD k true)=bs.all id:=by
      rw [List.size_toArray,hlen,Bool.eq_iff_iff,List.all_eq_true,List.all_eq_true]
      constructor
      · intro h b hb
        obtain⟨i,hi,rfl⟩:=List.getElem_of_mem hb
        have:=h i (List.mem_range.mpr hi)
        simpa [hi] using this
      · intro h i hi
        have hi':=List.mem_range.mp hi
        have:=h bs[i] (List.getElem_mem _)
        simpa [hi'] using this
    rw [eb]
    refine⟨.bl _,H,I.kept fun b o e=>?_,rfl,q⟩
    exact hm.heap b o (fun z=>by rw [List.mem_singleton.mp z] at e;exact Nat.lt_irrefl _ (Heap.lt_size e)) (Heap.get?_push_of_some _ e)
end
end L2
namespace L2.DL
open PySem PySem.Spec PyProof.Rows
section
variable {C:Addr}{X:Cx}{e:Expr}{t:DTA}{pos:Pos}
def zgK:List D→(D→Prop)→Prop:=fun xs Q=>match xs with
  | [.lst l]=>∃ bs:List Bool,l=bs.map D.bl∧Q (.bl (bs.all id))
  | _=>False
theorem zcx{K:PySem.W.Frag}{H:Hp}:∀ {bs:List Bool} {vs:List V},RepA K C H (bs.map D.bl) vs→vs=bs.map V.bl
  | [],vs,h=>by unfold RepA at h;exact h
  | b::bs,vs,h=>by
    rw [List.map_cons] at h
    unfold RepA at h
    obtain⟨x,r,rfl,h1,h2⟩:=h
    unfold Rep at h1
    rw [h1,zcx h2]
    rfl
theorem zms:yu X.K C (fun xs H Q=>∃ (a:Addr) (bs:List Bool),xs=[.ref a]∧SqL X.K H a (bs.map V.bl)∧Q (.bl (bs.all id)) H) zgK:=by
  intro H S ds vs P Q dm r h k
  unfold zgK at h
  split at h
  · obtain⟨bs,rfl,hq⟩:=h
    obtain⟨v,rfl,r1⟩:=qS r
    unfold Rep at r1
    obtain⟨a,xs,rfl,h2,h3⟩:=r1
    rw [zcx h3] at h2
    exact⟨a,bs,rfl,SqL.of (zh _ _ h2),k.flat hq xN⟩
  · exact h.elim
theorem zks {p:Pos} (hc:X.calm=true) (hg:Gl X "all") (hm:X.mg "all" = none) (ha:DA C X [e] t) (he:starEach [e] X.env=(false,eval e X.env)::starEach [] X.env:=by rfl) (hpl:(backTo pos (starEach [] X.env)).any (·.1)=false:=by rfl):DE C X (.Call (.Name "all" p) [e] [] pos) (wb zgK t) :=
  zv (id := "all") (zdD hc) zms hg hm boot_all ha (he:=he) (hpl:=hpl)
end
end L2.DL
namespace GI
open PySem PySem.W PyProof.Rows GS
section
variable {prog:Program}{w:World}{A:Around}{E:Value→Shared→Prop}{s:Shared}
abbrev IS(prog:Program)(w:World)(h:Heap)(a:Addr)(S:Int→Bool)(n:Nat):Prop:=h.SetOf (intKind prog w) a S n
structure Es(prog:Program)(w:World)(S:Int→Bool)(n:Nat)(l:List (Int×Value)):Prop where
  el:ElemsOf (intKind prog w) l
  mem:∀ k,S k=true↔∃ e∈l,(intKind prog w).is k e.2=true
  len:l.length=n
end
end GI
namespace GI
open PySem PySem.W PyProof.Rows GS
end GI
namespace GI
open PySem PySem.W PyProof.Rows GS
section
variable {prog:Program}{w:World}{A:Around}{E:Value→Shared→Prop}{s:Shared}
theorem zfn:isSubtype (.type "tuple") (.type "set")=pure false:=by rw [isSubtype_type];kernel_rfl
theorem zfm:isSubtype (.type "tuple") (.type "frozenset")=pure false:=by rw [isSubtype_type];kernel_rfl
theorem vN{l:Addr}{its:Array Value}{ns:List Int}{Q:Value→Shared→Prop}(hh:A.handled=none)(hl:s.heap.IsTuple l its)(hi:IntsAre its.toList ns)(hb:its.size+1 < scanBound)
    (h:∀ (h':Heap) (tk:Nat),IS prog w h' s.heap.objs.size (fun k'=>(firstMet (fun i=>ns.getD i 0) its.size).any (· == k')) (firstMet (fun i=>ns.getD i 0) its.size).length→(∀ b o,s.heap.get? b=some o→h'.get? b=some o)→Q (.ref s.heap.objs.size) { s with heap:=h',toks:=tk }) :
    wpAny (model prog w) A (call (.type "set") [.ref l]) Q E s:=by
  obtain⟨c,tl,hmro⟩:=F.called_set.mro
  have hmade:=F.called_set.made
  have hsub:=F.called_set.sub
  refine wpAny_call (codeAny_of_tree ?_)
  show wpAny _ _ (callAny (.type "set") _) _ _ _
  refine wpAny_pure ⟨Code.quiet_builtin _ (by decide +kernel),codeAny_builtin F.entry_type_call ?_⟩
  rw [Around.under_plain (weight_type_call_type "set" [.ref l] []) rfl]
  have h1:=F.called_set.notType
  have h2:=F.called_set.canCreate
  have hct:=F.typeCall_set_1 (.ref l)
  repeat (any_goals (first | assumption | wp_step))
  refine codeAny_mono (zbp (.ref l) (E:=E) (Q₁:=fun ob s₁=>ob=.ref s.heap.objs.size∧s₁={ s with heap:=s.heap.push (zr w) }) ⟨rfl,rfl⟩) fun r s₁ hr=>?_
  cases r with
  | error e=>exact hr
  | ok fl =>
    cases fl with
    | ret ob =>
      obtain⟨rfl,rfl⟩:=hr
      have hS:(s.heap.push (zr w)).get? s.heap.objs.size=some (zr w):=Heap.get?_push_size _ rfl
      have hT:Shared.TypeIs { s with heap:=s.heap.push (zr w) } (.ref s.heap.objs.size) "set" := ⟨_,hS,rfl⟩
      have hli:=F.called_set.init.lookup
      have hbi:=F.called_set.init.bind (.ref s.heap.objs.size)
      repeat (any_goals (first | assumption | wp_step))
      refine codeAny_mono (codeAny_call_builtin (R:=wants (fun r s₂=>r=.none∧∃ h' tk,s₂={ s with heap:=h',toks:=tk }∧IS prog w h' s.heap.objs.size (fun k'=>(firstMet (fun i=>ns.getD i 0) its.size).any (· == k')) (firstMet (fun i=>ns.getD i 0) its.size).length∧(∀ b o,s.heap.get? b=some o→h'.get? b=some o)) E)
        F.called_set.init.plain F.entry_set_init (check_set_init_1 hT ?_)) fun r₂ s₂ hr₂=>?_
      · obtain⟨ol,hol,hcl,nl,hdl⟩:=hl
        obtain⟨ocls,odict,odata,oslots⟩:=ol
        simp only at hcl hdl
        subst hcl;subst hdl
        have hol':(s.heap.push (zr w)).get? l=some { cls:=.type "tuple",dict:=odict,data:=.seq its nl,slots:=oslots }:=Heap.get?_push_of_some _ hol
        have hsls:=zfn
        have hslf:=zfm
        have hne:(Value.type "tuple" == Value.type "dict")=false:=by decide
        have hl1:(s.heap.push (zr w)).IsTuple l its:=⟨_,hol',rfl,nl,rfl⟩
        unfold Builtin.«set.__init__» noKeywords Builtin.Frozenset.updateFrom
        generalize hPI:pyIter=PI
        wp_walk
        subst hPI
        refine wpAny_pyIter_tuple hl1 ?_
        refine wpAny_bind (wpAny_runValue ?_)
        have hlS:l < s.heap.objs.size:=Heap.lt_size hol
        have hh3:A.in1.in1.in1.handled=none:=by simp [hh]
        have hsz:(s.heap.push (zr w)).objs.size=s.heap.objs.size+1:=Heap.size_push _ _
        have hneI:l≠(s.heap.push (zr w)).objs.size:=by rw [hsz];exact Nat.ne_of_lt (Nat.lt_succ_of_lt hlS)
        have hSf:s.heap.objs.size∉[(s.heap.push (zr w)).objs.size,l]:=fun z=>by
          rcases List.mem_cons.mp z with z | z
          · rw [hsz] at z;exact Nat.ne_of_lt (Nat.lt_succ_self _) z
          · exact Nat.ne_of_gt hlS (List.mem_singleton.mp z)
        have hval:∀ (i:Nat) (v:Value),its[i]?=some v→∃ t,v=.int ((fun i=>ns.getD i 0) i) t:=fun i v hv=>IntsAre.int_at hi i v (by rw [Array.getElem?_toList];exact hv)
        refine codeAny_set_update_loopS ((Walks.tuple hh3 _ l hneI its).toS) s.heap.objs.size hSf (fun i=>ns.getD i 0) hval hb (its.size - 0) 0 _ (by omega) (Nat.zero_le _) ⟨⟨_,Heap.get?_push_size _ rfl,rfl,rfl⟩,hl1.at fun o e=>Heap.get?_push_of_some _ e⟩ ?hS0 ?hR
        case hS0 =>
          exact SetOf_congr ((setObjOf_fresh (knd:=intKind prog w) _).setOf (Heap.get?_push_of_some _ hS) (by unfold scanBound;omega)) (fun _=>rfl) rfl
        case hR =>
          intro s' hm hS'
          have es:s'={ s with heap:=s'.heap,toks:=s'.toks }:=by
            have e1:=hm.gens
            have e2:=hm.drawn
            have e3:=hm.os
            cases s'
            simp only at e1 e2 e3
            rw [e1,e2,e3]
          rw [es]
          show wpAny _ _ _ _ _ _
          refine wpAny_pure ?_
          show wpAny _ _ (ret Value.none) _ _ _
          refine wpAny_pure ⟨rfl,s'.heap,s'.toks,rfl,hS',fun b o e=>?_⟩
          have hb:=Heap.lt_size e
          refine hm.heap b o (fun z=>?_) (Heap.get?_push_of_some _ (Heap.get?_push_of_some _ e))
          rcases List.mem_cons.mp z with z | z
          · exact Nat.ne_of_lt hb z
          · rw [List.mem_singleton.mp z,hsz] at hb
            exact Nat.lt_irrefl _ (Nat.lt_of_succ_lt hb)
      · cases r₂ with
        | error e=>exact hr₂
        | ok fl₂ =>
          cases fl₂ with
          | ret r =>
            obtain⟨rfl,h',tk,rfl,hS',hk'⟩:=hr₂
            repeat (any_goals (first | assumption | wp_step))
            exact h _ _ hS' hk'
          | _=>exact hr₂.elim
    | _=>exact hr.elim
end
end GI
namespace L2
open PySem PySem.Spec PyProof.Rows GI
end L2
namespace L2.DL
open PySem PySem.Spec PyProof.Rows GI GM
section
variable {C:Addr}{X:Cx}{e f e':Expr}{te tf te':DT1}{pos:Pos}
theorem zhA:∀ {ks l:List Int},ks.Nodup→(∀ x∈ks,x∈l)→ks.length≤l.length
  | [],_,_,_=>Nat.zero_le _
  | k::ks,l,h,s=>by
    obtain⟨h1,h2⟩:=List.nodup_cons.mp h
    have hk:k∈l:=s k List.mem_cons_self
    have:=zhA (l:=l.erase k) h2 fun x hx=>(List.mem_erase_of_ne (show x≠k from fun e=>h1 (by rw [← e];exact hx))).mpr (s x (List.mem_cons_of_mem _ hx))
    rw [List.length_erase_of_mem hk] at this
    have hp:=List.length_pos_of_mem hk
    rw [List.length_cons]
    omega
end
end L2.DL
namespace L2.DL
open PySem PySem.Spec PyProof.Rows GI GM GS
end L2.DL
namespace L2.DL
open PySem PySem.Spec PyProof.Rows GS GM GI
theorem kE:∀ {k:Nat} {g:List Int},g∈gsA k→g.Pairwise (· < ·)
  | 0,g,h=>by
    have:g=[]:=by simpa [gsA] using h
    subst this
    exact .nil
  | k+1,g,h=>by
    unfold gsA at h
    rcases List.mem_append.mp h with h | h
    · exact kE h
    · obtain⟨g',h',rfl⟩:=List.mem_map.mp h
      rw [List.pairwise_append]
      refine⟨kE h',List.pairwise_singleton _ _,fun a ha b hb=>?_⟩
      rw [List.mem_singleton.mp hb]
      exact (kD h' a ha).2
def zcp(m:Nat)(p:Int→Bool):List Int:=((List.range m).map Int.ofNat).filter p
theorem zcq{m:Nat}{p:Int→Bool}{s:Int}:s∈zcp m p↔(0≤s∧s < m)∧p s=true:=by
  unfold zcp
  rw [List.mem_filter,List.mem_map]
  constructor
  · rintro⟨⟨i,hi,rfl⟩,h⟩
    have:=List.mem_range.mp hi
    exact⟨⟨Int.natCast_nonneg _,Int.ofNat_lt.mpr this⟩,h⟩
  · rintro⟨⟨h1,h2⟩,h⟩
    exact⟨⟨s.toNat,List.mem_range.mpr (by omega),Int.toNat_of_nonneg h1⟩,h⟩
theorem kh:∀ (m:Nat) (p:Int→Bool),zcp m p∈gsA m
  | 0,p=>by unfold zcp gsA;simp
  | m+1,p=>by
    have ih:=kh m p
    unfold gsA
    have e:zcp (m+1) p=zcp m p++if p (m:Int)=true then [(m:Int)] else []:=by
      unfold zcp
      rw [List.range_succ,List.map_append,List.filter_append]
      congr 1
      rw [List.map_cons,List.map_nil,List.filter_cons,List.filter_nil]
      rfl
    rw [e]
    by_cases h:p (m:Int)=true
    · rw [if_pos h]
      exact List.mem_append_right _ (List.mem_map.mpr ⟨_,ih,rfl⟩)
    · rw [if_neg h,List.append_nil]
      exact List.mem_append_left _ ih
theorem zaB{g:List Int}(h:g.Pairwise (· < ·)):g.Nodup:=h.imp fun h e=>by omega
end L2.DL
namespace L2.DL
open Sx
def zcU(ps:Cl)(k:Nat):List (List Int):=(gsR ps k).filter fun g=>!zbV ps k g
theorem grow{ps:Cl}{k:Nat}:∀ (d:Nat) {g:List Int},g∈gsR ps k→k≤g.length+d→∃ o∈gsR ps k,zbV ps k o=false∧∀ s∈g,s∈o
  | d,g,hg,hd=>by
    cases hc:zbV ps k g with
    | false=>exact⟨g,hg,hc,fun _ h=>h⟩
    | true =>
      have hgA:=(List.mem_filter.mp hg).1
      unfold zbV at hc
      obtain⟨s,hs,h⟩:=List.any_eq_true.mp hc
      rw [Bool.and_eq_true,Bool.not_eq_true',decide_eq_false_iff_not] at h
      have hsm:=List.mem_range.mp hs
      have hmem:∀ x,x∈zcp k (fun x=>decide (x∈g) || decide (x=(s:Int)))↔x∈g++[(s:Int)]:=fun x=>by
        rw [zcq,Bool.or_eq_true,decide_eq_true_eq,decide_eq_true_eq,List.mem_append,List.mem_singleton]
        constructor
        · exact fun z=>z.2
        · intro z
          refine⟨?_,z⟩
          rcases z with z | z
          · exact kD hgA x z
          · omega
      have hoR:zcp k (fun x=>decide (x∈g) || decide (x=(s:Int)))∈gsR ps k:=by
        unfold gsR
        rw [List.mem_filter]
        exact⟨kh _ _,by rw [zeb hmem];exact h.2⟩
      have hn:(g++[(s:Int)]).Nodup:=by
        rw [List.nodup_append]
        refine⟨zaB (kE hgA),List.pairwise_singleton _ _,fun a ha b hb e=>h.1 ?_⟩
        rw [← List.mem_singleton.mp hb,← e]
        exact ha
      have hl:=zhA hn fun x hx=>(hmem x).mpr hx
      rw [List.length_append,List.length_singleton] at hl
      have hr:(zcp k (fun x=>decide (x∈g) || decide (x=(s:Int)))).length≤k:=by
        unfold zcp
        have:=List.length_filter_le (fun x=>decide (x∈g) || decide (x=(s:Int))) ((List.range k).map Int.ofNat)
        rwa [List.length_map,List.length_range] at this
      cases d with
      | zero=>omega
      | succ d =>
        obtain⟨o,h1,h2,h3⟩:=grow d hoR (by omega)
        exact⟨o,h1,h2,fun x hx=>h3 x ((hmem x).mpr (List.mem_append_left _ hx))⟩
theorem grows{ps:Cl}{k:Nat}{g:List Int}(hg:g∈gsR ps k):∃ o∈zcU ps k,∀ s∈g,s∈o:=by
  obtain⟨o,h1,h2,h3⟩:=grow k hg (by omega)
  exact⟨o,List.mem_filter.mpr ⟨h1,by rw [h2];rfl⟩,h3⟩
theorem single{ps:Cl}(hp:∀ p∈ps,p.1≠p.2){k s:Nat}(hs:s < k):[(s:Int)]∈gsR ps k:=by
  have e:zcp k (fun x=>decide (x=(s:Int)))=[(s:Int)]:=by
    have h1:=kE (kh k (fun x=>decide (x=(s:Int))))
    have hm:∀ x,x∈zcp k (fun x=>decide (x=(s:Int)))↔x=(s:Int):=fun x=>by
      rw [zcq,decide_eq_true_eq]
      omega
    generalize zcp k (fun x=>decide (x=(s:Int)))=l at *
    match l,h1,hm with
    | [],_,hm=>exact absurd ((hm s).mpr rfl) (by simp)
    | [a],_,hm=>rw [(hm a).mp (by simp)]
    | a::b::r,h1,hm =>
      have ha:=(hm a).mp (by simp)
      have hb:=(hm b).mp (by simp)
      have:=(List.pairwise_cons.mp h1).1 b (by simp)
      omega
  unfold gsR
  refine List.mem_filter.mpr ⟨by rw [← e];exact kh _ _,?_⟩
  unfold indep
  rw [List.all_eq_true]
  intro p hpp
  have:=hp p hpp
  simp only [List.mem_singleton,Bool.not_eq_true',Bool.and_eq_false_iff,decide_eq_false_iff_not]
  by_cases q:p.1=(s:Int)
  · exact .inr fun e=>this (q.trans e.symm)
  · exact .inl q
theorem w4:∀ (n:Nat) (f:Nat→Rat),jT ((List.range n).map f)=sm n f
  | 0,_=>rfl
  | n+1,f=>by
    rw [List.range_succ,List.map_append,zcG,w4 n f]
    show sm n f+(f n+0)=sm n f+f n
    grind
theorem list_range{α:Type}(l:List α)(d:α):l=(List.range l.length).map fun i=>l.getD i d:=by
  apply List.ext_getElem?
  intro i
  rw [List.getElem?_map]
  by_cases h:i < l.length
  · rw [List.getElem?_range h,List.getElem?_eq_getElem h]
    show _=some (l.getD i d)
    rw [getD_at h]
  · rw [List.getElem?_eq_none (by omega),List.getElem?_eq_none (by rw [List.length_range];omega)]
    rfl
theorem j6{α:Type}(f:α→Rat)(p:α→Bool):∀ l:List α,jT ((l.filter p).map f)=jT (l.map fun x=>if p x=true then f x else 0)
  | []=>rfl
  | a::l=>by
    rw [List.filter_cons,List.map_cons]
    have ih:=j6 f p l
    by_cases h:p a=true
    · rw [if_pos h,List.map_cons]
      show f a+jT ((l.filter p).map f)=(if p a=true then f a else 0)+jT (l.map fun x=>if p x=true then f x else 0)
      rw [ih,if_pos h]
    · rw [if_neg h,ih]
      show _=(if p a=true then f a else 0)+jT (l.map fun x=>if p x=true then f x else 0)
      rw [if_neg h]
      grind
theorem zlL{n:Nat}{f g:Nat→Rat}(h:∀ i,i < n→f i≤g i):sm n f≤sm n g:=by
  induction n with
  | zero=>unfold sm;exact Rat.le_refl
  | succ n ih =>
    unfold sm
    have:=ih fun i hi=>h i (by omega)
    have:=h n (by omega)
    grind
theorem zaz{k:Nat}(f:Nat→Rat):∀ {g:List Int},g.Nodup→(∀ s∈g,0≤s∧s < k)→jT (g.map fun s=>f s.toNat)=sm k fun s=>mk (decide ((s:Int)∈g))*f s
  | [],_,_=>by
    rw [xH fun s _=>?_]
    · rfl
    · show (if decide ((s:Int)∈[])=true then (1:Rat) else 0)*f s=0
      simp
  | a::g,nd,h=>by
    obtain⟨n1,n2⟩:=List.nodup_cons.mp nd
    have ha:=h a (by simp)
    have e:(sm k fun s=>mk (decide ((s:Int)∈a::g))*f s)=sm k fun s=>(if s=a.toNat then f s else 0)+mk (decide ((s:Int)∈g))*f s:=zk fun s _=>by
      by_cases q:s=a.toNat
      · have q':(s:Int)=a:=by omega
        rw [if_pos q,q',decide_eq_true (by simp),decide_eq_false n1]
        show (1:Rat)*f s=f s+0*f s
        grind
      · have q':¬ (s:Int)=a:=by omega
        rw [if_neg q]
        by_cases w:(s:Int)∈g
        · rw [decide_eq_true w,decide_eq_true (List.mem_cons_of_mem _ w)];grind
        · rw [decide_eq_false w,decide_eq_false (by simp [q',w])];grind
    rw [e,zcF,jy (p:=a.toNat) (by omega) f,← zaz f n2 fun s hs=>h s (List.mem_cons_of_mem _ hs)]
    rfl
structure zj0(k:Nat)(ps:Cl)(ws:List Int)(pl:Plan)(qs:List Rat):Prop where
  grp:∀ ph∈pl,ph.1∈zcU ps k∧0 < ph.2∧Sz 200 ph.2
  few:pl.length≤6
  most:pl.length≤(zcU ps k).length
  srv:∀ s:Nat,s < k→(ws.getD s 0:Rat)≤jT ((pl.filter fun ph=>decide ((s:Int)∈ph.1)).map fun ph=>ph.2)
  ql:qs.length=k
  q0:∀ q∈qs,0≤q∧Sz 200 q
  qg:∀ g∈gsR ps k,jT (g.map fun s=>qs.getD s.toNat 0)≤1
  eq:jT (pl.map fun ph=>ph.2)=sm k fun s=>qs.getD s 0*(ws.getD s 0:Rat)
def zc0(T:TL)(m z:Nat):List Rat:=((T.getD m []).drop z).take m
def wL(gs:List (List Int))(T:TL)(z:Nat):Plan:=(gs.zip (zc0 T gs.length z)).filter fun ph=>decide (0 < ph.2)
def zgz(T:TL)(h:List Nat)(z m:Nat):List Rat:=zds (ent T) (fun i=>h.getD i 0) z (z+m) m
theorem zgl{T:TL}{m z:Nat}(w:Wide T (m+1) (z+m+1)):zc0 T m z=(List.range m).map fun g=>ent T m (z+g):=by
  have hl:=w.row (i:=m) (by omega)
  unfold zc0 ent
  apply List.ext_getElem?
  intro i
  rw [List.getElem?_take,List.getElem?_map]
  by_cases h:i < m
  · rw [if_pos h,List.getElem?_drop,List.getElem?_range h,List.getElem?_eq_getElem (by omega)]
    show _=some ((T.getD m []).getD (z+i) 0)
    rw [getD_at (l:=T.getD m []) (i:=z+i) (by omega)]
  · rw [if_neg h,List.getElem?_eq_none (by rw [List.length_range];omega)]
    rfl
theorem zjZ{gs:List (List Int)}{T:TL}{z:Nat}(w:Wide T (gs.length+1) (z+gs.length+1)):gs.zip (zc0 T gs.length z)=(List.range gs.length).map fun g=>(gs.getD g [],ent T gs.length (z+g)):=by
  rw [zgl w]
  conv=>lhs;rw [list_range gs []]
  simp only [List.length_map,List.length_range]
  rw [List.zip_map']
theorem size_le{z:Nat}(h:z≤6):Eb z 0≤57∧Fb z 0 0≤63∧Fb z 0 80≤143:=by
  rcases (show z=0∨z=1∨z=2∨z=3∨z=4∨z=5∨z=6 by omega) with rfl | rfl | rfl | rfl | rfl | rfl | rfl <;> decide +kernel
theorem zcu{a b n:Nat}(h:a≤2 ^ b)(hb:b < n):a < 2 ^ n:=Nat.lt_of_le_of_lt h (Nat.pow_lt_pow_right (by decide) hb)
theorem zfp{T0 T:Tb}{m z:Nat}{A:Nat→Nat→Int}{w:Nat→Int}{h:Nat→Nat}(S:Sx.St T0 m z T h)(Z:Start T0 m z A w)(hz:z≤6)(hw:∀ j,j < z→(w j).natAbs≤2 ^ 80){i:Nat}(hi:i≤m)(c:Nat):Sz 150 (T i c):=by
  obtain⟨e1,e2,e3⟩:=size_le hz
  by_cases q:i=m
  · subst q
    have:=zfg S Z hw c
    exact⟨zcu this.1 (by omega),zcu this.2 (by omega)⟩
  · have:=zg3 S Z (i:=i) (by omega) c
    exact⟨zcu this.1 (by omega),zcu this.2 (by omega)⟩
theorem best{k:Nat}{ps:Cl}{ws:List Int}{gs:List (List Int)}{s:RS}(hk:k≤6)(hgs:gs.Perm (zcU ps k))(hl:ws.length=k)(hw:∀ w∈ws,0≤w∧w≤2 ^ 80)(nd:gs.Nodup)(cov:∀ s:Nat,s < ws.length→∃ g∈gs,(s:Int)∈g)
    (R:RSt (ent (t0 gs ws)) gs.length ws.length s) (fin:zdq gs.length ws.length s=none):zj0 k ps ws (wL gs s.T k) (zgz s.T s.h k gs.length):=by
  subst hl
  have Z:=Sx.start nd cov
  have S:=R.st
  have hwb:∀ j,j < ws.length→(ws.getD j 0).natAbs≤2 ^ 80:=fun j hj=>by
    have:=hw (ws.getD j 0) (by rw [getD_at hj];exact List.getElem_mem hj)
    omega
  have pos:=ku fin
  have zl:=zjZ R.wide
  have mem:∀ ph∈wL gs s.T ws.length,∃ g,g < gs.length∧ph=(gs.getD g [],ent s.T gs.length (ws.length+g))∧0 < ent s.T gs.length (ws.length+g):=fun ph hph=>by
    unfold wL at hph
    rw [zl] at hph
    obtain⟨h1,h2⟩:=List.mem_filter.mp hph
    obtain⟨g,hg,rfl⟩:=List.mem_map.mp h1
    exact⟨g,List.mem_range.mp hg,rfl,of_decide_eq_true h2⟩
  have y0:∀ g,g < gs.length→0≤ent s.T gs.length (ws.length+g):=fun g hg=>pos _ (by omega)
  have len:(wL gs s.T ws.length).length≤ws.length:=by
    unfold wL
    rw [zl,List.filter_map,List.length_map]
    refine Nat.le_trans ?_ (few S)
    have e:((List.range gs.length).filter ((fun ph:List Int×Rat=>decide (0 < ph.2)) ∘ fun g=>(gs.getD g [],ent s.T gs.length (ws.length+g))))=((List.range gs.length).filter fun g=>decide (ent s.T gs.length (ws.length+g)≠0)).filter fun g=>decide (0 < ent s.T gs.length (ws.length+g)):=by
      rw [List.filter_filter]
      refine List.filter_congr fun g hg=>?_
      show decide (0 < ent s.T gs.length (ws.length+g))=_
      by_cases q:0 < ent s.T gs.length (ws.length+g)
      · rw [decide_eq_true q,decide_eq_true (show ent s.T gs.length (ws.length+g)≠0 by grind)]
        rfl
      · rw [decide_eq_false q]
        rfl
    rw [e]
    exact List.length_filter_le _ _
  refine⟨fun ph hph=>?_,by omega,?_,fun t ht=>?_,jI _ _ _ _ _,fun q hq=>?_,fun g hg=>?_,?_⟩
  · obtain⟨g,hg,rfl,h0⟩:=mem ph hph
    refine⟨hgs.mem_iff.mp (by rw [getD_at hg];exact List.getElem_mem hg),h0,(zfp S Z hk hwb (Nat.le_refl _) _).mono (by decide)⟩
  · rw [← hgs.length_eq]
    unfold wL
    refine Nat.le_trans (List.length_filter_le _ _) ?_
    rw [List.length_zip]
    omega
  · have h1:=zjd S Z ht (pos t (by omega))
    refine Rat.le_trans h1 ?_
    unfold wL
    rw [zl,List.filter_filter,j6,List.map_map,w4]
    refine zlL fun g hg=>?_
    show _≤(if _ then _ else (0:Rat))
    have ea:a0 gs ws.length g t=mkI (decide ((t:Int)∈gs.getD g [])):=by unfold a0;rw [if_pos ht]
    rw [ea,← wB]
    have h0:=y0 g hg
    by_cases q:(t:Int)∈gs.getD g []
    · rw [decide_eq_true q]
      by_cases p:0 < ent s.T gs.length (ws.length+g)
      · rw [if_pos (by simp [q,p])]
        show _*(1:Rat)≤_
        grind
      · have:ent s.T gs.length (ws.length+g)=0:=by grind
        rw [this]
        show (0:Rat)*1≤_
        split
        · show _≤ent s.T gs.length (ws.length+g)
          rw [this];grind
        · grind
    · rw [decide_eq_false q]
      show _*(0:Rat)≤_
      split
      · show _≤ent s.T gs.length (ws.length+g)
        grind
      · grind
  · obtain⟨i,hi,e⟩:=List.mem_iff_getElem.mp hq
    have hi':i < ws.length:=by
      have:=jI (ent s.T) (fun i=>s.h.getD i 0) ws.length (ws.length+gs.length) gs.length
      unfold zgz at hi
      omega
    have e1:=zby S (b:=ws.length+gs.length) hi'
    have e2:(zgz s.T s.h ws.length gs.length).getD i 0=q:=by rw [getD_at hi,e]
    unfold zgz at e2
    rw [e2] at e1
    rw [e1]
    refine⟨kX S i,?_⟩
    by_cases hh:∃ r,r < gs.length∧s.h.getD r 0=i
    · obtain⟨r,hr,er⟩:=hh
      have:=zaI S (fun i=>ent s.T i (ws.length+gs.length)) hr
      simp only [er] at this
      rw [this]
      exact (zfp S Z hk hwb (by omega) _).mono (by decide)
    · rw [zaJ _ fun r hr er=>hh ⟨r,hr,er⟩]
      exact Sz.zero.mono (by decide)
  · obtain⟨o,ho,hs⟩:=grows hg
    have hgA:=(List.mem_filter.mp hg).1
    obtain⟨i,hi,e⟩:=List.mem_iff_getElem.mp (hgs.mem_iff.mpr ho)
    have h1:=zgA S Z hi
    rw [zaz (k:=ws.length) (fun t=>(zgz s.T s.h ws.length gs.length).getD t 0) (zaB (kE hgA)) (kD hgA)]
    refine Rat.le_trans (zlL fun t ht=>?_) h1
    have e1:(zgz s.T s.h ws.length gs.length).getD t 0=_:=zby S (b:=ws.length+gs.length) ht
    rw [e1]
    have ea:a0 gs ws.length i t=mkI (decide ((t:Int)∈gs.getD i [])):=by unfold a0;rw [if_pos ht]
    rw [ea,← wB,getD_at hi,e]
    have p0:=kX S t
    by_cases q:(t:Int)∈g
    · rw [decide_eq_true q,decide_eq_true (hs _ q)];exact Rat.le_refl
    · rw [decide_eq_false q]
      show (0:Rat)*_≤_
      have:(0:Rat)≤mk (decide ((t:Int)∈o))*ofS gs.length (fun i=>s.h.getD i 0) (fun i=>ent s.T i (ws.length+gs.length)) t:=Rat.mul_nonneg (by unfold mk;split <;> grind) p0
      grind
  · have h1:=zgQ S Z
    have h2:=zfR S Z
    rw [h1] at h2
    have e3:(sm ws.length fun t=>(zgz s.T s.h ws.length gs.length).getD t 0*(ws.getD t 0:Rat))=sm ws.length fun t=>(ws.getD t 0:Rat)*ofS gs.length (fun i=>s.h.getD i 0) (fun i=>ent s.T i (ws.length+gs.length)) t:=zk fun t ht=>by
      have e1:(zgz s.T s.h ws.length gs.length).getD t 0=_:=zby S (b:=ws.length+gs.length) ht
      rw [e1]
      grind
    rw [e3,h2]
    unfold wL
    rw [zl,j6,List.map_map,w4]
    refine zk fun g hg=>?_
    have h0:=y0 g hg
    show (if decide (0 < ent s.T gs.length (ws.length+g))=true then ent s.T gs.length (ws.length+g) else 0)=_
    by_cases p:0 < ent s.T gs.length (ws.length+g)
    · rw [if_pos (decide_eq_true p)]
    · rw [if_neg (by simpa using p)]
      grind
end L2.DL
namespace L2.DL
open Sx
theorem swap{k:Nat}(q:Nat→Rat):∀ pl:Plan,(sm k fun s=>q s*jT ((pl.filter fun ph=>decide ((s:Int)∈ph.1)).map fun ph=>ph.2))=jT (pl.map fun ph=>ph.2*sm k fun s=>Sx.mk (decide ((s:Int)∈ph.1))*q s)
  | []=>xH fun s _=>by show q s*0=0;grind
  | ph::pl=>by
    have ih:=swap (k:=k) q pl
    have e:(sm k fun s=>q s*jT (((ph::pl).filter fun ph=>decide ((s:Int)∈ph.1)).map fun ph=>ph.2))=sm k fun s=>ph.2*(Sx.mk (decide ((s:Int)∈ph.1))*q s)+q s*jT ((pl.filter fun ph=>decide ((s:Int)∈ph.1)).map fun ph=>ph.2):=zk fun s _=>by
      rw [List.filter_cons]
      by_cases h:(s:Int)∈ph.1
      · rw [if_pos (decide_eq_true h),decide_eq_true h]
        show q s*(ph.2+_)=ph.2*(1*q s)+_
        grind
      · rw [if_neg (by simpa using h),decide_eq_false h]
        show _=ph.2*(0*q s)+_
        grind
    rw [e,zcF,xG,ih]
    rfl
end L2.DL
namespace L2
open PySem PySem.Spec PyProof.Rows
structure jl(X:Cx)(scope:Scope)(x x2:Str)(N':List Str)(caps:List Nat):Prop where
  nd:N'.Nodup
  n0:N'[0]?=some x
  n1:N'[1]?=some x2
  len:N'.length=caps.length+2
  cap:∀ (j i:Nat) (y:Str),caps[j]?=some i→N'[j+2]?=some y→X.N[i]?=some y
  capf:∀ (j:Nat) (y:Str),N'[j+2]?=some y→scope.names.lookup y=some .free
  nocell:∀ y∈scope.names,y.2≠.cell
  kind:scope.kind=.function
  names:∀ y∈scope.names,y.2=.local→scope.names.lookup y.1=some .local
  loc:scope.names.lookup x=some .local
  loc2:scope.names.lookup x2=some .local
  free:∀ y∈scope.names,y.2=.free→(X.env.kindOf y.1=some .cell∨X.env.kindOf y.1=some .free)
def zhQ(K:PySem.W.Frag)(caps:List Nat)(wi:TI)(tt:TT)(te:TE):TE:=fun σ H Q=>wi σ H fun J H1=>∃ W:Nat→Nat→List V→Hp→Prop,(∃ m,W 0 m [] H1)∧∀ i m ys H,W i m ys H →
  (J.stop i H∧∀ p,H p=none→Q (.ref p) (upd H p (.lst ys))) ∨
  (J.go i H∧∀ v H',J.yld i H v H'→∃ a p q,v=.ref a∧SqT K H' a [p,q]∧tt (some p::some q::jn caps σ) H' fun b H2=>if b=true then te (some p::some q::jn caps σ) H2 fun y H3=>ys.length < sizeLine∧∃ m',m' < m∧W (i+1) m' (ys++[y]) H3 else ∃ m',m' < m∧W (i+1) m' ys H2)
section
variable {X:Cx}{pins:List (Addr×Obj)}{σ:St}{H₂:Hp}{scope:Scope}{x x2:Str}{N':List Str}{caps:List Nat}
theorem jl.cells{s:Shared}(S:jl X scope x x2 N' caps)(I:Inv X pins σ H₂ s):∀ y∈scope.names,y.2=.free→∃ c,X.env.cells.lookup y.1=some c:=fun y hy hf=>I.ok.has y.1 (S.free y hy hf)
theorem zfU{s₃:Shared}{C:Addr}{ex:List Addr}(S:jl X scope x x2 N' caps)(I:Inv X pins σ H₂ s₃)(hC:s₃.heap.objs.size≤C)(hex:∀ b∈ex,vT X pins H₂ b∧b < C):(zC X scope N' C ex s₃ H₂).Ok where
  mod:=I.ok.mod
  kind:=S.kind
  glob:=I.ok.glob
  blt:=I.ok.blt
  above:=hC
  inj:=fun y z c h1 h2=>I.ok.inj y z c (zR (S.cells I) h1) (zR (S.cells I) h2)
  has:=fun y hy=>ka (ya S.nocell hy)
  cab:=fun y c h=>nomatch h
  hd:=I.ok.hd
  frames:=I.ok.frames
  stk:=.inl rfl
  exf:=fun b hb=>⟨Nat.ne_of_lt (hex b hb).2,fun y c h=>(hex b hb).1.2.2.2.2.1 y c (zR (S.cells I) h)⟩
  bs:=I.bs
  bsz:=Nat.le_trans I.ok.bsz I.sz
  noex:=fun b o e hb=>by
    rcases (hex b hb).1.2.2.2.1 with z | z
    · exact I.ok.noex b o e z
    · exact absurd (Nat.lt_of_lt_of_le (Heap.lt_size e) (Nat.le_trans I.ok.bsz z)) (Nat.lt_irrefl _)
  exfs:=fun b hb hm=>by
    obtain⟨_,f1,f2,_⟩:=(hex b hb).1
    rcases List.mem_cons.mp (I.stkSub b hm) with z | z
    · exact f1 z
    · exact f2 z
  funs:=I.stack
  frf:=I.stkFree
theorem zbc{s₃:Shared}{C:Addr}{ex:List Addr}{h₁:Heap}{t:Nat}{m:Str→Option Value}(S:jl X scope x x2 N' caps)(I:Inv X pins σ H₂ s₃)(hC:s₃.heap.objs.size≤C)(hex:∀ b∈ex,vT X pins H₂ b∧b < C)
    (ns:h₁.Ns C m) (old:∀ b o,s₃.heap.get? b=some o→h₁.get? b=some o):Inv (zC X scope N' C ex s₃ H₂) [] (none::none::jn caps σ) H₂ { s₃ with heap:=h₁,toks:=t } where
  ok:=zfU S I hC hex
  os:=rfl
  bare:=I.bare
  base:=Un.kept old
  loc:=by
    refine⟨m,ns,fun i y v h1 h2 h3=>?_⟩
    match i,h1,h2 with
    | 0,h1,h2=>cases h2
    | 1,h1,h2=>cases h2
    | j+2,h1,h2 =>
      obtain⟨i,hi,hv⟩:=zdG (show (jn caps σ)[j]?=some (some v) from h2)
      have hN:=S.cap j i y hi h1
      have hfree:scope.names.lookup y=some .free:=S.capf j y h1
      have hk:X.env.kindOf y=some .cell∨X.env.kindOf y=some .free:=S.free (y,.free) (qI hfree) rfl
      obtain⟨m0,_,hl⟩:=I.loc
      obtain⟨u,r,l⟩:=hl i y v hN hv (by rcases hk with k | k;exact .inr (.inl k);exact .inr (.inr k))
      refine⟨u,r,.inr ⟨qW hfree,?_⟩⟩
      rcases l with ⟨k,_⟩ | ⟨_,c,hc,z⟩
      · rcases hk with k' | k' <;> rw [k] at k' <;> cases k'
      · obtain⟨c',hc'⟩:=ka (env:=X.env) (qI hfree)
        have:=zR (S.cells I) hc'
        rw [hc] at this;cases this
        obtain⟨o,ho,hd⟩:=z
        exact⟨c,hc',o,old _ _ ho,hd⟩
  cell:=fun y c h=>by
    obtain⟨v,o,ho,hd⟩:=I.cell y c (zR (S.cells I) h)
    exact⟨v,o,old _ _ ho,hd⟩
  free:=I.hok.fresh hC
  freeC:=fun y c h=>I.freeC y c (zR (S.cells I) h)
  pin:=fun p hp=>by simp at hp
  hok:=I.hok.kept old
  len:=by
    show (none::none::jn caps σ).length=N'.length
    rw [S.len]
    simp [jn]
theorem zcP{elt iter:Expr}{px px2 ptp:Pos}{kt:Nat}{ifs:List Expr}{pos:Pos}{tt:TT}{te:TE}{s₂:Shared}{it:Addr}{fp:List Addr}{tn:Nat→Heap→Prop}{J:It}{RR:Value→Addr→Result→Shared→Prop}{E:Value→Shared→Prop}
    (S:jl X scope x x2 N' caps) (hc:X.calm=true) (ht:∀ C ex s₀ H₀,zhg (zC X scope N' C ex s₀ H₀) ifs tt) (he:∀ C ex s₀ H₀,PE (zC X scope N' C ex s₀ H₀) elt te)
    (I2:Inv X pins σ H₂ s₂) (T:Turn X.prog X.w X.K (.Tuple [.Name x px,.Name x2 px2] kt ptp) J fp it tn) (st2:tn 0 s₂.heap) (f2:∀ b∈fp,vT X pins H₂ b)
    (W:Nat→Nat→List V→Hp→Prop) (m0:Nat) (w0:W 0 m0 [] H₂) (Fin:List V→Hp→Prop)
    (turn:∀ i m ys H,W i m ys H→(J.stop i H∧Fin ys H) ∨
      (J.go i H∧∀ v H',J.yld i H v H'→∃ a p q,v=.ref a∧SqT X.K H' a [p,q]∧tt (some p::some q::jn caps σ) H' fun b H2=>if b=true then te (some p::some q::jn caps σ) H2 fun y H3=>ys.length < sizeLine∧∃ m',m' < m∧W (i+1) m' (ys++[y]) H3 else ∃ m',m' < m∧W (i+1) m' ys H2))
    (hRR:∀ (D C:Addr) (s':Shared) (ys:List V) (H':Hp) (m:Str→Option Value),Fin ys H'→H' D=none→Inv X pins σ (upd H' D (.lst ys)) s'→s'.heap.Ns C m→vT X pins (upd H' D (.lst ys)) C→RR (.ref D) C (.ok .next) s') :
    wpAny (model X.prog X.w) X.A (newList []) (fun acc s₃=>wpAny (model X.prog X.w) X.A (newFunctionEnv scope X.env.globals (zcO scope X.env) [] X.env.qual none .none (some X.env)) (fun cenv s₄ =>
      codeAny (model X.prog X.w) X.A (.compStart (.ListComp elt [⟨.Tuple [.Name x px,.Name x2 px2] kt ptp,iter,ifs,0⟩] scope pos) 0 (.ref it) acc { cenv with scope:=relabel scope X.env }) (RR acc cenv.locals) s₄) E s₃) E s₂:=by
  refine wpAny_newObj_type (wpAny_newFunctionEnv S.nocell (by intro y hy;simp at hy) (fun h₁ hns₁ hsb₁=>?_) S.kind)
  dsimp only at hns₁ hsb₁ ⊢
  generalize hHH:s₂.heap.push { cls:=.type "list",dict:=none,data:=.seq ([]:List Value).toArray }=HH at hns₁ hsb₁ ⊢
  generalize hDe:s₂.heap.objs.size=D at *
  have up:∀ b o,s₂.heap.get? b=some o→HH.get? b=some o:=fun b o e=>hHH ▸ Heap.get?_push_of_some _ e
  have hsz:HH.objs.size=D+1:=by rw [← hHH,Heap.size_push,hDe]
  have gD3:HH.get? D=some { cls:=.type "list",data:=.seq ([]:List Value).toArray }:=by rw [← hHH,← hDe];exact Heap.get?_push_size _ rfl
  have I3:Inv X pins σ H₂ { s₂ with heap:=HH }:=I2.kept (t':=s₂.toks) up
  generalize hC:HH.objs.size=C at *
  have hDC:D < C:=by omega
  have old:∀ b o,HH.get? b=some o→h₁.get? b=some o:=fun b o e=>hsb₁.extBut b o (Nat.ne_of_lt (by rw [← hC];exact Heap.lt_size e)) (Heap.get?_push_of_some _ e)
  have fD:vT X pins H₂ D:=I2.fpOk (Nat.le_of_eq hDe) (I2.hok.fresh (Nat.le_of_eq hDe))
  have fpC:∀ b∈fp,b < C:=fun b hb=>by
    obtain⟨o,e,_⟩:=T.obj _ _ st2 b hb
    have h1:b < s₂.heap.objs.size:=Heap.lt_size e
    rw [hDe] at h1
    exact Nat.lt_trans h1 hDC
  have hex:∀ b∈fp++[D],vT X pins H₂ b∧b < C:=fun b hb=>by
    rcases List.mem_append.mp hb with z | z
    · exact⟨f2 b z,fpC b z⟩
    · rw [List.mem_singleton.mp z];exact⟨fD,hDC⟩
  have hDm:D∈fp++[D]:=List.mem_append_right _ (List.mem_singleton.mpr rfl)
  have nDf:D∉fp:=fun z=>by
    obtain⟨o,e,_⟩:=T.obj _ _ st2 D z
    have h1:D < s₂.heap.objs.size:=Heap.lt_size e
    rw [hDe] at h1
    exact Nat.lt_irrefl _ h1
  have st1:tn 0 h₁:=T.keep _ _ _ st2 fun b hb o e=>old b o (up b o e)
  have J0:Inv (zC X scope N' C (fp++[D]) { s₂ with heap:=HH } H₂) [] (none::none::jn caps σ) H₂ { s₂ with heap:=h₁,toks:=s₂.toks+([]:List (Str×Value)).length } :=
    zbc (s₃:={ s₂ with heap:=HH }) S I3 (Nat.le_of_eq hC) hex hns₁ old
  have stat:∀ {b:Addr} {H':Hp} {pl:List (Addr×Obj)},b∈fp++[D]→H' b=none→(∀ p∈pl,p.1≠b)→vT (zC X scope N' C (fp++[D]) { s₂ with heap:=HH } H₂) pl H' b:=fun {b H' pl} hb hn hp=>by
    have ok:=J0.ok
    refine⟨hn,(ok.exf b hb).1,ok.exfs b hb,.inl hb,(ok.exf b hb).2,fun p hp'=>hp p (by simpa using hp')⟩
  have loop:∀ s₃:Shared,s₃={ s₂ with heap:=h₁,toks:=s₂.toks+([]:List (Str×Value)).length } →
      codeAny (model X.prog X.w) X.A (.compLoop (.ListComp elt [⟨.Tuple [.Name x px,.Name x2 px2] kt ptp,iter,ifs,0⟩] scope pos) 0 (.ref it) (.ref D) (compEnvC scope (zcO scope X.env) C X.env)) (RR (.ref D) C) s₃:=by
    rintro s₃ rfl
    refine zeo (fun n s'=>∃ (i:Nat) (ys:List V) (its:List Value) (k:Nat) (o o2:Option V) (H':Hp),Inv (zC X scope N' C (fp++[D]) { s₂ with heap:=HH } H₂) [] (o::o2::jn caps σ) H' s'∧tn i s'.heap∧(∀ b∈fp,H' b=none)∧H' D=none ∧
      s'.heap.get? D=some { cls:=.type "list",data:=.seq its.toArray k }∧Vals ys its∧ys.length≤sizeLine∧W i n ys H') ?_ m0
      ⟨0,[],[],0,none,none,H₂,J0,st1,fun b hb=>(f2 b hb).1,fD.1,old _ _ gD3,.nil,Nat.zero_le _,w0⟩
    rintro n s' ⟨i,ys,its,k,o,o2,H',I',st,fr,hD,gD,rv,hz,w⟩
    have ID:Inv (zC X scope N' C (fp++[D]) { s₂ with heap:=HH } H₂) [(D,{ cls:=.type "list",data:=.seq its.toArray k })] (o::o2::jn caps σ) H' s':=I'.pins_of fun p hp=>by
      rw [List.mem_singleton.mp hp]
      have ok:=J0.ok
      exact⟨gD,hD,(ok.exf D hDm).1,ok.exfs D hDm,fun v z=>by cases z⟩
    have hf:∀ b∈fp,vT (zC X scope N' C (fp++[D]) { s₂ with heap:=HH } H₂) [(D,{ cls:=.type "list",data:=.seq its.toArray k })] H' b:=fun b hb=>stat (List.mem_append_left _ hb) (fr b hb) fun p hp=>by
      rw [List.mem_singleton.mp hp]
      exact fun z=>nDf ((show D=b from z) ▸ hb)
    rcases turn i n ys H' w with ⟨stop,fin⟩ | ⟨go,step⟩
    · refine wpAny_mono (T.done (zC X scope N' C (fp++[D]) { s₂ with heap:=HH } H₂) rfl rfl rfl hc i _ s' _ H' (fun _ _=>False) ID hf st stop) (fun r s1 ⟨hr,I1⟩=>?_) fun _ _ z=>z
      subst hr
      have gD1:=(I1.pin _ (List.mem_append_right _ (List.mem_singleton.mpr rfl))).1
      obtain⟨m,ns,_⟩:=I1.loc
      refine hRR D C s1 ys H' m fin hD (yK I3 I1 (fun b hb=>(hex b hb).1) hDm hD gD1 rv hz) ns ?_
      refine⟨by rw [zu (Nat.ne_of_gt hDC)];exact I1.free,?_⟩
      have q:=I3.fpOk (b:=C) (H':=H₂) (Nat.le_of_eq hC) (I3.hok.fresh (Nat.le_of_eq hC))
      exact q.2
    · refine wpAny_mono (T.item (zC X scope N' C (fp++[D]) { s₂ with heap:=HH } H₂) rfl rfl rfl hc i _ s' _ H' (fun _ _=>False) ID hf st go) (fun r s1 ⟨u,hr,h4⟩=>?_) fun _ _ z=>z
      subst hr
      refine wpAny_mono h4 (fun _ s5 ⟨v,H5,I5,r5,y5,st5,fr5⟩=>?_) fun _ _ z=>z
      have I5':=I5.pinned (fp:=fp) (fun b hb=>stat (List.mem_append_left _ hb) (fr5 b hb) fun p hp=>by
        rw [List.mem_singleton.mp hp]
        exact fun z=>nDf ((show D=b from z) ▸ hb)) (T.obj _ _ st5)
      obtain⟨pa,pv,qv,rfl,hpq,stp⟩:=step v H5 y5
      have hpg:=zhH (X:=zC X scope N' C (fp++[D]) { s₂ with heap:=HH } H₂) (k:=kt) (pos:=ptp) hc (kj (kY (pos:=px) S.nd S.n0 (.inl (lookup_relabel_local S.loc)) (.inr (lookup_relabel_local S.loc))) (kj (kY (pos:=px2) S.nd S.n1 (.inl (lookup_relabel_local S.loc2)) (.inr (lookup_relabel_local S.loc2))) zeJ))
      refine wpAny_mono (hpg _ s5 _ H5 _ _ (fun σ' H''=>σ'=some pv::some qv::jn caps σ∧H''=H5) I5' r5 ⟨pa,_,rfl,hpq,rfl,_,_,rfl,_,_,rfl,rfl,rfl,rfl⟩) (fun _ s6 ⟨σ6,H6,I6,e6,e6'⟩=>?_) fun _ _ z=>z
      subst e6 e6'
      refine wpAny_mono (ht C (fp++[D]) { s₂ with heap:=HH } H₂ _ s6 _ H6 _ I6 stp) (fun b s7 ⟨H7,I7,q7⟩=>?_) fun _ _ z=>z
      have keepT:∀ {s8:Shared} {σ8:St} {H8:Hp},Inv (zC X scope N' C (fp++[D]) { s₂ with heap:=HH } H₂) ([(D,{ cls:=.type "list",data:=.seq its.toArray k })]++yR fp s5.heap) σ8 H8 s8 →
          (∀ b∈fp,∀ ob,s5.heap.get? b=some ob→s8.heap.get? b=some ob)∧(∀ b∈fp,H8 b=none)∧s8.heap.get? D=some { cls:=.type "list",data:=.seq its.toArray k }∧H8 D=none:=fun {s8 σ8 H8} I8=>by
        refine⟨fun b hb ob e=>(I8.pin (b,ob) (List.mem_append_right _ (List.mem_append_right _ (xt hb e)))).1,fun b hb=>?_,?_,?_⟩
        · obtain⟨ob,e,_⟩:=T.obj _ _ st5 b hb
          exact (I8.pin (b,ob) (List.mem_append_right _ (List.mem_append_right _ (xt hb e)))).2.1
        · exact (I8.pin (D,_) (List.mem_append_right _ (List.mem_append_left _ (List.mem_singleton.mpr rfl)))).1
        · exact (I8.pin (D,_) (List.mem_append_right _ (List.mem_append_left _ (List.mem_singleton.mpr rfl)))).2.1
      cases b with
      | false =>
        rw [if_neg Bool.false_ne_true] at q7 ⊢
        obtain⟨m',hm,w7⟩:=q7
        obtain⟨k1,k2,k3,k4⟩:=keepT I7
        exact⟨m',hm,i+1,ys,its,k,some pv,some qv,H7,I7.pins_of (fun p hp=>by simp at hp),T.keep _ _ _ st5 k1,k2,k4,k3,rv,hz,w7⟩
      | true =>
        rw [if_pos rfl] at q7 ⊢
        refine wpAny_mono (he C (fp++[D]) { s₂ with heap:=HH } H₂ _ s7 _ H7 _ I7 q7) (fun yv s8 ⟨y,H8,I8,r8,hz8,m',hm,w8⟩=>?_) fun _ _ z=>z
        obtain⟨k1,k2,k3,k4⟩:=keepT I8
        refine append_at k3 (fun h9 sb9 e9=>?_) (by rw [List.size_toArray,← rv.length];exact hz)
        have I8':Inv (zC X scope N' C (fp++[D]) { s₂ with heap:=HH } H₂) [] (some pv::some qv::jn caps σ) H8 s8:=I8.pins_of (fun p hp=>by simp at hp)
        obtain⟨g0,g1,g2,g3,g4,g5⟩:=stat (pl:=[]) hDm k4 (fun p hp=>by simp at hp)
        have I9:Inv (zC X scope N' C (fp++[D]) { s₂ with heap:=HH } H₂) [] (some pv::some qv::jn caps σ) H8 { s8 with heap:=h9 }:=I8'.turned (t':=s8.toks) (fun b ob hb e=>(sb9.2 b hb).trans e) g0 g1 g3 g4 g5
        refine⟨m',hm,i+1,ys++[y],its++[yv],k+1,some pv,some qv,H8,I9,T.keep _ _ _ st5 (fun b hb ob e=>?_),k2,k4,?_,rv.append (.cons r8 .nil),?_,w8⟩
        · exact (sb9.2 b (fun z=>nDf (z ▸ hb))).trans (k1 b hb ob e)
        · rw [e9,List.push_toArray]
        · rw [List.length_append,List.length_singleton];exact hz8
  exact codeAny_compStart_list (loop _ rfl) (T.self X.A 0 _ _ _ st1 (loop _ rfl))
theorem zgC{elt iter:Expr}{px px2 ptp:Pos}{kt:Nat}{ifs:List Expr}{pos:Pos}{wi:TI}{tt:TT}{te:TE}(S:jl X scope x x2 N' caps)(hc:X.calm=true)(hi:PI X (.Tuple [.Name x px,.Name x2 px2] kt ptp) iter wi)
    (ht:∀ C ex s₀ H₀,zhg (zC X scope N' C ex s₀ H₀) ifs tt) (he:∀ C ex s₀ H₀,PE (zC X scope N' C ex s₀ H₀) elt te)
    (hs:∀ x,foldedSetIterable iter X.env x=pure x:=by intro _;rfl):PE X (.ListComp elt [⟨.Tuple [.Name x px,.Name x2 px2] kt ptp,iter,ifs,0⟩] scope pos) (zhQ X.K caps wi tt te):=by
  intro pins s σ H Q I h
  rw [eval_ListComp]
  refine wpAny_comprehension_free (use:=none) rfl hs (zba (S.cells I)) S.kind S.names (thn (hi pins s σ H _ I h) fun v s1 h1=>thn h1 fun itv s2 h2=>?_)
  obtain⟨it,fp,tn,J,H2,e,I2,T,st2,f2,W,⟨m0,w0⟩,turn⟩:=h2
  subst e
  refine zcP (RR:=fun acc C=>compPost (model X.prog X.w) X.A X.xe none (EP X pins σ Q) acc C) S hc ht he I2 T st2 f2 W m0 w0 (fun ys H'=>∀ p,H' p=none→Q (.ref p) (upd H' p (.lst ys))) turn ?_
  intro D C s' ys H' m fin hD I' ns fC
  obtain⟨f0,f1,f2',f3,f4,f5⟩:=fC
  refine⟨m,ns,fun h' sb=>⟨.ref D,_,I'.turned (t':=s'.toks) (fun b o hb e=>(sb.2 b hb).trans e) f0 f1 f3 f4 f5,rfl,fin D hD⟩⟩
end
end L2
namespace L2.DL
open PySem PySem.Spec PyProof.Rows
section
variable {C:Addr}{X:Cx}{t:DTA}{tt:DTT}{te:DT1}{pos:Pos}
def zdK(caps:List Nat)(ti:DTA)(tt:DTT)(te:DT1):DTA:=fun env Q=>ti env fun items=>∃ (α:Type) (xs:List α) (en1 en2:α→D) (f:α→Option D),items=xs.map (fun x=>D.tup [en1 x,en2 x])∧xs.length≤sizeLine ∧
  (∀ x∈xs,tt (some (.sh (en1 x))::some (.sh (en2 x))::zdp caps env) fun b=>if b=true then te (some (.sh (en1 x))::some (.sh (en2 x))::zdp caps env) fun y=>f x=some y else f x=none)∧Q (xs.filterMap f)
theorem zh0{K:PySem.W.Frag}{H:Hp}{S:Addr→Prop}{σ:L2.St}{env:En}{caps:List Nat}{d e:D}{v u:V}(h:EOk K C H S σ env)(hn:caps.Nodup)(r:Rep K C (less H S) d v)(r2:Rep K C (less H S) e u):EOk K C H S (some u::some v::jn caps σ) (some (.sh e)::some (.sh d)::zdp caps env):=by
  have k:=zhj h hn r
  refine⟨by simpa using k.len,fun j sv z=>?_,fun j k' p ds es z1 z2=>?_,k.dom⟩
  · cases j with
    | zero=>simp at z;subst z;exact⟨u,rfl,r2⟩
    | succ j =>
      rw [List.getElem?_cons_succ] at z ⊢
      exact k.slot j sv z
  · cases j with
    | zero=>simp at z1
    | succ j =>
      cases k' with
      | zero=>simp at z2
      | succ k' =>
        rw [List.getElem?_cons_succ] at z1 z2
        rw [k.inj j k' p _ _ z1 z2]
theorem zfT{caps:List Nat}(hn:caps.Nodup):∀ σ H Q,rF X.K C (zdK caps t tt te) σ H Q→zhQ X.K caps (rIt X.K C t) (rT X.K C tt) (rE X.K C te) σ H Q:=fun σ H Q ⟨S,env,P,h1,h2,h3⟩=>by
  refine⟨S,env,_,h1,h2,fun items ⟨α,xs,en1,en2,f,hit,hz,turn,fin⟩ J H1 e J1=>?_⟩
  subst hit
  have hlen:(xs.map (fun x=>D.tup [en1 x,en2 x])).length=xs.length:=List.length_map _
  refine⟨fun i m ys H=>m=xs.length - i∧i≤xs.length∧Same H1 H∧RepA X.K C (less H S) ((xs.take i).filterMap f) ys,⟨xs.length,by simp,Nat.zero_le _,Same.refl _,repA_nil⟩,?_⟩
  rintro i m ys H2 ⟨rfl,hi,s2,r2⟩
  have pr:Same (less H1 S) (less H2 S):=zF s2
  by_cases hlt:i < xs.length
  · refine .inr ⟨J1.go i H2 S pr (by omega),fun v H' y=>?_⟩
    obtain⟨d,e1,s1,r⟩:=J1.yld i H2 S v H' (h1.dom.mono (e.trans s2)) pr (by omega) y
    rw [List.getElem?_map,List.getElem?_eq_getElem hlt] at e1
    cases e1
    unfold Rep at r
    obtain⟨a,vs,rfl,r1,r2'⟩:=r
    obtain⟨v1,v2,rfl,q1,q2⟩:=jb r2'
    refine⟨a,v1,v2,rfl,zh.seqT r1,?_⟩
    have eo:=zh0 (h1.mono (e.trans (s2.trans s1))) hn q2 q1
    have hm:xs[i]∈xs:=List.getElem_mem hlt
    have tk:(xs.take (i+1)).filterMap f=(xs.take i).filterMap f++[xs[i]].filterMap f:=by rw [← List.take_append_getElem hlt,List.filterMap_append]
    refine⟨S,_,_,eo,turn _ hm,fun b hb H3 e3=>?_⟩
    cases b with
    | true =>
      refine⟨S,_,_,eo.mono e3,hb,fun y hy yv H4 e4 ry=>⟨?_,xs.length - (i+1),by omega,rfl,hlt,s2.trans (s1.trans (e3.trans e4)),?_⟩⟩
      · have q1:=zD r2
        have q2:=List.length_filterMap_le f (xs.take i)
        have q3:=List.length_take_le i xs
        omega
      · rw [tk,List.filterMap_cons_some hy]
        exact jJ (RepA.mono (zF (s1.trans (e3.trans e4))) _ _ r2) (zQ ry repA_nil)
    | false =>
      refine⟨xs.length - (i+1),by omega,rfl,hlt,s2.trans (s1.trans e3),?_⟩
      rw [tk,List.filterMap_cons_none hb,List.filterMap_nil,List.append_nil]
      exact RepA.mono (zF (s1.trans e3)) _ _ r2
  · have e':i=xs.length:=by omega
    subst e'
    rw [List.take_length] at r2
    exact .inl ⟨J1.stop _ H2 S pr (by omega),fun p hp=>(h3.mono (e.trans s2)).new fin r2 hp⟩
variable {scope:Scope}{x x2:Str}{N':List Str}{caps:List Nat}{elt iter:Expr}{px px2 ptp:Pos}{kt:Nat}{ifs:List Expr}
theorem zb2(S:jl X scope x x2 N' caps)(hc:X.calm=true)(hi:DI C X (.Tuple [.Name x px,.Name x2 px2] kt ptp) iter t)(ht:∀ C' ex s₀ H₀,zj1 C (zC X scope N' C' ex s₀ H₀) ifs tt)(he:∀ C' ex s₀ H₀,DE C (zC X scope N' C' ex s₀ H₀) elt te)(hn:caps.Nodup:=by decide)
    (hs:∀ x,foldedSetIterable iter X.env x=pure x:=by intro _;rfl):DF C X (.ListComp elt [⟨.Tuple [.Name x px,.Name x2 px2] kt ptp,iter,ifs,0⟩] scope pos) (zdK caps t tt te):=peW (zgC (tt:=rT X.K C tt) (te:=rE X.K C te) S hc hi (fun C' ex s h=>ht C' ex s h) (fun C' ex s h=>he C' ex s h) hs) (zfT hn)
end
theorem compSc2{X:Cx}{scope:Scope}{x x2:Str}(sc:Scope)(NN N':List Str)(caps:List Nat)(hX:X.env.scope=sc)(hN:X.N=NN)(nd:N'.Nodup)(n0:N'[0]?=some x)(n1:N'[1]?=some x2)(len:N'.length=caps.length+2)(cap:∀ p∈caps.zip (N'.drop 2),NN[p.1]?=some p.2)
    (capf:∀ y∈N'.drop 2,scope.names.lookup y=some .free) (nocell:∀ y∈scope.names,y.2≠.cell) (kind:scope.kind=.function) (names:∀ y∈scope.names,y.2=.local→scope.names.lookup y.1=some .local) (loc:scope.names.lookup x=some .local) (loc2:scope.names.lookup x2=some .local)
    (free:∀ y∈scope.names,y.2=.free→sc.names.lookup y.1=some .cell∨sc.names.lookup y.1=some .free):jl X scope x x2 N' caps:=by
  have hd:∀ {j:Nat} {y:Str},N'[j+2]?=some y→(N'.drop 2)[j]?=some y:=fun {j y} h=>by rw [List.getElem?_drop,Nat.add_comm];exact h
  refine⟨nd,n0,n1,len,fun j i y h1 h2=>?_,fun j y h=>capf y (List.mem_of_getElem? (hd h)),nocell,kind,names,loc,loc2,fun y hy hf=>?_⟩
  · rw [hN]
    exact cap (i,y) (List.mem_of_getElem? (i:=j) (by rw [List.getElem?_zip_eq_some];exact⟨h1,hd h2⟩))
  · have:=free y hy hf
    rw [← hX] at this
    exact this
end L2.DL
namespace L2.DL
open PySem PySem.Spec PyProof.Rows GS GM
def Wis(ws:List Int):Prop:=∀ w∈ws,0≤w∧w < 2 ^ 70
theorem Wis.get{ws:List Int}(h:Wis ws)(i:Nat):0≤ws.getD i 0∧ws.getD i 0 < 2 ^ 70:=by
  rw [List.getD_eq_getElem?_getD]
  cases e:ws[i]? with
  | none=>exact⟨Int.le_refl _,by decide⟩
  | some w=>exact h w (List.mem_of_getElem? e)
def okG(pl:Plan)(ws:List Int)(i:Nat):Bool:=!decide (tot (zgu pl (i:Int)) < ((ws.getD i 0:Int):Rat))
def srv(f:List Int→Bool)(ws:List Int)(pl:Plan):Bool:=(pl.all fun ph=>f ph.1) && (List.range ws.length).all (okG pl ws)
def jB:TD:=fun ds Q=>∃ (m:Nat) (ps:Cl) (ws:List Int),ds=[.crs m ps,.lst (ws.map D.int)]∧ws.length=m∧(∀ w∈ws,0≤w)∧Q .non
def vL:TD:=fun ds Q=>∃ (ns:List Int) (st:Int) (m:Nat),ds=[.scr ns,.int st,.int m]∧0≤st∧m≤6∧∀ ws:List Int,ws.length=m→Wis ws→Q (.lst (ws.map D.int))
theorem vp{α:Type}{enc:α→D}{xs:List α}{i:Nat}{j:Int}{d:α}(hj:j=i)(h:i < xs.length){Q:D→Prop}:rdIx (.lst (xs.map enc)) (.int j) Q=Q (enc (xs.getD i d)):=by
  have e:atI (xs.map enc) j=some (enc (xs.getD i d)):=by
    subst hj
    refine zdz ?_
    rw [List.getElem?_map,List.getElem?_eq_getElem h,List.getD_eq_getElem?_getD,List.getElem?_eq_getElem h]
    rfl
  unfold rdIx
  simp only [e]
theorem ziM(c:Int)(h0:0≤c)(h6:c < 6):∃ M:Int,(0 < M∧M < 2 ^ 70)∧∀ R:D→Prop,rdIx (.lst [.int 11,.int 2,.int 101,.int 7,.int (10 ^ Int.toNat 20),.int 31]) (.int c) R=R (.int M):=by
  have:c=0∨c=1∨c=2∨c=3∨c=4∨c=5:=by omega
  rcases this with rfl | rfl | rfl | rfl | rfl | rfl
  · exact⟨11,by decide,fun R=>rfl⟩
  · exact⟨2,by decide,fun R=>rfl⟩
  · exact⟨101,by decide,fun R=>rfl⟩
  · exact⟨7,by decide,fun R=>rfl⟩
  · exact⟨10 ^ Int.toNat 20,by decide,fun R=>rfl⟩
  · exact⟨31,by decide,fun R=>rfl⟩
theorem ziH(q:Rat)(w:Int):Rat.divInt (q.num*w) (q.den:Int)=q*(w:Rat):=by
  rw [Rat.divInt_eq_div,Rat.intCast_mul]
  conv=>rhs;rw [← vD q]
  have h1:=y9 (zhp q)
  grind
end L2.DL
namespace L2.DL
open PySem PySem.Spec PyProof.Rows Sx
def yw(r:List Rat):D:=.lst (r.map dQ)
def zad(T:TL):D:=.lst (T.map yw)
def dNs(h:List Nat):D:=.lst (h.map fun (x:Nat)=>D.int x)
def zl0:Option Nat→D
  | none=>.non
  | some c=>.int c
def SzT(T:TL):Prop:=∀ r∈T,∀ q∈r,Sz 150 q
def zjO:TD:=fun ds Q=>∃ b:Bool,ds=[.bl b]∧Q (dQ (Sx.mk b))
def zfs:TD:=fun ds Q=>∃ (gs:List (List Int)) (ws:List Int),ds=[.lst (gs.map dG),.lst (ws.map D.int)]∧gs.length≤64∧ws.length≤6∧Q (zad (t0 gs ws))
structure jW(T:TL)(m z:Nat):Prop where
  wide:Wide T (m+1) (z+m+1)
  m64:m≤64
  z6:z≤6
  sz:SzT T
def zbK:TD:=fun ds Q=>∃ (T:TL) (m z:Nat),ds=[zad T]∧jW T m z∧Q (zl0 (zbX (ent T) m (z+m)))
def zjR:TD:=fun ds Q=>∃ (T:TL) (m z i c:Nat),ds=[yw (T.getD i []),.int c]∧jW T m z∧i≤m∧c < z+m∧ent T i c≠0∧Q (dQ (room (ent T) (z+m) c i))
def zfq:TD:=fun ds Q=>∃ (T:TL) (h:List Nat) (m z c i k:Nat),ds=[zad T,dNs h,.int c,.int i,.int k]∧jW T m z∧h.length=m∧i < m∧k < m∧c < z+m∧ent T i c≠0∧ent T k c≠0∧Q (.bl (ahead (ent T) (z+m) (fun i=>h.getD i 0) c i k))
def zjS:TD:=fun ds Q=>∃ (T:TL) (h:List Nat) (m z c:Nat),ds=[zad T,dNs h,.int c]∧jW T m z∧h.length=m∧c < z+m∧Q (zl0 (zbF (ent T) (z+m) (fun i=>h.getD i 0) c m))
def zaa:TD:=fun ds Q=>∃ (row head:List Rat) (f:Rat),ds=[yw row,dQ f,yw head]∧row.length≤1000∧(∀ q∈row,Sz 150 q)∧(∀ q∈head,Sz 300 q)∧Sz 150 f∧Q (yw (List.zipWith (fun a b=>a - f*b) row head))
def zbQ:TD:=fun ds Q=>∃ (T:TL) (m z p c:Nat),ds=[zad T,.int p,.int c]∧jW T m z∧p < m∧c < z+m∧ent T p c≠0∧Q (zad (v8 T p c))
def w9:TF:=fun ds Q=>∃ (T:TL) (h:List Nat) (m z:Nat),ds=[zad T,dNs h,.int z]∧jW T m z∧h.length=m∧Q ((zgz T h z m).map dQ)
def zbO:TF:=fun ds Q=>∃ (T:TL) (gs:List (List Int)) (z:Nat),ds=[zad T,.lst (gs.map dG),.int z]∧jW T gs.length z∧Q ((wL gs T z).map dPh)
def yr:TD:=fun ds Q=>∃ (k:Nat) (ps:Cl) (ws:List Int),ds=[.crs k ps,.lst (ws.map D.int)]∧1≤k∧k≤6∧(∀ p∈ps,p.1≠p.2)∧ws.length=k∧(∀ w∈ws,0≤w∧w≤2 ^ 80)∧∀ pl qs,zj0 k ps ws pl qs→Q (.tup [zf0 pl,.lst (qs.map dQ)])
end L2.DL
namespace L2.DL
open PySem PySem.Spec PyProof.Rows PySem.W
abbrev DTP:=En→(List D→List D→Prop)→Prop
def KP(K:Frag)(C:Addr)(H:Hp)(S:Addr→Prop)(P:List D→List D→Prop)(Q:VK):Prop :=
  ∀ as bs,P as bs→∀ t p q xs ys H',Same H H'→H t=none→H p=none→H q=none→p≠q→H' t=some (.tup [.ref p,.ref q])→H' p=some (.lst xs)→H' q=some (.lst ys) →
    RepA K C (less H' S) as xs→RepA K C (less H' S) bs ys→Q (.ref t) H'
section
variable {K:Frag}{C:Addr}{H H1:Hp}{S:Addr→Prop}{P:List D→List D→Prop}{Q:VK}
theorem KP.mono(k:KP K C H S P Q)(e:Same H H1):KP K C H1 S P Q:=fun as bs h t p q xs ys H' e' ht hp hq=>k as bs h t p q xs ys H' (e.trans e') (Same.none e ht) (Same.none e hp) (Same.none e hq)
theorem zcr{H':Hp}{as bs:List D}{t p q:Addr}{xs ys:List V}(e:Same H H')(dm:Dom H S)(ht:H t=none)(hp:H p=none)(hq:H q=none)(l0:H' t=some (.tup [.ref p,.ref q]))(l1:H' p=some (.lst xs))(l2:H' q=some (.lst ys))
    (r1:RepA K C (less H' S) as xs) (r2:RepA K C (less H' S) bs ys):Rep K C (less H' S) (.tup [.lst as,.lst bs]) (.ref t):=by
  have ns:∀ {a},H a=none→¬ S a:=fun h z=>dm _ z h
  unfold Rep
  refine⟨t,[.ref p,.ref q],rfl,SqT.of (zK.mpr ⟨ns ht,l0⟩),zQ ?_ (zQ ?_ repA_nil)⟩
  · unfold Rep
    exact⟨p,xs,rfl,zK.mpr ⟨ns hp,l1⟩,r1⟩
  · unfold Rep
    exact⟨q,ys,rfl,zK.mpr ⟨ns hq,l2⟩,r2⟩
end
def rP(K:Frag)(C:Addr)(t:DTP):TE:=fun σ H Q=>∃ S env P,EOk K C H S σ env∧t env P∧KP K C H S P Q
def DP(C:Addr)(X:Cx)(e:Expr)(t:DTP):Prop:=PE X e (rP X.K C t)
def spP(K:Frag)(C:Addr)(T:List D→(List D→List D→Prop)→Prop):Sp:=fun vs H Q _=>∃ S ds P,Dom H S∧RepA K C (less H S) ds vs∧T ds P∧KP K C H S P Q
def zhk(T:List D→(List D→List D→Prop)→Prop)(t:DTA):DTP:=fun env Q=>t env fun ds=>T ds Q
def rSp(K:Frag)(C:Addr)(t:(List D→List D→Prop)→DTS):TS:=fun D0 σ H=>∃ H0 S0 S env DD P,SOk K C H0 S0 H S σ env∧t P DD env∧zbS K C H0 S0 DD D0∧KP K C H0 S0 P D0.rt
def zj2(C:Addr)(X:Cx)(sts:List Stmt)(t:(List D→List D→Prop)→DTS):Prop:=PSs X sts (rSp X.K C t)
section
variable {C:Addr}{X:Cx}{a b c e:Expr}{es:List Expr}{st:Stmt}{sts rest:List Stmt}{ta tb:DTA}{t:DTA}{w:DTS}{u:(List D→List D→Prop)→DTS}{pos p tp:Pos}
theorem zmg{x:Str}{ps:List Str}{k k':Nat}{T:List D→(List D→List D→Prop)→Prop}(Df:Dn X.prog X.w X.K X.mg X.base x ps k (spP X.K C T))(hr:ji k' X.A)(hg:Gl X x)(ha:DA C X (e::es) t)(hk:k≤k':=by decide)
    (hdb:(x == ("__debug__" : Str))=false:=by decide) (he:starEach (e::es) X.env=(false,eval e X.env)::starEach es X.env:=by rfl) (hpl:(backTo pos (starEach es X.env)).any (·.1)=false:=by rfl) :
    DP C X (.Call (.Name x p) (e::es) [] pos) (zhk T t):=peW (zi6 Df hr hg ha hk hdb he hpl) fun σ H Q ⟨S,env,P,h1,h2,h3⟩ =>
  ⟨S,env,_,h1,h2,fun ds hd vs H' e rv=>⟨S,ds,P,h1.dom.mono e,by rw [List.append_nil];exact rv,hd,h3.mono e⟩⟩
theorem xB(h1:DS C X st w)(h2:zj2 C X sts u):zj2 C X (st::sts) (fun P=>zmd w (u P)):=zjh (xq h1 h2) fun D0 σ H ⟨H0,S0,S,env,DD,P,h1,h2,h3,h4⟩ =>
  ⟨H0,S0,S,env,_,h1,h2,⟨fun env S σ H hx hs=>⟨H0,S0,S,env,DD,P,hs,hx,h3,h4⟩,h3.rt,h3.bk,h3.ct,h3.rf⟩⟩
theorem zcS(i:Nat)(h:zj2 C X sts u):zj2 C X sts (fun P=>zbZ i (u P)):=zjh h fun D0 σ H ⟨H0,S0,S,env,DD,P,h1,h2,h3,h4⟩=>by
  obtain⟨p,ds,z,h2⟩:=zaP (P:=fun _ ds=>u P DD (env.set i (some (.sh (.lst ds))))) h2
  exact⟨H0,S0,_,_,DD,P,h1.share z,h2,h3,h4⟩
theorem zf4{x1}(ha:DF C X a ta)(hb:DF C X b tb)(hs:starEach [a,b] X.env=(false,eval a X.env)::starEach [b] X.env:=by rfl)(hs2:starEach [b] X.env=(false,eval b X.env)::starEach [] X.env:=by rfl) :
    zj2 C X [.Return (some (.Tuple [a,b] x1 tp)) pos] (fun P _ env=>ta env fun as=>tb env fun bs=>P as bs) :=
  zjh (zbB (zcv (zhG (zbx ha (zbx hb zhE hs2) hs)))) fun D0 σ H ⟨H0,S0,S,env,DD,P,h1,h2,h3,h4⟩ =>
    ⟨S,env,_,h1.e,h2,fun as hP p xs H1 e1 hp l1 r1=>⟨S,env,_,h1.e.mono e1,hP,fun bs hP2 q ys H2 e2 hq l2 r2=>⟨by show 2≤sizeLine;decide,fun t ht=>by
      have hpq:p≠q:=fun z=>by rw [z] at l1;rw [hq] at l1;cases l1
      have hp2:H2 p=some (.lst xs):=e2 _ _ l1
      have tp:p≠t:=fun z=>by rw [z,ht] at hp2;cases hp2
      have tq:q≠t:=fun z=>by rw [z,ht] at l2;cases l2
      have sm:=same_new ht (.tup [.ref p,.ref q])
      have e12:=e1.trans (e2.trans sm)
      refine h4 as bs hP2 t p q xs ys _ (h1.same.trans e12) (Same.none h1.same (Same.none e1 (Same.none e2 ht))) (Same.none h1.same hp) (Same.none h1.same (Same.none e1 hq)) hpq qd (by rw [zu tp];exact hp2) (by rw [zu tq];exact l2) ?_ ?_
      · exact RepA.mono (zF (e2.trans sm)) _ _ (RepA.mono (x8 fun b hb=>.inl (h1.sub b hb)) _ _ r1)
      · exact RepA.mono (zF sm) _ _ (RepA.mono (x8 fun b hb=>.inl (h1.sub b hb)) _ _ r2)⟩⟩⟩
theorem SOk.dead{K:Frag}{H0 H:Hp}{S0 S:Addr→Prop}{σ:L2.St}{env:En}(h:SOk K C H0 S0 H S σ env)(i:Nat)(o:Option V):SOk K C H0 S0 H S (σ.set i o) (env.set i none):=by
  have g:∀ {j:Nat} {sv:SV},(env.set i none)[j]?=some (some sv)→i≠j∧env[j]?=some (some sv):=fun {j sv} z=>by
    rcases qK z with ⟨_,e,_⟩ | ⟨n,z⟩
    · cases e
    · exact⟨n,z⟩
  refine⟨⟨by rw [List.length_set,List.length_set];exact h.e.len,fun j sv z=>?_,fun j k p ds es h1 h2=>h.e.inj j k p ds es (g h1).2 (g h2).2,h.e.dom⟩,h.same,h.sub,h.hid,fun j p ds z=>h.own j p ds (g z).2,h.dom0⟩
  obtain⟨n,z⟩:=g z
  rw [List.getElem?_set_ne n]
  exact h.e.slot j sv z
def znd(i:Nat)(tp:DTP)(tt:DTT)(u:DTS)(ta:DTA)(w:DTS):DTS:=fun DD env=>i < env.length∧tp env fun as bs=>as.length < sizeLine∧tt (env.set i (some (.sh (.tup [.lst as,.lst bs])))) fun b =>
  if b=true then u { DD with nx:=fun _=>False } (env.set i (some (.sh (.tup [.lst as,.lst bs])))) else (ta (env.set i (some (.sh (.tup [.lst as,.lst bs])))) fun ds=>ds.length=1)∧w DD (env.set i none)
theorem zie{i:Nat}{x:Str}{pos' ipos:Pos}{st3 st4:Stmt}{tq:DTP}{tt:DTT}{u:DTS}(hN:X.N.Nodup)(hi:X.N[i]?=some x)(hx:Loc X.env.scope x)(he:DP C X e tq)(hc:DB C X c tt)(ha:DSs C X sts u)
    (happ:PS X st3 (zg5 (tBM X.K "list" zbC (tOp (zl6 X.K) (zfM i) (tC (.int 0))) (rA X.K C ta)))) (hclr:PS X st4 (zg5 (znE X.K "list" zhK (tOp (zl6 X.K) (zfM i) (tC (.int 1)))))) (hrest:DSs C X rest w)
    (hs:swapsWith e (some (.Name x pos')) pos.line X.env=pure false:=by rfl) (hf:X.fn x=true∨X.env.scope.names.lookup x=some .local:=by first | exact .inl rfl | exact .inr rfl | assumption) :
    DSs C X (.Assign [.Name x pos'] e pos :: .If c sts [] ipos::st3::st4::rest) (znd i tq tt u ta w) :=
  zjh (xq (zeT hN hi hx he hs hf) (xq (zls hc ha zeU) (xq happ (xq hclr hrest)))) fun D0 σ H ⟨H0,S0,S,env,DD,h1,⟨hlt,h2⟩,h3⟩=>by
    refine⟨S,env,_,h1.e,h2,fun as bs ⟨hz,hP⟩ t p q xs ys H1 e1 ht hp hq hpq l0 l1 l2 r1 r2=>?_⟩
    have rv:=zcr e1 h1.e.dom ht hp hq l0 l1 l2 r1 r2
    have k1:=(h1.mono e1).set rv i
    have hσ:(σ.set i (some (V.ref t)))[i]?=some (some (V.ref t)):=by rw [List.getElem?_set,if_pos rfl,if_pos (by rw [h1.e.len];exact hlt)]
    refine⟨S,_,_,k1.e,hP,fun d hd H2 e2=>?_⟩
    cases d with
    | true=>exact⟨H0,S0,S,_,{ DD with nx:=fun _=>False },k1.mono e2,hd,⟨fun _ _ _ _ z=>z.elim,h3.rt,h3.bk,h3.ct,h3.rf⟩⟩
    | false =>
      obtain⟨h4,h5⟩:=hd
      have m0:=e2 _ _ l0
      have m1:=e2 _ _ l1
      have m2:=e2 _ _ l2
      refine⟨_,hσ,t,_,0,V.ref p,rfl,rfl,SqT.of m0,rfl,.inl ⟨rfl,xs,SqL.of m1⟩,S,_,_,(k1.mono e2).e,h4,fun ds hds vs H3 e3 rvs=>?_⟩
      have hl:vs.length=1:=by rw [← zD rvs];exact hds
      match vs,hl with
      | [y],_ =>
        have o0:=e3 _ _ m0
        have o1:=e3 _ _ m1
        have o2:=e3 _ _ m2
        have tp:t≠p:=fun z=>by rw [z,l1] at l0;cases l0
        have tq:t≠q:=fun z=>by rw [z,l2] at l0;cases l0
        refine⟨p,xs,y,rfl,rfl,o1,by rw [← zD r1];exact hz,?_⟩
        refine⟨_,hσ,t,_,1,V.ref q,rfl,rfl,SqT.of (by rw [zu tp];exact o0),rfl,.inl ⟨rfl,ys,SqL.of (by rw [zu (Ne.symm hpq)];exact o2)⟩,q,ys,rfl,rfl,by rw [zu (Ne.symm hpq)];exact o2,?_⟩
        have sm:Same H (upd (upd H3 p (.lst (xs++[y]))) q (.lst [])):=fun b o z=>by
          have np:b≠p:=fun w=>by rw [w,hp] at z;cases z
          have nq:b≠q:=fun w=>by rw [w,hq] at z;cases z
          rw [zu nq,zu np]
          exact e3 _ _ (e2 _ _ (e1 _ _ z))
        exact⟨H0,S0,S,_,DD,(h1.mono sm).dead i _,h5,h3⟩
end
section
variable {P:Program}{w:World}{K:Frag}{mg:Str→Option Value}{base:Heap}{C:Addr}
theorem zmh{x qual:Str}{st:Stmt}{f:Addr}{fd:FuncData}{N ps:List Str}{k:Nat}{T:List D→(List D→List D→Prop)→Prop}(F:Fun K x qual st f fd)(Sc:FnScope N ps (zc st))(len:∀ ds Q,T ds Q→ds.length=ps.length)
    (hbody:∀ (cdv:Value) (A:Around) (outer:List Env) (s:Shared) (H:Hp) (E:XK),ji k (A.deeper (envOfC qual (zc st) s.heap.objs.size f cdv)) →
      ∃ t,zj2 C (zdI CX0 P w K mg base N qual (zc st) f cdv A outer s H E).nox (zm st) t∧∀ ds Q,T ds Q→t Q { nx:=fun _=>False,rt:=fun _=>False } (jz N ds)):qr P w K mg base CX0 (k+1) f fd ps (spP K C T):=by
  refine F.ok Sc (fun vs H Q E h=>?_) (fun cdv A outer s H vs Q E hr h=>?_)
  · obtain⟨S,ds,R,dm,r,hT,_⟩:=h
    rw [← zD r]
    exact len ds R hT
  · obtain⟨S,ds,R,dm,r,hT,kd⟩:=h
    obtain⟨t,h1,h2⟩:=hbody cdv A outer s H E hr
    refine⟨_,h1,H,S,S,jh N ds,{ nx:=fun _=>False,rt:=fun _=>False },R,km dm r,?_,⟨fun env S' σ H' hx hs=>hx.elim,fun d v H' hx e rv=>hx.elim,fun _ _ _ _ z=>z.elim,fun _ _ _ _ z=>z.elim,fun _ _ _ _ z=>z.elim⟩,kd⟩
    rw [← jA N ds (by rw [len ds R hT];exact FnScope.le Sc)]
    exact h2 ds R hT
end
theorem spD_of_P{K:Frag}{C:Addr}{T:List D→(List D→List D→Prop)→Prop}{vs:List V}{H:Hp}{Q:VK}{E:XK}(h:spD K C (fun ds R=>T ds fun as bs=>R (.tup [.lst as,.lst bs])) vs H Q E):spP K C T vs H Q E:=by
  obtain⟨S,ds,R,dm,r,hT,kd⟩:=h
  exact⟨S,ds,_,dm,r,hT,fun as bs hP t p q xs ys H' e ht hp hq _ l0 l1 l2 r1 r2=>kd _ hP _ H' e (zcr e dm ht hp hq l0 l1 l2 r1 r2)⟩
end L2.DL
namespace L2.DL
open PySem PySem.Spec PyProof.Rows PySem.W Sx
theorem zb7:∀ a b:List Int,PyData.eqvAll (pys (a.map D.int)) (pys (b.map D.int))=decide (a=b)
  | [],[]=>rfl
  | [],y::b=>by rw [decide_eq_false (by simp)];rfl
  | x::a,[]=>by rw [decide_eq_false (by simp)];rfl
  | x::a,y::b=>by
    have e:PyData.eqvAll (pys ((x::a).map D.int)) (pys ((y::b).map D.int))=((x == y) && PyData.eqvAll (pys (a.map D.int)) (pys (b.map D.int))):=rfl
    rw [e,zb7 a b,Bool.eq_iff_iff,Bool.and_eq_true,beq_iff_eq,decide_eq_true_eq,decide_eq_true_eq]
    simp
theorem zkC(a b:List Int):eqD (dG a) (dG b)=decide (a=b):=zb7 a b
theorem wM{l:List D}{i:Nat}{x:D}{R:D→Prop}(h:l[i]?=some x):rdIx (.lst l) (.int (i:Nat)) R=R x:=by
  unfold rdIx
  simp only [zdz h]
theorem kZ{l:List D}{x:D}{R:D→Prop}:rdIx (.lst (l++[x])) (.int (-1)) R=R x:=by
  unfold rdIx
  simp only [zfQ]
theorem zes{α:Type}(f:α→D){l:List α}{i:Nat}(d:α)(h:i < l.length):(l.map f)[i]?=some (f (l.getD i d)):=by
  rw [List.getElem?_map,List.getElem?_eq_getElem h,getD_at h]
  rfl
theorem yO{α:Type}{l:List α}{n:Nat}(d:α)(h:l.length=n+1):l=l.take n++[l.getD n d]:=by
  have h1:n < l.length:=by omega
  rw [getD_at h1,List.take_append_getElem,List.take_of_length_le (by omega)]
section
variable {T:TL}{m z:Nat}
theorem y3{i:Nat}{R:D→Prop}(h:i < T.length):rdIx (zad T) (.int (i:Nat)) R=R (yw (T.getD i [])):=wM (zes yw [] h)
theorem zcI{R:D→Prop}(h:T.length=m+1):rdIx (zad T) (.int (-1)) R=R (yw (T.getD m [])):=by
  have e:=yO [] h
  unfold zad
  conv=>lhs;rw [e]
  rw [List.map_append]
  exact kZ
theorem zcz{r:List Rat}{c:Nat}{R:D→Prop}(h:c < r.length):rdIx (yw r) (.int (c:Nat)) R=R (dQ (r.getD c 0)):=wM (zes dQ 0 h)
theorem zcA{r:List Rat}{n:Nat}{R:D→Prop}(h:r.length=n+1):rdIx (yw r) (.int (-1)) R=R (dQ (r.getD n 0)):=by
  have e:=yO 0 h
  unfold yw
  conv=>lhs;rw [e]
  rw [List.map_append]
  exact kZ
theorem zk6{h:List Nat}{i:Nat}{R:D→Prop}(hi:i < h.length):rdIx (dNs h) (.int (i:Nat)) R=R (.int ((h.getD i 0:Nat):Int)):=wM (zes (fun (x:Nat)=>D.int x) 0 hi)
theorem jW.row(ok:jW T m z){i:Nat}(hi:i≤m):(T.getD i []).length=z+m+1:=ok.wide.row (by omega)
theorem jW.ent(ok:jW T m z){i:Nat}(hi:i≤m)(j:Nat):Sz 150 (ent T i j):=by
  have hl:i < T.length:=by rw [ok.wide.1];omega
  unfold Sx.ent
  rw [getD_at hl]
  by_cases hj:j < (T[i]).length
  · rw [getD_at hj]
    exact ok.sz _ (List.getElem_mem hl) _ (List.getElem_mem hj)
  · rw [zb9 (by omega)]
    exact Sz.zero.mono (by decide)
theorem jW.rowSz(ok:jW T m z){i:Nat}(hi:i≤m):∀ q∈T.getD i [],Sz 150 q:=fun q hq=>by
  have hl:i < T.length:=by rw [ok.wide.1];omega
  rw [getD_at hl] at hq
  exact ok.sz _ (List.getElem_mem hl) _ hq
theorem zcB(n d:Nat):HT.sIx n d (some (-1))=n - 1:=by
  show (if (-1:Int) < 0 then ((-1:Int)+(n:Int)).toNat else min (-1:Int).toNat n)=n - 1
  rw [if_pos (by decide)]
  omega
theorem zh4{α:Type}(xs:List α):cut xs none (some (-1))=xs.take (xs.length - 1):=by
  unfold cut
  rw [HT.zgT,zcB]
  rfl
theorem zh5{α:Type}(xs:List α){a n:Nat}(h:xs.length=a+n+1):cut xs (some (a:Int)) (some (-1))=(xs.drop a).take n:=by
  unfold cut
  rw [HT.zjz,zcB,Nat.min_eq_left (by omega),show xs.length - 1 - a=n by omega]
theorem yL{α:Type}(f:α→D)(l:List α)(d:α):zav (l.map f)=(List.range l.length).map fun (i:Nat)=>D.tup [.int (i:Nat),f (l.getD i d)]:=by
  unfold zav
  apply List.ext_getElem?
  intro i
  rw [List.getElem?_map,List.getElem?_map,List.getElem?_zipIdx,List.getElem?_map]
  by_cases h:i < l.length
  · rw [List.getElem?_eq_getElem h,List.getElem?_range h]
    show some (D.tup [D.int ((0+i:Nat):Int),f l[i]])=some (D.tup [D.int ((i:Nat):Int),f (l.getD i d)])
    rw [getD_at h,Nat.zero_add]
  · rw [List.getElem?_eq_none (by omega),List.getElem?_eq_none (by rw [List.length_range];omega)]
    rfl
theorem zf6{r:List Rat}{n:Nat}(h:r.length=n+1):zav (cut (r.map dQ) none (some (-1)))=(List.range n).map fun (i:Nat)=>D.tup [.int (i:Nat),dQ (r.getD i 0)]:=by
  rw [zbg,zh4,yL dQ _ 0,List.length_take]
  have e:min (r.length - 1) r.length=n:=by omega
  rw [e]
  refine List.map_congr_left fun i hi=>?_
  have hi':=List.mem_range.mp hi
  have e2:(r.take (r.length - 1)).getD i 0=r.getD i 0:=by
    rw [List.getD_eq_getElem?_getD,List.getD_eq_getElem?_getD,List.getElem?_take,if_pos (by omega)]
  rw [e2]
theorem zbR{α β:Type}(f:α→D)(g:β→D):∀ (a:List α) (b:List β),zfH (a.map f) (b.map g)=(a.zip b).map fun p=>D.tup [f p.1,g p.2]
  | [],b=>by cases b <;> rfl
  | x::a,[]=>rfl
  | x::a,y::b=>by
    show D.tup [f x,g y]::zfH (a.map f) (b.map g)=_
    rw [zbR f g a b]
    rfl
theorem yJ{T:Tb}{m n:Nat}(h:zbX T m n=none)(hn:T m n < 0):∀ N,n < N→zbX T m N=some n
  | 0,hN=>by omega
  | N+1,hN=>by
    unfold zbX
    by_cases q:n=N
    · subst q
      rw [h]
      simp only [hn,if_true]
    · rw [yJ h hn N (by omega)]
theorem zh2{T:Tb}{m n:Nat}(h:zbX T m n=none)(hn:¬ T m n < 0):zbX T m (n+1)=none:=by
  unfold zbX
  rw [h]
  simp only [hn,if_false]
theorem ze9(ok:jW T m z){i c:Nat}(hi:i≤m)(h0:Sx.ent T i c≠0):Sz 3000 (Sx.room (Sx.ent T) (z+m) c i):=((ok.ent hi (z+m)).div (ok.ent hi c) h0).mono (by decide)
end
end L2.DL
namespace L2.DL
open PySem PySem.Spec PyProof.Rows PySem.W Sx
theorem zaU(m z:Nat)(s:RS):∀ n,Sx.run m z s (n+1)=Sx.run m z (Sx.next m z s) n
  | 0=>rfl
  | n+1=>by
    show Sx.next m z (Sx.run m z s (n+1))=Sx.next m z (Sx.run m z (Sx.next m z s) n)
    rw [zaU m z s n]
structure zm1(k:Nat)(ps:Cl)(ws:List Int)(gs:List (List Int)):Prop where
  perm:gs.Perm (zcU ps k)
  nd:gs.Nodup
  cov:∀ s:Nat,s < ws.length→∃ g∈gs,(s:Int)∈g
  len:gs.length≤64
theorem zmk{k:Nat}{ps:Cl}{ws:List Int}{gs0:List (List Int)}(hp:∀ p∈ps,p.1≠p.2)(k6:k≤6)(hl:ws.length=k)(perm:gs0.Perm (gsR ps k)):zm1 k ps ws (gs0.filter fun g=>!zbV ps k g):=by
  have hgs:(gs0.filter fun g=>!zbV ps k g).Perm (zcU ps k):=perm.filter _
  refine⟨hgs,hgs.nodup_iff.mpr ((kG ps k).filter _),fun s hs=>?_,?_⟩
  · obtain⟨o,ho,h⟩:=grows (single hp (k:=k) (s:=s) (by omega))
    exact⟨o,hgs.mem_iff.mpr ho,h _ (by simp)⟩
  · rw [hgs.length_eq]
    refine Nat.le_trans (List.length_filter_le _ _) (Nat.le_trans (wt ps k) ?_)
    exact Nat.pow_le_pow_right (by decide) k6
theorem zfa{ps:Cl}{ws:List Int}{gs:List (List Int)}{s:RS}(G:zm1 ws.length ps ws gs)(k6:ws.length≤6)(hw:∀ w∈ws,0≤w∧w≤2 ^ 80)(R:RSt (ent (t0 gs ws)) gs.length ws.length s):jW s.T gs.length ws.length:=by
  refine⟨R.wide,G.len,k6,fun r hr q hq=>?_⟩
  obtain⟨i,hi,rfl⟩:=List.mem_iff_getElem.mp hr
  obtain⟨j,hj,rfl⟩:=List.mem_iff_getElem.mp hq
  have e:ent s.T i j=(s.T[i])[j]:=by
    unfold Sx.ent
    rw [Sx.getD_at hi,Sx.getD_at hj]
  rw [← e]
  refine zfp R.st (Sx.start G.nd G.cov) k6 (fun j hj=>?_) (by have:=R.wide.1;omega) j
  have:=hw (ws.getD j 0) (by rw [Sx.getD_at hj];exact List.getElem_mem hj)
  omega
theorem zml(gs:List (List Int))(k:Nat):(List.range gs.length).map (fun (i:Nat)=>D.int ((k:Int)+(i:Nat)))=(Sx.h0 gs k).map fun (x:Nat)=>D.int x:=by
  unfold Sx.h0
  rw [List.map_map]
  refine List.map_congr_left fun i _=>?_
  show D.int ((k:Int)+(i:Nat))=D.int ((k+i:Nat):Int)
  rw [Int.natCast_add]
def x5:List D→(List D→List D→Prop)→Prop:=fun ds P=>∃ (k:Nat) (ps:Cl) (ws:List Int),ds=[.crs k ps,.lst (ws.map D.int)]∧1≤k∧k≤6∧(∀ p∈ps,p.1≠p.2)∧ws.length=k∧(∀ w∈ws,0≤w∧w≤2 ^ 80)∧∀ pl qs,zj0 k ps ws pl qs→P (pl.map dPh) (qs.map dQ)
theorem zdi{P:Program}{w:World}{K:Frag}{mg:Str→Option Value}{base:Heap}{k:Nat}{C f:Addr}{fd:FuncData}{ps:List Str}(F:qr P w K mg base CX0 k f fd ps (spP K C x5)):qr P w K mg base CX0 k f fd ps (spD K C yr) :=
  F.imp fun vs H Q E h=>spD_of_P (T:=x5) (by
    obtain⟨S,ds,R,dm,r,⟨k,qs,ws,e,k1,k6,hp,hl,hw,kk⟩,kd⟩:=h
    exact⟨S,ds,R,dm,r,⟨k,qs,ws,e,k1,k6,hp,hl,hw,fun pl q hB=>kk pl q hB⟩,kd⟩)
end L2.DL
namespace L2
open PySem PySem.Spec PyProof.Rows PySem.W
end L2
namespace L2.DL
open PySem PySem.Spec PyProof.Rows PySem.W
end L2.DL
namespace L2.DL
open PySem PySem.Spec PyProof.Rows PySem.W GS GM Sx
end L2.DL
namespace L2.DL
open PySem PySem.Spec PyProof.Rows PySem.W GS GM
def zkb(pl:Plan):Prop:=pl.length≤100∧SzL (zhB pl)
section
variable {k:Nat}{ps:Cl}{ws:List Int}{pl:Plan}{qs:List Rat}
theorem zj0.small(B:zj0 k ps ws pl qs):zkb pl:=by
  have hl:=B.few
  refine⟨by omega,200,fun q hq=>?_,?_⟩
  · obtain⟨ph,h1,rfl⟩:=List.mem_map.mp hq
    exact (B.grp ph h1).2.2
  · unfold zhB
    rw [List.length_map]
    have:=Nat.mul_le_mul_right (200+1) hl
    omega
end
theorem rdIx_y0{x y:D}{Q:D→Prop}:rdIx (.tup [x,y]) (.int 0) Q=Q x:=rfl
theorem ze3{x y:D}{Q:D→Prop}:rdIx (.tup [x,y]) (.int 1) Q=Q y:=rfl
end L2.DL
namespace L2.DL
open PySem PySem.Spec PyProof.Rows PySem.W GS GM
theorem zil{m:Nat}(hm:m≤6){g:List Int}(hg:g∈gsA m):g∈J.six:=by
  have key:∀ m∈List.range 7,∀ g∈gsA m,g∈J.six:=by decide +kernel
  exact key m (List.mem_range.mpr (by omega)) g hg
def znG(cl:Cl)(ph:List Int×Rat):Prop:=ph.1∈J.six∧zgm cl ph.1=true∧0 < ph.2∧Sz 200 ph.2
def zbN:TD:=fun ds Q=>∃ (pl:Plan) (cl:Cl),ds=[zf0 pl,.lst (cl.map dPr)]∧pl.length≤6∧(∀ ph∈pl,znG cl ph)∧Q (.bl true)
def zbM:TD:=fun ds Q=>∃ (qs:List Rat) (cl:Cl) (m:Nat),ds=[.lst (qs.map dQ),.lst (cl.map dPr),.int m]∧1≤m∧m≤6∧xX m cl∧qs.length=m∧(∀ q∈qs,0≤q∧Sz 200 q)∧(∀ g∈gsR (sd (cl.map rise)) m,jT (g.map fun s=>qs.getD s.toNat 0)≤1)∧Q (.bl true)
def yp:TD:=fun ds Q=>∃ (pl:Plan) (qs:List Rat) (cl:Cl) (ws:List Int) (m:Nat),ds=[.tup [zf0 pl,.lst (qs.map dQ)],.lst (cl.map dPr),.lst (ws.map D.int)]∧1≤m∧m≤6∧xX m cl∧ws.length=m∧Wis ws∧zj0 m (sd (cl.map rise)) ws pl qs∧Q (.bl true)
theorem ziP{q:Rat}(h:0 < q):1≤q.num:=by
  have:=(Rat.lt_iff 0 q).mp h
  simp at this
  omega
theorem zlM{qs:List Rat}(hl:qs.length≤6)(h:∀ q∈qs,Sz 200 q):SzL qs:=by
  refine⟨200,h,?_⟩
  have:=Nat.mul_le_mul_right (200+1) hl
  omega
theorem zci(q:Rat):Rat.divInt q.num (q.den:Int)=q:=by
  rw [Rat.divInt_ofNat]
  exact Rat.mkRat_self q
theorem ze2(l:List D)(i':Int)(R:D→Prop):rdIx (.tup l) (.int i') R=rdIx (.lst l) (.int i') R:=rfl
theorem zgh{g:List Int}(h:g≠[]):∃ i∈g,∀ R:D→Prop,rdIx (dG g) (.int 0) R=R (.int i):=by
  cases g with
  | nil=>exact absurd rfl h
  | cons a g=>exact⟨a,List.mem_cons_self,fun R=>(ze2 _ _ _).trans (wM (i:=0) (l:=(a::g).map D.int) rfl)⟩
theorem ziw{g:List Int}(h:g≠[]):∃ i∈g,∀ R:D→Prop,rdIx (dG g) (.int (-1)) R=R (.int i):=by
  refine⟨g.getLast h,List.getLast_mem h,fun R=>(ze2 _ _ _).trans ?_⟩
  have e:g.map D.int=(g.dropLast.map D.int)++[D.int (g.getLast h)]:=by
    conv=>lhs;rw [← List.dropLast_concat_getLast h]
    rw [List.map_append]
    rfl
  rw [e]
  exact kZ
end L2.DL
set_option exponentiation.threshold 10000
namespace K07
open PySem L2 L2.DL PyProof.Rows
open Builtin.Int (intBits)
def top(i:Nat):Stmt:=PySem.Challenge.pw_greenturns_k07_whole_the_shortest_round.main.body.getD i (.Pass ⟨0,0,0,0⟩)
abbrev zY:Stmt:=top 3
abbrev jK:Stmt:=top 4
abbrev vG:Stmt:=top 5
abbrev vH:Stmt:=top 6
abbrev yU:Stmt:=top 7
abbrev yS:Stmt:=top 8
abbrev vI:Stmt:=top 9
abbrev qu:Stmt:=top 17
abbrev yT:Stmt:=top 19
abbrev zS:Stmt:=top 20
abbrev zU:Stmt:=top 21
abbrev yV:Stmt:=top 22
abbrev zZ:Stmt:=top 23
abbrev qA:Stmt:=top 24
abbrev xF:Stmt:=top 25
abbrev xO:Stmt:=top 26
abbrev xx:Stmt:=top 27
abbrev xE:Stmt:=top 28
abbrev q8:Stmt:=top 29
abbrev qO:Stmt:=top 32
abbrev q5:Stmt:=top 33
abbrev qB:Stmt:=top 34
abbrev jL:Stmt:=top 35
abbrev zG:Stmt:=inClass (top 36) 0
abbrev qh:Stmt:=inClass (top 36) 1
abbrev zO:Stmt:=inClass (top 36) 3
abbrev zJ:Stmt:=inClass (top 36) 4
abbrev zN:Stmt:=inClass (top 36) 5
abbrev zW:Stmt:=inClass (top 36) 6
abbrev qt:Stmt:=top 38
abbrev xv:Stmt:=top 39
abbrev xw:Stmt:=top 40
abbrev xu:Stmt:=top 41
abbrev qY:Stmt:=top 42
abbrev qN:Stmt:=top 43
abbrev qi:Stmt:=top 44
abbrev qb:Stmt:=top 45
abbrev qZ:Stmt:=top 46
abbrev qM:Stmt:=top 47
abbrev qj:Stmt:=top 48
abbrev qX:Stmt:=top 49
abbrev z4:Stmt:=top 50
abbrev qp:Stmt:=top 51
abbrev zH:Stmt:=top 52
abbrev zM:Stmt:=top 53
abbrev z5:Stmt:=top 54
abbrev wN:Stmt:=top 55
structure Bi(mg:Str→Option Value):Prop where
  b_abs:mg "abs" = none
  b_all:mg "all" = none
  b_bool:mg "bool" = none
  b_enumerate:mg "enumerate" = none
  b_int:mg "int" = none
  b_isinstance:mg "isinstance" = none
  b_len:mg "len" = none
  b_list:mg "list" = none
  b_max:mg "max" = none
  b_min:mg "min" = none
  b_range:mg "range" = none
  b_set:mg "set" = none
  b_sorted:mg "sorted" = none
  b_tuple:mg "tuple" = none
  b_zip:mg "zip" = none
theorem zV:FnScope ["one", "other", "larger", "lesser", "rest"] ["one", "other"] (zc zY):=⟨rfl,rfl,rfl,by decide +kernel,rfl,by decide +kernel,by decide +kernel⟩
theorem yf:FnScope ["top", "bottom", "divisor"] ["top", "bottom"] (zc jK):=⟨rfl,rfl,rfl,by decide +kernel,rfl,by decide +kernel,by decide +kernel⟩
theorem zgU:FnScope ["one", "other"] ["one", "other"] (zc vG):=⟨rfl,rfl,rfl,by decide +kernel,rfl,by decide +kernel,by decide +kernel⟩
theorem zgV:FnScope ["one", "other"] ["one", "other"] (zc vH):=⟨rfl,rfl,rfl,by decide +kernel,rfl,by decide +kernel,by decide +kernel⟩
theorem zjC:FnScope ["one", "other"] ["one", "other"] (zc yU):=⟨rfl,rfl,rfl,by decide +kernel,rfl,by decide +kernel,by decide +kernel⟩
theorem zjA:FnScope ["one", "other"] ["one", "other"] (zc yS):=⟨rfl,rfl,rfl,by decide +kernel,rfl,by decide +kernel,by decide +kernel⟩
theorem zgW:FnScope ["number"] ["number"] (zc vI):=⟨rfl,rfl,rfl,by decide +kernel,rfl,by decide +kernel,by decide +kernel⟩
theorem jx:FnScope ["crossing", "wishes", "wish"] ["crossing", "wishes"] (zc qu):=⟨rfl,rfl,rfl,by decide +kernel,rfl,by decide +kernel,by decide +kernel⟩
theorem zjB:FnScope ["here"] ["here"] (zc yT):=⟨rfl,rfl,rfl,by decide +kernel,rfl,by decide +kernel,by decide +kernel⟩
theorem qw:FnScope ["groups", "wishes", "rows", "group", "streams", "rests", "costs"] ["groups", "wishes"] (zc zS):=⟨rfl,rfl,rfl,by decide +kernel,rfl,by decide +kernel,by decide +kernel⟩
theorem xQ:FnScope ["table", "column", "cost"] ["table"] (zc zU):=⟨rfl,rfl,rfl,by decide +kernel,rfl,by decide +kernel,by decide +kernel⟩
theorem zjD:FnScope ["row", "column"] ["row", "column"] (zc yV):=⟨rfl,rfl,rfl,by decide +kernel,rfl,by decide +kernel,by decide +kernel⟩
theorem qC:FnScope ["table", "held", "column", "best", "place"] ["table", "held", "column"] (zc zZ):=⟨rfl,rfl,rfl,by decide +kernel,rfl,by decide +kernel,by decide +kernel⟩
theorem xV:FnScope ["table", "held", "column", "place", "best", "here", "there"] ["table", "held", "column", "place", "best"] (zc qA):=⟨rfl,rfl,rfl,by decide +kernel,rfl,by decide +kernel,by decide +kernel⟩
theorem zdf:FnScope ["row", "factor", "taken"] ["row", "factor", "taken"] (zc xF):=⟨rfl,rfl,rfl,by decide +kernel,rfl,by decide +kernel,by decide +kernel⟩
theorem yg:FnScope ["table", "place", "column", "head", "rows"] ["table", "place", "column"] (zc xO):=⟨rfl,rfl,rfl,by decide +kernel,rfl,by decide +kernel,by decide +kernel⟩
theorem j4:FnScope ["table", "held", "size", "weights", "place", "column"] ["table", "held", "size"] (zc xx):=⟨rfl,rfl,rfl,by decide +kernel,rfl,by decide +kernel,by decide +kernel⟩
theorem yW:FnScope ["table", "groups", "size", "lengths"] ["table", "groups", "size"] (zc xE):=⟨rfl,rfl,rfl,by decide +kernel,rfl,by decide +kernel,by decide +kernel⟩
theorem qq:FnScope ["crossing", "wishes", "size", "groups", "table", "place", "held", "column"] ["crossing", "wishes"] (zc q8):=⟨rfl,rfl,rfl,by decide +kernel,rfl,by decide +kernel,by decide +kernel⟩
theorem wR:FnScope ["streams"] ["streams"] (zc qO):=⟨rfl,rfl,rfl,by decide +kernel,rfl,by decide +kernel,by decide +kernel⟩
theorem zaX:FnScope ["streams", "stream"] ["streams", "stream"] (zc q5):=⟨rfl,rfl,rfl,by decide +kernel,rfl,by decide +kernel,by decide +kernel⟩
theorem yG:FnScope ["streams", "pair"] ["streams", "pair"] (zc qB):=⟨rfl,rfl,rfl,by decide +kernel,rfl,by decide +kernel,by decide +kernel⟩
theorem zfd:FnScope ["pair"] ["pair"] (zc jL):=⟨rfl,rfl,rfl,by decide +kernel,rfl,by decide +kernel,by decide +kernel⟩
theorem xl:FnScope ["self", "streams", "clashes", "pair"] ["self", "streams", "clashes"] (zc zG):=⟨rfl,rfl,rfl,by decide +kernel,rfl,by decide +kernel,by decide +kernel⟩
theorem v5:FnScope ["self"] ["self"] (zc qh):=⟨rfl,rfl,rfl,by decide +kernel,rfl,by decide +kernel,by decide +kernel⟩
theorem qG:FnScope ["self", "group", "stream", "pair"] ["self", "group"] (zc zO):=⟨rfl,rfl,rfl,by decide +kernel,rfl,by decide +kernel,by decide +kernel⟩
theorem z7:FnScope ["self", "found", "stream", "grown"] ["self"] (zc zJ):=⟨rfl,rfl,rfl,by decide +kernel,rfl,by decide +kernel,by decide +kernel⟩
theorem xm:FnScope ["self", "group", "stream"] ["self", "group"] (zc zN):=⟨rfl,rfl,rfl,by decide +kernel,rfl,by decide +kernel,by decide +kernel⟩
theorem v3:FnScope ["self"] ["self"] (zc zW):=⟨rfl,rfl,rfl,by decide +kernel,rfl,by decide +kernel,by decide +kernel⟩
theorem yd:FnScope ["script", "k"] ["script", "k"] (zc qt):=⟨rfl,rfl,rfl,by decide +kernel,rfl,by decide +kernel,by decide +kernel⟩
theorem q9:FnScope ["top", "bottom", "one", "other", "rest"] ["top", "bottom"] (zc xv):=⟨rfl,rfl,rfl,by decide +kernel,rfl,by decide +kernel,by decide +kernel⟩
theorem zbH:FnScope ["one", "other"] ["one", "other"] (zc xw):=⟨rfl,rfl,rfl,by decide +kernel,rfl,by decide +kernel,by decide +kernel⟩
theorem jc:FnScope ["row", "whole_v", "number"] ["row"] (zc xu):=⟨rfl,rfl,rfl,by decide +kernel,rfl,by decide +kernel,by decide +kernel⟩
theorem zaW:FnScope ["one", "other"] ["one", "other"] (zc qY):=⟨rfl,rfl,rfl,by decide +kernel,rfl,by decide +kernel,by decide +kernel⟩
theorem wQ:FnScope ["found"] ["found"] (zc qN):=⟨rfl,rfl,rfl,by decide +kernel,rfl,by decide +kernel,by decide +kernel⟩
theorem v7:FnScope ["found", "due"] ["found", "due"] (zc qi):=⟨rfl,rfl,rfl,by decide +kernel,rfl,by decide +kernel,by decide +kernel⟩
theorem zA:FnScope ["script", "start", "streams", "cell", "turned_v", "pairs", "a", "b", "more", "twice"] ["script", "start", "streams"] (zc qb):=⟨rfl,rfl,rfl,by decide +kernel,rfl,by decide +kernel,by decide +kernel⟩
theorem qm:FnScope ["cell", "streams", "step", "first", "pairs", "k", "other"] ["cell", "streams"] (zc qZ):=⟨rfl,rfl,rfl,by decide +kernel,rfl,by decide +kernel,by decide +kernel⟩
theorem wO:FnScope ["clashes", "one", "other"] ["clashes", "one", "other"] (zc qM):=⟨rfl,rfl,rfl,by decide +kernel,rfl,by decide +kernel,by decide +kernel⟩
theorem xj:FnScope ["clashes", "group", "one", "other"] ["clashes", "group"] (zc qj):=⟨rfl,rfl,rfl,by decide +kernel,rfl,by decide +kernel,by decide +kernel⟩
theorem xP:FnScope ["number", "streams", "group", "stream"] ["number", "streams"] (zc qX):=⟨rfl,rfl,rfl,by decide +kernel,rfl,by decide +kernel,by decide +kernel⟩
theorem jU:FnScope ["clashes", "streams", "groups"] ["clashes", "streams"] (zc z4):=⟨rfl,rfl,rfl,by decide +kernel,rfl,by decide +kernel,by decide +kernel⟩
theorem jV:FnScope ["script", "start", "streams", "most"] ["script", "start", "streams"] (zc qp):=⟨rfl,rfl,rfl,by decide +kernel,rfl,by decide +kernel,by decide +kernel⟩
theorem xn:FnScope ["plan", "clashes", "phase"] ["plan", "clashes"] (zc zH):=⟨rfl,rfl,rfl,by decide +kernel,rfl,by decide +kernel,by decide +kernel⟩
theorem qJ:FnScope ["weights", "clashes", "streams", "weight", "group"] ["weights", "clashes", "streams"] (zc zM):=⟨rfl,rfl,rfl,by decide +kernel,rfl,by decide +kernel,by decide +kernel⟩
theorem qT:FnScope ["found", "clashes", "wishes", "stream", "phase", "whole_v", "weighed"] ["found", "clashes", "wishes"] (zc z5):=⟨rfl,rfl,rfl,by decide +kernel,rfl,by decide +kernel,by decide +kernel⟩
theorem ye:FnScope ["script", "streams", "clashes", "wishes", "crossing", "handed", "found"] ["script"] (zc wN):=⟨rfl,rfl,rfl,by decide +kernel,rfl,by decide +kernel,by decide +kernel⟩
local macro_rules
  | `(tactic| walk_at "rd")=>`(tactic| try simp only [zmd,zdK,zgK,zao,znd,zhk,zl1,zf1,zl2,dC,d1,d2,d2F,zhm,zh6,wb,zam,dOf,zf2,zm6,dOr,zne,zkf,znf,zkm,dIf,znk,zna,zm5,znj,znc,zkh,zm7,znb,zng,rdI,zgM,rdU,zmM,zmO,zmN,zbE,zlB,zlE,zni,zmc,zkp,zh8,zm8,zkl,zhl,zdJ,zh7,zkg,znh,zbZ,zfZ,zlZ,zan,zkq,zkk,zdN,znl,zdp,jz,znJ,zfY,znm,dSl,zkn,zdO,zdd,zjl,zjp,zjo,zeX,zbD,zeW,zit,zis,zir,ziq,zio,ziv,ziu,zjn,zjm,zlD,ze4,zdQ,zko,zf0,Bool.not_true,Bool.not_false,Int.ofNat_eq_natCast,decide_true,decide_false,Int.zero_add,zjt,zju,zjq,zm9,dDo,zb0,zhn,zdM,zbY,zaT,ze5,zkj,zki,ze0,ze1,zjr,zjs,List.set_cons_zero,List.set_cons_succ,List.getElem?_cons_zero,List.getElem?_cons_succ,List.map_cons,List.map_nil,List.cons_append,List.nil_append,Option.getD_some,Option.getD_none,List.length_cons,List.length_nil,ite_true,ite_false,if_true,if_false,Bool.false_eq_true])
section
variable {P:Program}{w:World}{K:PySem.W.Frag}{mg:Str→Option Value}{base:Heap}{f:Addr}{fd:FuncData}{C c_TurnError c_BadSize c_BadClash c_NoStream c_BadWish c_BadNote:Addr}
theorem vW (B:Bi mg) (CQ:CrK K C) (F:Fun K "size" "Crossing.size" qh f fd) :
    qr P w K mg base CX0 1 f fd ["self"] (spD K C zg9):=by
  refine xW F v5 (fun ds Q h=>by obtain⟨n,ps,rfl,k⟩:=h;rfl) (fun cdv A outer s H E hr=>⟨_,(zg (zt (xb CQ (za (pv 0))))),fun ds Q h=>?_⟩)
  obtain⟨n,ps,rfl,k⟩:=h
  walk_at "rd"
  exact k
theorem kR (B:Bi mg) (CQ:CrK K C) (d_Crossing_size:DnM P w K mg base C "size" ["self"] 1 (spD K C zg9)) (F:Fun K "check_wishes" "check_wishes" qu f fd) :
    qr P w K mg base CX0 2 f fd ["crossing", "wishes"] (spD K C jB):=by
  refine xW F jx (fun ds Q h=>by obtain⟨m,ps,ws,rfl,hl,hw,k⟩:=h;rfl) (fun cdv A outer s H E hr=>⟨_,(zf (qz (zP zc9 zj6 (zv zw jO rfl B.b_len PySem.boot_len (zb (za (pv 1)) zd)) (zdU CQ d_Crossing_size hr (za (pv 0))) (zI _)) (zg jD) zB)
        (zg (qy PassesOwn.never rfl (z9 (za (pv 1))) (z8 (i:=2) jx.nd rfl (Or.inl rfl)) (zg (qz (zP vZ zdr (za (pv 2)) ze (zI _)) (zg jD) zB))))),fun ds Q h=>?_⟩)
  obtain⟨m,ps,ws,rfl,hl,hw,k⟩:=h
  walk_at "rd"
  refine⟨m,ps,rfl,?_⟩
  rw [List.length_map,hl]
  refine j9 (fun c=>absurd c (by simp)) (fun _=>?_)
  refine⟨_,ws,D.int,fun pre env=>∃ r:Option SV,env=[some (.sh (.crs m ps)),some (.sh (.lst (ws.map D.int))),r],rfl,⟨_,rfl⟩,?_,?_⟩
  · rintro pre w post env e ⟨r,rfl⟩
    walk_at "rd"
    have h0:=hw w (by rw [e];simp)
    exact j9 (fun c=>absurd (of_decide_eq_true c) (by omega)) (fun _=>⟨_,rfl⟩)
  · rintro env ⟨r,rfl⟩
    exact k
theorem zgt (B:Bi mg) (F:Fun K "whole" "whole" vI f fd) :
    qr P w K mg base CX0 1 f fd ["number"] (spD K C zfx):=by
  refine xW F zgW (fun ds Q h=>by obtain⟨n,rfl,k⟩:=h;rfl) (fun cdv A outer s H E hr=>⟨_,(zg (zt (qD (zb (za (pv 0)) (zb ze zd))))),fun ds Q h=>?_⟩)
  obtain⟨n,rfl,k⟩:=h
  walk_at "rd"
  refine⟨by decide,?_⟩
  rw [zdP]
  exact k
theorem ziT (B:Bi mg) (g_NOUGHT:zdt K mg "NOUGHT" [0,1]) (g_ONE:zdt K mg "ONE" [1,1]) (F:Fun K "mark" "mark" yT f fd) :
    qr P w K mg base CX0 1 f fd ["here"] (spD K C zjO):=by
  refine xW F zjB (fun ds Q h=>by obtain⟨b,rfl,k⟩:=h;rfl) (fun cdv A outer s H E hr=>⟨_,(zg (zt (zme (zX (za (pv 0))) (x6 g_ONE rfl) (x6 g_NOUGHT rfl)))),fun ds Q h=>?_⟩)
  obtain⟨b,rfl,k⟩:=h
  walk_at "rd"
  cases b
  · exact k
  · exact k
theorem yF (B:Bi mg) (g_NOUGHT:zdt K mg "NOUGHT" [0,1]) (g_ONE:zdt K mg "ONE" [1,1]) (d_whole:Dn P w K mg base "whole" ["number"] 1 (spD K C zfx)) (d_mark:Dn P w K mg base "mark" ["here"] 1 (spD K C zjO)) (F:Fun K "first_table" "first_table" zS f fd) :
    qr P w K mg base CX0 2 f fd ["groups", "wishes"] (spD K C zfs):=by
  refine xW F qw (fun ds Q h=>by obtain⟨gs,ws,rfl,hg,hw,k⟩:=h;rfl) (fun cdv A outer s H E hr=>⟨_,(zf (kA (i:=2) qw.nd rfl (Or.inl rfl) (xY zd))
        (zf (qy PassesOwn.never rfl (z9 (za (pv 0))) (z8 (i:=3) qw.nd rfl (Or.inr rfl)) (zf (jX (i:=4) qw.nd rfl rfl (qQ (zc zS) ["groups", "wishes", "rows", "group", "streams", "rests", "costs"] ["stream", "group"] [3] rfl rfl (by decide +kernel) rfl rfl (by decide +kernel) (by decide +kernel) (by decide +kernel) rfl (by decide +kernel) rfl (by decide +kernel)) rfl (qe rfl B.b_range (zb (zv zw jO rfl B.b_len PySem.boot_len (zb (za (pv 1)) zd)) zd)) (fun _ _ _ _=>qc) (fun _ _ _ _=>(zE d_mark hr rfl (zb (je vo zl3 (za (pv 0)) (za (pv 1)) (by with_unfolding_all rfl)) zd))))
        (zf (jX (i:=5) qw.nd rfl rfl (qQ (zc zS) ["groups", "wishes", "rows", "group", "streams", "rests", "costs"] ["other", "group"] [3] rfl rfl (by decide +kernel) rfl rfl (by decide +kernel) (by decide +kernel) (by decide +kernel) rfl (by decide +kernel) rfl (by decide +kernel)) rfl (z9 (za (pv 0))) (fun _ _ _ _=>qc) (fun _ _ _ _=>(zE d_mark hr rfl (zb (je (zco hr.units) zgj (za (pv 0)) (za (pv 1)) (zI _)) zd))))
        (zg (xZ (ja (zbz PySem.F.plainAttrs_list PySem.F.slot_list_append PySem.F.type_list_append xD (pv 2) (zb (DE.of (kz (DE.of (kz (za (pv 4)) (za (pv 5)))) (DE.of (xY (zb (x6 g_ONE rfl) zd))))) zd))))))))
        (zf (jX (i:=6) qw.nd rfl rfl (qQ (zc zS) ["groups", "wishes", "rows", "group", "streams", "rests", "costs"] ["wish"] [] rfl rfl (by decide +kernel) rfl rfl (by decide +kernel) (by decide +kernel) (by decide +kernel) rfl (by decide +kernel) rfl (by decide +kernel)) rfl (z9 (za (pv 1))) (fun _ _ _ _=>qc) (fun _ _ _ _=>(zE d_whole hr rfl (zb (vd (za (pv 0))) zd))))
        (zf (xZ (ja (zbz PySem.F.plainAttrs_list PySem.F.slot_list_append PySem.F.type_list_append xD (pv 2) (zb (DE.of (kz (DE.of (kz (za (pv 6)) (DE.of (zhr (DE.of (xY (zb (x6 g_NOUGHT rfl) zd))) (zv zw jO rfl B.b_len PySem.boot_len (zb (za (pv 0)) zd)))))) (DE.of (xY (zb (x6 g_NOUGHT rfl) zd))))) zd))))
        (jo 2 (zg (zt (za (pv 2))))))))),fun ds Q h=>?_⟩)
  obtain⟨gs,ws,rfl,hg,hw,k⟩:=h
  have hz:(1000:Nat)≤sizeLine:=by decide
  walk_at "rd"
  refine⟨Nat.zero_le _,fun p0=>?_⟩
  refine⟨_,gs,dG,fun pre env=>∃ (p:Addr) (r3 r4 r5:Option SV),env=[some (.sh (.lst (gs.map dG))),some (.sh (.lst (ws.map D.int))),some (.ow p ((pre.map (Sx.zhL gs ws.length)).map yw)),r3,r4,r5,none],rfl,⟨p0,none,none,none,rfl⟩,?_,?_⟩
  · rintro pre g post env e ⟨p,r3,r4,r5,rfl⟩
    have hpl:pre.length≤64:=by have:=congrArg List.length e;rw [List.length_append] at this;omega
    walk_at "rd"
    show zan _ _ _
    walk_at "rd"
    rw [List.length_map]
    refine⟨by omega,by omega,Nat,List.range ws.length,fun i=>.int (0+(i:Nat)),fun (i:Nat)=>some (dQ (Sx.mk (decide ((i:Int)∈g)))),rfl,by rw [List.length_range];omega,fun i _=>?_,?_⟩
    · walk_at "rd"
      exact⟨_,rfl,rfl⟩
    rw [qF]
    show zfZ _ _ _
    walk_at "rd"
    refine⟨_,gs,dG,fun o=>some (dQ (Sx.mk (decide (o=g)))),rfl,by omega,fun o _=>?_,?_⟩
    · walk_at "rd"
      refine⟨zl4 _,zl4 _,?_⟩
      rw [zkC]
      exact⟨_,rfl,rfl⟩
    rw [qF]
    refine⟨by rw [List.length_map,List.length_map,List.length_range];omega,by omega,?_⟩
    refine⟨by rw [List.length_append,List.length_map,List.length_map,List.length_range];show _+1≤sizeLine;omega,by rw [List.length_map,List.length_map];omega,p,some (SV.sh (dG g)),some (SV.sh (D.lst ((List.range ws.length).map fun (i:Nat)=>dQ (Sx.mk (decide ((i:Int)∈g)))))),some (SV.sh (D.lst (gs.map fun o=>dQ (Sx.mk (decide (o=g)))))),?_⟩
    have hrow:D.lst ((List.range ws.length).map (fun (i:Nat)=>dQ (Sx.mk (decide ((i:Int)∈g))))++gs.map (fun o=>dQ (Sx.mk (decide (o=g))))++[dQ 1])=yw (Sx.zhL gs ws.length g):=by
      unfold yw Sx.zhL
      rw [List.map_append,List.map_append,List.map_map,List.map_map]
      rfl
    rw [hrow,List.map_append,List.map_append]
    rfl
  · rintro env ⟨p,r3,r4,r5,rfl⟩
    walk_at "rd"
    show zfZ _ _ _
    walk_at "rd"
    refine⟨_,ws,D.int,fun w=>some (dQ ((-w:Int):Rat)),rfl,by omega,fun w _=>⟨_,rfl,rfl⟩,?_⟩
    rw [qF,List.length_map]
    refine⟨by omega,⟨by omega,by omega,by show 1*_≤sizeLine;rw [Int.toNat_natCast];omega,?_⟩⟩
    have hr:(List.replicate ((gs.length:Int)).toNat [dQ 0]).flatten=(List.replicate gs.length (0:Rat)).map dQ:=by rw [Int.toNat_natCast,List.flatten_replicate_singleton,List.map_replicate]
    rw [hr]
    refine⟨by rw [List.length_map,List.length_map,List.length_replicate];omega,by omega,?_⟩
    refine⟨by rw [List.length_append,List.length_map,List.length_map,List.length_replicate];show _+1≤sizeLine;omega,by rw [List.length_map,List.length_map];omega,?_⟩
    have hrow:D.lst (ws.map (fun w=>dQ ((-w:Int):Rat))++(List.replicate gs.length (0:Rat)).map dQ++[dQ 0])=yw (Sx.zbd gs ws):=by
      unfold yw Sx.zbd
      rw [List.map_append,List.map_append,List.map_map]
      rfl
    rw [hrow]
    unfold zad Sx.t0 at k
    rw [List.map_append] at k
    exact k
theorem ziS (B:Bi mg) (F:Fun K "less" "less" yS f fd) :
    qr P w K mg base CX0 1 f fd ["one", "other"] (spD K C yH):=by
  refine xW F zjA (fun ds Q h=>by obtain⟨p,q,rfl,hp,hq,k⟩:=h;rfl) (fun cdv A outer s H E hr=>⟨_,(zg (zt (je vZ zdr (xg (zp (za (pv 0)) ze (fun _ _=>rfl)) (zp (za (pv 1)) ze (fun _ _=>rfl))) (xg (zp (za (pv 1)) ze (fun _ _=>rfl)) (zp (za (pv 0)) ze (fun _ _=>rfl))) (zI _)))),fun ds Q h=>?_⟩)
  obtain⟨p,q,rfl,hp,hq,k⟩:=h
  walk_at "rd"
  refine⟨zaG hp.top hq.bot,zaG hq.top hp.bot,?_⟩
  rw [lt_eq]
  exact k
theorem vn (B:Bi mg) (g_NOUGHT:zdt K mg "NOUGHT" [0,1]) (d_less:Dn P w K mg base "less" ["one", "other"] 1 (spD K C yH)) (F:Fun K "column_to_raise" "column_to_raise" zU f fd) :
    qr P w K mg base CX0 2 f fd ["table"] (spD K C zbK):=by
  refine xW F xQ (fun ds Q h=>by obtain⟨T,m,z,rfl,ok,k⟩:=h;rfl) (fun cdv A outer s H E hr=>⟨_,(zf (qy PassesOwn.never rfl (vO rfl B.b_enumerate (DE.of (ve (zp (za (pv 0)) (vd ze) (fun _ _=>rfl)) we (vB (vd ze))))) (zb4 (i:=1) (j:=2) rfl xQ.nd rfl (Or.inl rfl) rfl (Or.inl rfl)) (zg (qz (zX (zE d_less hr rfl (zb (za (pv 2)) (zb (x6 g_NOUGHT rfl) zd)))) (zg (zt (za (pv 1)))) zB)))
        (zg (zt zb1))),fun ds Q h=>?_⟩)
  obtain⟨T,m,z,rfl,ok,k⟩:=h
  have hz:(1000:Nat)≤sizeLine:=by decide
  have m64:=ok.m64
  have z6:=ok.z6
  walk_at "rd"
  show zfY _ _ _
  walk_at "rd"
  rw [zcI ok.wide.1]
  have hr:=ok.row (Nat.le_refl m)
  unfold yw
  refine⟨Nat,List.range (z+m),fun i=>.tup [.int (i:Nat),dQ (Sx.ent T m i)],fun pre env=>∃ r1 r2:Option SV,env=[some (.sh (zad T)),r1,r2]∧Sx.zbX (Sx.ent T) m pre.length=none,zf6 hr,⟨_,_,rfl,rfl⟩,?_,?_⟩
  · rintro pre i post env e ⟨r1,r2,rfl,hn⟩
    obtain⟨rfl,hi,_⟩:=qa e
    walk_at "rd"
    refine⟨_,_,rfl,(ok.ent (Nat.le_refl m) _).mono (by decide),Sz.zero.mono (by decide),?_⟩
    refine j9 (fun c=>?_) (fun c=>?_)
    · rw [yJ hn (of_decide_eq_true c) _ hi] at k
      exact k
    · refine⟨_,_,rfl,?_⟩
      rw [List.length_append,List.length_singleton]
      exact zh2 hn (of_decide_eq_false (Bool.eq_false_iff.mpr c))
  · rintro env ⟨r1,r2,rfl,hn⟩
    rw [List.length_range] at hn
    rw [hn] at k
    exact k
theorem vE (B:Bi mg) (F:Fun K "common_divisor" "common_divisor" zY f fd) :
    qr P w K mg base CX0 1 f fd ["one", "other"] (spD K C tCd):=by
  refine xW F zV (fun ds Q h=>by obtain⟨x0,y0,rfl,k⟩:=h;rfl) (fun cdv A outer s H E hr=>⟨_,(zf (zy (i:=2) zV.nd rfl (Or.inl rfl) (za (pv 0)))
        (zf (zy (i:=3) zV.nd rfl (Or.inl rfl) (za (pv 1)))
        (zf (wg PassesOwn.never (zP zeB zkP (za (pv 3)) ze (zI _)) (zf (zy (i:=4) zV.nd rfl (Or.inl rfl) (xk (za (pv 2)) (za (pv 3))))
        (zf (zy (i:=2) zV.nd rfl (Or.inl rfl) (za (pv 3)))
        (zg (zy (i:=3) zV.nd rfl (Or.inl rfl) (za (pv 4)))))))
        (zg (zt (za (pv 2))))))),fun ds Q h=>?_⟩)
  obtain⟨x0,y0,rfl,k⟩:=h
  walk_at "rd"
  refine⟨fun m env=>∃ (x y:Nat) (r:Option SV),env=[some (.sh (.int x0)),some (.sh (.int y0)),some (.sh (.int x)),some (.sh (.int y)),r]∧Nat.gcd x y=Nat.gcd x0 y0∧m=y,⟨y0,x0,y0,none,rfl,rfl,rfl⟩,?_⟩
  rintro m env ⟨x,y,r,rfl,g,rfl⟩
  walk_at "rd"
  refine j9 (fun c=>?_) (fun c=>?_)
  · have c':(0:Int) < (m:Int):=of_decide_eq_true c
    walk_at "rd"
    refine⟨c',x % m,Nat.mod_lt _ (by omega),m,x % m,_,rfl,zb8.trans g,rfl⟩
  · have c':¬ (0:Int) < (m:Int):=of_decide_eq_false (Bool.eq_false_iff.mpr c)
    obtain rfl:m=0:=by omega
    rw [Nat.gcd_zero_right] at g
    walk_at "rd"
    rw [g]
    exact k
theorem zey (B:Bi mg) (d_common_divisor:Dn P w K mg base "common_divisor" ["one", "other"] 1 (spD K C tCd)) (F:Fun K "lowest" "lowest" jK f fd) :
    qr P w K mg base CX0 2 f fd ["top", "bottom"] (spD K C yq):=by
  refine xW F yf (fun ds Q h=>by obtain⟨t,b,rfl,hb,hz,k⟩:=h;rfl) (fun cdv A outer s H E hr=>⟨_,(zf (zy (i:=2) yf.nd rfl (Or.inl rfl) (zE d_common_divisor hr rfl (zb (zv y7 ziy rfl B.b_abs boot_abs (zb (za (pv 0)) zd)) (zb (zv y7 ziy rfl B.b_abs boot_abs (zb (za (pv 1)) zd)) zd))))
        (zf (qz (zP vZ zdr (za (pv 1)) ze (zI _)) (zg (zy (i:=2) yf.nd rfl (Or.inl rfl) (vd (za (pv 2))))) zB)
        (zg (zt (qD (zb (wd (za (pv 0)) (za (pv 2))) (zb (wd (za (pv 1)) (za (pv 2))) zd))))))),fun ds Q h=>?_⟩)
  obtain⟨t,b,rfl,hb,hz,k⟩:=h
  have eg:Nat.gcd t.natAbs b.natAbs=Int.gcd t b:=rfl
  have hg:0 < Int.gcd t b:=Int.gcd_pos_of_ne_zero_right _ hb
  have hgz:intBits (Int.gcd t b:Int)≤8000:=by
    refine intBits_le_of_natAbs ?_ hz
    rw [Int.natAbs_natCast]
    exact Nat.gcd_le_right _ (by omega)
  walk_at "rd"
  refine⟨_,_,rfl,?_⟩
  rw [eg]
  refine j9 (fun c=>?_) (fun c=>?_)
  · have c':b < 0:=of_decide_eq_true c
    obtain⟨e1,e2⟩:=ziG (t:=t) c'
    refine⟨⟨by omega,intBits_neg_le hgz⟩,⟨by omega,intBits_neg_le hgz⟩,by decide,?_⟩
    rw [e1,e2]
    exact k
  · have c':¬ b < 0:=of_decide_eq_false (Bool.eq_false_iff.mpr c)
    obtain⟨e1,e2⟩:=zeq (t:=t) (b:=b) (by omega)
    refine⟨⟨by omega,hgz⟩,⟨by omega,hgz⟩,by decide,?_⟩
    rw [e1,e2]
    exact k
theorem ziU (B:Bi mg) (d_lowest:Dn P w K mg base "lowest" ["top", "bottom"] 2 (spD K C yq)) (F:Fun K "over" "over" yU f fd) :
    qr P w K mg base CX0 3 f fd ["one", "other"] (spD K C zg8):=by
  refine xW F zjC (fun ds Q h=>by obtain⟨p,q,rfl,hp,hq,hn,k⟩:=h;rfl) (fun cdv A outer s H E hr=>⟨_,(zg (zt (zE d_lowest hr rfl (zb (xg (zp (za (pv 0)) ze (fun _ _=>rfl)) (zp (za (pv 1)) ze (fun _ _=>rfl))) (zb (xg (zp (za (pv 0)) ze (fun _ _=>rfl)) (zp (za (pv 1)) ze (fun _ _=>rfl))) zd))))),fun ds Q h=>?_⟩)
  obtain⟨p,q,rfl,hp,hq,hn,k⟩:=h
  walk_at "rd"
  refine⟨zaG hp.top hq.bot,zaG hp.bot hq.top,_,_,rfl,Int.mul_ne_zero (zhp p) (fun z=>hn (Rat.num_eq_zero.mp z)),Nat.le_trans (intBits_mul_le hp.bot hq.top) (by decide),?_⟩
  rw [div_eq p q hn]
  exact k
theorem ziV (B:Bi mg) (d_over:Dn P w K mg base "over" ["one", "other"] 3 (spD K C zg8)) (F:Fun K "room" "room" yV f fd) :
    qr P w K mg base CX0 4 f fd ["row", "column"] (spD K C zjR):=by
  refine xW F zjD (fun ds Q h=>by obtain⟨T,m,z,i,c,rfl,ok,hi,hc,h0,k⟩:=h;rfl) (fun cdv A outer s H E hr=>⟨_,(zg (zt (zE d_over hr rfl (zb (zp (za (pv 0)) (vd ze) (fun _ _=>rfl)) (zb (zp (za (pv 0)) (za (pv 1)) (fun _ _=>rfl)) zd))))),fun ds Q h=>?_⟩)
  obtain⟨T,m,z,i,c,rfl,ok,hi,hc,h0,k⟩:=h
  have hr:=ok.row hi
  walk_at "rd"
  rw [zcA (n:=z+m) hr,zcz (by omega)]
  exact⟨_,_,rfl,(ok.ent hi _).mono (by decide),(ok.ent hi _).mono (by decide),h0,k⟩
theorem yD (B:Bi mg) (d_less:Dn P w K mg base "less" ["one", "other"] 1 (spD K C yH)) (d_room:Dn P w K mg base "room" ["row", "column"] 4 (spD K C zjR)) (F:Fun K "binds_ahead" "binds_ahead" qA f fd) :
    qr P w K mg base CX0 5 f fd ["table", "held", "column", "place", "best"] (spD K C zfq):=by
  refine xW F xV (fun ds Q h=>by obtain⟨T,h,m,z,c,i,kk,rfl,ok,hl,hi,hk,hc,hi0,hk0,k⟩:=h;rfl) (fun cdv A outer s H E hr=>⟨_,(zf (zy (i:=5) xV.nd rfl (Or.inl rfl) (zE d_room hr rfl (zb (zp (za (pv 0)) (za (pv 3)) (fun _ _=>rfl)) (zb (za (pv 2)) zd))))
        (zf (zy (i:=6) xV.nd rfl (Or.inl rfl) (zE d_room hr rfl (zb (zp (za (pv 0)) (za (pv 4)) (fun _ _=>rfl)) (zb (za (pv 2)) zd))))
        (zg (zt (zkv (zE d_less hr rfl (zb (za (pv 5)) (zb (za (pv 6)) zd))) (zaq (zdR (je (zco hr.units) zgj (za (pv 5)) (za (pv 6)) (zI _)) (zaq (je vZ zdr (zp (za (pv 1)) (za (pv 3)) (fun _ _=>rfl)) (zp (za (pv 1)) (za (pv 4)) (fun _ _=>rfl)) (zI _)))))))))),fun ds Q h=>?_⟩)
  obtain⟨T,h,m,z,c,i,kk,rfl,ok,hl,hi,hk,hc,hi0,hk0,k⟩:=h
  have hTl:=ok.wide.1
  walk_at "rd"
  rw [y3 (by omega)]
  refine⟨T,m,z,i,c,rfl,ok,by omega,hc,hi0,?_⟩
  show rdIx (zad T) (D.int (kk:Nat)) _
  rw [y3 (by omega)]
  refine⟨T,m,z,kk,c,rfl,ok,by omega,hc,hk0,?_⟩
  refine⟨_,_,rfl,ze9 ok (by omega) hi0,ze9 ok (by omega) hk0,?_⟩
  unfold Sx.ahead at k
  by_cases c1:Sx.room (Sx.ent T) (z+m) c i < Sx.room (Sx.ent T) (z+m) c kk
  · rw [decide_eq_true c1,Bool.true_or] at k
    simp only [decide_eq_true c1]
    exact k
  · rw [decide_eq_false c1,Bool.false_or] at k
    simp only [decide_eq_false c1]
    refine⟨ziR _,ziR _,?_⟩
    rw [zkD]
    by_cases c2:Sx.room (Sx.ent T) (z+m) c i=Sx.room (Sx.ent T) (z+m) c kk
    · rw [decide_eq_true c2,Bool.true_and] at k
      simp only [decide_eq_true c2]
      rw [zk6 (by omega),zk6 (by omega)]
      show Q (.bl (decide (((h.getD i 0:Nat):Int) < ((h.getD kk 0:Nat):Int))))
      rw [decide_eq_decide.mpr (Int.ofNat_lt (n:=h.getD i 0) (m:=h.getD kk 0))]
      exact k
    · rw [decide_eq_false c2,Bool.false_and] at k
      simp only [decide_eq_false c2]
      exact k
theorem vF (B:Bi mg) (g_NOUGHT:zdt K mg "NOUGHT" [0,1]) (d_less:Dn P w K mg base "less" ["one", "other"] 1 (spD K C yH)) (d_binds_ahead:Dn P w K mg base "binds_ahead" ["table", "held", "column", "place", "best"] 5 (spD K C zfq)) (F:Fun K "row_that_binds" "row_that_binds" zZ f fd) :
    qr P w K mg base CX0 6 f fd ["table", "held", "column"] (spD K C zjS):=by
  refine xW F qC (fun ds Q h=>by obtain⟨T,h,m,z,c,rfl,ok,hl,hc,k⟩:=h;rfl) (fun cdv A outer s H E hr=>⟨_,(zf (zy (i:=3) qC.nd rfl (Or.inl rfl) zb1)
        (zf (qy PassesOwn.never rfl (qe rfl B.b_range (zb (zv zw jO rfl B.b_len PySem.boot_len (zb (za (pv 1)) zd)) zd)) (z8 (i:=4) qC.nd rfl (Or.inl rfl)) (zg (qz (zX (zE d_less hr rfl (zb (x6 g_NOUGHT rfl) (zb (zp (zp (za (pv 0)) (za (pv 4)) (fun _ _=>rfl)) (za (pv 2)) (fun _ _=>rfl)) zd)))) (zg (qz (DW.db (jq (zP zla znU (za (pv 3)) zb1 (zI _)) (jf (zX (zE d_binds_ahead hr rfl (zb (za (pv 0)) (zb (za (pv 1)) (zb (za (pv 2)) (zb (za (pv 4)) (zb (za (pv 3)) zd)))))))))) (zg (zy (i:=3) qC.nd rfl (Or.inl rfl) (za (pv 4)))) zB)) zB)))
        (zg (zt (za (pv 3)))))),fun ds Q h=>?_⟩)
  obtain⟨T,h,m,z,c,rfl,ok,hl,hc,k⟩:=h
  have hz:(1000:Nat)≤sizeLine:=by decide
  have m64:=ok.m64
  have z6:=ok.z6
  have hTl:=ok.wide.1
  walk_at "rd"
  show zan _ _ _
  walk_at "rd"
  show _≤(((h.map fun (x:Nat)=>D.int x).length:Nat):Int)∧_
  rw [List.length_map,hl]
  refine⟨by omega,by omega,Nat,List.range m,fun i=>.int (0+(i:Nat)),fun pre env=>∃ r:Option SV,env=[some (.sh (zad T)),some (.sh (dNs h)),some (.sh (.int c)),some (.sh (zl0 (Sx.zbF (Sx.ent T) (z+m) (fun i=>h.getD i 0) c pre.length))),r],rfl,⟨_,rfl⟩,?_,?_⟩
  · rintro pre i post env e ⟨r,rfl⟩
    obtain⟨rfl,hi,_⟩:=qa e
    have hr:=ok.row (i:=pre.length) (by omega)
    walk_at "rd"
    rw [y3 (by omega),zcz (by omega)]
    refine⟨_,_,rfl,Sz.zero.mono (by decide),(ok.ent (i:=pre.length) (by omega) c).mono (by decide),?_⟩
    rw [List.length_append,List.length_singleton]
    have st:Sx.zbF (Sx.ent T) (z+m) (fun i=>h.getD i 0) c (pre.length+1)=if 0 < Sx.ent T pre.length c then (match Sx.zbF (Sx.ent T) (z+m) (fun i=>h.getD i 0) c pre.length with
        | none=>some pre.length
        | some k=>if Sx.ahead (Sx.ent T) (z+m) (fun i=>h.getD i 0) c pre.length k=true then some pre.length else some k) else Sx.zbF (Sx.ent T) (z+m) (fun i=>h.getD i 0) c pre.length:=rfl
    cases hb:Sx.zbF (Sx.ent T) (z+m) (fun i=>h.getD i 0) c pre.length with
    | none =>
      rw [hb] at st
      refine j9 (fun c1=>?_) (fun c1=>?_)
      · rw [if_pos (show 0 < Sx.ent T pre.length c from of_decide_eq_true c1)] at st
        refine zmr ⟨some (.sh (.int pre.length)),?_⟩
        rw [st]
        rfl
      · rw [if_neg (show ¬ 0 < Sx.ent T pre.length c from of_decide_eq_false (Bool.eq_false_iff.mpr c1))] at st
        refine⟨some (.sh (.int pre.length)),?_⟩
        rw [st]
    | some b =>
      rw [hb] at st
      obtain⟨b1,b2,_⟩:=Sx.vv hb
      refine j9 (fun c1=>?_) (fun c1=>?_)
      · have h0:0 < Sx.ent T pre.length c:=of_decide_eq_true c1
        rw [if_pos h0] at st
        refine iteF ⟨T,h,m,z,c,pre.length,b,rfl,ok,hl,hi,by omega,hc,fun e=>by rw [e] at h0;exact absurd h0 (by decide),fun e=>by rw [e] at b2;exact absurd b2 (by decide),?_⟩
        refine j9 (fun c2=>?_) (fun c2=>?_)
        · simp only [c2,if_true] at st
          refine⟨some (.sh (.int pre.length)),?_⟩
          rw [st]
          rfl
        · have st2:Sx.zbF (Sx.ent T) (z+m) (fun i=>h.getD i 0) c (pre.length+1)=if Sx.ahead (Sx.ent T) (z+m) (fun i=>h.getD i 0) c pre.length b=true then some pre.length else some b:=st
          rw [if_neg c2] at st2
          refine⟨some (.sh (.int pre.length)),?_⟩
          rw [st2]
      · rw [if_neg (show ¬ 0 < Sx.ent T pre.length c from of_decide_eq_false (Bool.eq_false_iff.mpr c1))] at st
        refine⟨some (.sh (.int pre.length)),?_⟩
        rw [st]
  · rintro env ⟨r,rfl⟩
    rw [List.length_range]
    exact k
theorem zgr (B:Bi mg) (d_lowest:Dn P w K mg base "lowest" ["top", "bottom"] 2 (spD K C yq)) (F:Fun K "minus" "minus" vG f fd) :
    qr P w K mg base CX0 3 f fd ["one", "other"] (spD K C zfu):=by
  refine xW F zgU (fun ds Q h=>by obtain⟨p,q,rfl,hp,hq,k⟩:=h;rfl) (fun cdv A outer s H E hr=>⟨_,(zg (zt (zE d_lowest hr rfl (zb (zdV (xg (zp (za (pv 0)) ze (fun _ _=>rfl)) (zp (za (pv 1)) ze (fun _ _=>rfl))) (xg (zp (za (pv 1)) ze (fun _ _=>rfl)) (zp (za (pv 0)) ze (fun _ _=>rfl)))) (zb (xg (zp (za (pv 0)) ze (fun _ _=>rfl)) (zp (za (pv 1)) ze (fun _ _=>rfl))) zd))))),fun ds Q h=>?_⟩)
  obtain⟨p,q,rfl,hp,hq,k⟩:=h
  walk_at "rd"
  refine⟨zaG hp.top hq.bot,zaG hq.top hp.bot,zaG hp.bot hq.bot,_,_,rfl,Int.mul_ne_zero (zhp p) (zhp q),Nat.le_trans (intBits_mul_le hp.bot hq.bot) (by decide),?_⟩
  rw [sub_eq]
  exact k
theorem zgs (B:Bi mg) (d_lowest:Dn P w K mg base "lowest" ["top", "bottom"] 2 (spD K C yq)) (F:Fun K "times" "times" vH f fd) :
    qr P w K mg base CX0 3 f fd ["one", "other"] (spD K C zfw):=by
  refine xW F zgV (fun ds Q h=>by obtain⟨p,q,rfl,hp,hq,k⟩:=h;rfl) (fun cdv A outer s H E hr=>⟨_,(zg (zt (zE d_lowest hr rfl (zb (xg (zp (za (pv 0)) ze (fun _ _=>rfl)) (zp (za (pv 1)) ze (fun _ _=>rfl))) (zb (xg (zp (za (pv 0)) ze (fun _ _=>rfl)) (zp (za (pv 1)) ze (fun _ _=>rfl))) zd))))),fun ds Q h=>?_⟩)
  obtain⟨p,q,rfl,hp,hq,k⟩:=h
  walk_at "rd"
  refine⟨zaG hp.top hq.top,zaG hp.bot hq.bot,_,_,rfl,Int.mul_ne_zero (zhp p) (zhp q),Nat.le_trans (intBits_mul_le hp.bot hq.bot) (by decide),?_⟩
  rw [mul_eq]
  exact k
theorem zc8 (B:Bi mg) (d_minus:Dn P w K mg base "minus" ["one", "other"] 3 (spD K C zfu)) (d_times:Dn P w K mg base "times" ["one", "other"] 3 (spD K C zfw)) (F:Fun K "without" "without" xF f fd) :
    qr P w K mg base CX0 4 f fd ["row", "factor", "taken"] (spD K C zaa):=by
  refine xW F zdf (fun ds Q h=>by obtain⟨row,head,fa,rfl,hl,h1,h2,h3,k⟩:=h;rfl) (fun cdv A outer s H E hr=>⟨_,(zg (zt (DE.of (zb2 (compSc2 (zc xF) ["row", "factor", "taken"] ["part", "other", "factor"] [1] rfl rfl (by decide +kernel) rfl rfl rfl (by decide +kernel) (by decide +kernel) (by decide +kernel) rfl (by decide +kernel) rfl rfl (by decide +kernel)) rfl (zhs rfl B.b_zip (za (pv 0)) (za (pv 2))) (fun _ _ _ _=>qc) (fun _ _ _ _=>(zE d_minus hr rfl (zb (za (pv 0)) (zb (zE d_times hr rfl (zb (za (pv 2)) (zb (za (pv 1)) zd))) zd)))))))),fun ds Q h=>?_⟩)
  obtain⟨row,head,fa,rfl,hl,h1,h2,h3,k⟩:=h
  have hz:(1000:Nat)≤sizeLine:=by decide
  walk_at "rd"
  refine⟨_,row.zip head,fun p=>dQ p.1,fun p=>dQ p.2,fun p=>some (dQ (p.1 - fa*p.2)),zbR dQ dQ row head,by rw [List.length_zip];omega,fun p hp=>?_,?_⟩
  · obtain⟨hp1,hp2⟩:=List.of_mem_zip (a:=p.1) (b:=p.2) hp
    exact⟨fa,p.2,rfl,h3.mono (by decide),(h2 _ hp2).mono (by decide),p.1,_,rfl,(h1 _ hp1).mono (by decide),(h3.mul (h2 _ hp2)).mono (by decide),rfl⟩
  · rw [qF]
    have e:(row.zip head).map (fun p=>dQ (p.1 - fa*p.2))=(List.zipWith (fun a b=>a - fa*b) row head).map dQ:=by
      rw [List.zip,List.map_zipWith,List.map_zipWith]
    rw [e]
    exact k
theorem zeA (B:Bi mg) (d_over:Dn P w K mg base "over" ["one", "other"] 3 (spD K C zg8)) (d_without:Dn P w K mg base "without" ["row", "factor", "taken"] 4 (spD K C zaa)) (F:Fun K "turned" "turned" xO f fd) :
    qr P w K mg base CX0 5 f fd ["table", "place", "column"] (spD K C zbQ):=by
  refine xW F yg (fun ds Q h=>by obtain⟨T,m,z,p,c,rfl,ok,hp,hc,h0,k⟩:=h;rfl) (fun cdv A outer s H E hr=>⟨_,(zf (zy (i:=3) yg.nd rfl (Or.inr rfl) (DE.of (xT (qQ (zc xO) ["table", "place", "column", "head", "rows"] ["part", "table", "place", "column"] [0,1,2] rfl rfl (by decide +kernel) rfl rfl (by decide +kernel) (by decide +kernel) (by decide +kernel) rfl (by decide +kernel) rfl (by decide +kernel)) rfl (z9 (zp (za (pv 0)) (za (pv 1)) (fun _ _=>rfl))) (fun _ _ _ _=>qc) (fun _ _ _ _=>(zE d_over hr rfl (zb (za (pv 0)) (zb (zp (zp (za (pv 1)) (za (pv 2)) (fun _ _=>rfl)) (za (pv 3)) (fun _ _=>rfl)) zd)))))))
        (zf (zb6 (i:=4) yg.nd rfl rfl (qQ (zc xO) ["table", "place", "column", "head", "rows"] ["row", "column", "head"] [2,3] rfl rfl (by decide +kernel) rfl rfl (by decide +kernel) (by decide +kernel) (by decide +kernel) rfl (by decide +kernel) rfl (by decide +kernel)) rfl (z9 (za (pv 0))) (fun _ _ _ _=>qc) (fun _ _ _ _=>(zE d_without hr rfl (zb (za (pv 0)) (zb (zp (za (pv 0)) (za (pv 1)) (fun _ _=>rfl)) (zb (za (pv 2)) zd))))))
        (zf (zd1 (zeR (za (pv 3)) (zeI (pv 4) (za (pv 1)) set_list)))
        (jo 4 (zg (zt (za (pv 4)))))))),fun ds Q h=>?_⟩)
  obtain⟨T,m,z,p,c,rfl,ok,hp,hc,h0,k⟩:=h
  have hz:(1000:Nat)≤sizeLine:=by decide
  have m64:=ok.m64
  have z6:=ok.z6
  have hTl:=ok.wide.1
  have hr:=ok.row (i:=p) (by omega)
  walk_at "rd"
  show zfZ _ _ _
  walk_at "rd"
  rw [y3 (by omega)]
  refine⟨_,T.getD p [],dQ,fun q=>some (dQ (q / Sx.ent T p c)),rfl,by omega,fun q hq=>?_,?_⟩
  · walk_at "rd"
    rw [y3 (by omega),zcz (by omega)]
    exact⟨_,_,rfl,(ok.rowSz (by omega) q hq).mono (by decide),(ok.ent (i:=p) (by omega) c).mono (by decide),h0,rfl⟩
  rw [qF]
  have hh:D.lst ((T.getD p []).map fun q=>dQ (q / Sx.ent T p c))=yw (Sx.xU T p c):=by
    unfold yw Sx.xU
    rw [List.map_map]
    rfl
  simp only [hh]
  show zfZ _ _ _
  walk_at "rd"
  refine⟨_,T,yw,fun row=>some (yw (Sx.zhf row (Sx.xU T p c) c)),rfl,by omega,fun row hrow=>?_,?_⟩
  · walk_at "rd"
    have hrl:=ok.wide.2 row hrow
    rw [zcz (by omega)]
    have hsz:∀ j,Sz 150 (row.getD j 0):=fun j=>by
      by_cases hj:j < row.length
      · rw [Sx.getD_at hj]
        exact ok.sz row hrow _ (List.getElem_mem hj)
      · rw [Sx.zb9 (by omega)]
        exact Sz.zero.mono (by decide)
    refine⟨row,Sx.xU T p c,row.getD c 0,rfl,by omega,fun q hq=>ok.sz row hrow q hq,fun q hq=>?_,hsz c,rfl⟩
    unfold Sx.xU at hq
    obtain⟨q',hq',rfl⟩:=List.mem_map.mp hq
    exact ((ok.rowSz (i:=p) (by omega) q' hq').div (ok.ent (i:=p) (by omega) c) h0).mono (by decide)
  rw [qF]
  intro p1
  refine⟨p,?_,?_⟩
  · unfold ixN
    rw [if_pos (by omega),if_pos (by rw [List.length_map];omega)]
    rfl
  · unfold zad Sx.v8 at k
    rw [List.map_set,List.map_map] at k
    exact k
theorem zbu (B:Bi mg) (g_NOUGHT:zdt K mg "NOUGHT" [0,1]) (F:Fun K "paper_of" "paper_of" xx f fd) :
    qr P w K mg base CX0 1 f fd ["table", "held", "size"] (spF K C w9):=by
  refine zij F j4 (fun ds Q h=>by obtain⟨T,h,m,z,rfl,ok,hl,k⟩:=h;rfl) (fun cdv A outer s H E hr=>⟨_,(zf (kA (i:=3) j4.nd rfl (Or.inl rfl) (zhr (DE.of (xY (zb (x6 g_NOUGHT rfl) zd))) (za (pv 2))))
        (zf (qy PassesOwn.never rfl (vO rfl B.b_enumerate (za (pv 1))) (zb4 (i:=4) (j:=5) rfl j4.nd rfl (Or.inl rfl) rfl (Or.inl rfl)) (zg (qz (zP vZ zdr (za (pv 5)) (za (pv 2)) (zI _)) (zg (zd1 (zeR (zp (zp (za (pv 0)) (za (pv 4)) (fun _ _=>rfl)) (vd ze) (fun _ _=>rfl)) (zeI (pv 3) (za (pv 5)) set_list)))) zB)))
        (zg (zid (pv 3))))),fun ds Q h=>?_⟩)
  obtain⟨T,h,m,z,rfl,ok,hl,k⟩:=h
  have hz:(1000:Nat)≤sizeLine:=by decide
  have m64:=ok.m64
  have z6:=ok.z6
  have hTl:=ok.wide.1
  walk_at "rd"
  refine⟨by omega,⟨by omega,by omega,by show 1*_≤sizeLine;rw [Int.toNat_natCast];omega,?_⟩⟩
  have hr:(List.replicate ((z:Int)).toNat [dQ 0]).flatten=(List.replicate z (0:Rat)).map dQ:=by rw [Int.toNat_natCast,List.flatten_replicate_singleton,List.map_replicate]
  rw [hr]
  intro p0
  show zfY _ _ _
  walk_at "rd"
  refine⟨Nat,List.range m,fun i=>.tup [.int (i:Nat),.int ((h.getD i 0:Nat):Int)],fun pre env=>∃ (p:Addr) (r4 r5:Option SV),env=[some (.sh (zad T)),some (.sh (dNs h)),some (.sh (.int z)),some (.ow p ((Sx.zds (Sx.ent T) (fun i=>h.getD i 0) z (z+m) pre.length).map dQ)),r4,r5],?_,⟨p0,none,none,rfl⟩,?_,?_⟩
  · rw [← hl]
    exact yL (fun (x:Nat)=>D.int x) h 0
  · rintro pre i post env e ⟨p,r4,r5,rfl⟩
    obtain⟨rfl,hi,_⟩:=qa e
    have hrl:=ok.row (i:=pre.length) (by omega)
    have hpl:=Sx.jI (Sx.ent T) (fun i=>h.getD i 0) z (z+m) pre.length
    have st:Sx.zds (Sx.ent T) (fun i=>h.getD i 0) z (z+m) (pre.length+1)=if h.getD pre.length 0 < z then (Sx.zds (Sx.ent T) (fun i=>h.getD i 0) z (z+m) pre.length).set (h.getD pre.length 0) (Sx.ent T pre.length (z+m)) else Sx.zds (Sx.ent T) (fun i=>h.getD i 0) z (z+m) pre.length:=rfl
    walk_at "rd"
    rw [List.length_append,List.length_singleton,st]
    refine j9 (fun c=>?_) (fun c=>?_)
    · have hlt:h.getD pre.length 0 < z:=by have:=of_decide_eq_true c;omega
      rw [if_pos hlt,y3 (by omega),zcA (n:=z+m) hrl]
      refine⟨h.getD pre.length 0,?_,p,some (.sh (.int (pre.length:Nat))),some (.sh (.int ((h.getD pre.length 0:Nat):Int))),?_⟩
      · unfold ixN
        rw [if_pos (by omega),if_pos (by rw [List.length_map,hpl];omega)]
        rfl
      · rw [List.map_set]
        rfl
    · have hlt:¬ h.getD pre.length 0 < z:=by have:=of_decide_eq_false (Bool.eq_false_iff.mpr c);omega
      rw [if_neg hlt]
      exact⟨p,_,_,rfl⟩
  · rintro env ⟨p,r4,r5,rfl⟩
    rw [List.length_range]
    exact k
theorem zc6 (B:Bi mg) (g_NOUGHT:zdt K mg "NOUGHT" [0,1]) (d_less:Dn P w K mg base "less" ["one", "other"] 1 (spD K C yH)) (F:Fun K "plan_of" "plan_of" xE f fd) :
    qr P w K mg base CX0 2 f fd ["table", "groups", "size"] (spF K C zbO):=by
  refine zij F yW (fun ds Q h=>by obtain⟨T,gs,z,rfl,ok,k⟩:=h;rfl) (fun cdv A outer s H E hr=>⟨_,(zf (zy (i:=3) yW.nd rfl (Or.inl rfl) (DE.of (ve (zp (za (pv 0)) (vd ze) (fun _ _=>rfl)) (vB (za (pv 2))) (vB (vd ze)))))
        (zg (zd2 (zb2 (compSc2 (zc xE) ["table", "groups", "size", "lengths"] ["group", "length"] [] rfl rfl (by decide +kernel) rfl rfl rfl (by decide +kernel) (by decide +kernel) (by decide +kernel) rfl (by decide +kernel) rfl rfl (by decide +kernel)) rfl (zhs rfl B.b_zip (za (pv 1)) (za (pv 3))) (fun _ _ _ _=>vf (zX (zE d_less hr rfl (zb (x6 g_NOUGHT rfl) (zb (za (pv 1)) zd))))) (fun _ _ _ _=>(qD (zb (za (pv 0)) (zb (za (pv 1)) zd)))))))),fun ds Q h=>?_⟩)
  obtain⟨T,gs,z,rfl,ok,k⟩:=h
  have hz:(1000:Nat)≤sizeLine:=by decide
  have m64:=ok.m64
  have hr:=ok.row (Nat.le_refl _)
  walk_at "rd"
  rw [zcI ok.wide.1]
  refine⟨_,gs.zip (zc0 T gs.length z),fun p=>dG p.1,fun p=>dQ p.2,fun p=>if decide (0 < p.2)=true then some (dPh p) else none,?_,by rw [List.length_zip];omega,fun p hp=>?_,?_⟩
  · rw [zbg,zh5 _ hr]
    exact zbR dG dQ gs _
  · obtain⟨_,hp2⟩:=List.of_mem_zip (a:=p.1) (b:=p.2) hp
    unfold zc0 at hp2
    refine⟨_,_,rfl,Sz.zero.mono (by decide),(ok.rowSz (Nat.le_refl _) _ (List.mem_of_mem_drop (List.mem_of_mem_take hp2))).mono (by decide),?_⟩
    refine j9 (fun c=>⟨by omega,?_⟩) (fun c=>?_)
    · exact if_pos c
    · exact if_neg c
  · rw [zd3]
    exact k
theorem zaN (B:Bi mg) (F:Fun K "is_stream" "is_stream" q5 f fd) :
    qr P w K mg base CX0 1 f fd ["streams", "stream"] (spD K C vy):=by
  refine xW F zaX (fun ds Q h=>by obtain⟨n,s,rfl,k⟩:=h;rfl) (fun cdv A outer s H E hr=>⟨_,(zg (zt (zdR (je zmF znV ze (za (pv 1)) (zI _)) (zaq (je vZ zdr (za (pv 1)) (za (pv 0)) (zI _)))))),fun ds Q h=>?_⟩)
  obtain⟨n,s,rfl,k⟩:=h
  walk_at "rd"
  by_cases c:0≤s
  · rw [decide_eq_true c,Bool.true_and] at k
    simp only [decide_eq_true c]
    exact k
  · rw [decide_eq_false c,Bool.false_and] at k
    simp only [decide_eq_false c]
    exact k
theorem jR (B:Bi mg) (CQ:CrK K C) (d_is_stream:Dn P w K mg base "is_stream" ["streams", "stream"] 1 (spD K C vy)) (F:Fun K "together" "Crossing.together" zO f fd) :
    qr P w K mg base CX0 2 f fd ["self", "group"] (spD K C jC):=by
  refine xW F qG (fun ds Q h=>by obtain⟨n,ps,g,d,rfl,hd,hs,k⟩:=h;rfl) (fun cdv A outer s H E hr=>⟨_,(zf (qy PassesOwn.never rfl (zkz (za (pv 1))) (z8 (i:=2) qG.nd rfl (Or.inl rfl)) (zg (qz (qR (zX (zE d_is_stream hr rfl (zb (xb CQ (za (pv 0))) (zb (za (pv 2)) zd))))) (zg jD) zB)))
        (zf (qy PassesOwn.never rfl (z9 (zap CQ (za (pv 0)))) (z8 (i:=3) qG.nd rfl (Or.inl rfl)) (zg (qz (DW.db (zat (zP vo zl3 (zp (za (pv 3)) ze (fun _ _=>rfl)) (za (pv 1)) (by with_unfolding_all rfl)) (kB (zP vo zl3 (zp (za (pv 3)) ze (fun _ _=>rfl)) (za (pv 1)) (by with_unfolding_all rfl))))) (zg (zt xI)) zB)))
        (zg (zt xI)))),fun ds Q h=>?_⟩)
  obtain⟨n,ps,g,d,rfl,hd,hs,k⟩:=h
  have app:∀ a b:Cl,indep (a++b) g=(indep a g && indep b g):=fun a b=>by unfold indep;rw [List.all_append]
  rcases hd with rfl | rfl
  all_goals
    walk_at "rd"
    refine⟨Int,g,D.int,fun pre env=>∃ r:Option SV,env=[some (.sh (.crs n ps)),some (.sh _),r,none],rfl,⟨none,rfl⟩,?_,?_⟩
    · rintro pre x post env e ⟨r,rfl⟩
      obtain⟨h1,h2⟩:=hs x (by rw [e];simp)
      walk_at "rd"
      refine⟨n,x,rfl,?_⟩
      walk_at "rd"
      rw [decide_eq_true h1,decide_eq_true h2]
      exact iteF ⟨_,rfl⟩
    · rintro env ⟨r,rfl⟩
      walk_at "rd"
      refine⟨_,ps,dPr,fun pre env=>∃ r r2:Option SV,env=[some (.sh (.crs n ps)),some (.sh _),r,r2]∧indep pre g=true,rfl,⟨_,_,rfl,rfl⟩,?_,?_⟩
      · rintro pre q post env e ⟨r,r2,rfl,hi⟩
        walk_at "rd"
        refine j9 (fun c1=>j9 (fun c2=>?_) (fun c2=>?_)) (fun c1=>?_)
        · have z:indep ps g=false:=by
            have e1:indep [q] g=false:=by unfold indep;simp only [List.all_cons,List.all_nil,Bool.and_true];rw [c1,c2];rfl
            have e2:pre++q::post=pre++([q]++post):=rfl
            rw [e,e2,app,app,e1,Bool.false_and,Bool.and_false]
          rw [z] at k
          exact k
        · refine⟨_,_,rfl,?_⟩
          have c2':=Bool.eq_false_iff.mpr c2
          rw [app,hi]
          unfold indep
          simp only [List.all_cons,List.all_nil,Bool.and_true,Bool.true_and]
          rw [c2',Bool.and_false]
          rfl
        · refine⟨_,_,rfl,?_⟩
          have c1':=Bool.eq_false_iff.mpr c1
          rw [app,hi]
          unfold indep
          simp only [List.all_cons,List.all_nil,Bool.and_true,Bool.true_and]
          rw [c1',Bool.false_and]
          rfl
      · rintro env ⟨r,r2,rfl,hi⟩
        walk_at "rd"
        rw [hi] at k
        exact k
theorem vm (B:Bi mg) (CQ:CrK K C) (d_Crossing_together:DnM P w K mg base C "together" ["self", "group"] 2 (spD K C jC)) (F:Fun K "groups" "Crossing.groups" zJ f fd) :
    qr P w K mg base CX0 3 f fd ["self"] (spD K C zbL):=by
  refine xW F z7 (fun ds Q h=>by obtain⟨m,ps,rfl,hm,k⟩:=h;rfl) (fun cdv A outer s H E hr=>⟨_,(zf (zy (i:=1) z7.nd rfl (Or.inl rfl) (DE.of (xY (zb (qD zd) zd))))
        (zf (qy PassesOwn.never rfl (qe rfl B.b_range (zb (xb CQ (za (pv 0))) zd)) (z8 (i:=2) z7.nd rfl (Or.inr rfl)) (zf (jX (i:=3) z7.nd rfl rfl (qQ (zc zJ) ["self", "found", "stream", "grown"] ["group", "stream"] [2] rfl rfl (by decide +kernel) rfl rfl (by decide +kernel) (by decide +kernel) (by decide +kernel) rfl (by decide +kernel) rfl (by decide +kernel)) rfl (z9 (za (pv 1))) (fun _ _ _ _=>qc) (fun _ _ _ _=>(zdT (za (pv 0)) (qD (zb (za (pv 1)) zd)))))
        (zg (zy (i:=1) z7.nd rfl (Or.inl rfl) (DE.of (kz (za (pv 1)) (DE.of (xT (qQ (zc zJ) ["self", "found", "stream", "grown"] ["group", "self"] [0] rfl rfl (by decide +kernel) rfl rfl (by decide +kernel) (by decide +kernel) (by decide +kernel) rfl (by decide +kernel) rfl (by decide +kernel)) rfl (z9 (za (pv 3))) (fun _ _ _ _=>vf (zX (zic CQ d_Crossing_together hr (za (pv 1)) (zb (za (pv 0)) zd)))) (fun _ _ _ _=>(za (pv 0)))))))))))
        (zg (zt (za (pv 1)))))),fun ds Q h=>?_⟩)
  obtain⟨m,ps,rfl,hm,k⟩:=h
  have hz:(1000:Nat)≤sizeLine:=by decide
  walk_at "rd"
  refine⟨by decide,by decide,?_⟩
  refine⟨by omega,by omega,Nat,List.range m,fun i=>.int (0+(i:Nat)),fun pre env=>∃ r2 r3:Option SV,env=[some (.sh (.crs m ps)),some (.sh (.lst ((gsR ps pre.length).map dG))),r2,r3],rfl,⟨none,none,by rw [List.length_nil,zgc];rfl⟩,?_,?_⟩
  · rintro pre x post env e ⟨r2,r3,rfl⟩
    obtain⟨rfl,hx,_⟩:=qa e
    have hl:=wt ps pre.length
    have hp:2 ^ pre.length≤2 ^ 5:=Nat.pow_le_pow_right (by decide) (by omega)
    walk_at "rd"
    refine⟨_,gsR ps pre.length,dG,fun g=>some (dG (g++[(pre.length:Int)])),rfl,by omega,fun g hgm=>?_,?_⟩
    · walk_at "rd"
      have hgl:=vi (List.mem_filter.mp hgm).1
      refine⟨by decide,?_⟩
      show (g.map D.int).length + [D.int (pre.length:Int)].length≤sizeLine∧some (dG (g++[(pre.length:Int)]))=some (D.tup (g.map D.int++[D.int (pre.length:Int)]))
      rw [zdL]
      exact⟨by rw [List.length_map,List.length_singleton];omega,rfl⟩
    · rw [qF]
      walk_at "rd"
      refine⟨_,(gsR ps pre.length).map (· ++ [(pre.length:Int)]),dG,fun g=>if indep ps g=true then some (dG g) else none,by rw [List.map_map];rfl,by rw [List.length_map];omega,fun g hgm=>?_,?_⟩
      · walk_at "rd"
        obtain⟨g0,hg0,rfl⟩:=List.mem_map.mp hgm
        have hin:=(zaA hg0).2
        refine⟨m,ps,_,_,rfl,.inl rfl,fun s hs=>?_,?_⟩
        · rcases List.mem_append.mp hs with z | z
          · have:=hin s z
            omega
          · rw [List.mem_singleton.mp z]
            omega
        · exact j9 (fun c=>if_pos c) (fun c=>if_neg c)
      · rw [zd3]
        have hl2:=List.length_filter_le (indep ps) ((gsR ps pre.length).map (· ++ [(pre.length:Int)]))
        rw [List.length_map] at hl2
        refine⟨by rw [List.length_map,List.length_map];omega,?_⟩
        rw [← List.map_append,← zgb,List.length_append]
        exact⟨_,_,rfl⟩
  · rintro env ⟨r2,r3,rfl⟩
    walk_at "rd"
    rw [List.length_range]
    exact k
theorem jQ (B:Bi mg) (CQ:CrK K C) (d_Crossing_together:DnM P w K mg base C "together" ["self", "group"] 2 (spD K C jC)) (F:Fun K "can_grow" "Crossing.can_grow" zN f fd) :
    qr P w K mg base CX0 3 f fd ["self", "group"] (spD K C w5):=by
  refine xW F xm (fun ds Q h=>by obtain⟨m,ps,g,rfl,hm,hgl,hin,k⟩:=h;rfl) (fun cdv A outer s H E hr=>⟨_,(zf (qy PassesOwn.never rfl (qe rfl B.b_range (zb (xb CQ (za (pv 0))) zd)) (z8 (i:=2) xm.nd rfl (Or.inl rfl)) (zg (qz (DW.db (zat (zP zaO ziC (za (pv 2)) (za (pv 1)) (by with_unfolding_all rfl)) (kB (zX (zic CQ d_Crossing_together hr (za (pv 0)) (zb (zdT (za (pv 1)) (qD (zb (za (pv 2)) zd))) zd)))))) (zg (zt xI)) zB)))
        (zg (zt xI))),fun ds Q h=>?_⟩)
  obtain⟨m,ps,g,rfl,hm,hgl,hin,k⟩:=h
  have hz:(1000:Nat)≤sizeLine:=by decide
  walk_at "rd"
  refine⟨by omega,by omega,Nat,List.range m,fun i=>.int (0+(i:Nat)),fun pre env=>∃ r2:Option SV,env=[some (.sh (.crs m ps)),some (.sh (dG g)),r2]∧(pre.any fun s=>!decide ((s:Int)∈g) && indep ps (g++[(s:Int)]))=false,rfl,⟨none,rfl,rfl⟩,?_,?_⟩
  · rintro pre x post env e ⟨r2,rfl,hi⟩
    have hx:x < m:=List.mem_range.mp (by rw [e];simp)
    walk_at "rd"
    refine j9 (fun c1=>?_) (fun c1=>?_)
    · refine⟨by decide,?_⟩
      show (g.map D.int).length + [D.int (x:Int)].length≤sizeLine∧jC [.crs m ps,D.tup (g.map D.int++[D.int (x:Int)])] _
      rw [zdL]
      refine⟨by rw [List.length_map,List.length_singleton];omega,m,ps,g++[(x:Int)],_,rfl,.inl rfl,fun s hs=>?_,?_⟩
      · rcases List.mem_append.mp hs with z | z
        · exact hin s z
        · rw [List.mem_singleton.mp z]
          omega
      · refine j9 (fun c2=>?_) (fun c2=>?_)
        · have hc:zbV ps m g=true:=by
            unfold zbV
            rw [List.any_eq_true]
            exact⟨x,List.mem_range.mpr hx,by rw [c1,c2];rfl⟩
          rw [hc] at k
          exact k
        · refine⟨_,rfl,?_⟩
          rw [List.any_append,hi,Bool.false_or,List.any_cons,List.any_nil,Bool.or_false,Bool.eq_false_iff.mpr c2,Bool.and_false]
    · refine⟨_,rfl,?_⟩
      rw [List.any_append,hi,Bool.false_or,List.any_cons,List.any_nil,Bool.or_false,Bool.eq_false_iff.mpr c1,Bool.false_and]
  · rintro env ⟨r2,rfl,hi⟩
    walk_at "rd"
    have hi':zbV ps m g=false:=hi
    rw [hi'] at k
    exact k
theorem vV (B:Bi mg) (CQ:CrK K C) (d_Crossing_groups:DnM P w K mg base C "groups" ["self"] 3 (spD K C zbL)) (d_Crossing_can_grow:DnM P w K mg base C "can_grow" ["self", "group"] 3 (spD K C w5)) (F:Fun K "full" "Crossing.full" zW f fd) :
    qr P w K mg base CX0 4 f fd ["self"] (spF K C zg7):=by
  refine zij F v3 (fun ds Q h=>by obtain⟨m,ps,rfl,m1,m2,hp,k⟩:=h;rfl) (fun cdv A outer s H E hr=>⟨_,(zg (zd2 (xT (qQ (zc zW) ["self"] ["group", "self"] [0] rfl rfl (by decide +kernel) rfl rfl (by decide +kernel) (by decide +kernel) (by decide +kernel) rfl (by decide +kernel) rfl (by decide +kernel)) rfl (z9 (DE.of (zb3 rfl B.b_sorted hr.units (zdU CQ d_Crossing_groups hr (za (pv 0)))))) (fun _ _ _ _=>vf (qR (zX (zic CQ d_Crossing_can_grow hr (za (pv 1)) (zb (za (pv 0)) zd))))) (fun _ _ _ _=>(za (pv 0)))))),fun ds Q h=>?_⟩)
  obtain⟨m,ps,rfl,m1,m2,hp,k⟩:=h
  have hz:(1000:Nat)≤sizeLine:=by decide
  obtain⟨l,hl⟩:=wq ps m
  have h2:=zd7 hp m1
  have hn:=kG ps m
  have h64:=zhu ps m2
  have hlen:=wt ps m
  have hpw:2 ^ m≤2 ^ 6:=Nat.pow_le_pow_right (by decide) m2
  walk_at "rd"
  show zfZ _ _ _
  walk_at "rd"
  refine⟨m,ps,rfl,m2,l,by rw [hl];rfl,by rw [← hl];exact hn,?_,?_,fun gs hpm hup=>?_⟩
  · rw [hl,List.length_cons] at h2
    omega
  · rw [hl,List.length_cons] at h64
    exact h64
  rw [← hl] at hpm
  refine⟨_,gs,dG,fun g=>if (!zbV ps m g)=true then some (dG g) else none,rfl,by rw [hpm.length_eq];omega,fun g hgm=>?_,?_⟩
  · walk_at "rd"
    have hg:=hpm.mem_iff.mp hgm
    have hgl:=vi (List.mem_filter.mp hg).1
    refine⟨m,ps,g,rfl,m2,by omega,(zaA hg).2,?_⟩
    exact j9 (fun c=>if_pos c) (fun c=>if_neg c)
  · rw [zd3]
    exact k gs hpm hup
theorem kS (B:Bi mg) (CQ:CrK K C) (d_check_wishes:Dn P w K mg base "check_wishes" ["crossing", "wishes"] 2 (spD K C jB)) (d_first_table:Dn P w K mg base "first_table" ["groups", "wishes"] 2 (spD K C zfs)) (d_column_to_raise:Dn P w K mg base "column_to_raise" ["table"] 2 (spD K C zbK)) (d_row_that_binds:Dn P w K mg base "row_that_binds" ["table", "held", "column"] 6 (spD K C zjS)) (d_turned:Dn P w K mg base "turned" ["table", "place", "column"] 5 (spD K C zbQ)) (d_paper_of:Dn P w K mg base "paper_of" ["table", "held", "size"] 1 (spF K C w9)) (d_plan_of:Dn P w K mg base "plan_of" ["table", "groups", "size"] 2 (spF K C zbO)) (d_Crossing_size:DnM P w K mg base C "size" ["self"] 1 (spD K C zg9)) (d_Crossing_full:DnM P w K mg base C "full" ["self"] 4 (spF K C zg7)) (F:Fun K "shortest" "shortest" q8 f fd) :
    qr P w K mg base CX0 7 f fd ["crossing", "wishes"] (spP K C x5):=by
  refine zmh F qq (fun ds Q h=>by obtain⟨k0,ps,ws,rfl,k1,k6,hp,hl,hw,k⟩:=h;rfl) (fun cdv A outer s H E hr=>⟨_,(xB (zbj (zE d_check_wishes hr rfl (zb (za (pv 0)) (zb (za (pv 1)) zd))))
        (xB (zy (i:=2) qq.nd rfl (Or.inr rfl) (zdU CQ d_Crossing_size hr (za (pv 0))))
        (xB (zy (i:=3) qq.nd rfl (Or.inl rfl) (DE.of (zhq CQ d_Crossing_full hr (za (pv 0)))))
        (xB (zy (i:=4) qq.nd rfl (Or.inl rfl) (zE d_first_table hr rfl (zb (za (pv 3)) (zb (za (pv 1)) zd))))
        (xB (zb6 (i:=6) qq.nd rfl rfl (qQ (zc q8) ["crossing", "wishes", "size", "groups", "table", "place", "held", "column"] ["place", "size"] [2] rfl rfl (by decide +kernel) rfl rfl (by decide +kernel) (by decide +kernel) (by decide +kernel) rfl (by decide +kernel) rfl (by decide +kernel)) rfl (qe rfl B.b_range (zb (zv zw jO rfl B.b_len PySem.boot_len (zb (za (pv 3)) zd)) zd)) (fun _ _ _ _=>qc) (fun _ _ _ _=>(jd (za (pv 1)) (za (pv 0)))))
        (xB (zy (i:=7) qq.nd rfl (Or.inl rfl) (zE d_column_to_raise hr rfl (zb (za (pv 4)) zd)))
        (xB (wg PassesOwn.never (zP zi0 ziA (za (pv 7)) zb1 (zI _)) (zf (zy (i:=5) qq.nd rfl (Or.inl rfl) (zia 6 (zE d_row_that_binds hr rfl (zb (za (pv 4)) (zb (za (pv 6)) (zb (za (pv 7)) zd))))))
        (zf (zy (i:=4) qq.nd rfl (Or.inl rfl) (zE d_turned hr rfl (zb (za (pv 4)) (zb (za (pv 5)) (zb (za (pv 7)) zd)))))
        (zf (zd1 (zeR (za (pv 7)) (zeI (pv 6) (za (pv 5)) set_list)))
        (zg (zy (i:=7) qq.nd rfl (Or.inl rfl) (zE d_column_to_raise hr rfl (zb (za (pv 4)) zd))))))))
        (zcS 6 (zf4 (zkx d_plan_of hr rfl (zb (za (pv 4)) (zb (za (pv 3)) (zb (za (pv 2)) zd)))) (zkx d_paper_of hr rfl (zb (za (pv 4)) (zb (za (pv 6)) (zb (za (pv 2)) zd))))))))))))),fun ds Q h=>?_⟩)
  obtain⟨k0,ps,ws,rfl,k1,k6,hp,hl,hw,k⟩:=h
  have hz:(1000:Nat)≤sizeLine:=by decide
  subst hl
  walk_at "rd"
  refine⟨ws.length,ps,ws,rfl,rfl,fun w h=>(hw w h).1,?_⟩
  refine⟨(ws.length:Int),ps,rfl,?_⟩
  refine⟨ws.length,ps,rfl,k1,k6,hp,fun gs0 hperm hpw=>?_⟩
  have G:=zmk (ws:=ws) hp k6 rfl hperm
  generalize (gs0.filter fun g=>!zbV ps ws.length g)=gs at G
  have Z:=Sx.start G.nd G.cov
  have m64:=G.len
  refine⟨gs,ws,rfl,G.len,k6,?_⟩
  show zan _ _ _
  walk_at "rd"
  rw [List.length_map]
  refine⟨by omega,by omega,Nat,List.range gs.length,fun i=>.int (0+(i:Nat)),fun (i:Nat)=>some (.int ((ws.length:Int)+(i:Nat))),rfl,by rw [List.length_range];omega,fun i _=>?_,?_⟩
  · walk_at "rd"
  rw [qF,zml]
  intro p0
  refine⟨Sx.t0 gs ws,gs.length,ws.length,rfl,zfa G k6 hw (Sx.yn G.nd G.cov),?_⟩
  obtain⟨N,hN⟩:=Sx.zgR Z (Sx.yn G.nd G.cov)
  refine⟨fun n env=>∃ (p:Addr) (s:Sx.RS) (r:Option SV),env=[some (.sh (.crs ws.length ps)),some (.sh (.lst (ws.map D.int))),some (.sh (.int ws.length)),some (.sh (.lst (gs.map dG))),some (.sh (zad s.T)),r,some (.ow p (s.h.map fun (x:Nat)=>D.int x)),some (.sh (zl0 (Sx.zdq gs.length ws.length s)))]∧Sx.RSt (Sx.ent (Sx.t0 gs ws)) gs.length ws.length s∧Sx.zdq gs.length ws.length (Sx.run gs.length ws.length s n)=none,⟨N,p0,⟨Sx.t0 gs ws,Sx.h0 gs ws.length⟩,none,rfl,Sx.yn G.nd G.cov,hN⟩,?_⟩
  rintro n env ⟨p,s,r,rfl,R,hn⟩
  have ok:=zfa G k6 hw R
  walk_at "rd"
  cases hc:Sx.zdq gs.length ws.length s with
  | none =>
    refine iteF ?_
    refine⟨s.T,gs,ws.length,rfl,ok,?_⟩
    refine⟨s.T,s.h,gs.length,ws.length,rfl,ok,R.hl,?_⟩
    exact k _ _ (best k6 G.perm rfl hw G.nd G.cov R hc)
  | some c =>
    obtain⟨q,hq,Ch,hnx,R',_,_⟩:=R.next Z hc
    have ok':=zfa G k6 hw R'
    cases n with
    | zero =>
      have hn':Sx.zdq gs.length ws.length s=none:=hn
      rw [hc] at hn'
      cases hn'
    | succ n =>
      rw [zaU] at hn
      refine zmr ?_
      refine⟨s.T,s.h,gs.length,ws.length,c,rfl,ok,R.hl,Ch.c0,?_⟩
      have hq':Sx.zbF (Sx.ent s.T) (ws.length+gs.length) (fun i=>s.h.getD i 0) c gs.length=some q:=hq
      rw [hq']
      refine⟨rfl,?_⟩
      refine⟨s.T,gs.length,ws.length,q,c,rfl,ok,Ch.p0,Ch.c0,fun e=>by have:=Ch.ppos;rw [e] at this;exact absurd this (by decide),?_⟩
      have e1:Sx.v8 s.T q c=(Sx.next gs.length ws.length s).T:=by rw [hnx]
      have e2:(s.h.map fun (x:Nat)=>D.int x).set q (D.int (c:Nat))=(Sx.next gs.length ws.length s).h.map fun (x:Nat)=>D.int x:=by rw [hnx,List.map_set]
      have hqm:=Ch.p0
      refine⟨q,?_,?_⟩
      · unfold ixN
        rw [if_pos (by omega),if_pos (by rw [List.length_map,R.hl];omega)]
        rfl
      · rw [e1]
        refine⟨(Sx.next gs.length ws.length s).T,gs.length,ws.length,rfl,ok',n,by omega,p,Sx.next gs.length ws.length s,some (.sh (.int (q:Nat))),?_,R',hn⟩
        rw [← e2]
        rfl
theorem wH (B:Bi mg) (g_MOST_STREAMS:GInt mg "MOST_STREAMS" 6) (F:Fun K "check_size" "check_size" qO f fd) :
    qr P w K mg base CX0 1 f fd ["streams"] (spD K C vJ):=by
  refine xW F wR (fun ds Q h=>by obtain⟨n,rfl,h1,h2,k⟩:=h;rfl) (fun cdv A outer s H E hr=>⟨_,(zg (qz (DW.db (jq (zP vZ zdr (za (pv 0)) ze (zI _)) (jf (zP zeB zkP (za (pv 0)) (zh9 g_MOST_STREAMS rfl) (zI _))))) (zg jD) zB)),fun ds Q h=>?_⟩)
  obtain⟨n,rfl,h1,h2,k⟩:=h
  walk_at "rd"
  refine j9 (fun c=>absurd (of_decide_eq_true c) (by omega)) (fun _=>?_)
  refine j9 (fun c=>absurd (of_decide_eq_true c) (by omega)) (fun _=>?_)
  exact k
theorem yE (B:Bi mg) (d_is_stream:Dn P w K mg base "is_stream" ["streams", "stream"] 1 (spD K C vy)) (F:Fun K "check_clash" "check_clash" qB f fd) :
    qr P w K mg base CX0 2 f fd ["streams", "pair"] (spD K C j7):=by
  refine xW F yG (fun ds Q h=>by obtain⟨n,p,rfl,h,k⟩:=h;rfl) (fun cdv A outer s H E hr=>⟨_,(zf (qz (DW.db (jq (qR (zX (zE d_is_stream hr rfl (zb (za (pv 0)) (zb (zp (za (pv 1)) ze (fun _ _=>rfl)) zd))))) (jf (qR (zX (zE d_is_stream hr rfl (zb (za (pv 0)) (zb (zp (za (pv 1)) ze (fun _ _=>rfl)) zd)))))))) (zg jD) zB)
        (zg (qz (zP zbw ziz (zp (za (pv 1)) ze (fun _ _=>rfl)) (zp (za (pv 1)) ze (fun _ _=>rfl)) (zI _)) (zg jD) zB))),fun ds Q h=>?_⟩)
  obtain⟨n,p,rfl,h,k⟩:=h
  obtain⟨h1,h2,h3,h4,h5⟩:=h
  walk_at "rd"
  refine⟨n,p.1,rfl,?_⟩
  walk_at "rd"
  rw [decide_eq_true h1,decide_eq_true h2]
  refine iteF ?_
  refine⟨n,p.2,rfl,?_⟩
  walk_at "rd"
  rw [decide_eq_true h3,decide_eq_true h4]
  refine iteF ?_
  rw [decide_eq_false h5]
  exact iteF k
theorem zez (B:Bi mg) (F:Fun K "rising" "rising" jL f fd) :
    qr P w K mg base CX0 1 f fd ["pair"] (spD K C zbP):=by
  refine xW F zfd (fun ds Q h=>by obtain⟨p,rfl,k⟩:=h;rfl) (fun cdv A outer s H E hr=>⟨_,(zg (zt (qD (zb (zv (zdF rfl) zmw rfl B.b_min boot_min (zb (zp (za (pv 0)) ze (fun _ _=>rfl)) (zb (zp (za (pv 0)) ze (fun _ _=>rfl)) zd))) (zb (zv (zdE rfl) zmv rfl B.b_max boot_max (zb (zp (za (pv 0)) ze (fun _ _=>rfl)) (zb (zp (za (pv 0)) ze (fun _ _=>rfl)) zd))) zd))))),fun ds Q h=>?_⟩)
  obtain⟨p,rfl,k⟩:=h
  walk_at "rd"
  exact⟨by decide,k⟩
theorem jP (B:Bi mg) (CQ:CrK K C) (d_check_size:Dn P w K mg base "check_size" ["streams"] 1 (spD K C vJ)) (d_check_clash:Dn P w K mg base "check_clash" ["streams", "pair"] 2 (spD K C j7)) (d_rising:Dn P w K mg base "rising" ["pair"] 1 (spD K C zbP)) (F:Fun K "__init__" "Crossing.__init__" zG f fd) :
    qr P w K mg base CX0 3 f fd ["self", "streams", "clashes"] (spI K C zft):=by
  refine F.ok xl (fun vs H Q E h=>by
    obtain⟨x,dx,us,H1,S,ds,P,rfl,_,_,_,_,_,rp,⟨n,cl,rfl,_⟩,_⟩:=h
    have:=zD rp
    simp only [List.length_cons,List.length_nil] at this ⊢
    omega) (fun cdv A outer s H vs Q E hr h=>?_)
  obtain⟨x,dx,us,H1,S,ds,P,rfl,hx,hdx,hne,rfl,dm,rp,⟨n,cl,rfl,n1,n2,hg,k⟩,fin⟩:=h
  refine⟨_,xq (zbj (zE d_check_size hr rfl (zb (za (pv 1)) zd)))
    (xq (qy PassesOwn.never rfl (z9 (za (pv 2))) (z8 (i:=3) xl.nd rfl (Or.inl rfl)) (zg (zbj (zE d_check_clash hr rfl (zb (za (pv 1)) (zb (za (pv 3)) zd))))))
    (xq (zhJ (pv 0) (za (C:=C) (pv 1)) rfl)
    (zbB (zhJ (pv 0) (zcR rfl B.b_sorted rfl B.b_set rfl hr.units (DE.of (xT (qQ (zc zG) ["self", "streams", "clashes", "pair"] ["pair"] [] rfl rfl (by decide +kernel) rfl rfl (by decide +kernel) (by decide +kernel) (by decide +kernel) rfl (by decide +kernel) rfl (by decide +kernel)) rfl (z9 (za (pv 2))) (fun _ _ _ _=>qc) (fun _ _ _ _=>(zE d_rising hr rfl (zb (za (pv 0)) zd)))))) rfl)))),?_⟩
  refine zgf CQ hx hdx hne dm rp (Nat.le_succ _) (R:=fun env=>∃ r:Option SV,env=[some (.sh (.cls x)),some (.sh (.int n)),some (.sh (.lst (cl.map dPr))),r]∧∀ p ds,r≠some (.ow p ds)) ?_ ?_ (fin n _ k)
  · walk_at "rd"
    refine⟨n,rfl,n1,n2,?_⟩
    refine⟨_,cl,dPr,fun pre env=>∃ r:Option SV,env=[some (.sh (.cls x)),some (.sh (.int n)),some (.sh (.lst (cl.map dPr))),r]∧∀ p ds,r≠some (.ow p ds),rfl,⟨none,rfl,fun _ _ h=>by cases h⟩,?_,?_⟩
    · rintro pre q post env e ⟨r,rfl,hr⟩
      walk_at "rd"
      refine⟨n,q,rfl,hg.1 q (by rw [e];simp),?_⟩
      exact⟨_,rfl,fun _ _ h=>by cases h⟩
    · rintro env h
      exact h
  · rintro env ⟨r,rfl,hr⟩
    refine⟨rfl,fun i p ds=>?_,rfl,?_⟩
    · match i with
      | 0=>exact fun h=>by cases h
      | 1=>exact fun h=>by cases h
      | 2=>exact fun h=>by cases h
      | 3=>exact fun h=>hr p ds (Option.some.inj h)
      | _+4=>exact fun h=>by cases h
    · walk_at "rd"
      refine⟨_,cl,dPr,fun q=>some (dPr (rise q)),rfl,Nat.le_trans hg.2 (by decide),fun q _=>?_,?_⟩
      · walk_at "rd"
        exact⟨q,rfl,rfl⟩
      · rw [qF]
        exact⟨cl.map rise,by rw [List.map_map];rfl,zay n2 hg.1,rfl⟩
theorem kP (B:Bi mg) (F:Fun K "_law_cell_at" "_law_cell_at" qt f fd) :
    qr P w K mg base CX0 1 f fd ["script", "k"] (spD K C zfr):=by
  refine xW F yd (fun ds Q h=>by obtain⟨ns,k0,rfl,h0,k⟩:=h;rfl) (fun cdv A outer s H E hr=>⟨_,(zf (qz (zP vZ zdr (za (pv 1)) (zv zw jO rfl B.b_len PySem.boot_len (zb (za (pv 0)) zd)) (zI _)) (zg (zt (zp (za (pv 0)) (za (pv 1)) (fun _ _=>rfl)))) zB)
        (zg (zt ze))),fun ds Q h=>?_⟩)
  obtain⟨ns,k0,rfl,h0,k⟩:=h
  walk_at "rd"
  refine j9 (fun c=>?_) (fun c=>?_)
  · have c':k0 < (ns.length:Int):=of_decide_eq_true c
    rw [zgN h0 c']
    exact k
  · have c':¬ k0 < (ns.length:Int):=of_decide_eq_false (Bool.eq_false_iff.mpr c)
    rw [cell_out c'] at k
    exact k
theorem zaM (B:Bi mg) (F:Fun K "_law_ring" "_law_ring" qZ f fd) :
    qr P w K mg base CX0 1 f fd ["cell", "streams"] (spD K C w6):=by
  refine xW F qm (fun ds Q h=>by obtain⟨c,n,rfl,n1,n2,k⟩:=h;rfl) (fun cdv A outer s H E hr=>⟨_,(zf (zy (i:=2) qm.nd rfl (Or.inl rfl) (jd ze (xk (za (pv 0)) ze)))
        (zf (zy (i:=3) qm.nd rfl (Or.inl rfl) (xg (xk (vc (za (pv 0)) ze) ze) (zdV (za (pv 1)) ze)))
        (zf (kA (i:=4) qm.nd rfl (Or.inl rfl) (xY zd))
        (zf (qy PassesOwn.never rfl (qe rfl B.b_range (zb ze zd)) (z8 (i:=5) qm.nd rfl (Or.inl rfl)) (zg (xZ (ja (zbz PySem.F.plainAttrs_list PySem.F.slot_list_append PySem.F.type_list_append xD (pv 4) (zb (qD (zb (jd (za (pv 3)) (za (pv 5))) (zb (jd (za (pv 3)) (xk (jd (za (pv 5)) (za (pv 2))) ze)) zd))) zd))))))
        (zf (qz (zP zbw ziz (za (pv 1)) ze (zI _)) (zf (zy (i:=6) qm.nd rfl (Or.inl rfl) (zdV ze (xg ze (za (pv 3)))))
        (zg (qy PassesOwn.never rfl (qe rfl B.b_range (zb ze zd)) (z8 (i:=5) qm.nd rfl (Or.inl rfl)) (zf (qz (zP zbw ziz (xk (vc (za (pv 0)) ze) ze) ze (zI _)) (zg (xZ (ja (zbz PySem.F.plainAttrs_list PySem.F.slot_list_append PySem.F.type_list_append xD (pv 4) (zb (qD (zb (za (pv 6)) (zb (jd (za (pv 3)) (za (pv 5))) zd))) zd))))) zB)
        (zg (zy (i:=0) qm.nd rfl (Or.inl rfl) (vc (za (pv 0)) ze))))))) zB)
        (jo 4 (zg (zt (za (pv 4)))))))))),fun ds Q h=>?_⟩)
  obtain⟨c,n,rfl,n1,n2,k⟩:=h
  have hz:(1000:Nat)≤sizeLine:=by decide
  obtain⟨fi,hfi,hf⟩:∃ fi:Int,c / 2 % 2*(n - 5)=fi∧(fi=0∨(fi=1∧n=6)):=by
    rcases (show c / 2 % 2=0∨c / 2 % 2=1 by omega) with h | h
    · exact⟨0,by rw [h,Int.zero_mul],.inl rfl⟩
    · rcases (show n=5∨n=6 by omega) with h2 | h2
      · exact⟨0,by rw [h,h2];rfl,.inl rfl⟩
      · exact⟨1,by rw [h,h2];rfl,.inr ⟨rfl,h2⟩⟩
  walk_at "rd"
  rw [hfi]
  refine⟨by decide,⟨by decide,by decide⟩,by decide,zaG (m:=8) (n:=8) (bits_le (by omega)) (bits_le (by omega)),by decide,fun p0=>⟨by decide,by decide,?_⟩⟩
  refine⟨Nat,List.range 5,fun i=>.int (0+(i:Nat)),fun pre env=>∃ (p:Addr) (cl:Cl) (r:Option SV),env=[some (.sh (.int c)),some (.sh (.int n)),some (.sh (.int (1+c % 2))),some (.sh (.int fi)),some (.ow p (cl.map dPr)),r,none]∧xX n cl∧cl.length=pre.length,rfl,⟨p0,[],none,rfl,fun _ h=>(by cases h),rfl⟩,?_,?_⟩
  · rintro pre x post env e ⟨p,cl,r,rfl,hg,hl⟩
    obtain⟨rfl,hx,_⟩:=qa e
    walk_at "rd"
    refine⟨by decide,by decide,by rw [List.length_map];omega,p,cl++[(fi+(pre.length:Int),fi+((pre.length:Int)+(1+c % 2)) % 5)],some (.sh (.int pre.length)),?_,?_,?_⟩
    · rw [List.map_append]
      rfl
    · refine hg.app fun q hq=>?_
      rw [List.mem_singleton.mp hq]
      show _∧_∧_∧_∧_
      simp only
      rcases (show c % 2=0∨c % 2=1 by omega) with h | h <;> rw [h] <;> omega
    · rw [List.length_append,List.length_append,hl]
      rfl
  · rintro env ⟨p,cl,r,rfl,hg,hl⟩
    rw [List.length_range] at hl
    walk_at "rd"
    refine j9 (fun c6=>?_) (fun c6=>?_)
    · have h6:n=6:=of_decide_eq_true c6
      refine⟨zaG (m:=8) (n:=8) (bits_le (by omega)) (bits_le (by omega)),by decide,by decide,?_⟩
      refine⟨Nat,List.range 5,fun i=>.int (0+(i:Nat)),fun pre env=>∃ (p:Addr) (c':Int) (cl:Cl) (r:Option SV),env=[some (.sh (.int c')),some (.sh (.int n)),some (.sh (.int (1+c % 2))),some (.sh (.int fi)),some (.ow p (cl.map dPr)),r,some (.sh (.int (5 - 5*fi)))]∧xX n cl∧cl.length≤5+pre.length,rfl,⟨p,c,cl,r,rfl,hg,by omega⟩,?_,?_⟩
      · rintro pre x post env e ⟨p,c',cl,r,rfl,hg,hl⟩
        obtain⟨rfl,hx,_⟩:=qa e
        walk_at "rd"
        refine⟨⟨by decide,by decide⟩,by decide,?_⟩
        refine j9 (fun c7=>?_) (fun c7=>?_)
        · refine⟨by decide,by rw [List.length_map];omega,⟨by decide,by decide⟩,p,c' / 2,cl++[(5 - 5*fi,fi+(pre.length:Int))],some (.sh (.int pre.length)),?_,?_,?_⟩
          · rw [List.map_append]
            rfl
          · refine hg.app fun q hq=>?_
            rw [List.mem_singleton.mp hq]
            show _∧_∧_∧_∧_
            simp only
            omega
          · rw [List.length_append,List.length_append]
            simp only [List.length_cons,List.length_nil]
            omega
        · refine⟨⟨by decide,by decide⟩,p,_,cl,_,rfl,hg,?_⟩
          rw [List.length_append]
          omega
      · rintro env ⟨p,c',cl,r,rfl,hg,hl⟩
        rw [List.length_range] at hl
        walk_at "rd"
        exact k cl ⟨hg,by omega⟩
    · exact k cl ⟨hg,by omega⟩
theorem kQ (B:Bi mg) (d__law_cell_at:Dn P w K mg base "_law_cell_at" ["script", "k"] 1 (spD K C zfr)) (d__law_ring:Dn P w K mg base "_law_ring" ["cell", "streams"] 1 (spD K C w6)) (F:Fun K "_law_clashes" "_law_clashes" qb f fd) :
    qr P w K mg base CX0 2 f fd ["script", "start", "streams"] (spD K C j8):=by
  refine xW F zA (fun ds Q h=>by obtain⟨ns,st,n,rfl,s0,n1,n2,k⟩:=h;rfl) (fun cdv A outer s H E hr=>⟨_,(zf (zy (i:=3) zA.nd rfl (Or.inl rfl) (zE d__law_cell_at hr rfl (zb (za (pv 0)) (zb (za (pv 1)) zd))))
        (zf (zy (i:=4) zA.nd rfl (Or.inl rfl) (zE d__law_cell_at hr rfl (zb (za (pv 0)) (zb (jd (za (pv 1)) ze) zd))))
        (zf (qz (DW.db (zat (zP zeB zkP (za (pv 2)) ze (zI _)) (kB (zP zbw ziz (xk (za (pv 3)) ze) ze (zI _))))) (zg (zt (zE d__law_ring hr rfl (zb (vc (za (pv 3)) ze) (zb (za (pv 2)) zd))))) zB)
        (zf (kA (i:=5) zA.nd rfl (Or.inl rfl) (xY zd))
        (zf (qy PassesOwn.never rfl (qe rfl B.b_range (zb (za (pv 2)) zd)) (z8 (i:=6) zA.nd rfl (Or.inl rfl)) (zg (qy PassesOwn.never rfl (zd0 rfl B.b_range (zb (jd (za (pv 6)) ze) (zb (za (pv 2)) zd))) (z8 (i:=7) zA.nd rfl (Or.inl rfl)) (zf (qz (zP zbw ziz (xk (za (pv 3)) ze) ze (zI _)) (zg (xZ (ja (zbz PySem.F.plainAttrs_list PySem.F.slot_list_append PySem.F.type_list_append xD (pv 5) (zb (zp (DE.of (xY (zb (qD (zb (za (pv 6)) (zb (za (pv 7)) zd))) (zb (qD (zb (za (pv 7)) (zb (za (pv 6)) zd))) zd)))) (xk (za (pv 4)) ze) (fun _ _=>rfl)) zd))))) zB)
        (zf (zy (i:=3) zA.nd rfl (Or.inl rfl) (vc (za (pv 3)) ze))
        (zg (zy (i:=4) zA.nd rfl (Or.inl rfl) (vc (za (pv 4)) ze))))))))
        (jo 5 (zf (zy (i:=8) zA.nd rfl (Or.inl rfl) (xk (za (pv 4)) ze))
        (zf (zy (i:=9) zA.nd rfl (Or.inl rfl) (DE.of (ve (za (pv 5)) we (vB (zp (DE.of (xY (zb ze (zb ze (zb ze (zb ze zd)))))) (xk (vc (za (pv 4)) ze) ze) (fun _ _=>rfl))))))
        (zf (qz (zP zbw ziz (xk (vc (za (pv 4)) ze) ze) ze (zI _)) (zg (jX (i:=9) zA.nd rfl rfl (qQ (zc qb) ["script", "start", "streams", "cell", "turned_v", "pairs", "a", "b", "more", "twice"] ["pair"] [] rfl rfl (by decide +kernel) rfl rfl (by decide +kernel) (by decide +kernel) (by decide +kernel) rfl (by decide +kernel) rfl (by decide +kernel)) rfl (z9 (za (pv 9))) (fun _ _ _ _=>qc) (fun _ _ _ _=>(qD (zb (zp (za (pv 0)) ze (fun _ _=>rfl)) (zb (zp (za (pv 0)) ze (fun _ _=>rfl)) zd)))))) zB)
        (zg (zt (DE.of (kz (DE.of (kz (DE.of (ve (za (pv 5)) (vB (za (pv 8))) we)) (DE.of (ve (za (pv 5)) we (vB (za (pv 8))))))) (za (pv 9))))))))))))))),fun ds Q h=>?_⟩)
  obtain⟨ns,st,n,rfl,s0,n1,n2,k⟩:=h
  have hz:(1000:Nat)≤sizeLine:=by decide
  walk_at "rd"
  refine⟨ns,st,rfl,s0,ns,st+1,rfl,by omega,?_⟩
  generalize cellAt ns st=ce
  generalize cellAt ns (st+1)=tu
  walk_at "rd"
  refine j9 (fun c1=>?g1) (fun c1=>?g2)
  case' g1 =>
    refine⟨by decide,j9 (fun c2=>?g3) (fun c2=>?g4)⟩
    case g3=>exact⟨⟨by decide,by decide⟩,_,n,rfl,of_decide_eq_true c1,n2,k⟩
  all_goals
    refine⟨by decide,fun p0=>⟨by omega,by omega,?_⟩⟩
    obtain⟨m,rfl⟩:∃ m:Nat,n=m:=⟨n.toNat,by omega⟩
    refine⟨Nat,List.range m,fun i=>.int (0+(i:Nat)),fun pre env=>∃ (p:Addr) (ce tu:Int) (cl:Cl) (r1 r2:Option SV),env=[some (.sh (.scr ns)),some (.sh (.int st)),some (.sh (.int m)),some (.sh (.int ce)),some (.sh (.int tu)),some (.ow p (cl.map dPr)),r1,r2,none,none]∧xX m cl∧cl.length≤6*pre.length,rfl,⟨p0,ce,tu,[],none,none,rfl,fun _ h=>(by cases h),Nat.zero_le _⟩,?_,?_⟩
    · rintro pre x post env e ⟨p,ce',tu',cl,r1,r2,rfl,hg,hl⟩
      obtain⟨rfl,hx,_⟩:=qa e
      walk_at "rd"
      refine⟨⟨by omega,by omega,by omega,by omega⟩,?_⟩
      refine⟨Nat,List.range ((m:Int) - ((pre.length:Int)+1)).toNat,fun i=>.int (((pre.length:Int)+1)+(i:Nat)),fun pre2 env=>∃ (p:Addr) (ce tu:Int) (cl:Cl) (r2:Option SV),env=[some (.sh (.scr ns)),some (.sh (.int st)),some (.sh (.int m)),some (.sh (.int ce)),some (.sh (.int tu)),some (.ow p (cl.map dPr)),some (.sh (.int pre.length)),r2,none,none]∧xX m cl∧cl.length≤6*pre.length+pre2.length,rfl,⟨p,ce',tu',cl,r2,rfl,hg,hl⟩,?_,?_⟩
      · rintro pre2 y post2 env e2 ⟨p,ce2,tu2,cl2,r3,rfl,hg2,hl2⟩
        obtain⟨rfl,hy,_⟩:=qa e2
        walk_at "rd"
        refine⟨by decide,?_⟩
        refine j9 (fun c=>?_) (fun c=>?_)
        · obtain⟨q,hq,hix⟩:∃ q:Int×Int,(q=((pre.length:Int),(pre.length:Int)+1+pre2.length)∨q=((pre.length:Int)+1+pre2.length,(pre.length:Int)))∧∀ R:D→Prop,rdIx (.lst [.tup [.int pre.length,.int ((pre.length:Int)+1+pre2.length)],.tup [.int ((pre.length:Int)+1+pre2.length),.int pre.length]]) (.int (tu2 % 2)) R=R (dPr q):=by
            rcases (show tu2 % 2=0∨tu2 % 2=1 by omega) with h | h
            · exact⟨_,.inl rfl,fun R=>by rw [h];rfl⟩
            · exact⟨_,.inr rfl,fun R=>by rw [h];rfl⟩
          rw [hix]
          refine⟨by decide,by decide,by decide,by decide,by rw [List.length_map];omega,⟨by decide,by decide⟩,⟨by decide,by decide⟩,p,ce2 / 2,tu2 / 2,cl2++[q],some (.sh (.int ((pre.length:Int)+1+pre2.length))),?_,?_,?_⟩
          · rw [List.map_append]
            rfl
          · refine hg2.app fun z hz'=>?_
            rw [List.mem_singleton.mp hz']
            rcases hq with rfl | rfl
            · show _∧_∧_∧_∧_
              simp only
              omega
            · show _∧_∧_∧_∧_
              simp only
              omega
          · rw [List.length_append,List.length_append]
            simp only [List.length_cons,List.length_nil]
            omega
        · refine⟨⟨by decide,by decide⟩,⟨by decide,by decide⟩,p,_,_,cl2,_,rfl,hg2,?_⟩
          rw [List.length_append]
          omega
      · rintro env ⟨p,ce2,tu2,cl2,r3,rfl,hg2,hl2⟩
        refine⟨p,_,_,cl2,_,_,rfl,hg2,?_⟩
        rw [List.length_range] at hl2
        rw [List.length_append]
        simp only [List.length_cons,List.length_nil]
        omega
    · rintro env ⟨p,ce2,tu2,cl,r1,r2,rfl,hg,hl⟩
      rw [List.length_range] at hl
      walk_at "rd"
      obtain⟨i0,hi0⟩:∃ i0:Int,∀ R:D→Prop,rdIx (.lst [.int 0,.int 1,.int 2,.int 15]) (.int (tu2 / 4 % 4)) R=R (.int i0):=by
        rcases (show tu2 / 4 % 4=0∨tu2 / 4 % 4=1∨tu2 / 4 % 4=2∨tu2 / 4 % 4=3 by omega) with h | h | h | h
        · exact⟨0,fun R=>by rw [h];rfl⟩
        · exact⟨1,fun R=>by rw [h];rfl⟩
        · exact⟨2,fun R=>by rw [h];rfl⟩
        · exact⟨15,fun R=>by rw [h];rfl⟩
      rw [hi0]
      refine⟨by decide,by decide,⟨by decide,by decide⟩,by decide,⟨by decide,by decide⟩,by decide,?_⟩
      simp only [zbg]
      have l1:=zbf cl (some (tu2 % 4)) none
      have l2:=zbf cl none (some (tu2 % 4))
      have l3:=zbf cl none (some i0)
      have fin:∀ t:Cl,xX m t→t.length≤cl.length→zeY (D.lst ((cut cl (some (tu2 % 4)) none).map dPr)) (D.lst ((cut cl none (some (tu2 % 4))).map dPr)) fun ds=>zeY (D.lst ds) (D.lst (t.map dPr)) fun ds=>Q (D.lst ds):=by
        intro t ht hl'
        refine⟨by rw [List.length_map,List.length_map];omega,?_⟩
        refine⟨by rw [List.length_append,List.length_map,List.length_map,List.length_map];omega,?_⟩
        rw [← List.map_append,← List.map_append]
        refine k _ ⟨((hg.of fun x hx=>wa hx).app (hg.of fun x hx=>wa hx)).app ht,?_⟩
        rw [List.length_append,List.length_append]
        omega
      refine j9 (fun c=>?_) (fun c=>?_)
      · refine⟨_,cut cl none (some i0),dPr,fun q=>some (dPr (q.2,q.1)),rfl,by omega,fun q _=>?_,?_⟩
        · walk_at "rd"
          exact⟨by decide,rfl⟩
        · rw [qF]
          have hm:(cut cl none (some i0)).map (fun q=>dPr (q.2,q.1))=((cut cl none (some i0)).map fun q=>(q.2,q.1)).map dPr:=by rw [List.map_map];rfl
          rw [hm]
          refine fin _ (fun x hx=>?_) (by rw [List.length_map];exact l3)
          obtain⟨q,hq,rfl⟩:=List.mem_map.mp hx
          have hq':=hg q (wa hq)
          exact⟨hq'.2.2.1,hq'.2.2.2.1,hq'.1,hq'.2.1,fun z=>hq'.2.2.2.2 z.symm⟩
      · exact fin _ (hg.of fun x hx=>wa hx) l3
theorem yC (B:Bi mg) (d__law_cell_at:Dn P w K mg base "_law_cell_at" ["script", "k"] 1 (spD K C zfr)) (F:Fun K "_law_wishes" "_law_wishes" qp f fd) :
    qr P w K mg base CX0 2 f fd ["script", "start", "streams"] (spD K C vL):=by
  refine xW F jV (fun ds Q h=>by obtain⟨ns,st,m,rfl,h0,hm,k⟩:=h;rfl) (fun cdv A outer s H E hr=>⟨_,(zf (zy (i:=3) jV.nd rfl (Or.inr rfl) (zp (DE.of (xY (zb ze (zb ze (zb ze (zb ze (zb (zkw ze ze) (zb ze zd)))))))) (xk (zE d__law_cell_at hr rfl (zb (za (pv 0)) (zb (za (pv 1)) zd))) ze) (fun _ _=>rfl)))
        (zg (zt (DE.of (xT (qQ (zc qp) ["script", "start", "streams", "most"] ["k", "script", "start", "most"] [0,1,3] rfl rfl (by decide +kernel) rfl rfl (by decide +kernel) (by decide +kernel) (by decide +kernel) rfl (by decide +kernel) rfl (by decide +kernel)) rfl (qe rfl B.b_range (zb (za (pv 2)) zd)) (fun _ _ _ _=>qc) (fun _ _ _ _=>(xk (zE d__law_cell_at hr rfl (zb (za (pv 1)) (zb (jd (jd (za (pv 2)) ze) (za (pv 0))) zd))) (za (pv 3))))))))),fun ds Q h=>?_⟩)
  obtain⟨ns,st,m,rfl,h0,hm,k⟩:=h
  have hz:(1000:Nat)≤sizeLine:=by decide
  walk_at "rd"
  refine⟨⟨by decide,by decide,by decide⟩,by omega,ns,st,rfl,h0,by decide,?_⟩
  obtain⟨M,hM,hix⟩:=ziM (cellAt ns st % 6) (by omega) (by omega)
  rw [hix]
  walk_at "rd"
  refine⟨by omega,by omega,Nat,List.range m,fun i=>.int (0+(i:Nat)),fun i=>some (.int (cellAt ns (st+1+(i:Int)) % M)),rfl,by rw [List.length_range];omega,fun i _=>?_,?_⟩
  · walk_at "rd"
    refine⟨ns,_,rfl,by omega,by omega,?_⟩
    rfl
  rw [qF]
  have:=k ((List.range m).map fun (i:Nat)=>cellAt ns (st+1+(i:Int)) % M) (by rw [List.length_map,List.length_range]) fun w hw=>by
    obtain⟨i,_,rfl⟩:=List.mem_map.mp hw
    have h1:=Int.emod_nonneg (cellAt ns (st+1+(i:Int))) (show M≠0 by omega)
    have h2:=Int.emod_lt_of_pos (cellAt ns (st+1+(i:Int))) (show 0 < M by omega)
    exact⟨h1,by omega⟩
  rw [List.map_map] at this
  exact this
theorem zbs (B:Bi mg) (F:Fun K "_law_low" "_law_low" xv f fd) :
    qr P w K mg base CX0 1 f fd ["top", "bottom"] (spD K C zj8):=by
  refine xW F q9 (fun ds Q h=>by obtain⟨t,b,rfl,hb,hz,k⟩:=h;rfl) (fun cdv A outer s H E hr=>⟨_,(zf (zy (i:=2) q9.nd rfl (Or.inl rfl) (zv y7 ziy rfl B.b_abs boot_abs (zb (za (pv 0)) zd)))
        (zf (zy (i:=3) q9.nd rfl (Or.inl rfl) (za (pv 1)))
        (zf (wg PassesOwn.never (zP zeB zkP (za (pv 3)) ze (zI _)) (zf (zy (i:=4) q9.nd rfl (Or.inl rfl) (xk (za (pv 2)) (za (pv 3))))
        (zf (zy (i:=2) q9.nd rfl (Or.inl rfl) (za (pv 3)))
        (zg (zy (i:=3) q9.nd rfl (Or.inl rfl) (za (pv 4)))))))
        (zg (zt (qD (zb (wd (za (pv 0)) (za (pv 2))) (zb (wd (za (pv 1)) (za (pv 2))) zd)))))))),fun ds Q h=>?_⟩)
  obtain⟨t,b,rfl,hb,hz,k⟩:=h
  obtain⟨y0,rfl⟩:∃ y0:Nat,b=y0:=⟨b.toNat,by omega⟩
  have eg:Nat.gcd t.natAbs y0=Int.gcd t (y0:Int):=by show _=Nat.gcd t.natAbs (y0:Int).natAbs;rw [Int.natAbs_natCast]
  have hg:0 < Int.gcd t (y0:Int):=Int.gcd_pos_of_ne_zero_right _ (by omega)
  have hgz:intBits (Int.gcd t (y0:Int):Int)≤8000:=by
    refine intBits_le_of_natAbs ?_ hz
    rw [Int.natAbs_natCast]
    exact Nat.gcd_le_right _ (by omega)
  walk_at "rd"
  refine⟨fun m env=>∃ (x y:Nat) (r:Option SV),env=[some (.sh (.int t)),some (.sh (.int y0)),some (.sh (.int x)),some (.sh (.int y)),r]∧Nat.gcd x y=Nat.gcd t.natAbs y0∧m=y,⟨y0,t.natAbs,y0,none,rfl,rfl,rfl⟩,?_⟩
  rintro m env ⟨x,y,r,rfl,g,rfl⟩
  walk_at "rd"
  refine j9 (fun c=>?_) (fun c=>?_)
  · have c':(0:Int) < (m:Int):=of_decide_eq_true c
    walk_at "rd"
    refine⟨c',x % m,Nat.mod_lt _ (by omega),m,x % m,_,rfl,zb8.trans g,rfl⟩
  · have c':¬ (0:Int) < (m:Int):=of_decide_eq_false (Bool.eq_false_iff.mpr c)
    obtain rfl:m=0:=by omega
    rw [Nat.gcd_zero_right,eg] at g
    subst g
    walk_at "rd"
    obtain⟨e1,e2⟩:=zeq (t:=t) (b:=y0) (by omega)
    refine⟨⟨by omega,hgz⟩,⟨by omega,hgz⟩,by decide,?_⟩
    rw [e1,e2]
    exact k
theorem zbt (B:Bi mg) (d__law_low:Dn P w K mg base "_law_low" ["top", "bottom"] 1 (spD K C zj8)) (F:Fun K "_law_sum" "_law_sum" xw f fd) :
    qr P w K mg base CX0 2 f fd ["one", "other"] (spD K C zjQ):=by
  refine xW F zbH (fun ds Q h=>by obtain⟨p,q,rfl,hp,hq,k⟩:=h;rfl) (fun cdv A outer s H E hr=>⟨_,(zg (zt (zE d__law_low hr rfl (zb (jd (xg (zp (za (pv 0)) ze (fun _ _=>rfl)) (zp (za (pv 1)) ze (fun _ _=>rfl))) (xg (zp (za (pv 1)) ze (fun _ _=>rfl)) (zp (za (pv 0)) ze (fun _ _=>rfl)))) (zb (xg (zp (za (pv 0)) ze (fun _ _=>rfl)) (zp (za (pv 1)) ze (fun _ _=>rfl))) zd))))),fun ds Q h=>?_⟩)
  obtain⟨p,q,rfl,hp,hq,k⟩:=h
  walk_at "rd"
  refine⟨zaG hp.top hq.bot,zaG hq.top hp.bot,zaG hp.bot hq.bot,_,_,rfl,Int.mul_pos (by have:=p.den_pos;omega) (by have:=q.den_pos;omega),Nat.le_trans (intBits_mul_le hp.bot hq.bot) (by decide),?_⟩
  rw [add_eq]
  exact k
theorem zbr (B:Bi mg) (d__law_sum:Dn P w K mg base "_law_sum" ["one", "other"] 2 (spD K C zjQ)) (F:Fun K "_law_all" "_law_all" xu f fd) :
    qr P w K mg base CX0 3 f fd ["row"] (spD K C zcH):=by
  refine xW F jc (fun ds Q h=>by obtain⟨qs,rfl,hz,k⟩:=h;rfl) (fun cdv A outer s H E hr=>⟨_,(zf (zy (i:=1) jc.nd rfl (Or.inl rfl) (qD (zb ze (zb ze zd))))
        (zf (qy PassesOwn.never rfl (z9 (za (pv 0))) (z8 (i:=2) jc.nd rfl (Or.inl rfl)) (zg (zy (i:=1) jc.nd rfl (Or.inl rfl) (zE d__law_sum hr rfl (zb (za (pv 1)) (zb (za (pv 2)) zd))))))
        (zg (zt (za (pv 1)))))),fun ds Q h=>?_⟩)
  obtain⟨qs,rfl,hz,k⟩:=h
  walk_at "rd"
  refine⟨by decide,?_⟩
  refine⟨Rat,qs,dQ,fun pre env=>∃ r:Option SV,env=[some (.sh (.lst (qs.map dQ))),some (.sh (dQ (jT pre))),r],rfl,⟨_,rfl⟩,?_,?_⟩
  · rintro pre q post env e ⟨r,rfl⟩
    walk_at "rd"
    refine⟨_,_,rfl,(SzL.pre (e ▸ hz)).sum.mono (by decide),(hz.mem (by rw [e];simp)).mono (by decide),?_⟩
    rw [← zfo]
    exact⟨_,rfl⟩
  · rintro env ⟨r,rfl⟩
    walk_at "rd"
    exact k
theorem zaL (B:Bi mg) (F:Fun K "_law_less" "_law_less" qY f fd) :
    qr P w K mg base CX0 1 f fd ["one", "other"] (spD K C yH):=by
  refine xW F zaW (fun ds Q h=>by obtain⟨p,q,rfl,hp,hq,k⟩:=h;rfl) (fun cdv A outer s H E hr=>⟨_,(zg (zt (je vZ zdr (xg (zp (za (pv 0)) ze (fun _ _=>rfl)) (zp (za (pv 1)) ze (fun _ _=>rfl))) (xg (zp (za (pv 1)) ze (fun _ _=>rfl)) (zp (za (pv 0)) ze (fun _ _=>rfl))) (zI _)))),fun ds Q h=>?_⟩)
  obtain⟨p,q,rfl,hp,hq,k⟩:=h
  walk_at "rd"
  refine⟨zaG hp.top hq.bot,zaG hq.top hp.bot,?_⟩
  rw [lt_eq]
  exact k
theorem wG (B:Bi mg) (F:Fun K "_law_whole" "_law_whole" qN f fd) :
    qr P w K mg base CX0 1 f fd ["found"] (spD K C kn):=by
  refine xW F wQ (fun ds Q h=>by obtain⟨i,rfl,k⟩:=h;rfl) (fun cdv A outer s H E hr=>⟨_,(zg (zt (zdR (zv xf vQ rfl B.b_isinstance boot_isinstance (zb (za (pv 0)) (zb (zas rfl B.b_int boot_int) zd))) (zaq (zku (zv xf vQ rfl B.b_isinstance boot_isinstance (zb (za (pv 0)) (zb (zas rfl B.b_bool boot_bool) zd)))))))),fun ds Q h=>?_⟩)
  obtain⟨i,rfl,k⟩:=h
  walk_at "rd"
  exact k
theorem vX (B:Bi mg) (d__law_whole:Dn P w K mg base "_law_whole" ["found"] 1 (spD K C kn)) (F:Fun K "_law_fraction" "_law_fraction" qi f fd) :
    qr P w K mg base CX0 2 f fd ["found", "due"] (spD K C zg6):=by
  refine xW F v7 (fun ds Q h=>by obtain⟨p,rfl,k⟩:=h;rfl) (fun cdv A outer s H E hr=>⟨_,(zf (qz (DW.db (jq (qR (zX (zv xf vQ rfl B.b_isinstance boot_isinstance (zb (za (pv 0)) (zb (zas rfl B.b_tuple boot_tuple) zd))))) (jq (zP zc9 zj6 (zv zw jO rfl B.b_len PySem.boot_len (zb (za (pv 0)) zd)) ze (zI _)) (jq (qR (zX (zE d__law_whole hr rfl (zb (zp (za (pv 0)) ze (fun _ _=>rfl)) zd)))) (jf (qR (zX (zE d__law_whole hr rfl (zb (zp (za (pv 0)) ze (fun _ _=>rfl)) zd))))))))) (zg (zt xI)) zB)
        (zg (zt (je (zco hr.units) zgj (za (pv 0)) (za (pv 1)) (zI _))))),fun ds Q h=>?_⟩)
  obtain⟨p,rfl,k⟩:=h
  walk_at "rd"
  refine⟨_,rfl,_,rfl,ziR _,ziR _,?_⟩
  rw [vh 1 _ (ziR _)]
  exact k
theorem wD (B:Bi mg) (F:Fun K "_law_clash" "_law_clash" qM f fd) :
    qr P w K mg base CX0 1 f fd ["clashes", "one", "other"] (spD K C yo):=by
  refine xW F wO (fun ds Q h=>by obtain⟨cl,a,b,rfl,k⟩:=h;rfl) (fun cdv A outer s H E hr=>⟨_,(zg (zt (zkv (je (zeC hr.units) zhz (qD (zb (za (pv 1)) (zb (za (pv 2)) zd))) (za (pv 0)) (by with_unfolding_all rfl)) (zaq (je (zeC hr.units) zhz (qD (zb (za (pv 2)) (zb (za (pv 1)) zd))) (za (pv 0)) (by with_unfolding_all rfl)))))),fun ds Q h=>?_⟩)
  obtain⟨cl,a,b,rfl,k⟩:=h
  walk_at "rd"
  refine⟨by decide,(a,b),cl,rfl,rfl,?_⟩
  unfold lcl at k
  cases h:decide ((a,b)∈cl)
  · refine⟨by decide,(b,a),cl,rfl,rfl,?_⟩
    rw [h,Bool.false_or] at k
    exact k
  · rw [h,Bool.true_or] at k
    exact k
theorem vY (B:Bi mg) (d__law_clash:Dn P w K mg base "_law_clash" ["clashes", "one", "other"] 1 (spD K C yo)) (F:Fun K "_law_together" "_law_together" qj f fd) :
    qr P w K mg base CX0 2 f fd ["clashes", "group"] (spD K C xR):=by
  refine xW F xj (fun ds Q h=>by obtain⟨cl,g,rfl,k⟩:=h;rfl) (fun cdv A outer s H E hr=>⟨_,(zf (qy PassesOwn.never rfl (zb5 (za (pv 1))) (z8 (i:=2) xj.nd rfl (Or.inl rfl)) (zg (qy PassesOwn.never rfl (zb5 (za (pv 1))) (z8 (i:=3) xj.nd rfl (Or.inl rfl)) (zg (qz (DW.db (zat (zP zc9 zj6 (za (pv 2)) (za (pv 3)) (zI _)) (kB (zX (zE d__law_clash hr rfl (zb (za (pv 0)) (zb (za (pv 2)) (zb (za (pv 3)) zd)))))))) (zg (zt xI)) zB)))))
        (zg (zt xI))),fun ds Q h=>?_⟩)
  obtain⟨cl,g,rfl,k⟩:=h
  walk_at "rd"
  refine⟨Int,g,D.int,fun pre env=>∃ r1 r2:Option SV,env=[some (.sh (.lst (cl.map dPr))),some (.sh (dG g)),r1,r2]∧(pre.all fun a=>g.all fun b=>!(decide (a≠b) && lcl cl a b))=true,rfl,⟨none,none,rfl,rfl⟩,?_,?_⟩
  · rintro pre a post env e ⟨r1,r2,rfl,hi⟩
    walk_at "rd"
    refine⟨Int,g,D.int,fun pre2 env=>∃ r2:Option SV,env=[some (.sh (.lst (cl.map dPr))),some (.sh (dG g)),some (.sh (.int a)),r2]∧(pre2.all fun b=>!(decide (a≠b) && lcl cl a b))=true,rfl,⟨_,rfl,rfl⟩,?_,?_⟩
    · rintro pre2 b post2 env e2 ⟨r3,rfl,hi2⟩
      walk_at "rd"
      refine j9 (fun c1=>?_) (fun c1=>?_)
      · have c1':a≠b:=of_decide_eq_false (by simpa using c1)
        refine⟨cl,a,b,rfl,?_⟩
        refine j9 (fun c2=>?_) (fun c2=>?_)
        · have z:zgm cl g=false:=by
            refine Bool.eq_false_iff.mpr fun h=>?_
            unfold zgm at h
            have h1:=List.all_eq_true.mp h a (by rw [e];simp)
            have h2:=List.all_eq_true.mp h1 b (by rw [e2];simp)
            rw [c2,decide_eq_true c1'] at h2
            cases h2
          rw [z] at k
          exact k
        · refine⟨_,rfl,?_⟩
          rw [List.all_append,hi2,Bool.true_and,List.all_cons,Bool.eq_false_iff.mpr c2,Bool.and_false]
          rfl
      · have c1':a=b:=of_decide_eq_true (by simpa using c1)
        refine⟨_,rfl,?_⟩
        rw [List.all_append,hi2,Bool.true_and,List.all_cons,decide_eq_false (fun z=>z c1'),Bool.false_and]
        rfl
    · rintro env ⟨r3,rfl,hi2⟩
      refine⟨_,_,rfl,?_⟩
      rw [List.all_append,hi,Bool.true_and,List.all_cons,hi2]
      rfl
  · rintro env ⟨r1,r2,rfl,hi⟩
    walk_at "rd"
    have hi':zgm cl g=true:=hi
    rw [hi'] at k
    exact k
theorem jS (B:Bi mg) (d__law_low:Dn P w K mg base "_law_low" ["top", "bottom"] 1 (spD K C zj8)) (d__law_whole:Dn P w K mg base "_law_whole" ["found"] 1 (spD K C kn)) (d__law_fraction:Dn P w K mg base "_law_fraction" ["found", "due"] 2 (spD K C zg6)) (d__law_together:Dn P w K mg base "_law_together" ["clashes", "group"] 2 (spD K C xR)) (F:Fun K "_law_phases_right" "_law_phases_right" zH f fd) :
    qr P w K mg base CX0 3 f fd ["plan", "clashes"] (spD K C zbN):=by
  refine xW F xn (fun ds Q h=>by obtain⟨pl,cl,rfl,hl,hp,k⟩:=h;rfl) (fun cdv A outer s H E hr=>⟨_,(zf (qz (qR (zX (zv xf vQ rfl B.b_isinstance boot_isinstance (zb (za (pv 0)) (zb (zas rfl B.b_list boot_list) zd))))) (zg (zt xI)) zB)
        (zf (qy PassesOwn.never rfl (z9 (za (pv 0))) (z8 (i:=2) xn.nd rfl (Or.inl rfl)) (zf (qz (DW.db (jq (qR (zX (zv xf vQ rfl B.b_isinstance boot_isinstance (zb (za (pv 2)) (zb (zas rfl B.b_tuple boot_tuple) zd))))) (jq (zP zc9 zj6 (zv zw jO rfl B.b_len PySem.boot_len (zb (za (pv 2)) zd)) ze (zI _)) (jf (qR (zX (zv xf vQ rfl B.b_isinstance boot_isinstance (zb (zp (za (pv 2)) ze (fun _ _=>rfl)) (zb (zas rfl B.b_tuple boot_tuple) zd))))))))) (zg (zt xI)) zB)
        (zf (qz (DW.db (jq (qR (zX (zks rfl rfl B.b_all (zb (DE.of (xT (qQ (zc zH) ["plan", "clashes", "phase"] ["stream"] [] rfl rfl (by decide +kernel) rfl rfl (by decide +kernel) (by decide +kernel) (by decide +kernel) rfl (by decide +kernel) rfl (by decide +kernel)) rfl (zb5 (zp (za (pv 2)) ze (fun _ _=>rfl))) (fun _ _ _ _=>qc) (fun _ _ _ _=>(zE d__law_whole hr rfl (zb (za (pv 0)) zd))))) zd)))) (jf (zP (zeD hr.units) ziB (DE.of (ky jm zej rfl B.b_list boot_list (zb (zp (za (pv 2)) ze (fun _ _=>rfl)) zd))) (DE.of (zbi rfl B.b_sorted rfl B.b_set rfl (zp (za (pv 2)) ze (fun _ _=>rfl)))) (zI _))))) (zg (zt xI)) zB)
        (zf (qz (DW.db (jq (qR (zX (zE d__law_together hr rfl (zb (za (pv 1)) (zb (zp (za (pv 2)) ze (fun _ _=>rfl)) zd))))) (jf (qR (zX (zE d__law_fraction hr rfl (zb (zp (za (pv 2)) ze (fun _ _=>rfl)) (zb (zE d__law_low hr rfl (zb (zp (zp (za (pv 2)) ze (fun _ _=>rfl)) ze (fun _ _=>rfl)) (zb (zp (zp (za (pv 2)) ze (fun _ _=>rfl)) ze (fun _ _=>rfl)) zd))) zd)))))))) (zg (zt xI)) zB)
        (zg (qz (zP vZ zdr (zp (zp (za (pv 2)) ze (fun _ _=>rfl)) ze (fun _ _=>rfl)) ze (zI _)) (zg (zt xI)) zB))))))
        (zg (zt xI)))),fun ds Q h=>?_⟩)
  obtain⟨pl,cl,rfl,hl,hp,k⟩:=h
  have hz:(1000:Nat)≤sizeLine:=by decide
  walk_at "rd"
  refine⟨_,pl,dPh,fun pre env=>∃ r:Option SV,env=[some (.sh (.lst (pl.map dPh))),some (.sh (.lst (cl.map dPr))),r],rfl,⟨none,rfl⟩,?_,?_⟩
  · rintro pre ph post env e ⟨r,rfl⟩
    obtain⟨h6,ht,hpos,hsz⟩:=hp ph (by rw [e];simp)
    have hg6:=GS.J.wW _ h6
    walk_at "rd"
    rw [show zfK (dPh ph) "tuple" = some true from rfl]
    refine iteF ?_
    show if (!decide (((2:Nat):Int)=2))=true then _ else _
    refine iteF ?_
    walk_at "rd"
    show zlZ _ _ _
    walk_at "rd"
    refine⟨Int,ph.1,D.int,fun _=>some (.bl true),rfl,by omega,fun s _=>⟨s,rfl,rfl⟩,?_⟩
    rw [qF]
    refine⟨ph.1.map fun _=>true,by rw [List.map_map];rfl,?_⟩
    have ea:(ph.1.map fun _=>true).all id=true:=by rw [List.all_map];exact List.all_eq_true.mpr fun _ _=>rfl
    rw [ea]
    refine iteF ?_
    show ∃ g,dG ph.1=dG g∧g∈GS.J.six∧ok 8 (D.lst (ph.1.map D.int))=true∧ok 8 (D.lst (List.map D.int g))=true∧(if (!eqD (D.lst (ph.1.map D.int)) (D.lst (List.map D.int g)))=true then _ else _)
    have ok1:ok 8 (D.lst (ph.1.map D.int))=true:=wI (n:=7) ph.1
    refine⟨ph.1,rfl,h6,ok1,ok1,?_⟩
    rw [vh 8 _ ok1]
    refine iteF ?_
    refine⟨cl,ph.1,rfl,?_⟩
    rw [ht]
    refine iteF ?_
    refine⟨_,_,rfl,by have:=ph.2.den_pos;omega,Nat.le_trans hsz.bot (by decide),?_⟩
    rw [zci]
    refine⟨ph.2,rfl,iteF ?_⟩
    rw [decide_eq_false (show ¬ ph.2.num < 1 by have:=ziP hpos;omega)]
    exact iteF ⟨_,rfl⟩
  · rintro env ⟨r,rfl⟩
    walk_at "rd"
    exact k
theorem zaK (B:Bi mg) (F:Fun K "_law_bits" "_law_bits" qX f fd) :
    qr P w K mg base CX0 1 f fd ["number", "streams"] (spD K C zjM):=by
  refine xW F xP (fun ds Q h=>by obtain⟨n,kk,rfl,hk,k⟩:=h;rfl) (fun cdv A outer s H E hr=>⟨_,(zf (kA (i:=2) xP.nd rfl (Or.inl rfl) (xY zd))
        (zf (qy PassesOwn.never rfl (qe rfl B.b_range (zb (za (pv 1)) zd)) (z8 (i:=3) xP.nd rfl (Or.inl rfl)) (zf (qz (zP zbw ziz (xk (za (pv 0)) ze) ze (zI _)) (zg (xZ (ja (zbz PySem.F.plainAttrs_list PySem.F.slot_list_append PySem.F.type_list_append xD (pv 2) (zb (za (pv 3)) zd))))) zB)
        (zg (zy (i:=0) xP.nd rfl (Or.inl rfl) (vc (za (pv 0)) ze)))))
        (jo 2 (zg (zt (zdS y8 ziD rfl B.b_tuple boot_tuple (zb (za (pv 2)) zd))))))),fun ds Q h=>?_⟩)
  obtain⟨n,kk,rfl,hk,k⟩:=h
  walk_at "rd"
  refine⟨by decide,fun p0=>⟨by omega,by omega,?_⟩⟩
  refine⟨Nat,List.range kk,fun i=>.int (0+(i:Nat)),fun pre env=>∃ (p:Addr) (r:Option SV),env=[some (.sh (.int (n / 2 ^ pre.length))),some (.sh (.int kk)),some (.ow p ((xJ n pre.length).map D.int)),r],rfl,⟨p0,none,by simp [xJ]⟩,?_,?_⟩
  · rintro pre x post env e ⟨p,r,rfl⟩
    obtain⟨rfl,hx,_⟩:=qa e
    have e1:=kr n pre.length
    have e2:=zd8 n pre.length
    walk_at "rd"
    rw [List.length_append,List.length_singleton]
    refine⟨by decide,?_⟩
    refine j9 (fun c=>?_) (fun c=>?_)
    · have c':n / 2 ^ pre.length % 2=1:=of_decide_eq_true c
      rw [if_pos c'] at e1
      refine⟨?_,⟨by decide,by decide⟩,?_⟩
      · rw [List.length_map]
        unfold xJ
        rw [List.length_map]
        have h1:=List.length_filter_le (fun (i:Nat)=>n / 2 ^ i % 2 == 1) (List.range pre.length)
        rw [List.length_range] at h1
        have:(64:Nat)≤sizeLine:=by decide
        omega
      · rw [e1,← e2,List.map_append]
        exact⟨_,_,rfl⟩
    · have c':¬ n / 2 ^ pre.length % 2=1:=of_decide_eq_false (Bool.eq_false_iff.mpr c)
      rw [if_neg c',List.append_nil] at e1
      refine⟨⟨by decide,by decide⟩,?_⟩
      rw [e1,← e2]
      exact⟨_,_,rfl⟩
  · rintro env ⟨p,r,rfl⟩
    walk_at "rd"
    rw [List.length_range]
    exact k
theorem yB (B:Bi mg) (d__law_together:Dn P w K mg base "_law_together" ["clashes", "group"] 2 (spD K C xR)) (d__law_bits:Dn P w K mg base "_law_bits" ["number", "streams"] 1 (spD K C zjM)) (F:Fun K "_law_groups" "_law_groups" z4 f fd) :
    qr P w K mg base CX0 3 f fd ["clashes", "streams"] (spD K C vK):=by
  refine xW F jU (fun ds Q h=>by obtain⟨cl,m,rfl,m1,m2,hg,k⟩:=h;rfl) (fun cdv A outer s H E hr=>⟨_,(zf (jX (i:=2) jU.nd rfl rfl (qQ (zc z4) ["clashes", "streams", "groups"] ["number", "streams"] [1] rfl rfl (by decide +kernel) rfl rfl (by decide +kernel) (by decide +kernel) (by decide +kernel) rfl (by decide +kernel) rfl (by decide +kernel)) rfl (qe rfl B.b_range (zb (zp (DE.of (xY (zb ze (zb ze (zb ze (zb ze (zb ze (zb ze (zb ze zd))))))))) (za (pv 1)) (fun _ _=>rfl)) zd)) (fun _ _ _ _=>qc) (fun _ _ _ _=>(zE d__law_bits hr rfl (zb (za (pv 0)) (zb (za (pv 1)) zd)))))
        (zg (zt (DE.of (zb3 rfl B.b_sorted hr.units (DE.of (xT (qQ (zc z4) ["clashes", "streams", "groups"] ["group", "clashes"] [0] rfl rfl (by decide +kernel) rfl rfl (by decide +kernel) (by decide +kernel) (by decide +kernel) rfl (by decide +kernel) rfl (by decide +kernel)) rfl (z9 (za (pv 2))) (fun _ _ _ _=>vf (zX (zE d__law_together hr rfl (zb (za (pv 1)) (zb (za (pv 0)) zd))))) (fun _ _ _ _=>(za (pv 0)))))))))),fun ds Q h=>?_⟩)
  obtain⟨cl,m,rfl,m1,m2,hg,k⟩:=h
  have hz:(1000:Nat)≤sizeLine:=by decide
  obtain⟨N,hN,hix⟩:=zlq (m:=m) m2
  have hN64:N≤64:=by rw [hN];exact Nat.le_trans (Nat.pow_le_pow_right (by decide) m2) (by decide)
  walk_at "rd"
  show zan _ _ _
  walk_at "rd"
  rw [hix]
  refine⟨by decide,by omega,by omega,Nat,List.range N,fun i=>.int (0+(i:Nat)),fun i=>some (dG (xJ (i:Int) m)),rfl,by rw [List.length_range];omega,fun i _=>?_,?_⟩
  · walk_at "rd"
    exact⟨i,m,rfl,by omega,rfl⟩
  rw [qF]
  have hA:(List.range N).map (fun (i:Nat)=>dG (xJ (i:Int) m))=(gsA m).map dG:=by
    rw [zcb,hN,List.map_map]
    rfl
  rw [hA]
  have hlA:=wo m
  refine⟨_,gsA m,dG,fun g=>if zgm cl g=true then some (dG g) else none,rfl,by omega,fun g hgm=>?_,?_⟩
  · walk_at "rd"
    refine⟨cl,g,rfl,?_⟩
    exact j9 (fun c=>if_pos c) (fun c=>if_neg c)
  rw [zd3]
  have hf:(gsA m).filter (fun g=>zgm cl g)=gsR (sd (cl.map rise)) m:=by
    unfold gsR
    exact List.filter_congr fun g _=>(zcd (n:=m) (by omega) hg g).symm
  obtain⟨l,hl⟩:=wq (sd (cl.map rise)) m
  have h2:=zd7 (zlI m2 hg) m1
  have hn:=kG (sd (cl.map rise)) m
  have h64:=zhu (sd (cl.map rise)) m2
  rw [hf]
  rw [hl] at h2 hn h64 k ⊢
  rw [List.length_cons] at h2 h64
  exact⟨l,rfl,hn,by omega,h64,k⟩
theorem jY (B:Bi mg) (d__law_low:Dn P w K mg base "_law_low" ["top", "bottom"] 1 (spD K C zj8)) (d__law_all:Dn P w K mg base "_law_all" ["row"] 3 (spD K C zcH)) (d__law_less:Dn P w K mg base "_law_less" ["one", "other"] 1 (spD K C yH)) (d__law_fraction:Dn P w K mg base "_law_fraction" ["found", "due"] 2 (spD K C zg6)) (d__law_groups:Dn P w K mg base "_law_groups" ["clashes", "streams"] 3 (spD K C vK)) (F:Fun K "_law_paper_right" "_law_paper_right" zM f fd) :
    qr P w K mg base CX0 4 f fd ["weights", "clashes", "streams"] (spD K C zbM):=by
  refine xW F qJ (fun ds Q h=>by obtain⟨qs,cl,m,rfl,m1,m6,hg,hl,hq,hqg,k⟩:=h;rfl) (fun cdv A outer s H E hr=>⟨_,(zf (qz (DW.db (jq (qR (zX (zv xf vQ rfl B.b_isinstance boot_isinstance (zb (za (pv 0)) (zb (zas rfl B.b_list boot_list) zd))))) (jf (zP zc9 zj6 (zv zw jO rfl B.b_len PySem.boot_len (zb (za (pv 0)) zd)) (za (pv 2)) (zI _))))) (zg (zt xI)) zB)
        (zf (qy PassesOwn.never rfl (z9 (za (pv 0))) (z8 (i:=3) qJ.nd rfl (Or.inl rfl)) (zg (qz (DW.db (jq (qR (zX (zE d__law_fraction hr rfl (zb (za (pv 3)) (zb (zE d__law_low hr rfl (zb (zp (za (pv 3)) ze (fun _ _=>rfl)) (zb (zp (za (pv 3)) ze (fun _ _=>rfl)) zd))) zd))))) (jf (zP vZ zdr (zp (za (pv 3)) ze (fun _ _=>rfl)) ze (zI _))))) (zg (zt xI)) zB)))
        (zf (qy PassesOwn.never rfl (z9 (zE d__law_groups hr rfl (zb (za (pv 1)) (zb (za (pv 2)) zd)))) (z8 (i:=4) qJ.nd rfl (Or.inl rfl)) (zg (qz (zX (zE d__law_less hr rfl (zb (qD (zb ze (zb ze zd))) (zb (zE d__law_all hr rfl (zb (DE.of (xT (qQ (zc zM) ["weights", "clashes", "streams", "weight", "group"] ["stream", "weights"] [0] rfl rfl (by decide +kernel) rfl rfl (by decide +kernel) (by decide +kernel) (by decide +kernel) rfl (by decide +kernel) rfl (by decide +kernel)) rfl (zb5 (za (pv 4))) (fun _ _ _ _=>qc) (fun _ _ _ _=>(zp (za (pv 1)) (za (pv 0)) (fun _ _=>rfl))))) zd)) zd)))) (zg (zt xI)) zB)))
        (zg (zt xI))))),fun ds Q h=>?_⟩)
  obtain⟨qs,cl,m,rfl,m1,m6,hg,hl,hq,hqg,k⟩:=h
  have hz:(1000:Nat)≤sizeLine:=by decide
  walk_at "rd"
  rw [List.length_map,hl,decide_eq_true rfl]
  refine iteF ?_
  refine⟨_,qs,dQ,fun pre env=>∃ r:Option SV,env=[some (.sh (.lst (qs.map dQ))),some (.sh (.lst (cl.map dPr))),some (.sh (.int m)),r,none],rfl,⟨none,rfl⟩,?_,?_⟩
  · rintro pre q post env e ⟨r,rfl⟩
    obtain⟨q0,hs⟩:=hq q (by rw [e];simp)
    walk_at "rd"
    refine⟨_,_,rfl,by have:=q.den_pos;omega,Nat.le_trans hs.bot (by decide),?_⟩
    rw [zci]
    refine⟨q,rfl,iteF ?_⟩
    have:=Rat.num_nonneg.mpr q0
    rw [decide_eq_false (show ¬ q.num < 0 by omega)]
    exact iteF ⟨_,rfl⟩
  · rintro env ⟨r,rfl⟩
    walk_at "rd"
    refine⟨cl,m,rfl,m1,m6,hg,fun gs hperm _=>?_⟩
    refine⟨_,gs,dG,fun pre env=>∃ r':Option SV,env=[some (.sh (.lst (qs.map dQ))),some (.sh (.lst (cl.map dPr))),some (.sh (.int m)),r,r'],rfl,⟨none,rfl⟩,?_,?_⟩
    · rintro pre g post env e ⟨r',rfl⟩
      have hgm:g∈gsR (sd (cl.map rise)) m:=hperm.mem_iff.mp (by rw [e];simp)
      have hin:=(zaA hgm).2
      have hgl:=vi (List.mem_filter.mp hgm).1
      walk_at "rd"
      refine⟨by decide,?_⟩
      show zlZ _ _ _
      walk_at "rd"
      refine⟨Int,g,D.int,fun s=>some (dQ (qs.getD s.toNat 0)),rfl,by omega,fun s hs=>?_,?_⟩
      · have:=hin s hs
        walk_at "rd"
        rw [vp (i:=s.toNat) (d:=0) (by omega) (by omega)]
      rw [qF]
      have hsl:SzL (g.map fun (s:Int)=>qs.getD s.toNat 0):=zlM (by rw [List.length_map];omega) fun q hq'=>by
        obtain⟨s,hs,rfl⟩:=List.mem_map.mp hq'
        have:=hin s hs
        rw [Sx.getD_at (l:=qs) (by omega)]
        exact (hq _ (List.getElem_mem _)).2
      refine⟨g.map fun (s:Int)=>qs.getD s.toNat 0,by rw [List.map_map];rfl,hsl,1,_,rfl,(Sz.int (n:=1) (i:=1) (by decide) (by decide)).mono (by decide),hsl.sum.mono (by decide),?_⟩
      rw [decide_eq_false (Rat.not_lt.mpr (hqg g hgm))]
      exact iteF ⟨_,rfl⟩
    · rintro env ⟨r',rfl⟩
      walk_at "rd"
      exact k
theorem wF (B:Bi mg) (d__law_low:Dn P w K mg base "_law_low" ["top", "bottom"] 1 (spD K C zj8)) (d__law_all:Dn P w K mg base "_law_all" ["row"] 3 (spD K C zcH)) (d__law_less:Dn P w K mg base "_law_less" ["one", "other"] 1 (spD K C yH)) (d__law_phases_right:Dn P w K mg base "_law_phases_right" ["plan", "clashes"] 3 (spD K C zbN)) (d__law_paper_right:Dn P w K mg base "_law_paper_right" ["weights", "clashes", "streams"] 4 (spD K C zbM)) (F:Fun K "_law_right" "_law_right" z5 f fd) :
    qr P w K mg base CX0 5 f fd ["found", "clashes", "wishes"] (spD K C yp):=by
  refine xW F qT (fun ds Q h=>by obtain⟨pl,qs,cl,ws,m,rfl,m1,m6,hg,hwl,hw,B,k⟩:=h;rfl) (fun cdv A outer s H E hr=>⟨_,(zf (qz (DW.db (jq (qR (zX (zv xf vQ rfl B.b_isinstance boot_isinstance (zb (za (pv 0)) (zb (zas rfl B.b_tuple boot_tuple) zd))))) (jq (zP zc9 zj6 (zv zw jO rfl B.b_len PySem.boot_len (zb (za (pv 0)) zd)) ze (zI _)) (jf (qR (zX (zE d__law_phases_right hr rfl (zb (zp (za (pv 0)) ze (fun _ _=>rfl)) (zb (za (pv 1)) zd))))))))) (zg (zt xI)) zB)
        (zf (qz (qR (zX (zE d__law_paper_right hr rfl (zb (zp (za (pv 0)) ze (fun _ _=>rfl)) (zb (za (pv 1)) (zb (zv zw jO rfl B.b_len PySem.boot_len (zb (za (pv 2)) zd)) zd)))))) (zg (zt xI)) zB)
        (zf (qy PassesOwn.never rfl (qe rfl B.b_range (zb (zv zw jO rfl B.b_len PySem.boot_len (zb (za (pv 2)) zd)) zd)) (z8 (i:=3) qT.nd rfl (Or.inr rfl)) (zf (qy PassesOwn.never rfl (z9 (zp (za (pv 0)) ze (fun _ _=>rfl))) (z8 (i:=4) qT.nd rfl (Or.inl rfl)) (zg (qz (DW.db (zat (zP (zeD hr.units) ziB (zp (za (pv 4)) ze (fun _ _=>rfl)) (qD zd) (zI _)) (kB (DW.db (jq (zP vZ zdr (zp (zp (za (pv 4)) ze (fun _ _=>rfl)) ze (fun _ _=>rfl)) ze (zI _)) (jf (zP zmE znT (zp (zp (za (pv 4)) ze (fun _ _=>rfl)) (vd ze) (fun _ _=>rfl)) (zv zw jO rfl B.b_len PySem.boot_len (zb (za (pv 2)) zd)) (zI _)))))))) (zg (zt xI)) zB)))
        (zg (qz (zX (zE d__law_less hr rfl (zb (zE d__law_all hr rfl (zb (DE.of (xT (qQ (zc z5) ["found", "clashes", "wishes", "stream", "phase", "whole_v", "weighed"] ["phase", "stream"] [3] rfl rfl (by decide +kernel) rfl rfl (by decide +kernel) (by decide +kernel) (by decide +kernel) rfl (by decide +kernel) rfl (by decide +kernel)) rfl (z9 (zp (za (pv 0)) ze (fun _ _=>rfl))) (fun _ _ _ _=>vf (zP vo zl3 (za (pv 1)) (zp (za (pv 0)) ze (fun _ _=>rfl)) (by with_unfolding_all rfl))) (fun _ _ _ _=>(zp (za (pv 0)) ze (fun _ _=>rfl))))) zd)) (zb (qD (zb (zp (za (pv 2)) (za (pv 3)) (fun _ _=>rfl)) (zb ze zd))) zd)))) (zg (zt xI)) zB))))
        (zf (zy (i:=5) qT.nd rfl (Or.inl rfl) (zE d__law_all hr rfl (zb (DE.of (xT (qQ (zc z5) ["found", "clashes", "wishes", "stream", "phase", "whole_v", "weighed"] ["phase"] [] rfl rfl (by decide +kernel) rfl rfl (by decide +kernel) (by decide +kernel) (by decide +kernel) rfl (by decide +kernel) rfl (by decide +kernel)) rfl (z9 (zp (za (pv 0)) ze (fun _ _=>rfl))) (fun _ _ _ _=>qc) (fun _ _ _ _=>(zp (za (pv 0)) ze (fun _ _=>rfl))))) zd)))
        (zf (jX (i:=6) qT.nd rfl rfl (qQ (zc z5) ["found", "clashes", "wishes", "stream", "phase", "whole_v", "weighed"] ["k", "found", "wishes"] [0,2] rfl rfl (by decide +kernel) rfl rfl (by decide +kernel) (by decide +kernel) (by decide +kernel) rfl (by decide +kernel) rfl (by decide +kernel)) rfl (qe rfl B.b_range (zb (zv zw jO rfl B.b_len PySem.boot_len (zb (za (pv 2)) zd)) zd)) (fun _ _ _ _=>qc) (fun _ _ _ _=>(zE d__law_low hr rfl (zb (xg (zp (zp (zp (za (pv 1)) ze (fun _ _=>rfl)) (za (pv 0)) (fun _ _=>rfl)) ze (fun _ _=>rfl)) (zp (za (pv 2)) (za (pv 0)) (fun _ _=>rfl))) (zb (zp (zp (zp (za (pv 1)) ze (fun _ _=>rfl)) (za (pv 0)) (fun _ _=>rfl)) ze (fun _ _=>rfl)) zd)))))
        (zg (zt (je (zco hr.units) zgj (za (pv 5)) (zE d__law_all hr rfl (zb (za (pv 6)) zd)) (zI _))))))))),fun ds Q h=>?_⟩)
  obtain⟨pl,qs,cl,ws,m,rfl,m1,m6,hg,hwl,hw,B,k⟩:=h
  have hz:(1000:Nat)≤sizeLine:=by decide
  walk_at "rd"
  rw [show decide (((0+1+1:Nat):Int)=2)=true from rfl]
  refine iteF ?_
  rw [rdIx_y0]
  have hmem:∀ ph∈pl,ph.1∈gsR (sd (cl.map rise)) m:=fun ph h=>(List.mem_filter.mp (B.grp ph h).1).1
  refine⟨pl,cl,rfl,B.few,fun ph h=>⟨zil m6 (List.mem_filter.mp (hmem ph h)).1,by rw [← zcd (by omega) hg];exact (zaA (hmem ph h)).1,(B.grp ph h).2⟩,?_⟩
  refine iteF ?_
  rw [ze3]
  refine⟨qs,cl,m,by rw [List.length_map,hwl],m1,m6,hg,B.ql,B.q0,B.qg,?_⟩
  refine iteF ?_
  show zan _ _ _
  walk_at "rd"
  rw [List.length_map,hwl]
  have hpll:=B.few
  have hlz:SzL (zhB pl):=B.small.2
  refine⟨by omega,by omega,Nat,List.range m,fun i=>.int (0+(i:Nat)),fun pre env=>∃ r3 r4:Option SV,env=[some (.sh (.tup [.lst (pl.map dPh),.lst (qs.map dQ)])),some (.sh (.lst (cl.map dPr))),some (.sh (.lst (ws.map D.int))),r3,r4,none,none],rfl,⟨none,none,rfl⟩,?_,?_⟩
  · rintro pre i post env e ⟨r3,r4,rfl⟩
    obtain⟨rfl,hi,_⟩:=qa e
    walk_at "rd"
    refine⟨_,pl,dPh,fun pre2 env=>∃ r4:Option SV,env=[some (.sh (.tup [.lst (pl.map dPh),.lst (qs.map dQ)])),some (.sh (.lst (cl.map dPr))),some (.sh (.lst (ws.map D.int))),some (.sh (.int (pre.length:Nat))),r4,none,none],rfl,⟨_,rfl⟩,?_,?_⟩
    · rintro pre2 ph post2 env e2 ⟨r4,rfl⟩
      have hph:=(zaA (hmem ph (by rw [e2];simp))).2
      walk_at "rd"
      refine⟨Nat.zero_le _,zl4 _,zl4 [],?_⟩
      rw [show eqD (dG ph.1) (D.tup [])=decide (ph.1=[]) from zkC ph.1 []]
      by_cases g0:ph.1=[]
      · rw [decide_eq_true g0]
        exact iteF ⟨_,rfl⟩
      · rw [decide_eq_false g0]
        obtain⟨i1,i2,a1⟩:=zgh g0
        obtain⟨j1,j2,a2⟩:=ziw g0
        have b1:=hph _ i2
        have b2:=hph _ j2
        refine zmr ?_
        rw [a1]
        simp only []
        rw [decide_eq_false (show ¬ i1 < 0 by omega)]
        refine iteF ?_
        rw [a2]
        simp only []
        rw [List.length_map,hwl,decide_eq_false (show ¬ (m:Int)≤j1 by omega)]
        exact iteF ⟨_,rfl⟩
    · rintro env ⟨r4,rfl⟩
      walk_at "rd"
      show zfZ _ _ _
      walk_at "rd"
      refine⟨_,pl,dPh,fun ph=>if decide ((pre.length:Int)∈ph.1)=true then some (dQ ph.2) else none,rfl,by omega,fun ph _=>?_,?_⟩
      · walk_at "rd"
        cases hq':decide ((pre.length:Int)∈ph.1) <;> rfl
      rw [zd3]
      have hsub:SzL ((pl.filter fun ph=>decide ((pre.length:Int)∈ph.1)).map fun ph=>ph.2):=by
        refine hlz.sub (fun q hq'=>?_) ?_
        · obtain⟨ph,h1,rfl⟩:=List.mem_map.mp hq'
          exact List.mem_map.mpr ⟨ph,(List.mem_filter.mp h1).1,rfl⟩
        · unfold zhB
          rw [List.length_map,List.length_map]
          exact List.length_filter_le _ _
      refine⟨(pl.filter fun ph=>decide ((pre.length:Int)∈ph.1)).map fun ph=>ph.2,by rw [List.map_map];rfl,hsub,?_⟩
      dsimp only
      rw [vp (enc:=D.int) (i:=pre.length) (d:=0) rfl (by omega)]
      have hwi:=hw.get pre.length
      refine⟨by decide,_,((ws.getD pre.length 0:Int):Rat),rfl,hsub.sum.mono (by decide),(Sz.int (n:=71) (i:=ws.getD pre.length 0) (by omega) (by decide)).mono (by decide),?_⟩
      rw [decide_eq_false (Rat.not_lt.mpr (B.srv pre.length hi))]
      exact iteF ⟨_,_,rfl⟩
  · rintro env ⟨r3,r4,rfl⟩
    walk_at "rd"
    show zfZ _ _ _
    walk_at "rd"
    refine⟨_,pl,dPh,fun ph=>some (dQ ph.2),rfl,by omega,fun ph _=>rfl,?_⟩
    rw [qF]
    refine⟨zhB pl,by unfold zhB;rw [List.map_map];rfl,hlz,?_⟩
    show zan _ _ _
    walk_at "rd"
    rw [List.length_map,hwl]
    refine⟨by omega,by omega,Nat,List.range m,fun i=>.int (0+(i:Nat)),fun i=>some (dQ (qs.getD i 0*(ws.getD i 0:Rat))),rfl,by rw [List.length_range];omega,fun i hi=>?_,?_⟩
    · have hi':=List.mem_range.mp hi
      have hql:=B.ql
      have hqi:=B.q0 _ (List.getElem_mem (l:=qs) (show i < qs.length by omega))
      rw [← Sx.getD_at (d:=0)] at hqi
      have hwi:=hw.get i
      walk_at "rd"
      simp only [ze3]
      rw [vp (enc:=dQ) (i:=i) (d:=0) rfl (by omega)]
      simp only [ze0]
      rw [vp (enc:=D.int) (i:=i) (d:=0) rfl (by omega)]
      refine⟨zaG (m:=200) (n:=72) hqi.2.top (bits_le (by omega)),?_⟩
      rw [vp (enc:=dQ) (i:=i) (d:=0) rfl (by omega)]
      simp only [ze1]
      refine⟨_,_,rfl,by have:=(qs.getD i 0).den_pos;omega,Nat.le_trans hqi.2.bot (by decide),?_⟩
      rw [ziH]
    rw [qF]
    refine⟨(List.range m).map fun i=>qs.getD i 0*(ws.getD i 0:Rat),by rw [List.map_map];rfl,?_,ziR _,ziR _,?_⟩
    · refine⟨300,fun q hq'=>?_,by rw [List.length_map,List.length_range];have:=Nat.mul_le_mul_right (300+1) m6;omega⟩
      obtain⟨i,hi,rfl⟩:=List.mem_map.mp hq'
      have hi':=List.mem_range.mp hi
      have hql:=B.ql
      have hqi:=B.q0 _ (List.getElem_mem (l:=qs) (show i < qs.length by omega))
      rw [← Sx.getD_at (d:=0)] at hqi
      have hwi:=hw.get i
      exact (hqi.2.mul (Sz.int (n:=71) (i:=ws.getD i 0) (by omega) (by decide))).mono (by decide)
    · have he:jT (zhB pl)=jT ((List.range m).map fun i=>qs.getD i 0*(ws.getD i 0:Rat)):=B.eq.trans (w4 _ _).symm
      rw [zkD,decide_eq_true he]
      exact k
theorem zk7 (B:Bi mg) (CQ:CrK K C) (d_shortest:Dn P w K mg base "shortest" ["crossing", "wishes"] 7 (spD K C yr)) (d_Crossing___init__:DnI P w K mg base C "Crossing" ["self", "streams", "clashes"] 3 (spI K C zft)) (d_Crossing_full:DnM P w K mg base C "full" ["self"] 4 (spF K C zg7)) (d__law_cell_at:Dn P w K mg base "_law_cell_at" ["script", "k"] 1 (spD K C zfr)) (d__law_clashes:Dn P w K mg base "_law_clashes" ["script", "start", "streams"] 2 (spD K C j8)) (d__law_wishes:Dn P w K mg base "_law_wishes" ["script", "start", "streams"] 2 (spD K C vL)) (d__law_right:Dn P w K mg base "_law_right" ["found", "clashes", "wishes"] 5 (spD K C yp)) (dp_shortest:Dn P w K mg base "shortest" ["crossing", "wishes"] 7 (spP K C x5)) (F:Fun K "law" "law" wN f fd) :
    qr P w K mg base CX0 8 f fd ["script"] (spD K C znF):=by
  refine xW F ye (fun ds Q h=>by obtain⟨ns,rfl,hl,k⟩:=h;rfl) (fun cdv A outer s H E hr=>⟨_,(zf (zy (i:=1) ye.nd rfl (Or.inl rfl) (jd ze (xk (zE d__law_cell_at hr rfl (zb (za (pv 0)) (zb ze zd))) ze)))
        (zf (zy (i:=2) ye.nd rfl (Or.inl rfl) (zE d__law_clashes hr rfl (zb (za (pv 0)) (zb ze (zb (za (pv 1)) zd)))))
        (zf (zy (i:=3) ye.nd rfl (Or.inl rfl) (zE d__law_wishes hr rfl (zb (za (pv 0)) (zb ze (zb (za (pv 1)) zd)))))
        (zf (zy (i:=4) ye.nd rfl (Or.inl rfl) (zib CQ d_Crossing___init__ hr rfl (zb (za (pv 1)) (zb (DE.of (ky jm zej rfl B.b_list boot_list (zb (za (pv 2)) zd))) zd))))
        (zf (zy (i:=5) ye.nd rfl (Or.inl rfl) (DE.of (ky jm zej rfl B.b_list boot_list (zb (za (pv 3)) zd))))
        (zie (i:=6) ye.nd rfl (Or.inl rfl) (zmg dp_shortest hr rfl (zb (za (pv 4)) (zb (za (pv 5)) zd)))
        (DW.db (jq (zP (zeD hr.units) ziB (za (pv 5)) (za (pv 3)) (zI _)) (jq (qR (zX (zE d__law_right hr rfl (zb (za (pv 6)) (zb (za (pv 2)) (zb (za (pv 3)) zd)))))) (jf (zP zeB zkP (zv zw jO rfl B.b_len PySem.boot_len (zb (zp (za (pv 6)) ze (fun _ _=>rfl)) zd)) (zv zw jO rfl B.b_len PySem.boot_len (zb (DE.of (zhq CQ d_Crossing_full hr (za (pv 4)))) zd)) (zI _)))))) (zg (zt xI))
        (ja (zbz PySem.F.plainAttrs_list PySem.F.slot_list_append PySem.F.type_list_append xD (zi8 zeh (pv 6) zeH (fun _ _=>rfl)) (zb (qD (zb (qD (zb ze zd)) (zb (qD (zb ze (zb ze zd))) zd))) zd))) (ja (zlg PySem.F.plainAttrs_list PySem.F.slot_list_clear PySem.F.type_list_clear zgp (zi8 zeh (pv 6) zeH (fun _ _=>rfl))))
        (zg (zt (zE d__law_right hr rfl (zb (zE d_shortest hr rfl (zb (za (pv 4)) (zb (za (pv 5)) zd))) (zb (za (pv 2)) (zb (za (pv 3)) zd)))))))))))),fun ds Q h=>?_⟩)
  obtain⟨ns,rfl,hl,k⟩:=h
  have hz:(1000:Nat)≤sizeLine:=by decide
  walk_at "rd"
  refine⟨ns,0,rfl,by decide,by decide,?_⟩
  obtain⟨m,hm⟩:∃ m:Nat,1+cellAt ns 0 % 6=m:=⟨(1+cellAt ns 0 % 6).toNat,by omega⟩
  have hm1:1≤m∧m≤6:=by omega
  simp only [hm]
  refine⟨ns,1,m,rfl,by decide,by omega,by omega,fun cl hg=>?_⟩
  have hcl:=hg.2
  refine⟨ns,3,m,rfl,by decide,hm1.2,fun ws hwl hwi=>?_⟩
  have hne:=zlI (m:=m) hm1.2 hg.1
  have hwb:∀ w∈ws,0≤w∧w≤2 ^ 80:=fun w h=>by have:=hwi w h;omega
  refine⟨m,cl,rfl,by omega,by omega,hg,?_⟩
  unfold zm4
  refine⟨by decide,m,sd (cl.map rise),ws,rfl,hm1.1,hm1.2,hne,hwl,hwb,fun pl qs B=>?_⟩
  have hpll:=B.few
  have hok:ok 8 (D.lst (ws.map D.int))=true:=wI (n:=7) ws
  refine⟨by rw [List.length_map];omega,hok,hok,?_⟩
  rw [vh 8 _ hok]
  refine iteF ?_
  refine⟨pl,qs,cl,ws,m,rfl,hm1.1,hm1.2,hg.1,hwl,hwi,B,?_⟩
  refine iteF ?_
  rw [rdIx_y0]
  refine⟨m,_,rfl,hm1.1,hm1.2,hne,fun gs hperm _=>?_⟩
  have hmost:pl.length≤(gs.filter fun g=>!zbV (sd (cl.map rise)) m g).length:=by
    rw [(hperm.filter _).length_eq]
    exact B.most
  dsimp only
  rw [List.length_map,List.length_map,decide_eq_false (by omega)]
  refine iteF ⟨⟨by decide,by decide,by decide,trivial⟩,?_⟩
  exact⟨m,_,ws,rfl,hm1.1,hm1.2,hne,hwl,hwb,fun pl2 qs2 B2=>⟨pl2,qs2,cl,ws,m,rfl,hm1.1,hm1.2,hg.1,hwl,hwi,B2,k⟩⟩
end
theorem all_mk {l:PySem.W.OpenLaw} {w:World} {K:PySem.W.Frag} {h:Heap} {mg:Str→Option Value} {fa f0 f1 f2 f3 f4 f5 f6 f7 f8 f9 f10 f11 f12 f13 f14 f15 f16 f17 f18 f19 f20 f21 f22 f23 f24 f25 f26 f27 f28 f29 f30 f31 f32 f33 f34 f35 f36 f37 f38 f39 f40 f41 f42 f43 f44 f45 f46 n_NOUGHT n_ONE CC  : Addr} (X:K.In h) (G:h.Ns mainGlobals mg) (hfa:mg "law" = some (.ref fa))
    {od0 an0 od1 an1 od2 an2 od3 an3 od4 an4 od5 an5 od6 an6 od7 an7 od8 an8 od9 an9 od10 an10 od11 an11 od12 an12 od13 an13 od14 an14 od15 an15 od16 an16 od17 an17 od18 an18 od19 an19 od20 an20 od21 an21 od22 an22 od23 an23 od24 an24 od25 an25 od26 an26 od27 an27 od28 an28 od29 an29 od30 an30 od31 an31 od32 an32 od33 an33 od34 an34 od35 an35 od36 an36 od37 an37 od38 an38 od39 an39 od40 an40 od41 an41 od42 an42 od43 an43 od44 an44 od45 an45 od46 an46:Option Addr} {sl0 sl1 sl2 sl3 sl4 sl5 sl6 sl7 sl8 sl9 sl10 sl11 sl12 sl13 sl14 sl15 sl16 sl17 sl18 sl19 sl20 sl21 sl22 sl23 sl24 sl25 sl26 sl27 sl28 sl29 sl30 sl31 sl32 sl33 sl34 sl35 sl36 sl37 sl38 sl39 sl40 sl41 sl42 sl43 sl44 sl45 sl46:Array (Option Value)} {oc0 kV0 dc0 pm0 cd0 ct0 oc1 kV1 dc1 pm1 cd1 ct1 oc2 kV2 dc2 pm2 cd2 ct2 oc3 kV3 dc3 pm3 cd3 ct3 oc4 kV4 dc4 pm4 cd4 ct4 oc5 kV5 dc5 pm5 cd5 ct5 oc6 kV6 dc6 pm6 cd6 ct6 oc7 kV7 dc7 pm7 cd7 ct7 oc8 kV8 dc8 pm8 cd8 ct8 oc9 kV9 dc9 pm9 cd9 ct9 oc10 kV10 dc10 pm10 cd10 ct10 oc11 kV11 dc11 pm11 cd11 ct11 oc12 kV12 dc12 pm12 cd12 ct12 oc13 kV13 dc13 pm13 cd13 ct13 oc14 kV14 dc14 pm14 cd14 ct14 oc15 kV15 dc15 pm15 cd15 ct15 oc16 kV16 dc16 pm16 cd16 ct16 oc17 kV17 dc17 pm17 cd17 ct17 oc18 kV18 dc18 pm18 cd18 ct18 oc19 kV19 dc19 pm19 cd19 ct19 oc20 kV20 dc20 pm20 cd20 ct20 oc21 kV21 dc21 pm21 cd21 ct21 oc22 kV22 dc22 pm22 cd22 ct22 oc23 kV23 dc23 pm23 cd23 ct23 oc24 kV24 dc24 pm24 cd24 ct24 oc25 kV25 dc25 pm25 cd25 ct25 oc26 kV26 dc26 pm26 cd26 ct26 oc27 kV27 dc27 pm27 cd27 ct27 oc28 kV28 dc28 pm28 cd28 ct28 oc29 kV29 dc29 pm29 cd29 ct29 oc30 kV30 dc30 pm30 cd30 ct30 oc31 kV31 dc31 pm31 cd31 ct31 oc32 kV32 dc32 pm32 cd32 ct32 oc33 kV33 dc33 pm33 cd33 ct33 oc34 kV34 dc34 pm34 cd34 ct34 oc35 kV35 dc35 pm35 cd35 ct35 oc36 kV36 dc36 pm36 cd36 ct36 oc37 kV37 dc37 pm37 cd37 ct37 oc38 kV38 dc38 pm38 cd38 ct38 oc39 kV39 dc39 pm39 cd39 ct39 oc40 kV40 dc40 pm40 cd40 ct40 oc41 kV41 dc41 pm41 cd41 ct41 oc42 kV42 dc42 pm42 cd42 ct42 oc43 kV43 dc43 pm43 cd43 ct43 oc44 kV44 dc44 pm44 cd44 ct44 oc45 kV45 dc45 pm45 cd45 ct45 oc46 kV46 dc46 pm46 cd46 ct46:Value}
    {t_MOST_STREAMS:Tok} (aN_MOST_STREAMS:PySem.W.nsIn K mainGlobals "MOST_STREAMS" = some (some (.int 6 t_MOST_STREAMS)))
    {t_NOUGHT_0 t_NOUGHT_1:Tok} {nn_NOUGHT:Nat} {on_NOUGHT:Option Addr} {sn_NOUGHT:Array (Option Value)} (aN_NOUGHT:PySem.W.nsIn K mainGlobals "NOUGHT" = some (some (.ref n_NOUGHT))) (lN_NOUGHT:K.lookup n_NOUGHT=some ⟨.type "tuple",on_NOUGHT,.seq #[.int 0 t_NOUGHT_0,.int 1 t_NOUGHT_1] nn_NOUGHT,sn_NOUGHT⟩)
    {t_ONE_0 t_ONE_1:Tok} {nn_ONE:Nat} {on_ONE:Option Addr} {sn_ONE:Array (Option Value)} (aN_ONE:PySem.W.nsIn K mainGlobals "ONE" = some (some (.ref n_ONE))) (lN_ONE:K.lookup n_ONE=some ⟨.type "tuple",on_ONE,.seq #[.int 1 t_ONE_0,.int 1 t_ONE_1] nn_ONE,sn_ONE⟩)
    (aC:PySem.W.nsIn K mainGlobals "Crossing" = some (some (.ref CC))) (pg:PySem.W.plainGet K CC Str.empty=true) (hdC:PySem.W.hasDictIn K CC=true) (po:PySem.W.plainOver K CC=true) (sa:PySem.W.findIn K (.ref CC) "__setattr__" = some (some (.builtin "object.__setattr__"))) (mk:PySem.W.makesIn K CC=true) (kc:PySem.W.keepIn K (.ref CC)=true) (naS:PySem.W.findIn K (.ref CC) "streams" = some none) (naP:PySem.W.findIn K (.ref CC) "pairs" = some none)
    (a0:PySem.W.nsIn K mainGlobals "common_divisor" = some (some (.ref f0))) (l0:K.lookup f0=some ⟨oc0,od0,.func (PySem.W.fnOf "common_divisor" "common_divisor" (zo zY) (zm zY) (zc zY) .none kV0 dc0 pm0 an0 cd0 ct0),sl0⟩) (c0:PySem.W.codeIn K cd0 "common_divisor" = true) (k0:PySem.W.keepIn K (.ref f0)=true)
    (a1:PySem.W.nsIn K mainGlobals "lowest" = some (some (.ref f1))) (l1:K.lookup f1=some ⟨oc1,od1,.func (PySem.W.fnOf "lowest" "lowest" (zo jK) (zm jK) (zc jK) .none kV1 dc1 pm1 an1 cd1 ct1),sl1⟩) (c1:PySem.W.codeIn K cd1 "lowest" = true) (k1:PySem.W.keepIn K (.ref f1)=true)
    (a2:PySem.W.nsIn K mainGlobals "minus" = some (some (.ref f2))) (l2:K.lookup f2=some ⟨oc2,od2,.func (PySem.W.fnOf "minus" "minus" (zo vG) (zm vG) (zc vG) .none kV2 dc2 pm2 an2 cd2 ct2),sl2⟩) (c2:PySem.W.codeIn K cd2 "minus" = true) (k2:PySem.W.keepIn K (.ref f2)=true)
    (a3:PySem.W.nsIn K mainGlobals "times" = some (some (.ref f3))) (l3:K.lookup f3=some ⟨oc3,od3,.func (PySem.W.fnOf "times" "times" (zo vH) (zm vH) (zc vH) .none kV3 dc3 pm3 an3 cd3 ct3),sl3⟩) (c3:PySem.W.codeIn K cd3 "times" = true) (k3:PySem.W.keepIn K (.ref f3)=true)
    (a4:PySem.W.nsIn K mainGlobals "over" = some (some (.ref f4))) (l4:K.lookup f4=some ⟨oc4,od4,.func (PySem.W.fnOf "over" "over" (zo yU) (zm yU) (zc yU) .none kV4 dc4 pm4 an4 cd4 ct4),sl4⟩) (c4:PySem.W.codeIn K cd4 "over" = true) (k4:PySem.W.keepIn K (.ref f4)=true)
    (a5:PySem.W.nsIn K mainGlobals "less" = some (some (.ref f5))) (l5:K.lookup f5=some ⟨oc5,od5,.func (PySem.W.fnOf "less" "less" (zo yS) (zm yS) (zc yS) .none kV5 dc5 pm5 an5 cd5 ct5),sl5⟩) (c5:PySem.W.codeIn K cd5 "less" = true) (k5:PySem.W.keepIn K (.ref f5)=true)
    (a6:PySem.W.nsIn K mainGlobals "whole" = some (some (.ref f6))) (l6:K.lookup f6=some ⟨oc6,od6,.func (PySem.W.fnOf "whole" "whole" (zo vI) (zm vI) (zc vI) .none kV6 dc6 pm6 an6 cd6 ct6),sl6⟩) (c6:PySem.W.codeIn K cd6 "whole" = true) (k6:PySem.W.keepIn K (.ref f6)=true)
    (a7:PySem.W.nsIn K mainGlobals "check_wishes" = some (some (.ref f7))) (l7:K.lookup f7=some ⟨oc7,od7,.func (PySem.W.fnOf "check_wishes" "check_wishes" (zo qu) (zm qu) (zc qu) .none kV7 dc7 pm7 an7 cd7 ct7),sl7⟩) (c7:PySem.W.codeIn K cd7 "check_wishes" = true) (k7:PySem.W.keepIn K (.ref f7)=true)
    (a8:PySem.W.nsIn K mainGlobals "mark" = some (some (.ref f8))) (l8:K.lookup f8=some ⟨oc8,od8,.func (PySem.W.fnOf "mark" "mark" (zo yT) (zm yT) (zc yT) .none kV8 dc8 pm8 an8 cd8 ct8),sl8⟩) (c8:PySem.W.codeIn K cd8 "mark" = true) (k8:PySem.W.keepIn K (.ref f8)=true)
    (a9:PySem.W.nsIn K mainGlobals "first_table" = some (some (.ref f9))) (l9:K.lookup f9=some ⟨oc9,od9,.func (PySem.W.fnOf "first_table" "first_table" (zo zS) (zm zS) (zc zS) .none kV9 dc9 pm9 an9 cd9 ct9),sl9⟩) (c9:PySem.W.codeIn K cd9 "first_table" = true) (k9:PySem.W.keepIn K (.ref f9)=true)
    (a10:PySem.W.nsIn K mainGlobals "column_to_raise" = some (some (.ref f10))) (l10:K.lookup f10=some ⟨oc10,od10,.func (PySem.W.fnOf "column_to_raise" "column_to_raise" (zo zU) (zm zU) (zc zU) .none kV10 dc10 pm10 an10 cd10 ct10),sl10⟩) (c10:PySem.W.codeIn K cd10 "column_to_raise" = true) (k10:PySem.W.keepIn K (.ref f10)=true)
    (a11:PySem.W.nsIn K mainGlobals "room" = some (some (.ref f11))) (l11:K.lookup f11=some ⟨oc11,od11,.func (PySem.W.fnOf "room" "room" (zo yV) (zm yV) (zc yV) .none kV11 dc11 pm11 an11 cd11 ct11),sl11⟩) (c11:PySem.W.codeIn K cd11 "room" = true) (k11:PySem.W.keepIn K (.ref f11)=true)
    (a12:PySem.W.nsIn K mainGlobals "row_that_binds" = some (some (.ref f12))) (l12:K.lookup f12=some ⟨oc12,od12,.func (PySem.W.fnOf "row_that_binds" "row_that_binds" (zo zZ) (zm zZ) (zc zZ) .none kV12 dc12 pm12 an12 cd12 ct12),sl12⟩) (c12:PySem.W.codeIn K cd12 "row_that_binds" = true) (k12:PySem.W.keepIn K (.ref f12)=true)
    (a13:PySem.W.nsIn K mainGlobals "binds_ahead" = some (some (.ref f13))) (l13:K.lookup f13=some ⟨oc13,od13,.func (PySem.W.fnOf "binds_ahead" "binds_ahead" (zo qA) (zm qA) (zc qA) .none kV13 dc13 pm13 an13 cd13 ct13),sl13⟩) (c13:PySem.W.codeIn K cd13 "binds_ahead" = true) (k13:PySem.W.keepIn K (.ref f13)=true)
    (a14:PySem.W.nsIn K mainGlobals "without" = some (some (.ref f14))) (l14:K.lookup f14=some ⟨oc14,od14,.func (PySem.W.fnOf "without" "without" (zo xF) (zm xF) (zc xF) .none kV14 dc14 pm14 an14 cd14 ct14),sl14⟩) (c14:PySem.W.codeIn K cd14 "without" = true) (k14:PySem.W.keepIn K (.ref f14)=true)
    (a15:PySem.W.nsIn K mainGlobals "turned" = some (some (.ref f15))) (l15:K.lookup f15=some ⟨oc15,od15,.func (PySem.W.fnOf "turned" "turned" (zo xO) (zm xO) (zc xO) .none kV15 dc15 pm15 an15 cd15 ct15),sl15⟩) (c15:PySem.W.codeIn K cd15 "turned" = true) (k15:PySem.W.keepIn K (.ref f15)=true)
    (a16:PySem.W.nsIn K mainGlobals "paper_of" = some (some (.ref f16))) (l16:K.lookup f16=some ⟨oc16,od16,.func (PySem.W.fnOf "paper_of" "paper_of" (zo xx) (zm xx) (zc xx) .none kV16 dc16 pm16 an16 cd16 ct16),sl16⟩) (c16:PySem.W.codeIn K cd16 "paper_of" = true) (k16:PySem.W.keepIn K (.ref f16)=true)
    (a17:PySem.W.nsIn K mainGlobals "plan_of" = some (some (.ref f17))) (l17:K.lookup f17=some ⟨oc17,od17,.func (PySem.W.fnOf "plan_of" "plan_of" (zo xE) (zm xE) (zc xE) .none kV17 dc17 pm17 an17 cd17 ct17),sl17⟩) (c17:PySem.W.codeIn K cd17 "plan_of" = true) (k17:PySem.W.keepIn K (.ref f17)=true)
    (a18:PySem.W.nsIn K mainGlobals "shortest" = some (some (.ref f18))) (l18:K.lookup f18=some ⟨oc18,od18,.func (PySem.W.fnOf "shortest" "shortest" (zo q8) (zm q8) (zc q8) .none kV18 dc18 pm18 an18 cd18 ct18),sl18⟩) (c18:PySem.W.codeIn K cd18 "shortest" = true) (k18:PySem.W.keepIn K (.ref f18)=true)
    (a19:PySem.W.nsIn K mainGlobals "check_size" = some (some (.ref f19))) (l19:K.lookup f19=some ⟨oc19,od19,.func (PySem.W.fnOf "check_size" "check_size" (zo qO) (zm qO) (zc qO) .none kV19 dc19 pm19 an19 cd19 ct19),sl19⟩) (c19:PySem.W.codeIn K cd19 "check_size" = true) (k19:PySem.W.keepIn K (.ref f19)=true)
    (a20:PySem.W.nsIn K mainGlobals "is_stream" = some (some (.ref f20))) (l20:K.lookup f20=some ⟨oc20,od20,.func (PySem.W.fnOf "is_stream" "is_stream" (zo q5) (zm q5) (zc q5) .none kV20 dc20 pm20 an20 cd20 ct20),sl20⟩) (c20:PySem.W.codeIn K cd20 "is_stream" = true) (k20:PySem.W.keepIn K (.ref f20)=true)
    (a21:PySem.W.nsIn K mainGlobals "check_clash" = some (some (.ref f21))) (l21:K.lookup f21=some ⟨oc21,od21,.func (PySem.W.fnOf "check_clash" "check_clash" (zo qB) (zm qB) (zc qB) .none kV21 dc21 pm21 an21 cd21 ct21),sl21⟩) (c21:PySem.W.codeIn K cd21 "check_clash" = true) (k21:PySem.W.keepIn K (.ref f21)=true)
    (a22:PySem.W.nsIn K mainGlobals "rising" = some (some (.ref f22))) (l22:K.lookup f22=some ⟨oc22,od22,.func (PySem.W.fnOf "rising" "rising" (zo jL) (zm jL) (zc jL) .none kV22 dc22 pm22 an22 cd22 ct22),sl22⟩) (c22:PySem.W.codeIn K cd22 "rising" = true) (k22:PySem.W.keepIn K (.ref f22)=true)
    (a23:PySem.W.findIn K (.ref CC) "__init__" = some (some (.ref f23))) (i23:PySem.W.isFn K (.ref f23)=true) (l23:K.lookup f23=some ⟨oc23,od23,.func (PySem.W.fnOf "__init__" "Crossing.__init__" (zo zG) (zm zG) (zc zG) .none kV23 dc23 pm23 an23 cd23 ct23),sl23⟩) (c23:PySem.W.codeIn K cd23 "Crossing.__init__" = true) (k23:PySem.W.keepIn K (.ref f23)=true)
    (a24:PySem.W.findIn K (.ref CC) "size" = some (some (.ref f24))) (i24:PySem.W.isFn K (.ref f24)=true) (l24:K.lookup f24=some ⟨oc24,od24,.func (PySem.W.fnOf "size" "Crossing.size" (zo qh) (zm qh) (zc qh) .none kV24 dc24 pm24 an24 cd24 ct24),sl24⟩) (c24:PySem.W.codeIn K cd24 "Crossing.size" = true) (k24:PySem.W.keepIn K (.ref f24)=true)
    (a25:PySem.W.findIn K (.ref CC) "together" = some (some (.ref f25))) (i25:PySem.W.isFn K (.ref f25)=true) (l25:K.lookup f25=some ⟨oc25,od25,.func (PySem.W.fnOf "together" "Crossing.together" (zo zO) (zm zO) (zc zO) .none kV25 dc25 pm25 an25 cd25 ct25),sl25⟩) (c25:PySem.W.codeIn K cd25 "Crossing.together" = true) (k25:PySem.W.keepIn K (.ref f25)=true)
    (a26:PySem.W.findIn K (.ref CC) "groups" = some (some (.ref f26))) (i26:PySem.W.isFn K (.ref f26)=true) (l26:K.lookup f26=some ⟨oc26,od26,.func (PySem.W.fnOf "groups" "Crossing.groups" (zo zJ) (zm zJ) (zc zJ) .none kV26 dc26 pm26 an26 cd26 ct26),sl26⟩) (c26:PySem.W.codeIn K cd26 "Crossing.groups" = true) (k26:PySem.W.keepIn K (.ref f26)=true)
    (a27:PySem.W.findIn K (.ref CC) "can_grow" = some (some (.ref f27))) (i27:PySem.W.isFn K (.ref f27)=true) (l27:K.lookup f27=some ⟨oc27,od27,.func (PySem.W.fnOf "can_grow" "Crossing.can_grow" (zo zN) (zm zN) (zc zN) .none kV27 dc27 pm27 an27 cd27 ct27),sl27⟩) (c27:PySem.W.codeIn K cd27 "Crossing.can_grow" = true) (k27:PySem.W.keepIn K (.ref f27)=true)
    (a28:PySem.W.findIn K (.ref CC) "full" = some (some (.ref f28))) (i28:PySem.W.isFn K (.ref f28)=true) (l28:K.lookup f28=some ⟨oc28,od28,.func (PySem.W.fnOf "full" "Crossing.full" (zo zW) (zm zW) (zc zW) .none kV28 dc28 pm28 an28 cd28 ct28),sl28⟩) (c28:PySem.W.codeIn K cd28 "Crossing.full" = true) (k28:PySem.W.keepIn K (.ref f28)=true)
    (a29:PySem.W.nsIn K mainGlobals "_law_cell_at" = some (some (.ref f29))) (l29:K.lookup f29=some ⟨oc29,od29,.func (PySem.W.fnOf "_law_cell_at" "_law_cell_at" (zo qt) (zm qt) (zc qt) .none kV29 dc29 pm29 an29 cd29 ct29),sl29⟩) (c29:PySem.W.codeIn K cd29 "_law_cell_at" = true) (k29:PySem.W.keepIn K (.ref f29)=true)
    (a30:PySem.W.nsIn K mainGlobals "_law_low" = some (some (.ref f30))) (l30:K.lookup f30=some ⟨oc30,od30,.func (PySem.W.fnOf "_law_low" "_law_low" (zo xv) (zm xv) (zc xv) .none kV30 dc30 pm30 an30 cd30 ct30),sl30⟩) (c30:PySem.W.codeIn K cd30 "_law_low" = true) (k30:PySem.W.keepIn K (.ref f30)=true)
    (a31:PySem.W.nsIn K mainGlobals "_law_sum" = some (some (.ref f31))) (l31:K.lookup f31=some ⟨oc31,od31,.func (PySem.W.fnOf "_law_sum" "_law_sum" (zo xw) (zm xw) (zc xw) .none kV31 dc31 pm31 an31 cd31 ct31),sl31⟩) (c31:PySem.W.codeIn K cd31 "_law_sum" = true) (k31:PySem.W.keepIn K (.ref f31)=true)
    (a32:PySem.W.nsIn K mainGlobals "_law_all" = some (some (.ref f32))) (l32:K.lookup f32=some ⟨oc32,od32,.func (PySem.W.fnOf "_law_all" "_law_all" (zo xu) (zm xu) (zc xu) .none kV32 dc32 pm32 an32 cd32 ct32),sl32⟩) (c32:PySem.W.codeIn K cd32 "_law_all" = true) (k32:PySem.W.keepIn K (.ref f32)=true)
    (a33:PySem.W.nsIn K mainGlobals "_law_less" = some (some (.ref f33))) (l33:K.lookup f33=some ⟨oc33,od33,.func (PySem.W.fnOf "_law_less" "_law_less" (zo qY) (zm qY) (zc qY) .none kV33 dc33 pm33 an33 cd33 ct33),sl33⟩) (c33:PySem.W.codeIn K cd33 "_law_less" = true) (k33:PySem.W.keepIn K (.ref f33)=true)
    (a34:PySem.W.nsIn K mainGlobals "_law_whole" = some (some (.ref f34))) (l34:K.lookup f34=some ⟨oc34,od34,.func (PySem.W.fnOf "_law_whole" "_law_whole" (zo qN) (zm qN) (zc qN) .none kV34 dc34 pm34 an34 cd34 ct34),sl34⟩) (c34:PySem.W.codeIn K cd34 "_law_whole" = true) (k34:PySem.W.keepIn K (.ref f34)=true)
    (a35:PySem.W.nsIn K mainGlobals "_law_fraction" = some (some (.ref f35))) (l35:K.lookup f35=some ⟨oc35,od35,.func (PySem.W.fnOf "_law_fraction" "_law_fraction" (zo qi) (zm qi) (zc qi) .none kV35 dc35 pm35 an35 cd35 ct35),sl35⟩) (c35:PySem.W.codeIn K cd35 "_law_fraction" = true) (k35:PySem.W.keepIn K (.ref f35)=true)
    (a36:PySem.W.nsIn K mainGlobals "_law_clashes" = some (some (.ref f36))) (l36:K.lookup f36=some ⟨oc36,od36,.func (PySem.W.fnOf "_law_clashes" "_law_clashes" (zo qb) (zm qb) (zc qb) .none kV36 dc36 pm36 an36 cd36 ct36),sl36⟩) (c36:PySem.W.codeIn K cd36 "_law_clashes" = true) (k36:PySem.W.keepIn K (.ref f36)=true)
    (a37:PySem.W.nsIn K mainGlobals "_law_ring" = some (some (.ref f37))) (l37:K.lookup f37=some ⟨oc37,od37,.func (PySem.W.fnOf "_law_ring" "_law_ring" (zo qZ) (zm qZ) (zc qZ) .none kV37 dc37 pm37 an37 cd37 ct37),sl37⟩) (c37:PySem.W.codeIn K cd37 "_law_ring" = true) (k37:PySem.W.keepIn K (.ref f37)=true)
    (a38:PySem.W.nsIn K mainGlobals "_law_clash" = some (some (.ref f38))) (l38:K.lookup f38=some ⟨oc38,od38,.func (PySem.W.fnOf "_law_clash" "_law_clash" (zo qM) (zm qM) (zc qM) .none kV38 dc38 pm38 an38 cd38 ct38),sl38⟩) (c38:PySem.W.codeIn K cd38 "_law_clash" = true) (k38:PySem.W.keepIn K (.ref f38)=true)
    (a39:PySem.W.nsIn K mainGlobals "_law_together" = some (some (.ref f39))) (l39:K.lookup f39=some ⟨oc39,od39,.func (PySem.W.fnOf "_law_together" "_law_together" (zo qj) (zm qj) (zc qj) .none kV39 dc39 pm39 an39 cd39 ct39),sl39⟩) (c39:PySem.W.codeIn K cd39 "_law_together" = true) (k39:PySem.W.keepIn K (.ref f39)=true)
    (a40:PySem.W.nsIn K mainGlobals "_law_bits" = some (some (.ref f40))) (l40:K.lookup f40=some ⟨oc40,od40,.func (PySem.W.fnOf "_law_bits" "_law_bits" (zo qX) (zm qX) (zc qX) .none kV40 dc40 pm40 an40 cd40 ct40),sl40⟩) (c40:PySem.W.codeIn K cd40 "_law_bits" = true) (k40:PySem.W.keepIn K (.ref f40)=true)
    (a41:PySem.W.nsIn K mainGlobals "_law_groups" = some (some (.ref f41))) (l41:K.lookup f41=some ⟨oc41,od41,.func (PySem.W.fnOf "_law_groups" "_law_groups" (zo z4) (zm z4) (zc z4) .none kV41 dc41 pm41 an41 cd41 ct41),sl41⟩) (c41:PySem.W.codeIn K cd41 "_law_groups" = true) (k41:PySem.W.keepIn K (.ref f41)=true)
    (a42:PySem.W.nsIn K mainGlobals "_law_wishes" = some (some (.ref f42))) (l42:K.lookup f42=some ⟨oc42,od42,.func (PySem.W.fnOf "_law_wishes" "_law_wishes" (zo qp) (zm qp) (zc qp) .none kV42 dc42 pm42 an42 cd42 ct42),sl42⟩) (c42:PySem.W.codeIn K cd42 "_law_wishes" = true) (k42:PySem.W.keepIn K (.ref f42)=true)
    (a43:PySem.W.nsIn K mainGlobals "_law_phases_right" = some (some (.ref f43))) (l43:K.lookup f43=some ⟨oc43,od43,.func (PySem.W.fnOf "_law_phases_right" "_law_phases_right" (zo zH) (zm zH) (zc zH) .none kV43 dc43 pm43 an43 cd43 ct43),sl43⟩) (c43:PySem.W.codeIn K cd43 "_law_phases_right" = true) (k43:PySem.W.keepIn K (.ref f43)=true)
    (a44:PySem.W.nsIn K mainGlobals "_law_paper_right" = some (some (.ref f44))) (l44:K.lookup f44=some ⟨oc44,od44,.func (PySem.W.fnOf "_law_paper_right" "_law_paper_right" (zo zM) (zm zM) (zc zM) .none kV44 dc44 pm44 an44 cd44 ct44),sl44⟩) (c44:PySem.W.codeIn K cd44 "_law_paper_right" = true) (k44:PySem.W.keepIn K (.ref f44)=true)
    (a45:PySem.W.nsIn K mainGlobals "_law_right" = some (some (.ref f45))) (l45:K.lookup f45=some ⟨oc45,od45,.func (PySem.W.fnOf "_law_right" "_law_right" (zo z5) (zm z5) (zc z5) .none kV45 dc45 pm45 an45 cd45 ct45),sl45⟩) (c45:PySem.W.codeIn K cd45 "_law_right" = true) (k45:PySem.W.keepIn K (.ref f45)=true)
    (a46:PySem.W.nsIn K mainGlobals "law" = some (some (.ref f46))) (l46:K.lookup f46=some ⟨oc46,od46,.func (PySem.W.fnOf "law" "law" (zo wN) (zm wN) (zc wN) .none kV46 dc46 pm46 an46 cd46 ct46),sl46⟩) (c46:PySem.W.codeIn K cd46 "law" = true) (k46:PySem.W.keepIn K (.ref f46)=true)
    (z_abs:PySem.W.nsIn K mainGlobals "abs" = some none)
    (z_all:PySem.W.nsIn K mainGlobals "all" = some none)
    (z_bool:PySem.W.nsIn K mainGlobals "bool" = some none)
    (z_enumerate:PySem.W.nsIn K mainGlobals "enumerate" = some none)
    (z_int:PySem.W.nsIn K mainGlobals "int" = some none)
    (z_isinstance:PySem.W.nsIn K mainGlobals "isinstance" = some none)
    (z_len:PySem.W.nsIn K mainGlobals "len" = some none)
    (z_list:PySem.W.nsIn K mainGlobals "list" = some none)
    (z_max:PySem.W.nsIn K mainGlobals "max" = some none)
    (z_min:PySem.W.nsIn K mainGlobals "min" = some none)
    (z_range:PySem.W.nsIn K mainGlobals "range" = some none)
    (z_set:PySem.W.nsIn K mainGlobals "set" = some none)
    (z_sorted:PySem.W.nsIn K mainGlobals "sorted" = some none)
    (z_tuple:PySem.W.nsIn K mainGlobals "tuple" = some none)
    (z_zip:PySem.W.nsIn K mainGlobals "zip" = some none)
    : ∃ fd:FuncData,(∀ (s:Shared) (v:Value),BindsTo s fd ⟨[v],[]⟩ [("script",v)])∧∀ base:Heap,K.In base→base.Ns mainGlobals mg→qr l.prog w K mg base CX0 8 fa fd ["script"] (zfk K):=by
  have e:=hfa.symm.trans (PySem.W.mg_of X G a46)
  cases e
  have B:Bi mg:=⟨PySem.W.mg_none_of X G z_abs,PySem.W.mg_none_of X G z_all,PySem.W.mg_none_of X G z_bool,PySem.W.mg_none_of X G z_enumerate,PySem.W.mg_none_of X G z_int,PySem.W.mg_none_of X G z_isinstance,PySem.W.mg_none_of X G z_len,PySem.W.mg_none_of X G z_list,PySem.W.mg_none_of X G z_max,PySem.W.mg_none_of X G z_min,PySem.W.mg_none_of X G z_range,PySem.W.mg_none_of X G z_set,PySem.W.mg_none_of X G z_sorted,PySem.W.mg_none_of X G z_tuple,PySem.W.mg_none_of X G z_zip⟩
  have g_MOST_STREAMS:GInt mg "MOST_STREAMS" 6:=⟨_,PySem.W.mg_of X G aN_MOST_STREAMS⟩
  have g_NOUGHT:zdt K mg "NOUGHT" [0,1]:=⟨n_NOUGHT,PySem.W.mg_of X G aN_NOUGHT,fun H=>.inr ⟨_,_,_,lN_NOUGHT,rfl,rfl,(by show 2≤sizeLine;decide),.cons ⟨_,rfl⟩ (.cons ⟨_,rfl⟩ .nil)⟩⟩
  have g_ONE:zdt K mg "ONE" [1,1]:=⟨n_ONE,PySem.W.mg_of X G aN_ONE,fun H=>.inr ⟨_,_,_,lN_ONE,rfl,rfl,(by show 2≤sizeLine;decide),.cons ⟨_,rfl⟩ (.cons ⟨_,rfl⟩ .nil)⟩⟩
  have CQ:CrK K CC:=⟨⟨pg,hdC,po,sa⟩,naS,naP⟩
  have F0:=zz (st:=zY) l0 c0 k0
  have b0:=F0.binds (ps:=["one", "other"]) fun _ _ _ _ _ _ us hl=>match us,hl with | [_,_],_=>rfl
  have F1:=zz (st:=jK) l1 c1 k1
  have b1:=F1.binds (ps:=["top", "bottom"]) fun _ _ _ _ _ _ us hl=>match us,hl with | [_,_],_=>rfl
  have F2:=zz (st:=vG) l2 c2 k2
  have b2:=F2.binds (ps:=["one", "other"]) fun _ _ _ _ _ _ us hl=>match us,hl with | [_,_],_=>rfl
  have F3:=zz (st:=vH) l3 c3 k3
  have b3:=F3.binds (ps:=["one", "other"]) fun _ _ _ _ _ _ us hl=>match us,hl with | [_,_],_=>rfl
  have F4:=zz (st:=yU) l4 c4 k4
  have b4:=F4.binds (ps:=["one", "other"]) fun _ _ _ _ _ _ us hl=>match us,hl with | [_,_],_=>rfl
  have F5:=zz (st:=yS) l5 c5 k5
  have b5:=F5.binds (ps:=["one", "other"]) fun _ _ _ _ _ _ us hl=>match us,hl with | [_,_],_=>rfl
  have F6:=zz (st:=vI) l6 c6 k6
  have b6:=F6.binds (ps:=["number"]) fun _ _ _ _ _ _ us hl=>match us,hl with | [_],_=>rfl
  have F7:=zz (st:=qu) l7 c7 k7
  have b7:=F7.binds (ps:=["crossing", "wishes"]) fun _ _ _ _ _ _ us hl=>match us,hl with | [_,_],_=>rfl
  have F8:=zz (st:=yT) l8 c8 k8
  have b8:=F8.binds (ps:=["here"]) fun _ _ _ _ _ _ us hl=>match us,hl with | [_],_=>rfl
  have F9:=zz (st:=zS) l9 c9 k9
  have b9:=F9.binds (ps:=["groups", "wishes"]) fun _ _ _ _ _ _ us hl=>match us,hl with | [_,_],_=>rfl
  have F10:=zz (st:=zU) l10 c10 k10
  have b10:=F10.binds (ps:=["table"]) fun _ _ _ _ _ _ us hl=>match us,hl with | [_],_=>rfl
  have F11:=zz (st:=yV) l11 c11 k11
  have b11:=F11.binds (ps:=["row", "column"]) fun _ _ _ _ _ _ us hl=>match us,hl with | [_,_],_=>rfl
  have F12:=zz (st:=zZ) l12 c12 k12
  have b12:=F12.binds (ps:=["table", "held", "column"]) fun _ _ _ _ _ _ us hl=>match us,hl with | [_,_,_],_=>rfl
  have F13:=zz (st:=qA) l13 c13 k13
  have b13:=F13.binds (ps:=["table", "held", "column", "place", "best"]) fun _ _ _ _ _ _ us hl=>match us,hl with | [_,_,_,_,_],_=>rfl
  have F14:=zz (st:=xF) l14 c14 k14
  have b14:=F14.binds (ps:=["row", "factor", "taken"]) fun _ _ _ _ _ _ us hl=>match us,hl with | [_,_,_],_=>rfl
  have F15:=zz (st:=xO) l15 c15 k15
  have b15:=F15.binds (ps:=["table", "place", "column"]) fun _ _ _ _ _ _ us hl=>match us,hl with | [_,_,_],_=>rfl
  have F16:=zz (st:=xx) l16 c16 k16
  have b16:=F16.binds (ps:=["table", "held", "size"]) fun _ _ _ _ _ _ us hl=>match us,hl with | [_,_,_],_=>rfl
  have F17:=zz (st:=xE) l17 c17 k17
  have b17:=F17.binds (ps:=["table", "groups", "size"]) fun _ _ _ _ _ _ us hl=>match us,hl with | [_,_,_],_=>rfl
  have F18:=zz (st:=q8) l18 c18 k18
  have b18:=F18.binds (ps:=["crossing", "wishes"]) fun _ _ _ _ _ _ us hl=>match us,hl with | [_,_],_=>rfl
  have F19:=zz (st:=qO) l19 c19 k19
  have b19:=F19.binds (ps:=["streams"]) fun _ _ _ _ _ _ us hl=>match us,hl with | [_],_=>rfl
  have F20:=zz (st:=q5) l20 c20 k20
  have b20:=F20.binds (ps:=["streams", "stream"]) fun _ _ _ _ _ _ us hl=>match us,hl with | [_,_],_=>rfl
  have F21:=zz (st:=qB) l21 c21 k21
  have b21:=F21.binds (ps:=["streams", "pair"]) fun _ _ _ _ _ _ us hl=>match us,hl with | [_,_],_=>rfl
  have F22:=zz (st:=jL) l22 c22 k22
  have b22:=F22.binds (ps:=["pair"]) fun _ _ _ _ _ _ us hl=>match us,hl with | [_],_=>rfl
  have F23:=zz (st:=zG) l23 c23 k23
  have b23:=F23.binds (ps:=["self", "streams", "clashes"]) fun _ _ _ _ _ _ us hl=>match us,hl with | [_,_,_],_=>rfl
  have F24:=zz (st:=qh) l24 c24 k24
  have b24:=F24.binds (ps:=["self"]) fun _ _ _ _ _ _ us hl=>match us,hl with | [_],_=>rfl
  have F25:=zz (st:=zO) l25 c25 k25
  have b25:=F25.binds (ps:=["self", "group"]) fun _ _ _ _ _ _ us hl=>match us,hl with | [_,_],_=>rfl
  have F26:=zz (st:=zJ) l26 c26 k26
  have b26:=F26.binds (ps:=["self"]) fun _ _ _ _ _ _ us hl=>match us,hl with | [_],_=>rfl
  have F27:=zz (st:=zN) l27 c27 k27
  have b27:=F27.binds (ps:=["self", "group"]) fun _ _ _ _ _ _ us hl=>match us,hl with | [_,_],_=>rfl
  have F28:=zz (st:=zW) l28 c28 k28
  have b28:=F28.binds (ps:=["self"]) fun _ _ _ _ _ _ us hl=>match us,hl with | [_],_=>rfl
  have F29:=zz (st:=qt) l29 c29 k29
  have b29:=F29.binds (ps:=["script", "k"]) fun _ _ _ _ _ _ us hl=>match us,hl with | [_,_],_=>rfl
  have F30:=zz (st:=xv) l30 c30 k30
  have b30:=F30.binds (ps:=["top", "bottom"]) fun _ _ _ _ _ _ us hl=>match us,hl with | [_,_],_=>rfl
  have F31:=zz (st:=xw) l31 c31 k31
  have b31:=F31.binds (ps:=["one", "other"]) fun _ _ _ _ _ _ us hl=>match us,hl with | [_,_],_=>rfl
  have F32:=zz (st:=xu) l32 c32 k32
  have b32:=F32.binds (ps:=["row"]) fun _ _ _ _ _ _ us hl=>match us,hl with | [_],_=>rfl
  have F33:=zz (st:=qY) l33 c33 k33
  have b33:=F33.binds (ps:=["one", "other"]) fun _ _ _ _ _ _ us hl=>match us,hl with | [_,_],_=>rfl
  have F34:=zz (st:=qN) l34 c34 k34
  have b34:=F34.binds (ps:=["found"]) fun _ _ _ _ _ _ us hl=>match us,hl with | [_],_=>rfl
  have F35:=zz (st:=qi) l35 c35 k35
  have b35:=F35.binds (ps:=["found", "due"]) fun _ _ _ _ _ _ us hl=>match us,hl with | [_,_],_=>rfl
  have F36:=zz (st:=qb) l36 c36 k36
  have b36:=F36.binds (ps:=["script", "start", "streams"]) fun _ _ _ _ _ _ us hl=>match us,hl with | [_,_,_],_=>rfl
  have F37:=zz (st:=qZ) l37 c37 k37
  have b37:=F37.binds (ps:=["cell", "streams"]) fun _ _ _ _ _ _ us hl=>match us,hl with | [_,_],_=>rfl
  have F38:=zz (st:=qM) l38 c38 k38
  have b38:=F38.binds (ps:=["clashes", "one", "other"]) fun _ _ _ _ _ _ us hl=>match us,hl with | [_,_,_],_=>rfl
  have F39:=zz (st:=qj) l39 c39 k39
  have b39:=F39.binds (ps:=["clashes", "group"]) fun _ _ _ _ _ _ us hl=>match us,hl with | [_,_],_=>rfl
  have F40:=zz (st:=qX) l40 c40 k40
  have b40:=F40.binds (ps:=["number", "streams"]) fun _ _ _ _ _ _ us hl=>match us,hl with | [_,_],_=>rfl
  have F41:=zz (st:=z4) l41 c41 k41
  have b41:=F41.binds (ps:=["clashes", "streams"]) fun _ _ _ _ _ _ us hl=>match us,hl with | [_,_],_=>rfl
  have F42:=zz (st:=qp) l42 c42 k42
  have b42:=F42.binds (ps:=["script", "start", "streams"]) fun _ _ _ _ _ _ us hl=>match us,hl with | [_,_,_],_=>rfl
  have F43:=zz (st:=zH) l43 c43 k43
  have b43:=F43.binds (ps:=["plan", "clashes"]) fun _ _ _ _ _ _ us hl=>match us,hl with | [_,_],_=>rfl
  have F44:=zz (st:=zM) l44 c44 k44
  have b44:=F44.binds (ps:=["weights", "clashes", "streams"]) fun _ _ _ _ _ _ us hl=>match us,hl with | [_,_,_],_=>rfl
  have F45:=zz (st:=z5) l45 c45 k45
  have b45:=F45.binds (ps:=["found", "clashes", "wishes"]) fun _ _ _ _ _ _ us hl=>match us,hl with | [_,_,_],_=>rfl
  have F46:=zz (st:=wN) l46 c46 k46
  have b46:=F46.binds (ps:=["script"]) fun _ _ _ _ _ _ us hl=>match us,hl with | [_],_=>rfl
  refine⟨PySem.W.fnOf "law" "law" (zo wN) (zm wN) (zc wN) .none kV46 dc46 pm46 an46 cd46 ct46,fun s v=>.of_eq rfl,fun base _ _=>?_⟩
  have d_Crossing_size:DnM l.prog w K mg base CC "size" ["self"] 1 (spD K CC zg9):=⟨_,_,vW (C:=CC) B CQ F24,⟨a24,i24,k24⟩,b24⟩
  have d_check_wishes:Dn l.prog w K mg base "check_wishes" ["crossing", "wishes"] 2 (spD K CC jB):=⟨_,_,kR (C:=CC) B CQ d_Crossing_size F7,PySem.W.mg_of X G a7,k7,b7⟩
  have d_whole:Dn l.prog w K mg base "whole" ["number"] 1 (spD K CC zfx):=⟨_,_,zgt (C:=CC) B F6,PySem.W.mg_of X G a6,k6,b6⟩
  have d_mark:Dn l.prog w K mg base "mark" ["here"] 1 (spD K CC zjO):=⟨_,_,ziT (C:=CC) B g_NOUGHT g_ONE F8,PySem.W.mg_of X G a8,k8,b8⟩
  have d_first_table:Dn l.prog w K mg base "first_table" ["groups", "wishes"] 2 (spD K CC zfs):=⟨_,_,yF (C:=CC) B g_NOUGHT g_ONE d_whole d_mark F9,PySem.W.mg_of X G a9,k9,b9⟩
  have d_less:Dn l.prog w K mg base "less" ["one", "other"] 1 (spD K CC yH):=⟨_,_,ziS (C:=CC) B F5,PySem.W.mg_of X G a5,k5,b5⟩
  have d_column_to_raise:Dn l.prog w K mg base "column_to_raise" ["table"] 2 (spD K CC zbK):=⟨_,_,vn (C:=CC) B g_NOUGHT d_less F10,PySem.W.mg_of X G a10,k10,b10⟩
  have d_common_divisor:Dn l.prog w K mg base "common_divisor" ["one", "other"] 1 (spD K CC tCd):=⟨_,_,vE (C:=CC) B F0,PySem.W.mg_of X G a0,k0,b0⟩
  have d_lowest:Dn l.prog w K mg base "lowest" ["top", "bottom"] 2 (spD K CC yq):=⟨_,_,zey (C:=CC) B d_common_divisor F1,PySem.W.mg_of X G a1,k1,b1⟩
  have d_over:Dn l.prog w K mg base "over" ["one", "other"] 3 (spD K CC zg8):=⟨_,_,ziU (C:=CC) B d_lowest F4,PySem.W.mg_of X G a4,k4,b4⟩
  have d_room:Dn l.prog w K mg base "room" ["row", "column"] 4 (spD K CC zjR):=⟨_,_,ziV (C:=CC) B d_over F11,PySem.W.mg_of X G a11,k11,b11⟩
  have d_binds_ahead:Dn l.prog w K mg base "binds_ahead" ["table", "held", "column", "place", "best"] 5 (spD K CC zfq):=⟨_,_,yD (C:=CC) B d_less d_room F13,PySem.W.mg_of X G a13,k13,b13⟩
  have d_row_that_binds:Dn l.prog w K mg base "row_that_binds" ["table", "held", "column"] 6 (spD K CC zjS):=⟨_,_,vF (C:=CC) B g_NOUGHT d_less d_binds_ahead F12,PySem.W.mg_of X G a12,k12,b12⟩
  have d_minus:Dn l.prog w K mg base "minus" ["one", "other"] 3 (spD K CC zfu):=⟨_,_,zgr (C:=CC) B d_lowest F2,PySem.W.mg_of X G a2,k2,b2⟩
  have d_times:Dn l.prog w K mg base "times" ["one", "other"] 3 (spD K CC zfw):=⟨_,_,zgs (C:=CC) B d_lowest F3,PySem.W.mg_of X G a3,k3,b3⟩
  have d_without:Dn l.prog w K mg base "without" ["row", "factor", "taken"] 4 (spD K CC zaa):=⟨_,_,zc8 (C:=CC) B d_minus d_times F14,PySem.W.mg_of X G a14,k14,b14⟩
  have d_turned:Dn l.prog w K mg base "turned" ["table", "place", "column"] 5 (spD K CC zbQ):=⟨_,_,zeA (C:=CC) B d_over d_without F15,PySem.W.mg_of X G a15,k15,b15⟩
  have d_paper_of:Dn l.prog w K mg base "paper_of" ["table", "held", "size"] 1 (spF K CC w9):=⟨_,_,zbu (C:=CC) B g_NOUGHT F16,PySem.W.mg_of X G a16,k16,b16⟩
  have d_plan_of:Dn l.prog w K mg base "plan_of" ["table", "groups", "size"] 2 (spF K CC zbO):=⟨_,_,zc6 (C:=CC) B g_NOUGHT d_less F17,PySem.W.mg_of X G a17,k17,b17⟩
  have d_is_stream:Dn l.prog w K mg base "is_stream" ["streams", "stream"] 1 (spD K CC vy):=⟨_,_,zaN (C:=CC) B F20,PySem.W.mg_of X G a20,k20,b20⟩
  have d_Crossing_together:DnM l.prog w K mg base CC "together" ["self", "group"] 2 (spD K CC jC):=⟨_,_,jR (C:=CC) B CQ d_is_stream F25,⟨a25,i25,k25⟩,b25⟩
  have d_Crossing_groups:DnM l.prog w K mg base CC "groups" ["self"] 3 (spD K CC zbL):=⟨_,_,vm (C:=CC) B CQ d_Crossing_together F26,⟨a26,i26,k26⟩,b26⟩
  have d_Crossing_can_grow:DnM l.prog w K mg base CC "can_grow" ["self", "group"] 3 (spD K CC w5):=⟨_,_,jQ (C:=CC) B CQ d_Crossing_together F27,⟨a27,i27,k27⟩,b27⟩
  have d_Crossing_full:DnM l.prog w K mg base CC "full" ["self"] 4 (spF K CC zg7):=⟨_,_,vV (C:=CC) B CQ d_Crossing_groups d_Crossing_can_grow F28,⟨a28,i28,k28⟩,b28⟩
  have dp_shortest:Dn l.prog w K mg base "shortest" ["crossing", "wishes"] 7 (spP K CC x5):=⟨_,_,kS (C:=CC) B CQ d_check_wishes d_first_table d_column_to_raise d_row_that_binds d_turned d_paper_of d_plan_of d_Crossing_size d_Crossing_full F18,PySem.W.mg_of X G a18,k18,b18⟩
  have d_shortest:Dn l.prog w K mg base "shortest" ["crossing", "wishes"] 7 (spD K CC yr):=⟨_,_,zdi (kS (C:=CC) B CQ d_check_wishes d_first_table d_column_to_raise d_row_that_binds d_turned d_paper_of d_plan_of d_Crossing_size d_Crossing_full F18),PySem.W.mg_of X G a18,k18,b18⟩
  have d_check_size:Dn l.prog w K mg base "check_size" ["streams"] 1 (spD K CC vJ):=⟨_,_,wH (C:=CC) B g_MOST_STREAMS F19,PySem.W.mg_of X G a19,k19,b19⟩
  have d_check_clash:Dn l.prog w K mg base "check_clash" ["streams", "pair"] 2 (spD K CC j7):=⟨_,_,yE (C:=CC) B d_is_stream F21,PySem.W.mg_of X G a21,k21,b21⟩
  have d_rising:Dn l.prog w K mg base "rising" ["pair"] 1 (spD K CC zbP):=⟨_,_,zez (C:=CC) B F22,PySem.W.mg_of X G a22,k22,b22⟩
  have d_Crossing___init__:DnI l.prog w K mg base CC "Crossing" ["self", "streams", "clashes"] 3 (spI K CC zft):=⟨_,_,jP (C:=CC) B CQ d_check_size d_check_clash d_rising F23,PySem.W.mg_of X G aC,⟨mk,a23,i23,kc⟩,b23⟩
  have d__law_cell_at:Dn l.prog w K mg base "_law_cell_at" ["script", "k"] 1 (spD K CC zfr):=⟨_,_,kP (C:=CC) B F29,PySem.W.mg_of X G a29,k29,b29⟩
  have d__law_ring:Dn l.prog w K mg base "_law_ring" ["cell", "streams"] 1 (spD K CC w6):=⟨_,_,zaM (C:=CC) B F37,PySem.W.mg_of X G a37,k37,b37⟩
  have d__law_clashes:Dn l.prog w K mg base "_law_clashes" ["script", "start", "streams"] 2 (spD K CC j8):=⟨_,_,kQ (C:=CC) B d__law_cell_at d__law_ring F36,PySem.W.mg_of X G a36,k36,b36⟩
  have d__law_wishes:Dn l.prog w K mg base "_law_wishes" ["script", "start", "streams"] 2 (spD K CC vL):=⟨_,_,yC (C:=CC) B d__law_cell_at F42,PySem.W.mg_of X G a42,k42,b42⟩
  have d__law_low:Dn l.prog w K mg base "_law_low" ["top", "bottom"] 1 (spD K CC zj8):=⟨_,_,zbs (C:=CC) B F30,PySem.W.mg_of X G a30,k30,b30⟩
  have d__law_sum:Dn l.prog w K mg base "_law_sum" ["one", "other"] 2 (spD K CC zjQ):=⟨_,_,zbt (C:=CC) B d__law_low F31,PySem.W.mg_of X G a31,k31,b31⟩
  have d__law_all:Dn l.prog w K mg base "_law_all" ["row"] 3 (spD K CC zcH):=⟨_,_,zbr (C:=CC) B d__law_sum F32,PySem.W.mg_of X G a32,k32,b32⟩
  have d__law_less:Dn l.prog w K mg base "_law_less" ["one", "other"] 1 (spD K CC yH):=⟨_,_,zaL (C:=CC) B F33,PySem.W.mg_of X G a33,k33,b33⟩
  have d__law_whole:Dn l.prog w K mg base "_law_whole" ["found"] 1 (spD K CC kn):=⟨_,_,wG (C:=CC) B F34,PySem.W.mg_of X G a34,k34,b34⟩
  have d__law_fraction:Dn l.prog w K mg base "_law_fraction" ["found", "due"] 2 (spD K CC zg6):=⟨_,_,vX (C:=CC) B d__law_whole F35,PySem.W.mg_of X G a35,k35,b35⟩
  have d__law_clash:Dn l.prog w K mg base "_law_clash" ["clashes", "one", "other"] 1 (spD K CC yo):=⟨_,_,wD (C:=CC) B F38,PySem.W.mg_of X G a38,k38,b38⟩
  have d__law_together:Dn l.prog w K mg base "_law_together" ["clashes", "group"] 2 (spD K CC xR):=⟨_,_,vY (C:=CC) B d__law_clash F39,PySem.W.mg_of X G a39,k39,b39⟩
  have d__law_phases_right:Dn l.prog w K mg base "_law_phases_right" ["plan", "clashes"] 3 (spD K CC zbN):=⟨_,_,jS (C:=CC) B d__law_low d__law_whole d__law_fraction d__law_together F43,PySem.W.mg_of X G a43,k43,b43⟩
  have d__law_bits:Dn l.prog w K mg base "_law_bits" ["number", "streams"] 1 (spD K CC zjM):=⟨_,_,zaK (C:=CC) B F40,PySem.W.mg_of X G a40,k40,b40⟩
  have d__law_groups:Dn l.prog w K mg base "_law_groups" ["clashes", "streams"] 3 (spD K CC vK):=⟨_,_,yB (C:=CC) B d__law_together d__law_bits F41,PySem.W.mg_of X G a41,k41,b41⟩
  have d__law_paper_right:Dn l.prog w K mg base "_law_paper_right" ["weights", "clashes", "streams"] 4 (spD K CC zbM):=⟨_,_,jY (C:=CC) B d__law_low d__law_all d__law_less d__law_fraction d__law_groups F44,PySem.W.mg_of X G a44,k44,b44⟩
  have d__law_right:Dn l.prog w K mg base "_law_right" ["found", "clashes", "wishes"] 5 (spD K CC yp):=⟨_,_,wF (C:=CC) B d__law_low d__law_all d__law_less d__law_phases_right d__law_paper_right F45,PySem.W.mg_of X G a45,k45,b45⟩
  exact ziE (zk7 (C:=CC) B CQ d_shortest d_Crossing___init__ d_Crossing_full d__law_cell_at d__law_clashes d__law_wishes d__law_right dp_shortest F46)
theorem walk{l:PySem.W.OpenLaw}{q:Program}{loose:List Str}{XP:(Str→Option Value)→Heap→Prop}{YP:World→Heap→Prop}{d:DefRec}{K:Params→PySem.W.Frag}(hn:l.most=some 63)(hdf:d.params.defaults=[])
    (hY:∀ (w:World) (h:Heap),YP w h→(K w.params).In h)
    (F:∀ (w:World) (mg:Str→Option Value) (fa:Addr) (h:Heap),(K w.params).In h→h.Ns mainGlobals mg→mg d.name=some (.ref fa) →
      ∃ fd:FuncData,(∀ (s:Shared) (u:Value),BindsTo s fd ⟨[u],[]⟩ [("script",u)])∧∀ base:Heap,(K w.params).In base→base.Ns mainGlobals mg→qr l.prog w (K w.params) mg base CX0 8 fa fd ["script"] (zfk (K w.params))) :
    PySem.W.WalkO q loose XP YP l.row.toRowW d [] (fun f vs=>PySem.call f vs) :=
  L2.zfF (n:=63) (k:=8) (x := "script") (CX:=fun _=>CX0) (sp:=fun w=>zfk (K w.params)) hn (by decide) hdf ⟨rfl,by decide,by decide⟩ hY F (fun _ _ a ns hl _ hS=>zek hl hS) fun _ _ _ _ _ z=>z
end K07
-- the names that these rows take are those of equations of quadratic size, which the head would else lay for the literal heap and trees of the text's top
theorem PySem.W.Fast.tw9510899433849078587 : True := trivial
theorem PySem.W.Fast.tw12615685605288175172 : True := trivial
theorem PySem.W.Fast.tw181149021737916464 : True := trivial
theorem PySem.W.Fast.tw5144691570718750272 : True := trivial
theorem PySem.W.Fast.tw12960270077072461545 : True := trivial
theorem PySem.W.Fast.tw5733902976732221400 : True := trivial
theorem PySem.W.Fast.tw13931094867924172761 : True := trivial
theorem PySem.W.Fast.tw11775543801779448330 : True := trivial
theorem PySem.W.Fast.tw12259184401426978931 : True := trivial
theorem PySem.W.Fast.tw14400281304292842872 : True := trivial
theorem PySem.W.Fast.tw7722252254163291548 : True := trivial
theorem PySem.W.Fast.tw14580370420822385666 : True := trivial
theorem PySem.W.Fast.tw11694052677036029240 : True := trivial
theorem PySem.W.Fast.tw15923921916441787852 : True := trivial
theorem PySem.W.Fast.tw17212905844482400351 : True := trivial
theorem PySem.W.Fast.tw16044868910913363902 : True := trivial
theorem PySem.W.Fast.tw8479862260874433032 : True := trivial
theorem PySem.W.Fast.tw2612494815024847833 : True := trivial
theorem PySem.W.Fast.tw6677111612469882366 : True := trivial
theorem PySem.W.Fast.tw406346680896178851 : True := trivial
theorem PySem.W.Fast.tw8077754765334478842 : True := trivial
theorem PySem.W.Fast.tw14666178847739378746 : True := trivial
theorem PySem.W.Fast.tw9802976544446679530 : True := trivial
theorem PySem.W.Fast.tw638247885019805120 : True := trivial
theorem PySem.W.Fast.tw2382286417745891973 : True := trivial
theorem PySem.W.Fast.tw5137428384476802366 : True := trivial
theorem PySem.W.Fast.tw6298304218213854303 : True := trivial
theorem PySem.W.Fast.tw11458604163741082086 : True := trivial
theorem PySem.W.Fast.tw7344237515335995218 : True := trivial
theorem PySem.W.Fast.tw3950649635554775258 : True := trivial
theorem PySem.W.Fast.tw8463316293648783047 : True := trivial
theorem PySem.W.Fast.tw17966449645182512740 : True := trivial
theorem PySem.W.Fast.tw12121595005079354115 : True := trivial
theorem PySem.W.Fast.tw18161149541415226616 : True := trivial
theorem PySem.W.Fast.tw12965695715150029945 : True := trivial
theorem PySem.W.Fast.tw3102733509680945489 : True := trivial
theorem PySem.W.Fast.tw12285001232219511407 : True := trivial
theorem PySem.W.Fast.tw11752825227097766048 : True := trivial
theorem PySem.W.Fast.tw13060610748979718907 : True := trivial
theorem PySem.W.Fast.tw6380135611775924261 : True := trivial
theorem PySem.W.Fast.tw9102974614289021658 : True := trivial
theorem PySem.W.Fast.tw14111651792472466552 : True := trivial
theorem PySem.W.Fast.tw12587493356225607712 : True := trivial
theorem PySem.W.Fast.tw16952808782431914141 : True := trivial
theorem PySem.W.Fast.tw4702003465390063025 : True := trivial
theorem PySem.W.Fast.tw1168805028820310 : True := trivial
theorem PySem.W.Fast.tw86961680475250246 : True := trivial
theorem PySem.W.Fast.tw16740291315409786372 : True := trivial
theorem PySem.W.Fast.tw16419345271502634196 : True := trivial
theorem PySem.W.Fast.tw15329332923021723492 : True := trivial
theorem PySem.W.Fast.tw16431595658787938256 : True := trivial
theorem PySem.W.Fast.tw16730492141824291417 : True := trivial
theorem PySem.W.Fast.tw17487985084874474016 : True := trivial
theorem PySem.W.Fast.tw12518832989384222774 : True := trivial
theorem PySem.W.Fast.tw2674743592825331723 : True := trivial
theorem PySem.W.Fast.tw3840057715667458209 : True := trivial
theorem PySem.W.Fast.tw8730483660617765085 : True := trivial
theorem PySem.W.Fast.tw9849256010206085659 : True := trivial
theorem PySem.W.Fast.tw10474167436322475847 : True := trivial
theorem PySem.W.Fast.tw6788295779377340469 : True := trivial
theorem PySem.W.Fast.tw11826024812002480243 : True := trivial
theorem PySem.W.Fast.tw819555684734172315 : True := trivial
theorem PySem.W.Fast.tw872824829530905209 : True := trivial
theorem PySem.W.Fast.tw15255661157773192665 : True := trivial
theorem PySem.W.Fast.tw6608956672012297550 : True := trivial
open PySem PySem.W PyProof.Rows
set_option maxRecDepth 100000 in
set_option maxHeartbeats 0 in
theorem PySem.Challenge.cw_greenturns_k07_whole_the_shortest_round_holds : PySem.Challenge.rw_greenturns_k07_whole_the_shortest_round.Holds := by
  w_on;o_law;k_head;(case hw=>w_witness2)
  k_fill
  refine K07.walk (l:=PySem.Challenge.rw_greenturns_k07_whole_the_shortest_round) rfl rfl (fun w h Y=>PySem.W.kIn_of Y) ?F
  case F =>
    intro w mg fa h KX G hmg
    refine' K07.all_mk KX G hmg ?aN_MOST_STREAMS ?aN_NOUGHT ?lN_NOUGHT ?aN_ONE ?lN_ONE ?aC ?pg ?hdC ?po ?sa ?mk ?kc ?naS ?naP ?a0 ?l0 ?c0 ?k0 ?a1 ?l1 ?c1 ?k1 ?a2 ?l2 ?c2 ?k2 ?a3 ?l3 ?c3 ?k3 ?a4 ?l4 ?c4 ?k4 ?a5 ?l5 ?c5 ?k5 ?a6 ?l6 ?c6 ?k6 ?a7 ?l7 ?c7 ?k7 ?a8 ?l8 ?c8 ?k8 ?a9 ?l9 ?c9 ?k9 ?a10 ?l10 ?c10 ?k10 ?a11 ?l11 ?c11 ?k11 ?a12 ?l12 ?c12 ?k12 ?a13 ?l13 ?c13 ?k13 ?a14 ?l14 ?c14 ?k14 ?a15 ?l15 ?c15 ?k15 ?a16 ?l16 ?c16 ?k16 ?a17 ?l17 ?c17 ?k17 ?a18 ?l18 ?c18 ?k18 ?a19 ?l19 ?c19 ?k19 ?a20 ?l20 ?c20 ?k20 ?a21 ?l21 ?c21 ?k21 ?a22 ?l22 ?c22 ?k22 ?a23 ?i23 ?l23 ?c23 ?k23 ?a24 ?i24 ?l24 ?c24 ?k24 ?a25 ?i25 ?l25 ?c25 ?k25 ?a26 ?i26 ?l26 ?c26 ?k26 ?a27 ?i27 ?l27 ?c27 ?k27 ?a28 ?i28 ?l28 ?c28 ?k28 ?a29 ?l29 ?c29 ?k29 ?a30 ?l30 ?c30 ?k30 ?a31 ?l31 ?c31 ?k31 ?a32 ?l32 ?c32 ?k32 ?a33 ?l33 ?c33 ?k33 ?a34 ?l34 ?c34 ?k34 ?a35 ?l35 ?c35 ?k35 ?a36 ?l36 ?c36 ?k36 ?a37 ?l37 ?c37 ?k37 ?a38 ?l38 ?c38 ?k38 ?a39 ?l39 ?c39 ?k39 ?a40 ?l40 ?c40 ?k40 ?a41 ?l41 ?c41 ?k41 ?a42 ?l42 ?c42 ?k42 ?a43 ?l43 ?c43 ?k43 ?a44 ?l44 ?c44 ?k44 ?a45 ?l45 ?c45 ?k45 ?a46 ?l46 ?c46 ?k46 ?z_abs ?z_all ?z_bool ?z_enumerate ?z_int ?z_isinstance ?z_len ?z_list ?z_max ?z_min ?z_range ?z_set ?z_sorted ?z_tuple ?z_zip
    (case aN_MOST_STREAMS=>k_is)
    (case aN_NOUGHT=>k_is)
    (case lN_NOUGHT=>k_is)
    (case aN_ONE=>k_is)
    (case lN_ONE=>k_is)
    (case aC=>k_is)
    (case pg=>k_is)
    (case hdC=>k_is)
    (case po=>k_is)
    (case sa=>k_is)
    (case mk=>k_is)
    (case kc=>k_is)
    (case naS=>k_is)
    (case naP=>k_is)
    (case a0=>k_is)
    (case l0=>k_is)
    (case c0=>k_is)
    (case k0=>k_is)
    (case a1=>k_is)
    (case l1=>k_is)
    (case c1=>k_is)
    (case k1=>k_is)
    (case a2=>k_is)
    (case l2=>k_is)
    (case c2=>k_is)
    (case k2=>k_is)
    (case a3=>k_is)
    (case l3=>k_is)
    (case c3=>k_is)
    (case k3=>k_is)
    (case a4=>k_is)
    (case l4=>k_is)
    (case c4=>k_is)
    (case k4=>k_is)
    (case a5=>k_is)
    (case l5=>k_is)
    (case c5=>k_is)
    (case k5=>k_is)
    (case a6=>k_is)
    (case l6=>k_is)
    (case c6=>k_is)
    (case k6=>k_is)
    (case a7=>k_is)
    (case l7=>k_is)
    (case c7=>k_is)
    (case k7=>k_is)
    (case a8=>k_is)
    (case l8=>k_is)
    (case c8=>k_is)
    (case k8=>k_is)
    (case a9=>k_is)
    (case l9=>k_is)
    (case c9=>k_is)
    (case k9=>k_is)
    (case a10=>k_is)
    (case l10=>k_is)
    (case c10=>k_is)
    (case k10=>k_is)
    (case a11=>k_is)
    (case l11=>k_is)
    (case c11=>k_is)
    (case k11=>k_is)
    (case a12=>k_is)
    (case l12=>k_is)
    (case c12=>k_is)
    (case k12=>k_is)
    (case a13=>k_is)
    (case l13=>k_is)
    (case c13=>k_is)
    (case k13=>k_is)
    (case a14=>k_is)
    (case l14=>k_is)
    (case c14=>k_is)
    (case k14=>k_is)
    (case a15=>k_is)
    (case l15=>k_is)
    (case c15=>k_is)
    (case k15=>k_is)
    (case a16=>k_is)
    (case l16=>k_is)
    (case c16=>k_is)
    (case k16=>k_is)
    (case a17=>k_is)
    (case l17=>k_is)
    (case c17=>k_is)
    (case k17=>k_is)
    (case a18=>k_is)
    (case l18=>k_is)
    (case c18=>k_is)
    (case k18=>k_is)
    (case a19=>k_is)
    (case l19=>k_is)
    (case c19=>k_is)
    (case k19=>k_is)
    (case a20=>k_is)
    (case l20=>k_is)
    (case c20=>k_is)
    (case k20=>k_is)
    (case a21=>k_is)
    (case l21=>k_is)
    (case c21=>k_is)
    (case k21=>k_is)
    (case a22=>k_is)
    (case l22=>k_is)
    (case c22=>k_is)
    (case k22=>k_is)
    (case a23=>k_is)
    (case i23=>k_is)
    (case l23=>k_is)
    (case c23=>k_is)
    (case k23=>k_is)
    (case a24=>k_is)
    (case i24=>k_is)
    (case l24=>k_is)
    (case c24=>k_is)
    (case k24=>k_is)
    (case a25=>k_is)
    (case i25=>k_is)
    (case l25=>k_is)
    (case c25=>k_is)
    (case k25=>k_is)
    (case a26=>k_is)
    (case i26=>k_is)
    (case l26=>k_is)
    (case c26=>k_is)
    (case k26=>k_is)
    (case a27=>k_is)
    (case i27=>k_is)
    (case l27=>k_is)
    (case c27=>k_is)
    (case k27=>k_is)
    (case a28=>k_is)
    (case i28=>k_is)
    (case l28=>k_is)
    (case c28=>k_is)
    (case k28=>k_is)
    (case a29=>k_is)
    (case l29=>k_is)
    (case c29=>k_is)
    (case k29=>k_is)
    (case a30=>k_is)
    (case l30=>k_is)
    (case c30=>k_is)
    (case k30=>k_is)
    (case a31=>k_is)
    (case l31=>k_is)
    (case c31=>k_is)
    (case k31=>k_is)
    (case a32=>k_is)
    (case l32=>k_is)
    (case c32=>k_is)
    (case k32=>k_is)
    (case a33=>k_is)
    (case l33=>k_is)
    (case c33=>k_is)
    (case k33=>k_is)
    (case a34=>k_is)
    (case l34=>k_is)
    (case c34=>k_is)
    (case k34=>k_is)
    (case a35=>k_is)
    (case l35=>k_is)
    (case c35=>k_is)
    (case k35=>k_is)
    (case a36=>k_is)
    (case l36=>k_is)
    (case c36=>k_is)
    (case k36=>k_is)
    (case a37=>k_is)
    (case l37=>k_is)
    (case c37=>k_is)
    (case k37=>k_is)
    (case a38=>k_is)
    (case l38=>k_is)
    (case c38=>k_is)
    (case k38=>k_is)
    (case a39=>k_is)
    (case l39=>k_is)
    (case c39=>k_is)
    (case k39=>k_is)
    (case a40=>k_is)
    (case l40=>k_is)
    (case c40=>k_is)
    (case k40=>k_is)
    (case a41=>k_is)
    (case l41=>k_is)
    (case c41=>k_is)
    (case k41=>k_is)
    (case a42=>k_is)
    (case l42=>k_is)
    (case c42=>k_is)
    (case k42=>k_is)
    (case a43=>k_is)
    (case l43=>k_is)
    (case c43=>k_is)
    (case k43=>k_is)
    (case a44=>k_is)
    (case l44=>k_is)
    (case c44=>k_is)
    (case k44=>k_is)
    (case a45=>k_is)
    (case l45=>k_is)
    (case c45=>k_is)
    (case k45=>k_is)
    (case a46=>k_is)
    (case l46=>k_is)
    (case c46=>k_is)
    (case k46=>k_is)
    (case z_abs=>k_is)
    (case z_all=>k_is)
    (case z_bool=>k_is)
    (case z_enumerate=>k_is)
    (case z_int=>k_is)
    (case z_isinstance=>k_is)
    (case z_len=>k_is)
    (case z_list=>k_is)
    (case z_max=>k_is)
    (case z_min=>k_is)
    (case z_range=>k_is)
    (case z_set=>k_is)
    (case z_sorted=>k_is)
    (case z_tuple=>k_is)
    (case z_zip=>k_is)
